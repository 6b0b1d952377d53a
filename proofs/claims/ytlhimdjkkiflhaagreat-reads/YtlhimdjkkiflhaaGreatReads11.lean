import Derived.Conc.FxFrame
import Derived.Conc.DeferLaws
import GoSem.Extern.Table
import Derived.KernelRfl
import Derived.Test.YtlhimdjkkiflhaaGreatReads10
set_option maxHeartbeats 8000000
set_option maxRecDepth 100000
set_option linter.unusedSectionVars false
open Go renaming Goroutine→Γ,World→Δ,Program→Θ,TypeId→Λ,Value→Ξ,Trace→Φ,TypeInfo→Ω,execOp→θ,stepG→ξ,Frame→π
open Go.Conc renaming crowd→ζ,Leavers→η
open Go.Extern.BytealgIndexByte renaming indexByte→ι
open Go.MemOp renaming ofEvents→υ
namespace Go.Ren
open Go Go.Conc
open Go.ConcX (Payload Shy stA smA Base CA JInv RCa RCd DCs AtR0 RPa DPi AtKd PA KK WgAt ChanAt Full Aside2 runTX JT AtW1 Acquired Lt4 LtG ltG_wf AtRetJ DPj)
open Go.ConcN (sumTo upd sumTo_upd upd_ne upd_same)
section
variable {P:Θ}{c:Nat}{t:Φ}{gs:Array Γ}{q:Nat→Nat}{a b:Γ}{w:Δ}{sl:Option (Nat×Nat)}
theorem CL (hC:ew P c t gs q)(h0:gs[0]?=some a)(hc:gs[c]?=some b)(WD:awake a)(WE:awake b)(hrun:a.status=.running∨b.status=.running):∃d sl',(a.status=.running∧stepT P (ζ gs w sl)=runT P (ζ gs (w.at d) sl') 0)∨
 (b.status=.running∧stepT P (ζ gs w sl)=runT P (ζ gs (w.at d) sl') c)∨
 (∃gs' ops q' x x',stepT P (ζ gs w sl)=(.next (ζ gs' (w.at d) sl'),ops)∧ew P c (t++ops) gs' q'∧gs'[0]?=some (Conc.woken P x x' (w.at d) a)∧gs'[c]?=some (Conc.woken P x x' (w.at d) b)∧sumTo c q'<sumTo c q∧(∀op∈ops,op.act.touch? =none∧∀a,op.act≠.mark (.release a))∧(∀B,∀op∈ops,op.act.low B)∧Deaf (t++ops) 0=Deaf t 0∧Deaf (t++ops) c=Deaf t c):=by
 have jT:=hC.pos;have SS:∀g∈gs,awake g:=by
  intro g hg;obtain⟨i,hi,rfl⟩:=zbV.1 hg;have hi':=zaE hi;rcases hC.get hi' with rfl|rfl|⟨h1,h2⟩
  ·rw[h0]at hi';obtain rfl:=zaY hi';exact WD
  ·rw[hc]at hi';obtain rfl:=zaY hi';exact WE
  ·exact awake_of ((hC.old i _ h1 h2 hi').status.elim .inl λx=> .inr (.inr x))
 obtain⟨i,g,d,sl',hi,hg,hst⟩:=crowd_pick (P:=P) (w:=w) (sl:=sl) SS (hrun.elim (λh=>⟨0,a,h0,h⟩) λh=>⟨c,b,hc,h⟩);refine⟨d,sl',?_⟩;rcases hC.get hi with rfl|rfl|⟨h1,h2⟩
 ·rw[h0]at hi;obtain rfl:=zaY hi;exact .inl ⟨hg,hst⟩
 ·rw[hc]at hi;obtain rfl:=zaY hi;exact .inr (.inl ⟨hg,hst⟩)
 ·right;right;have hq:=hC.old i g h1 h2 hi;have SU:(i==0)=false:=by simp;omega
  have hlt:i<gs.size:=(zag.1 hi).1;cases EY:q i with
  |zero=>rw[EY]at hq;rw[hq.1]at hg;cases hg
  |succ k=>
   rw[EY]at hq;rcases hq with⟨hf,_⟩|⟨_,g',es,hm,EZ,hq'⟩
   ·rw[hf]at hg;cases hg
   have qT:=runT_crowd_go (P:=P) (sl:=sl') (i:=i) hi (by rw[SU];exact EZ (w.at d));have SV:sumTo c (upd q i k)+(k+1)=sumTo c q+k:=by
    have:=sumTo_upd q k id h2;simpa[EY]using this
   refine⟨_,_,upd q i k,g,g',hst.trans qT,⟨by simp[hC.size],jT,λj x hj SX hx=>?_,λj hj=>?_⟩,?_,?_,by omega,λop hop=>?_,λB op hop=>?_,zaF t (by omega) _ ofEvents_g,zaF t (by omega) _ ofEvents_g⟩
   ·by_cases AQ:i=j
    ·subst AQ;rw[zbB (by simpa using hlt)]at hx;obtain rfl:=zaY hx;rw[upd_same,Deaf_own];exact hq'
    ·rw[zax AQ,zaw]at hx;obtain⟨y,hy,rfl⟩:=zav.1 hx;have Lq:=hC.old j y hj SX hy;rw[woken_quitsD Lq,upd_ne q k (Ne.symm AQ),zaF t AQ _ ofEvents_g];exact Lq
   ·rw[zaF t (g':=i) (by omega) _ ofEvents_g];exact hC.above j hj
   ·rw[zax (by omega),zaw,h0];rfl
   ·rw[zax (by omega),zaw,hc];rfl
   ·obtain⟨e,he,rfl⟩:=zbd hop;exact⟨touch_mute (hm e he),λa=>p8 (hm e he) a⟩
   ·obtain⟨e,he,rfl⟩:=zbd hop;exact low_mute (hm e he) B
end
section
variable {Wg:Nat}
def Side.J (x:Side Wg)(P:Θ)(ty:Λ)(Low:Nat)(μ:Nat×Nat×Nat×Nat)(a b:Γ)(w:Δ)(s:Φ):Prop:=@JInv x.pl P ty Wg x.C Low x.sh x.vals x.Mine x.AnchW x.Post μ (duo a b w none) s
def Side.acq (x:Side Wg)(P:Θ)(ty:Λ)(Low:Nat)(a b:Γ)(w:Δ)(s:Φ):Prop:=@Acquired x.pl P ty Wg x.C Low x.sh x.vals x.Mine x.Post (duo a b w none) s
end
theorem Px [Payload] {P:Θ}{ty:Λ}{Wg C Low:Nat} [Shy Wg C] {vals:List Ξ}{Mine:Loc→Prop}{AnchW:Γ→Δ→Prop}{Post:Ξ→Δ→Prop}{μ:Nat×Nat×Nat×Nat}{m:Machine}{s:Φ}
 (h:JInv P ty Wg C Low vals Mine AnchW Post μ m s):∃p,JT Mine Wg C s p:=by
 cases h with
 |a _ _ _ _ _ p _ _ _ _ _ _ _ _ _ _ _ hB=>exact⟨p,hB.jt⟩
 |b _ _ _ _ _ p _ _ _ _ _ _ _ _ _ _ hB=>exact⟨p,hB.jt⟩
 |c _ _ _ _ _ p _ _ _ _ _ hB=>exact⟨p,hB.jt⟩
 |d _ _ _ _ _ p _ _ _ _ _ hB=>exact⟨p,hB.jt⟩
 |f _ _ _ _ _ p _ _ _ hB=>exact⟨p,hB.jt⟩
 |j _ _ _ _ _ p _ _ _ _ _ _ _ _ _ hB=>exact⟨p,hB.jt⟩
section
variable {P:Θ}{ty:Λ}{Wg Low:Nat}{x:Side Wg}{μ:Nat×Nat×Nat×Nat}{a b:Γ}{w:Δ}{s:Φ}
theorem Side.Py (h:x.J P ty Low μ a b w s):∃p,x.jt s p:=@Px x.pl P ty Wg x.C Low x.sh x.vals x.Mine x.AnchW x.Post μ _ s h
theorem Side.G1 (hx:eX P ty Wg Low x)(h:x.J P ty Low μ a b w s):awake a∧awake b∧(a.status=.running∨b.status=.running)∧∀d,x.J P ty Low μ a b (w.at d) s:=by
 obtain⟨a1,b1,w1,sl1,e,h1,h2,h3,h4⟩:=@Go.ConcX.JInv.shape x.pl P ty Wg x.C Low x.sh x.vals x.Mine x.AnchW x.Post hx.hAr μ _ s h;obtain⟨rfl,rfl,rfl,rfl⟩:=Go.ConcX.duo_inj e;exact⟨h1,h2,h3,λd=>h4 d none⟩
theorem Side.G2 (hx:eX P ty Wg Low x)(h:x.J P ty Low μ a b w s)(g g':Γ):∃nO,x.J P ty Low nO (Conc.woken P g g' w a) (Conc.woken P g g' w b) w s:=by
 obtain⟨a1,b1,w1,sl1,e,nO,h1⟩:=@Go.ConcX.JInv.woken x.pl P ty Wg x.C Low x.sh x.vals x.Mine x.AnchW x.Post hx.hAr μ _ s h g g';obtain⟨rfl,rfl,rfl,rfl⟩:=Go.ConcX.duo_inj e;exact⟨nO,h1⟩
theorem Side.A0 (h:x.acq P ty Low a b w s)(d:Nat):x.acq P ty Low a b (w.at d) s:=@Go.ConcX.Acquired.at x.pl P ty Wg x.C Low x.sh x.vals x.Mine x.Post a b w none s h d none
theorem Side.G3 (hW:Wg<Low)(hx:eX P ty Wg Low x)(h:x.J P ty Low μ a b w s)(ha:a.status=.running):x.acq P ty Low a b w s∨∃a' w' es nO,ξ P true a w=.go a' w' es∧Lt4 nO μ∧x.J P ty Low nO a' (Conc.woken P a a' w' b) w' (s++υ 0 a.frame.fn a.frame.place es):=by
 rcases @Go.ConcX.join_step x.pl P ty Wg x.C Low x.sh x.vals x.Mine x.AnchW x.Post hW hx.hC hx.hCW hx.hAr hx.hAn μ _ s h (runTX P (duo a b (w.at w.drawn) none) 0)
  (λa2 b2 w2 sl2 e2=>by obtain⟨rfl,rfl,rfl,rfl⟩:=Go.ConcX.duo_inj e2;exact⟨w.drawn,none,.inl ⟨ha,rfl⟩⟩)with wN|⟨m',ops,nO,hX,hlt,hJ'⟩
 ·exact .inl wN
 ·rw[duo_eq_crowd]at hX;obtain⟨g0,g',w',es,hg0,hgo,rfl,rfl⟩:=Go.ConcX.runTX_next hX;obtain rfl:a=g0:=by simpa using hg0
  have em:ζ ((#[a,b].map (Conc.woken P a g' w')).setIfInBounds 0 g') w' none=duo g' (Conc.woken P a g' w' b) w' none:=by simp[ζ,duo]
  rw[em]at hJ';exact .inr ⟨g',w',es,nO,hgo,hlt,hJ'⟩
theorem Side.G4 (hW:Wg<Low)(hx:eX P ty Wg Low x)(h:x.J P ty Low μ a b w s)(hb:b.status=.running):x.acq P ty Low a b w s∨∃b' w' es nO,ξ P false b w=.go b' w' es∧Lt4 nO μ∧x.J P ty Low nO (Conc.woken P b b' w' a) b' w' (s++υ 1 b.frame.fn b.frame.place es):=by
 rcases @Go.ConcX.join_step x.pl P ty Wg x.C Low x.sh x.vals x.Mine x.AnchW x.Post hW hx.hC hx.hCW hx.hAr hx.hAn μ _ s h (runTX P (duo a b (w.at w.drawn) none) 1)
  (λa2 b2 w2 sl2 e2=>by obtain⟨rfl,rfl,rfl,rfl⟩:=Go.ConcX.duo_inj e2;exact⟨w.drawn,none,.inr ⟨hb,rfl⟩⟩)with wN|⟨m',ops,nO,hX,hlt,hJ'⟩
 ·exact .inl wN
 ·obtain⟨b',w',es,hgo,rfl,rfl⟩:=@wK x.pl P a b (w.at w.drawn) m' ops hX;exact .inr ⟨b',w',es,nO,hgo,hlt,hJ'⟩
end
section
variable {P:Θ}{ty:Λ}{Q Shun:Loc→Prop}{c ch Wg Low B:Nat}{ro aL X:Nat→Prop}{x y:Side Wg}
def WY (P:Θ)(ty:Λ)(Q Shun:Loc→Prop)(c:Nat){Wg:Nat}(Low B:Nat)(ro aL:Nat→Prop)(x y:Side Wg)(m:Machine)(t:Φ):Prop:=
 ∃gs w sl q a b s,m=ζ gs w sl∧ew P c t gs q∧gs[0]?=some a∧gs[c]?=some b∧TI Q Shun c aL ro B t∧GL c Wg s t∧(x.acq P ty Low a b w s∨y.acq P ty Low a b w s)
theorem S8 (hY:CJ Q Shun c ch Wg Low ro X)(tq:eX P ty Wg Low x)(wL:eX P ty Wg Low y)(zB:x.C≠y.C)(hB:Low≤B)(hown:∀b,aL b→Low≤b):∀(M:Nat×(Nat×Nat×Nat×Nat)) (ν:Nat×Nat×Nat×Nat) (gs:Array Γ) (w:Δ) (sl:Option (Nat×Nat)) (t:Φ) (q:Nat→Nat) (a b:Γ) (iC je:Φ),sumTo c q=M.1→ew P c t gs q→gs[0]?=some a→gs[c]?=some b→TI Q Shun c aL ro B t→x.J P ty Low M.2 a b w iC→y.J P ty Low ν a b w je→GL c Wg iC t→GL c Wg je t→Reach P (ζ gs w sl) t (WY P ty Q Shun c Low B ro aL x y):=by
 intro M
 induction M using ltG_wf.induction with
 |_ M ih=>
 intro ν gs w sl t q a b iC je hM hC h0 hc hT hx hy hg1 hg2;obtain⟨awa,awb,hrun,abf⟩:=Side.G1 tq hx;obtain⟨_,_,_,abg⟩:=Side.G1 wL hy;have WB:∀l,Q l→¬jS aL l∧¬jS ro l:=λl hl=>⟨λhi=>td hown hi (hY.qV l (hY.QS l hl)),λhi=>hY.rS l hi (hY.QS l hl)⟩;obtain⟨d,sl',fT⟩:=CL (w:=w) (sl:=sl) hC h0 hc awa awb hrun;have hx1:=abf d;have hy1:=abg d;rcases fT with⟨hr,hst⟩|⟨hr,hst⟩|⟨gs',ops,q',g,g',hst,hC',I0,hc',hlt,o1,o2,o3,o4⟩
 ·rcases Side.G3 hY.KA tq hx1 hr with wN|⟨a',w',es,nO,hgo,hl,AP⟩
  ·exact .here ⟨gs,w,sl,q,a,b,iC,rfl,hC,h0,hc,hT,hg1,.inl (Side.A0 wN w.drawn)⟩
  rcases Side.G3 hY.KA wL hy1 hr with wN|⟨a2,w2,Wp,Fj,wO,_,hy'⟩
  ·exact .here ⟨gs,w,sl,q,a,b,je,rfl,hC,h0,hc,hT,hg2,.inr (Side.A0 wN w.drawn)⟩
  rw[hgo]at wO;obtain⟨rfl,rfl,rfl⟩:a'=a2∧w'=w2∧es=Wp:=by simpa using wO
  obtain⟨p1,j1⟩:=Side.Py AP;obtain⟨p2,j2⟩:=Side.Py hy';have ia:=tj tq wL zB j1 j2;have zC:∀e∈es,∀x,(MemAct.ofEvent e).touch? =some x→∃ad,x.loc=.cell ad∧ad.block=Wg:=λe he x hx=>let⟨ad,h1,h2,_⟩:=(ia e he).1 x hx;⟨ad,h1,h2⟩;obtain⟨k1,k2⟩:=vo (Q:=Q) (g':=0) (fn:=a.frame.fn) (pos:=a.frame.place) hY.wQ (λ_=>rfl) ia;obtain⟨gs',e1,e2,e3,e4⟩:=qU (sl:=sl') hC h0 hc hgo;exact Reach.step (hst.trans e1) (ih (M.1,nO) (.right _ hl) Fj gs' w' sl' _ q a' _ _ _ hM e2 e3 e4 (hT.Pm (.inl rfl) k1 (λop hop=>MemAct.low_mono hB (k2 op hop)) hY.QS WB) AP hy' (hg1.step hY.c0 (.inl rfl) (by simp) _ _ es (Side.norel j1) zC) (hg2.step hY.c0 (.inl rfl) (by simp) _ _ es (Side.norel j2) zC))
 ·rcases Side.G4 hY.KA tq hx1 hr with wN|⟨a',w',es,nO,hgo,hl,AP⟩
  ·exact .here ⟨gs,w,sl,q,a,b,iC,rfl,hC,h0,hc,hT,hg1,.inl (Side.A0 wN w.drawn)⟩
  rcases Side.G4 hY.KA wL hy1 hr with wN|⟨a2,w2,Wp,Fj,wO,_,hy'⟩
  ·exact .here ⟨gs,w,sl,q,a,b,je,rfl,hC,h0,hc,hT,hg2,.inr (Side.A0 wN w.drawn)⟩
  rw[hgo]at wO;obtain⟨rfl,rfl,rfl⟩:a'=a2∧w'=w2∧es=Wp:=by simpa using wO
  obtain⟨p1,j1⟩:=Side.Py AP;obtain⟨p2,j2⟩:=Side.Py hy';have ia:=tj tq wL zB j1 j2;have zC:∀e∈es,∀x,(MemAct.ofEvent e).touch? =some x→∃ad,x.loc=.cell ad∧ad.block=Wg:=λe he x hx=>let⟨ad,h1,h2,_⟩:=(ia e he).1 x hx;⟨ad,h1,h2⟩;obtain⟨k1,k2⟩:=vo (Q:=Q) (g':=c) (fn:=b.frame.fn) (pos:=b.frame.place) hY.wQ (by simp) ia;obtain⟨gs',e1,e2,e3,e4⟩:=kF (sl:=sl') hC h0 hc hgo;exact Reach.step (hst.trans e1) (ih (M.1,nO) (.right _ hl) Fj gs' w' sl' _ q _ a' _ _ hM e2 e3 e4 (hT.Pm (.inr rfl) k1 (λop hop=>MemAct.low_mono hB (k2 op hop)) hY.QS WB) AP hy' (hg1.step hY.c0 (.inr rfl) (by simp) _ _ es (Side.norel j1) zC) (hg2.step hY.c0 (.inr rfl) (by simp) _ _ es (Side.norel j2) zC))
 ·obtain⟨nO,AP⟩:=Side.G2 tq hx1 g g';obtain⟨Fj,hy'⟩:=Side.G2 wL hy1 g g';exact Reach.step hst (ih (sumTo c q',nO) (.left _ _ (by omega)) Fj gs' (w.at d) sl' _ q' _ _ iC je rfl hC' I0 hc' (hT.still (λop hop=>(o1 op hop).1) (o2 _)) AP hy' (hg1.other (λop hop=>⟨(o1 op hop).2 _,λ_=>(o1 op hop).1⟩) o3 o4) (hg2.other (λop hop=>⟨(o1 op hop).2 _,λ_=>(o1 op hop).1⟩) o3 o4))
theorem CM {t:Φ}(RN:∀a:Addr,a.block=Wg→Shun (.cell a))(hT:TI Q Shun c aL ro B t)(hA:LL c Wg t)(hd:Deaf t 0=0):Past Shun B t:=by
 obtain⟨R,K,hR,hK,hg,hh,hRK⟩:=hA;have WZ:HappensBefore t R K:= .single (.inr ⟨.marked hRK (.inr hR.act) hK (λk h1 _=>hR.norel k h1),hR.heard,hh⟩);obtain⟨z,hz,hzg⟩:=zav.1 hg;have before:∀i,t.g? i=some c→i≤R→HappensBefore t i K:=λi hi hle=>by
  rcases zar i R with hlt|ft
  ·exact .trans (.single (.inl ⟨hlt,c,hi,hR.g⟩)) WZ
  ·obtain rfl:i=R:=by omega
   exact WZ
 refine⟨hT.clean,λi a ha hm=>?_,λi g Fh h0 B3=>?_,hd,hT.seen⟩
 ·rcases hT.known i a ha hm with h|h|⟨h,_⟩
  ·exact .inl h
  ·exact .inr h
  ·rcases zar R i with hlt|hle
   ·obtain⟨ad,h1,h2⟩:=hR.late i a hlt h ha;refine .inr ⟨by rw[h1];exact RN ad h2,?_⟩;by_cases hk:a.kind=.atomic
    ·exact hk
    ·exact absurd ⟨a,ha,hm,.inl hk⟩ (hR.after i hlt h)
   ·exact .inl ⟨K,z,hz,hzg,.inr (before i h hle)⟩
 ·by_cases Vm:g=c
  ·subst Vm;exact⟨K,hg,before i Fh (Nat.le_of_not_lt λhlt=>hR.after i hlt Fh B3)⟩
  ·exact hT.over i g Fh h0 Vm B3
theorem LN (tq:eX P ty Wg Low x)(hB:Low≤B)(hCS:∀a:Addr,a.block=x.C→¬Shun (.cell a)){e:Event}(h:@Go.ConcX.EvJ x.Mine Wg x.C x.sh e):EvL Shun B e:=by
 obtain⟨h1,h2,h3⟩:=h;obtain⟨_,ht,_,hk⟩:=h1 0 "";obtain⟨k1,k2⟩:=tq.ok _ hk;refine⟨λz hz hs=>?_,h2,h3,MemAct.low_mono hB k2⟩;obtain⟨a,ha,hb|hb⟩:=k1 z hz
 ·exact(ht z hz).2.1 (.inl ⟨a,ha,hb⟩)
 ·rw[ha]at hs;exact absurd hs (hCS a hb)
def abh (P:Θ)(Shun:Loc→Prop)(c:Nat){Wg:Nat}(B:Nat)(x y:Side Wg)(m:Machine)(t:Φ):Prop:=
 ∃gs w sl q a,m=ζ gs w sl∧gs.size=c+1∧gs[0]?=some a∧a.status=.running∧(x.sh.stop a w∨y.sh.stop a w)∧η P t gs q∧Past Shun B t
theorem CN {x:Side Wg}(tq:eX P ty Wg Low x)(hB:Low≤B)(RN:∀a:Addr,a.block=Wg→Shun (.cell a))(hCS:∀a:Addr,a.block=x.C→¬Shun (.cell a)){gs:Array Γ}{w:Δ}{sl:Option (Nat×Nat)}{q:Nat→Nat}{a b:Γ}{s t:Φ}
 (hC:ew P c t gs q)(h0:gs[0]?=some a)(hc:gs[c]?=some b)(hT:TI Q Shun c aL ro B t)(hg:GL c Wg s t)(hA:x.acq P ty Low a b w s):
 Reach P (ζ gs w sl) t λm t=>∃gs w sl q a,m=ζ gs w sl∧gs.size=c+1∧gs[0]?=some a∧a.status=.running∧x.sh.stop a w∧η P t gs q∧Past Shun B t:=by
 letI:=x.pl
 letI:=x.sh
 obtain⟨a1,b1,w1,sl1,p,d1,k,mp,r,vs,e,RP,hG,hAc,hq⟩:=hA;obtain⟨rfl,rfl,rfl,rfl⟩:=Go.ConcX.duo_inj e;have hP:=CM RN hT (hg.acq hAc) (hg.d0.trans RP.deaf0);have hL:η P t gs (upd q c k):=by
  refine⟨λi g hi Fh=>?_,λj hj=>hC.above j (by have:=hC.size;omega)⟩;rcases hC.get Fh with rfl|rfl|⟨h1,h2⟩
  ·omega
  ·rw[hc]at Fh;obtain rfl:=zaY Fh;rw[upd_same,hg.dc,RP.deaf1];exact hq
  ·rw[upd_ne q k (by omega)];exact hC.old i g h1 h2 Fh
 obtain⟨N,gs',a',w',sl',T',q',hr,hs',I0,hS,WI,abi⟩:=walk_beside (P:=P) (λ_ _ es hD e he=>LN tq hB hCS (hD.2 e he)) _ mp gs a w sl t _ (zab _) h0 hL hP hG;exact⟨N,_,_,hr,gs',w',sl',q',a',rfl,hs'.trans hC.size,I0,hS.1,hS.2,WI,abi⟩
theorem S9 (tq:eX P ty Wg Low x)(wL:eX P ty Wg Low y)(hB:Low≤B)(RN:∀a:Addr,a.block=Wg→Shun (.cell a))(W9:∀a:Addr,a.block=x.C→¬Shun (.cell a))(Xa:∀a:Addr,a.block=y.C→¬Shun (.cell a)){m:Machine}{t:Φ}(h:WY P ty Q Shun c Low B ro aL x y m t):Reach P m t (abh P Shun c B x y):=by
 obtain⟨gs,w,sl,q,a,b,s,rfl,hC,h0,hc,hT,hg,hA|hA⟩:=h
 ·exact(CN tq hB RN W9 hC h0 hc hT hg hA).mono λm t ⟨gs,w,sl,q,a,e,h1,h2,h3,h4,h5,h6⟩=>⟨gs,w,sl,q,a,e,h1,h2,h3,.inl h4,h5,h6⟩
 ·exact(CN wL hB RN Xa hC h0 hc hT hg hA).mono λm t ⟨gs,w,sl,q,a,e,h1,h2,h3,h4,h5,h6⟩=>⟨gs,w,sl,q,a,e,h1,h2,h3,.inr h4,h5,h6⟩
end
end Go.Ren
set_option linter.unusedSectionVars false
namespace Go.Ren
open Go Go.Conc
open Go.ConcX (Payload Shy stA smA Base CA JInv RCa RCd DCs AtR0 RPa DPi AtKd PA KK WgAt ChanAt Full Aside2 runTX JT AtW1)
def okR (Wg C Low:Nat)(act:MemAct):Prop:=(∀t,act.touch? =some t→∃a,t.loc=.cell a∧(a.block=Wg∨a.block=C))∧act.low Low
@[reducible] def lZ (Wg C Low:Nat) (St:Γ→Δ→Prop) (hW:Wg<Low) (hC:C<Low):Shy Wg C where
  ok:=okR Wg C Low
  atomicWg a wr h:=⟨λx hx=>by simp only[MemAct.touch?,zaG]at hx;subst hx;exact⟨a,rfl,.inl h⟩,by show a.block<Low;omega⟩
  readWg a h:=⟨λx hx=>by simp only[MemAct.touch?,zaG]at hx;subst hx;exact⟨a,rfl,.inl h⟩,by show a.block<Low;omega⟩
  writeWg a h:=⟨λx hx=>by simp only[MemAct.touch?,zaG]at hx;subst hx;exact⟨a,rfl,.inl h⟩,by show a.block<Low;omega⟩
  theirs a wr h:=⟨λx hx=>by simp only[MemAct.touch?,zaG]at hx;subst hx;exact⟨a,rfl,.inr h⟩,by show a.block<Low;omega⟩
  disable:=⟨λx hx=>(by cases hx),trivial⟩
  enable:=⟨λx hx=>(by cases hx),trivial⟩
  relMerge:=⟨λx hx=>(by cases hx),hW⟩
  acquire:=⟨λx hx=>(by cases hx),hW⟩
  go1:=⟨λx hx=>(by cases hx),trivial⟩
  start:=⟨λx hx=>(by cases hx),trivial⟩
  stop:=St
structure tu (Wg Low:Nat) where
 pl:Payload
 C:Nat
 vals:List Ξ
 hC:C<Low
 hCW:C≠Wg
 hW:Wg<Low
def kL:Loc→Prop:=λ_=>False
def tu.side {Wg Low:Nat}(k:tu Wg Low)(St:Γ→Δ→Prop)(A:Γ→Δ→Prop):Side Wg:=⟨k.pl,k.C,lZ Wg k.C Low St k.hW k.hC,k.vals,kL,A,λ_ _=>True⟩
def ni:Γ→Δ→Prop:=λ_ _=>False
section
variable {P:Θ}{ty:Λ}{Wg Low:Nat}(k:tu Wg Low)
theorem wP {St A Vn A':Γ→Δ→Prop}{μ:Nat×Nat}{b:Γ}{w:Δ}{s:Φ}(h:(k.side St A).half P ty Low μ b w s):(k.side Vn A').half P ty Low μ b w s:=by
 change @Half k.pl P ty Wg k.C Low (lZ Wg k.C Low Vn k.hW k.hC) k.vals kL μ b w s;replace h:@Half k.pl P ty Wg k.C Low (lZ Wg k.C Low St k.hW k.hC) k.vals kL μ b w s:=h;rcases h with⟨p,d1,rc,mc,rel,cl,sent,vs,e,hs,⟨b1,b2,⟨j1,j2,j3,j4,j5,j6,j7⟩,b4,b5,b6,b7⟩,hc⟩|⟨p,d1,q,e,⟨b1,b2,⟨j1,j2,j3,j4,j5,j6,j7⟩,b4,b5,b6,b7⟩,hq⟩
 ·letI:=k.pl
  letI:=lZ Wg k.C Low Vn k.hW k.hC
  refine .inl ⟨p,d1,rc,mc,rel,cl,sent,vs,e,hs,⟨b1,b2,⟨j1,j2,j3,j4,j5,j6,j7⟩,b4,b5,b6,b7⟩,?_⟩;cases hc with
  |r0 h=>exact .r0 h
  |k1 h=>exact .k1 h
  |d1 h=>exact .d1 h
 ·letI:=k.pl
  letI:=lZ Wg k.C Low Vn k.hW k.hC
  exact .inr ⟨p,d1,q,e,⟨b1,b2,⟨j1,j2,j3,j4,j5,j6,j7⟩,b4,b5,b6,b7⟩,hq⟩
theorem G5 {St:Γ→Δ→Prop}:eX P ty Wg Low (k.side St ni):=⟨k.hC,k.hCW,λ_ _ h=>h.elim,λ_ _ h=>h.elim,λ_ h=>h⟩
def tu.fin (k:tu Wg Low)(P:Θ)(ty:Λ)(b:Γ)(w:Δ):Prop:=
 letI:=k.pl;letI:=lZ Wg k.C Low ni k.hW k.hC;∃n,Goes P false (RCa ty Wg Low) (DCs kL Wg k.C) (AtR0 P ty Wg k.C Low k.vals) n b w
def tu.wait (k:tu Wg Low)(P:Θ)(ty:Λ)(St A:Γ→Δ→Prop)(a:Γ)(w:Δ):Prop:=
 letI:=k.pl;letI:=lZ Wg k.C Low St k.hW k.hC;eX P ty Wg Low (k.side St A)∧∃m,Goes P true (RPa ty Wg k.C k.vals) (DPi kL Wg k.C Low) (AtKd P ty Wg k.C Low k.vals kL A) m a w
end
section
variable {P:Θ}{ty:Λ}{Q Shun:Loc→Prop}{c ch Wg Low:Nat}{ro:Nat→Prop}{z:Ξ}{x y:tu Wg Low}{After:(Nat→Prop)→Δ→Γ→Δ→Prop}
def tu.Xb {Wg Low:Nat}(k:tu Wg Low)(ty:Λ)(w:Δ):Prop:=letI:=k.pl;letI:=lZ Wg k.C Low ni k.hW k.hC;Go.ConcX.KPa ty Wg k.C k.vals w
theorem CO {k:tu Wg Low}{St A:Γ→Δ→Prop}{μ:Nat×Nat}{b:Γ}{w:Δ}{s:Φ}(h:(k.side St A).half P ty Low μ b w s):k.Xb ty w:=by
 replace h:@Half k.pl P ty Wg k.C Low (lZ Wg k.C Low St k.hW k.hC) k.vals kL μ b w s:=h;rcases h with⟨p,d1,rc,mc,rel,cl,sent,vs,e,hs,⟨b1,b2,b3,b4,b5,b6,b7⟩,hc⟩|⟨p,d1,q,e,⟨b1,b2,b3,b4,b5,b6,b7⟩,hq⟩
 ·exact .inl b1
 ·exact .inr ⟨b1,b2⟩
def LO (P:Θ)(ty:Λ){Wg Low:Nat}(x y:tu Wg Low)(After:(Nat→Prop)→Δ→Γ→Δ→Prop)(own:Nat→Prop)(a:Γ)(w:Δ):Prop:=
 x.Xb ty w→y.Xb ty w→∃St Ax Ay,x.wait P ty St Ax a w∧y.wait P ty St Ay a w∧∀a' w',St a' w'→w.heap.size≤w'.heap.size∧After own w a' w'
def Jd (P:Θ)(ty:Λ){Wg Low:Nat}(x y:tu Wg Low)(_own:Nat→Prop)(b:Γ)(w:Δ):Prop:=WgAt ty Wg w KK 0→x.fin P ty b w∧y.fin P ty b w
def Joined (P:Θ)(Shun:Loc→Prop)(c ch Wg Low:Nat)(After:(Nat→Prop)→Δ→Γ→Δ→Prop)(w0:Δ)(m:Machine)(t:Φ):Prop:=
 ∃gs w' w sl q a own,m=ζ gs w sl∧gs.size=c+1∧gs[0]?=some a∧a.status=.running∧After own w' a w∧w'.heap.size≤w.heap.size∧η P t gs q∧Past Shun w.heap.size t∧
  (∀b,own b→Low≤b∧b<w'.heap.size)∧Low≤w'.heap.size∧(∀b,b<Low→b≠ch→b≠Wg→w'.heap[b]?=w0.heap[b]?)∧w'.tape=w0.tape∧w'.os=w0.os∧w'.output=w0.output
theorem Je (hY:CJ Q Shun c ch Wg Low ro (λb=>b=ch∨b=Wg))(zB:x.C≠y.C)(W9:∀a:Addr,a.block=x.C→¬Shun (.cell a))(Xa:∀a:Addr,a.block=y.C→¬Shun (.cell a))
 {vs:List Ξ}{gs:Array Γ}{w0:Δ}{sl:Option (Nat×Nat)}{t:Φ}{q:Nat→Nat}{bq aL:Nat→Prop}{a b:Γ}(hC:ew P c t gs q)(h0:gs[0]?=some a)(hc:gs[c]?=some b)
 (hM:lF P ro ch z (LO P ty x y After) vs bq a w0)(hG:jU P ro ch (Jd P ty x y) vs aL b w0)(eH:lh Q Shun c ch Low ro bq aL (λb=>b=ch) false w0 w0 t)(hw:WgAt ty Wg w0 KK 0):
 Reach P (ζ gs w0 sl) t (Joined P Shun c ch Wg Low After w0):=by
 refine(LJ hY.toLay vs gs w0 sl t q bq aL a b hC h0 hc hM hG eH).bind ?_;rintro m t ⟨gs,w,sl,q,bq,aL,a,b,t₁,fn,pos,rfl,hC,h0,hc,hb,hM,hfc,eH,_,hd⟩;have ku:WgAt ty Wg w KK 0:=hw.of_block (eH.keep Wg hY.KA hY.wch);obtain⟨⟨n₁,hG1⟩,⟨n₂,hG2⟩⟩:=hfc ku;have hx0:(x.side ni ni).half P ty Low (7,n₁) b w I9:=@Half.init x.pl P ty Wg x.C Low (lZ Wg x.C Low ni x.hW x.hC) x.vals kL b w n₁ ku hG1;have hy0:(y.side ni ni).half P ty Low (7,n₂) b w I9:=@Half.init y.pl P ty Wg y.C Low (lZ Wg y.C Low ni y.hW y.hC) y.vals kL b w n₂ ku hG2;refine(S6 (x:=x.side ni ni) (y:=y.side ni ni) hY (G5 x) (G5 y) zB (cE.1 hM) (7,n₁) (7,n₂) aL b I9 I9 gs w sl t q hC h0 hc (bW.refl _ _ _) (eH.weaken λb hb=> .inl hb) hx0 hy0 (GL.init eH.d0 hd) (GL.init eH.d0 hd)).bind ?_;rintro m t ⟨gs,w,sl,q,bq,aL,a,b,iC,je,μ,ν,rfl,hC,h0,hc,hfm,eH,hx,hy,hg1,hg2⟩;obtain⟨St,Ax,Ay,⟨tq,m₁,LP⟩,⟨wL,m₂,hk2⟩,lD⟩:=hfm (CO hx) (CO hy);obtain⟨nO,hJx⟩:=@Half.inv x.pl P ty Wg x.C Low (lZ Wg x.C Low St x.hW x.hC) x.vals kL Ax (λ_ _=>True) μ a b w iC none (wP x (Vn:=St) (A':=Ax) hx) m₁ LP;obtain⟨Fj,hJy⟩:=@Half.inv y.pl P ty Wg y.C Low (lZ Wg y.C Low St y.hW y.hC) y.vals kL Ay (λ_ _=>True) ν a b w je none (wP y (Vn:=St) (A':=Ay) hy) m₂ hk2;refine(S8 (x:=x.side St Ax) (y:=y.side St Ay) hY tq wL zB eH.big (λb hb=>(eH.Ff b hb).1) (Go.ConcN.sumTo c q,nO) Fj gs w sl t q a b iC je rfl hC h0 hc eH.ti hJx hJy hg1 hg2).bind ?_;intro m t h3;refine(S9 tq wL eH.big (λa ha=>hY.QS _ (hY.wQ a ha)) W9 Xa h3).mono ?_;rintro m t ⟨gs,w',sl,q,a,rfl,h1,h2,h3,h4,h5,h6⟩;have h4':St a w':=h4.elim id id;obtain⟨k1,k2⟩:=lD a w' h4';exact⟨gs,w,w',sl,q,a,bq,rfl,h1,h2,h3,k2,k1,h5,h6.mono k1,eH.mlt,eH.big,λb e1 e2 e3=>eH.keep b e1 (λe=>e.elim e2 e3),eH.tape,eH.os,eH.output⟩
end
end Go.Ren
namespace Go.Ren
open Go Go.Conc
variable {P:Θ}{main:Bool}{b:π}{a:Act}{k:List Item}{cs:List π}{w:Δ}
def fy (ch:Ξ)(ty rt:Λ)(bs:Array Bool):Deferred:={ target:= .builtin .close #[ty] rt bs,args:=#[ch] }
theorem rb {ops:Array Oper}{i:Nat}{rest:List Nat}{o:Oper}{x:Tmp}{ty:Λ}(ho:ops[i]?=some o)(hw:Region.wanted o (yielded ops a.tmps)=true)(hk:b.kind≠.early)
 (hop:o.op=.defer { callee:= .builtin .close,args:=#[.tmp x],argTypes:=#[ty] }):
 ξ P main (G (b.at a (.inRegion ops (i::rest)::k)) cs) w=.go (G (b.at (Act.put ⟨a.tmps,fy (a.eval (.tmp x)) ty o.type #[false]::a.defers⟩ o.dst undef) (.inRegion ops rest::k)) cs) w #[]:=by
 have hr:(θ a.eval o).run P w=.ok (.defer (fy (a.eval (.tmp x)) ty o.type #[false])) w:=by
  unfold θ;simp[hop,resolve,fy]
 have he:(θ a.eval o).events P w #[]=#[]:=by
  unfold θ;simp[hop,resolve]
 have lD:(b.at ⟨a.tmps,fy (a.eval (.tmp x)) ty o.type #[false]::a.defers⟩ (.inRegion ops (i::rest)::k)).finish undef=b.at (Act.put ⟨a.tmps,fy (a.eval (.tmp x)) ty o.type #[false]::a.defers⟩ o.dst undef) (.inRegion ops rest::k):=by rw[zbT,ho];rfl
 have CP:(b.kind==CallKind.early)=false:=by simpa using hk
 rw[stepG_oper ho hw,←lD];simp[stepG.apply,hr,he,G,π.at,CP,GStep.after,seen_none]
theorem qg {todo:List Item}{ds:List Deferred}{c s r:Nat}{tm:Bool}{ty rt:Λ}{bs:Array Bool}(hd:a.defers=fy (.chan (some c)) ty rt bs::ds)(hc:w.heap[c]?=some (.chan 0 #[] false s r tm))(hq:(P.funcs[b.fn]?).any (·.norace)=false):ξ P main (G { b.at a todo with mode:= .returning } cs) w=.go (G { b.at ⟨a.tmps,ds⟩ todo with mode:= .returning } cs) (w.setChan c 0 #[] true s r tm) (gJ c):=by
 have h1:(builtin .close #[ty] rt bs #[.chan (some c)]).run P w=.ok (.value (.tuple #[])) (w.setChan c 0 #[] true s r tm):=by
  unfold builtin;simp[go_sem,run_close_open _ _ hc,Δ.setChan]
 have h2:(builtin .close #[ty] rt bs #[.chan (some c)]).events P w #[]=gJ c:=by
  unfold builtin;simp[go_sem,events_close_open _ _ hc,gJ]
 have h3:seen P b.fn ((builtin .close #[ty] rt bs #[.chan (some c)]).events P w #[])=gJ c:=by
  rw[h2];exact seen_eq hq (by intro e he f;simp[gJ]at he;rcases he with rfl|rfl<;>simp)
 simp[G,ξ,unwind,callDeferred,π.at,hd,fy,invoke,h1,GStep.after]at h3 ⊢;exact h3
end Go.Ren
namespace Go.Ren
open Go
section
variable {P:Θ}{ρ:Rn}
theorem rh:∀(n:Nat) (a:Addr) (acc:ByteArray),aa P ρ Eq (Extern.Bytes.loadBytes a n acc) (Extern.Bytes.loadBytes (ra ρ a) n acc)
 |0,a,acc=>aa.pure rfl
 |n+1,a,acc=>by
  unfold Extern.Bytes.loadBytes;refine aa.bind (vE a) ?_;rintro v _ rfl;cases v with
  |int k b=>
   cases k with
   |u8=>rw[rv];simp only;rw[jP];exact rh n (a.add 1) _
   |_=>exact aa.stuck _
  |_=>exact aa.stuck _
theorem tz (v:Ξ):aa P ρ Eq (Extern.Bytes.bytesOf v) (Extern.Bytes.bytesOf (rv ρ v)):=by
 cases v with
 |string s=>rw[rv];exact aa.pure rfl
 |slice a l c=>
  cases a with
  |none=>rw[rv];exact aa.pure rfl
  |some a=>rw[rv];exact rh l a _
 |_=>exact aa.stuck _
theorem LR (v:Ξ):aa P ρ Eq (Extern.Bytes.asByte v) (Extern.Bytes.asByte (rv ρ v)):=by
 cases v with
 |int k b=>
  rw[rv];cases k with
  |u8=>exact aa.pure rfl
  |_=>exact aa.stuck _
 |_=>exact aa.stuck _
theorem LS (n:Int):VV ρ (goInt n) (goInt n):=by simp[VV,goInt,rv]
theorem ui (args:Array Ξ):aa P ρ (VV ρ) (ι args) (ι (args.map (rv ρ))):=by
 obtain⟨l⟩:=args;rcases l with _|⟨b,_|⟨c,_|⟨d,l⟩⟩⟩
 ·exact aa.stuck "bytealg.IndexByte: two arguments expected"
 ·exact aa.stuck "bytealg.IndexByte: two arguments expected"
 ·have h:∀b c,ι #[b,c]=(do
   let b ←Extern.Bytes.bytesOf b;let c ←Extern.Bytes.asByte c
   match(List.range b.size).find? λi=>b[i]! ==c with
   |some i=>pure (goInt i)
   |none=>pure (goInt (-1))):=λ_ _=>rfl
  have e:(Array.map (rv ρ) { toList:=[b,c] })=#[rv ρ b,rv ρ c]:=by simp
  rw[e,h,h];refine aa.bind (tz b) ?_;rintro x _ rfl;refine aa.bind (LR c) ?_;rintro y _ rfl;split
  ·exact aa.pure (LS _)
  ·exact aa.pure (LS _)
 ·exact aa.stuck "bytealg.IndexByte: two arguments expected"
theorem Ta (args:Array Ξ):aa P ρ (VV ρ) (Extern.AbiNoEscape.same args) (Extern.AbiNoEscape.same (args.map (rv ρ))):=by
 obtain⟨l⟩:=args;rcases l with _|⟨b,_|⟨c,l⟩⟩
 ·exact aa.stuck "abi.NoEscape, Escape: one argument expected"
 ·have h:∀b,Extern.AbiNoEscape.same #[b]=pure b:=λ_=>rfl;have e:(Array.map (rv ρ) { toList:=[b] })=#[rv ρ b]:=by simp
  rw[e,h,h];exact aa.pure rfl
 ·exact aa.stuck "abi.NoEscape, Escape: one argument expected"
theorem LU (hx:∀g,g<P.globals.size→g<ρ.d∨ρ g=g):aa P ρ Eq Extern.BytealgIndex.maxLen Extern.BytealgIndex.maxLen:=by
 unfold Extern.BytealgIndex.maxLen globalAddr;refine aa.bind (R:=λ(a b:Addr)=>b=a∧(a.block<ρ.d∨ρ a.block=a.block)) (aa.bind cz ?_) ?_
 ·rintro p p' ⟨rfl,rfl⟩;split
  ·rename_i g hg;refine aa.pure ?_;have:=Array.findIdx?_eq_some_iff_getElem.1 hg;exact⟨rfl,hx g this.1⟩
  ·exact aa.stuck _
 ·rintro a b ⟨rfl,h⟩;refine aa.bind (R:=VV ρ) ?_ ?_
  ·rcases h with h|h
   ·exact .inl h
   ·have e:ra ρ b=b:=by unfold ra;rw[h]
    have:=vE (P:=P) (ρ:=ρ) b;rwa[e]at this
  ·rintro v _ rfl;exact mn v
theorem LV (hx:∀g,g<P.globals.size→g<ρ.d∨ρ g=g)(args:Array Ξ):aa P ρ (VV ρ) (Extern.BytealgIndex.index args) (Extern.BytealgIndex.index (args.map (rv ρ))):=by
 obtain⟨l⟩:=args;rcases l with _|⟨b,_|⟨c,_|⟨d,l⟩⟩⟩
 ·exact aa.stuck "bytealg.Index: two arguments expected"
 ·exact aa.stuck "bytealg.Index: two arguments expected"
 ·have h:∀b c,Extern.BytealgIndex.index #[b,c]=(do
   let a ←Extern.Bytes.bytesOf b;let b ←Extern.Bytes.bytesOf c
   if b.size<2||(b.size:Int)>(←Extern.BytealgIndex.maxLen)then
    unsupported (.noEntry "extern/internal/bytealg.Index.length")
   if a.size≥2^32-15 then
    unsupported (.noEntry "extern/internal/bytealg.Index: a haystack of 2^32 - 15 bytes or more")
   match(List.range (a.size+1-b.size)).find? λi=>a.extract i (i+b.size)==b with
   |some i=>pure (goInt i)
   |none=>pure (goInt (-1))):=λ_ _=>rfl
  have e:(Array.map (rv ρ) { toList:=[b,c] })=#[rv ρ b,rv ρ c]:=by simp
  rw[e,h,h];refine aa.bind (tz b) ?_;rintro x _ rfl;refine aa.bind (tz c) ?_;rintro y _ rfl;refine aa.bind (LU hx) ?_;rintro m _ rfl;dsimp only;refine aa.aj (λ_=>?_) (λ_=>?_)
  ·exact trivial
  ·refine aa.aj (λ_=>?_) (λ_=>?_)
   ·exact trivial
   ·split
    ·exact aa.pure (by simp[VV,goInt,rv])
    ·exact aa.pure (by simp[VV,goInt,rv])
 ·exact aa.stuck "bytealg.Index: two arguments expected"
end
theorem nP {cs:Array Ξ}(h:∀x∈cs,fR x):fR (.agg cs):=λρ=>by
 rw[rv];have h':∀x∈cs,rv ρ x=id x:=λx hx=>h x hx ρ;rw[dX h',Array.map_id]
theorem wS {v:Ξ}(h:fR v):∀x∈v.cells,fR x:=by
 intro x hx;cases v with
 |agg cs=>
  intro ρ;have:=h ρ;rw[rv]at this;simp only[Ξ.agg.injEq]at this;obtain⟨i,hi,rfl⟩:=zbV.1 (show x∈cs from hx);have h2:=zal (λa=>a[i]?) this;simp only[zaw,zaE hi,zbA,zaG]at h2;exact h2
 |_=>simp only[Ξ.cells,zbX,zaI,zbY,or_false]at hx;subst hx;exact h
theorem zD {α β:Type}(I:β→Prop){f:α→β→Option (ForInStep β)}(hs:∀a b s,I b→f a b=some s→I s.value):∀(l:List α) (init r:β),I init→forIn l init f=some r→I r
 |[],init,r,h0,h=>by
  simp only[List.forIn_nil,pure,zaG]at h;exact h▸h0
 |a::l,init,r,h0,h=>by
  simp only[List.forIn_cons,bind,zaJ]at h;obtain⟨s,h1,h2⟩:=h;have hI:=hs a init s h0 h1;cases s with
  |done b=>simp only[pure,zaG]at h2;exact h2▸hI
  |yield b=>exact zD I hs l b r hI h2
theorem ri {info:Λ→Option Ω}(hi:∀t i v,info t=some i→i.zero=some v→fR v){fs:Array Field}{i:Ω}(h:Made.reckonStruct info fs=some i){v:Ξ}(hz:i.zero=some v):fR v:=by
 unfold Made.reckonStruct at h;simp only[bind,zaJ,pure,←zbF]at h;obtain⟨a,ha,h⟩:=h;have key:∀arr,a.2.2.2.2.2.2.2.1=some arr→∀x∈arr,fR x:=by
  refine zD (λs=>∀arr,s.2.2.2.2.2.2.2.1=some arr→∀x∈arr,fR x) ?_ _ _ _ ?_ ha
  ·intro f b s hb hf;simp only[zaJ]at hf;obtain⟨j,hj,hf⟩:=hf;have fin:∀arr,(if b.2.1+j.size>Made.mostCells then none else b.2.2.2.2.2.2.2.1.bind λy=>j.zero.bind λz=>some (y++z.cells))=some arr→∀x∈arr,fR x:=by
    intro arr qb x hx;split at qb
    ·cases qb
    ·simp only[zaJ]at qb;obtain⟨y,hy,z,hz,e⟩:=qb;cases e;rcases Array.mem_append.1 hx with h1|h1
     ·exact hb y hy x h1
     ·exact wS (hi _ _ _ hj hz) x h1
   by_cases c1:j.str.isEmpty=true
   ·rw[zac c1]at hf;cases hf
   rw[zaa c1]at hf;by_cases c2:f.embedded=true
   ·rw[zac c2]at hf;cases hf
   rw[zaa c2]at hf;by_cases c3:f.tag.isEmpty=true
   ·rw[zac c3]at hf;by_cases c4:j.bytes=0
    ·simp only[Option.bind_some,zac c4]at hf;cases hf;exact fin
    ·simp only[Option.bind_some,zaa c4]at hf;cases hf;exact fin
   ·rw[zaa c3]at hf;rw[zaJ]at hf;obtain⟨tag,_,hf⟩:=hf;by_cases c4:j.bytes=0
    ·rw[zac c4]at hf;cases hf;exact fin
    ·rw[zaa c4]at hf;cases hf;exact fin
  ·intro arr qb x hx;simp only[zaG]at qb;subst qb;simp at hx
 split at h
 all_goals
  cases h;simp only[zav]at hz;obtain⟨arr,qb,rfl⟩:=hz;exact nP (key arr qb)
theorem CQ {info:Λ→Option Ω}(hi:∀t i v,info t=some i→i.zero=some v→fR v){d:TypeDesc}{i:Ω}(h:Made.reckon info d=some i){v:Ξ}(hz:i.zero=some v):fR v:=by
 have w0:∀(d:TypeDesc) (s:String) (z:Ξ) (c:Bool) (n:Nat),fR z→some (Made.word d s z c n)=some i→fR v:=by
  intro d s z c n hb e;cases e;simp only[Made.word]at hz;cases hz;exact hb
 unfold Made.reckon at h;split at h
 ·simp only[bind,zaJ,pure]at h;obtain⟨j,_,h⟩:=h;split at h
  ·cases h
  ·split at h
   ·cases h
   ·simp only[zaJ]at h;obtain⟨s,_,h⟩:=h;exact w0 _ _ _ _ _ (λρ=>by simp[rv]) h
  ·simp only[zaJ]at h;obtain⟨s,_,h⟩:=h;exact w0 _ _ _ _ _ (λρ=>by simp[rv]) h
 ·simp only[bind,zaJ,pure]at h;obtain⟨j,_,s,_,h⟩:=h;exact w0 _ _ _ _ _ (λρ=>by simp[rv]) h
 ·simp only[bind,zaJ,pure]at h;obtain⟨_,_,_,_,_,_,_,_,h⟩:=h;exact w0 _ _ _ _ _ (λρ=>by simp[rv]) h
 ·simp only[bind,zaJ,pure]at h;obtain⟨_,_,_,_,h⟩:=h;exact w0 _ _ _ _ _ (λρ=>by simp[rv]) h
 ·simp only[bind,zaJ,pure]at h;obtain⟨_,_,h⟩:=h;exact w0 _ _ _ _ _ (λρ=>by simp[rv]) h
 ·simp only[bind,zaJ,pure]at h;obtain⟨j,hj,s,_,h⟩:=h;cases h;simp only at hz;split at hz
  ·cases hz
  ·split at hz
   ·cases hz;exact nP λx hx=>by simp at hx
   ·simp only[zav]at hz;obtain⟨zz,hzz,rfl⟩:=hz;refine nP λx hx=>?_;rw[Array.mem_flatten]at hx;obtain⟨ys,h1,h2⟩:=hx;rw[Array.mem_replicate]at h1;obtain⟨_,rfl⟩:=h1;exact wS (hi _ _ _ hj hzz) x h2
 ·exact ri hi h hz
 ·cases h
theorem uj {T:Tables}(hT:∀(t:Λ) (i:Ω) (v:Ξ),T.types[t]?=some i→i.zero=some v→fR v):∀(n:Nat) (t:Λ) (i:Ω) (v:Ξ),Made.infoAt T n t=some i→i.zero=some v→fR v
 |0,t,i,v,h,_=>by simp[Made.infoAt]at h
 |n+1,t,i,v,h,hz=>by
  unfold Made.infoAt at h;split at h
  ·exact hT t i v h hz
  ·simp only[zaJ]at h;obtain⟨d,_,h⟩:=h;exact CQ (uj hT n) h hz
def G8:Ξ→Bool
 |.agg cs=>cs.toList.all lC
 |v=>lC v
def LW:Ξ→Bool
 |.tuple cs=>cs.toList.all G8
 |v=>G8 v
def tyB (i:Ω):Bool:=match i.zero with|some v=>LW v|none=>true
theorem wT {v:Ξ}(h:G8 v=true):fR v:=by
 unfold G8 at h;split at h
 ·rename_i cs;rw[zbz]at h;exact nP λx hx=>gT (h x (Array.mem_toList_iff.2 hx))
 ·exact gT h
theorem Fl {v:Ξ}(h:LW v=true):fR v:=by
 unfold LW at h;split at h
 ·rename_i cs;rw[zbz]at h;intro ρ;rw[rv];have h':∀x∈cs,rv ρ x=id x:=λx hx=>wT (h x (Array.mem_toList_iff.2 hx)) ρ;rw[dX h',Array.map_id]
 ·exact wT h
theorem G9 {P:Θ}(h:P.types.toList.all tyB=true):∀(t:Λ) (i:Ω) (v:Ξ),P.info? t=some i→i.zero=some v→∀ρ:Rn,rv ρ v=v:=by
 have hT:∀(t:Λ) (i:Ω) (v:Ξ),P.types[t]?=some i→i.zero=some v→fR v:=by
  intro t i v hi hz;rw[zbz]at h;have:=h i (Array.mem_toList_iff.2 (zbG hi));unfold tyB at this;rw[hz]at this;exact Fl this
 intro t i v hi hz;unfold Tables.info? at hi;split at hi
 ·exact hT t i v hi hz
 ·exact uj hT _ t i v hi hz
end Go.Ren
namespace Go.Ren
open Go Go.Conc
section
variable {P:Θ}{main:Bool}{ro own:Nat→Prop}{Stop:(Nat→Prop)→Γ→Δ→Prop}{W:Δ}{b:π}{a:Act}{ops:Array Oper}{i:Nat}{rest:List Nat}{o:Oper}{kk:List Item}{cs:List π}
theorem af.Fv (ho:ops[i]?=some o)(hw:Region.wanted o (yielded ops a.tmps)=true)(hk:b.kind≠.early){dd:Option Tmp}(hdd:o.dst=dd){e:Λ}{x:Operand}(hop:o.op=.load e x){ad:Addr}(hx:a.eval x=.pointer (some ad))(hr:ro ad.block){v:Ξ}(hv:W.cell? ad=some v)
 (hl:∀(w:Δ),w.cell? ad=some v→(Instr.loadAt e (.pointer (some ad))).run P w=.ok v w∧∀ev∈(Instr.loadAt e (.pointer (some ad))).events P w #[],ev.loc=.cell ad∧ev.write=false)
 (k:af P main ro Stop own (G (b.at (a.put dd v) (.inRegion ops rest::kk)) cs) W):af P main ro Stop own (G (b.at a (.inRegion ops (i::rest)::kk)) cs) W:=by
 subst hdd;refine af.step' rfl λaG hR=>?_;have hc:aG.cell? ad=some v:=by
  rw[←hv];simp only[Δ.cell?,hR.block _ (.inr hr)]
 obtain⟨h1,h2⟩:=hl aG hc;have hrun:(θ a.eval o).run P aG=.ok (.value v) aG:=by
  unfold θ;simp[hop,hx,h1]
 have ia:(θ a.eval o).events P aG #[]=(Instr.loadAt e (.pointer (some ad))).events P aG #[]:=by
  unfold θ;simp[hop,hx]
 refine⟨_,aG,_,stepG_value ho hw hk hrun,⟨rfl,rfl,rfl,zab _,λ_ _ _=>rfl,λev he=>?_⟩,?_⟩
 ·unfold listed at he;rw[ia]at he;obtain⟨h3,h4⟩:=h2 ev (mem_seen he);unfold B4;rw[h3];exact .inr ⟨hr,h4⟩
 ·rw[sX own rfl];exact k.rely hR
end
end Go.Ren
namespace Go.Ren
open Go Go.Conc
open Go.ConcN (sumTo upd sumTo_upd upd_ne upd_same)
structure fp (Q Shun:Loc→Prop) (B d:Nat) (t:Φ):Prop where
 clean:∀said,¬Race said t
 known:∀i a,touchAt t i=some a→a.loc.isMemory=true→Knows t 0 i∨(Shun a.loc∧a.kind=.atomic)
 over:t.HandedOver
 deaf:Deaf t 0=d
 seen:∀op∈t,op.act.low B
 quiet:∀i a,touchAt t i=some a→Q a.loc→a.kind≠.plain∧(a.kind=.said→t.g? i=some 0)
section
variable {Q Shun:Loc→Prop}{B d d':Nat}{t u:Φ}
theorem fp.past (h:fp Q Shun B 0 t):Past Shun B t:=⟨h.clean,h.known,h.over,h.deaf,h.seen⟩
theorem fp.He (h:Past Shun B t)(hq:∀i a,touchAt t i=some a→¬Q a.loc):fp Q Shun B 0 t:=⟨h.clean,h.known,h.over,h.hears,h.seen,λi a ha hl=>absurd hl (hq i a ha)⟩
theorem fp.app0 (h:fp Q Shun B d t)(hu:∀op∈u,op.g=0)(hs:∀op∈u,∀b,op.act.touch? =some b→(Shun b.loc∨Q b.loc)→b.kind≠.plain)(hd:Deaf (t++u) 0=d')(hl:∀op∈u,op.act.low B):fp Q Shun B d' (t++u):=by
 refine⟨λsaid=>noRace_append (h.clean said) hu λi a ha op hop b hb hc=>?_,λi a ha hm=>?_,handedOver_app h.over λop hop=> .inl (hu op hop),hd,seen_app h.seen hl,λi a ha hq=>?_⟩
 ·rcases h.known i a ha hc.2.1 with hk|⟨hsa,hka⟩
  ·exact hk
  ·have hkb:=hs op hop b hb (.inl (hc.1▸hsa));obtain⟨_,_,_,fT⟩:=hc;rw[hka]at fT;rcases fT with x|x|⟨_,x,_⟩
   ·cases x
   ·exact absurd x hkb
   ·cases x
 ·rcases bI ha with⟨_,ha'⟩|⟨_,op,hop,hx,_⟩
  ·exact(h.known i a ha' hm).imp (·.app u) id
  ·have:=knows_own hx;rw[hu op hop]at this;exact .inl this
 ·rcases bI ha with⟨hi,ha'⟩|⟨_,op,hop,hx,hb⟩
  ·rw[g?_old hi];exact h.quiet i a ha' hq
  ·exact⟨hs op hop a hb (.inr hq),λ_=>by simp[Trace.g?,hx,hu op hop]⟩
theorem fp.appMute {g:Nat}(h:fp Q Shun B d t)(hg:g≠0)(hu:∀op∈u,op.g=g)(hn:∀op∈u,op.act.touch? =none)(hl:∀op∈u,op.act.low B):fp Q Shun B d (t++u):=by
 have old:∀{i a},touchAt (t++u) i=some a→i<t.size∧touchAt t i=some a:=λha=>by
  rcases bI ha with h|⟨_,op,hop,_,hx⟩
  ·exact h
  ·rw[hn op hop]at hx;cases hx
 refine⟨λsaid=>noRace_append (h.clean said) hu λi a _ op hop b hb _=>(by rw[hn op hop]at hb;cases hb),λi a ha hm=>?_,handedOver_app h.over λop hop=> .inr (hn op hop),(zaF t hg u hu).trans h.deaf,seen_app h.seen hl,λi a ha hq=>?_⟩
 ·exact(h.known i a (old ha).2 hm).imp (·.app u) id
 ·rw[g?_old (old ha).1];exact h.quiet i a (old ha).2 hq
end
section
variable {P:Θ}{Q Shun:Loc→Prop}{B d:Nat}{K:Machine→Φ→Prop}{a:Γ}
theorem nT {J:Δ→Φ→Prop}{n:Nat}(ha:a.status=.running)
 (hJ:∀w t d ops,J w t→(∃g,g≠0∧∀op∈ops,op.g=g)→(∀op∈ops,op.act.touch? =none∧∀a,op.act≠.mark (.release a))→(∀B,∀op∈ops,op.act.low B)→J (w.at d) (t++ops))
 (H:∀gs w sl t q,gs.size=n→η P t gs q→gs[0]?=some a→J w t→∃m' ops,runT P (ζ gs w sl) 0=(.next m',ops)∧Reach P m' (t++ops) K):
 ∀gs w sl t q,gs.size=n→η P t gs q→gs[0]?=some a→J w t→Reach P (ζ gs w sl) t K:=by
 intro gs w sl t q hn hL h0 hj;generalize hM:sumTo n q=M
 induction M using Nat.strongRecOn generalizing gs w sl t q with
 |_ M ih=>
 have SS:∀g∈gs,awake g:=by
  intro g hg;obtain⟨i,hi,rfl⟩:=zbV.1 hg;rcases Nat.eq_zero_or_pos i with rfl|jT
  ·have:gs[0]=a:=by simpa[Array.getElem?_eq_getElem hi]using h0
   rw[this];exact awake_of (.inl ha)
  ·exact awake_of ((hL.old i _ jT (zaE hi)).status.elim .inl λx=> .inr (.inr x))
 obtain⟨i,g,dd,sl',hi,hg,hst⟩:=crowd_pick (P:=P) (w:=w) (sl:=sl) SS ⟨0,a,h0,ha⟩;have hjd:J (w.at dd) t:=by
  have:=hJ w t dd #[] hj ⟨1,by decide,by simp⟩ (by simp) (by simp);simpa using this
 rcases Nat.eq_zero_or_pos i with rfl|jT
 ·obtain⟨m',ops,e,hR⟩:=H gs (w.at dd) sl' t q hn hL h0 hjd;exact Reach.step (hst.trans e) hR
 ·have hq:=hL.old i g jT hi;have SU:(i==0)=false:=by simp;omega
  have hlt:i<gs.size:=(zag.1 hi).1;cases EY:q i with
  |zero=>rw[EY]at hq;rw[hq.1]at hg;cases hg
  |succ k=>
   rw[EY]at hq;rcases hq with⟨hf,_⟩|⟨_,g',es,hm,EZ,hq'⟩
   ·rw[hf]at hg;cases hg
   have qT:=runT_crowd_go (P:=P) (sl:=sl') (i:=i) hi (by rw[SU];exact EZ (w.at dd));have SV:sumTo n (upd q i k)+(k+1)=sumTo n q+k:=by
    have:=sumTo_upd q k id (hn▸hlt);simpa[EY]using this
   refine Reach.step (hst.trans qT) (ih (sumTo n (upd q i k)) (by omega) _ (w.at dd) sl' _ (upd q i k) (by simp[hn]) ⟨λj x hj hx=>?_,λj hj=>?_⟩ ?_ (hJ w t dd _ hj ⟨i,by omega,ofEvents_g⟩ (λop hop=>?_) (λB op hop=>?_)) rfl)
   ·by_cases AQ:i=j
    ·subst AQ;rw[zbB (by simpa using hlt)]at hx;obtain rfl:=zaY hx;rw[upd_same,Deaf_own];exact hq'
    ·rw[zax AQ,zaw]at hx;obtain⟨y,hy,rfl⟩:=zav.1 hx;have Lq:=hL.old j y hj hy;rw[woken_quitsD Lq,upd_ne q k (Ne.symm AQ),zaF t AQ _ ofEvents_g];exact Lq
   ·rw[zaF t (g':=i) (by simp at hj;omega) _ ofEvents_g];exact hL.above j (by simpa using hj)
   ·rw[zax (by omega),zaw,h0];simp[woken_run ha]
   ·obtain⟨e,he,rfl⟩:=zbd hop;exact⟨touch_mute (hm e he),λa=>p8 (hm e he) a⟩
   ·obtain⟨e,he,rfl⟩:=zbd hop;exact low_mute (hm e he) B
theorem xe {t:Φ}{gs:Array Γ}{q:Nat→Nat}{a':Γ}{w w':Δ}{sl:Option (Nat×Nat)}{es:Array Event}(hL:η P t gs q)(h0:gs[0]?=some a)(hs:ξ P true a w=.go a' w' es):∃gs',runT P (ζ gs w sl) 0=(.next (ζ gs' w' sl),υ 0 a.frame.fn a.frame.place es)∧gs'.size=gs.size∧η P (t++υ 0 a.frame.fn a.frame.place es) gs' q∧gs'[0]?=some a':=by
 have hlt:0<gs.size:=(zag.1 h0).1;refine⟨_,runT_crowd_go (P:=P) (sl:=sl) (i:=0) h0 (show ξ P (0==0) a w=_ from hs),by simp,⟨λj x hj hx=>?_,λj hj=>?_⟩,by simp[hlt]⟩
 ·rw[zax (by omega),zaw]at hx;obtain⟨y,hy,rfl⟩:=zav.1 hx;have hq:=hL.old j y hj hy;rw[woken_quitsD hq,zaF t (by omega) _ ofEvents_g];exact hq
 ·rw[zaF t (g':=0) (by simp at hj;omega) _ ofEvents_g];exact hL.above j (by simpa using hj)
def At0 (P:Θ)(Q Shun:Loc→Prop)(B d n:Nat)(Stop:Γ→Δ→Prop)(m:Machine)(t:Φ):Prop:=
 ∃gs a w sl q,m=ζ gs w sl∧gs.size=n∧gs[0]?=some a∧(∀w₁,AtRel w w₁→Stop a w₁)∧η P t gs q∧fp Q Shun B d t
theorem jC {D:Δ→Δ→Array Event→Prop}{Stop:Γ→Δ→Prop}(hD:∀w w' es,D w w' es→∀e∈es,EvL (λl=>Shun l∨Q l) B e){n:Nat}:∀(N:Nat) (a:Γ) (w:Δ),Goes P true AtRel D Stop N a w→∀gs sl t q,gs.size=n→η P t gs q→gs[0]?=some a→fp Q Shun B d t→Reach P (ζ gs w sl) t (At0 P Q Shun B d n Stop):=by
 intro N
 induction N with
 |zero=>intro a w hG gs sl t q hn hL h0 hP;exact .here ⟨gs,a,w,sl,q,rfl,hn,h0,hG,hL,hP⟩
 |succ N ih=>
  intro a w hG gs sl t q hn hL h0 hP;rcases hG with Ya|⟨hrun,hstep⟩
  ·exact .here ⟨gs,a,w,sl,q,rfl,hn,h0,Ya,hL,hP⟩
  refine nT (J:=λw₁ t=>AtRel w w₁∧fp Q Shun B d t) hrun (λw₁ t dd ops hj ⟨g,hg,hgo⟩ h1 h2=>⟨atRel_trans _ _ _ hj.1 ⟨dd,rfl⟩,hj.2.appMute hg hgo (λop hop=>(h1 op hop).1) (h2 B)⟩) (λgs w₁ sl t q hn hL h0 hj=>?_) gs w sl t q hn hL h0 ⟨atRel_refl w,hP⟩;obtain⟨a',w',es,hgo,hd,hG'⟩:=goes_elim (hstep w₁ hj.1);obtain⟨gs',e1,e2,e3,e4⟩:=xe (sl:=sl) hL h0 hgo;have ia:=hD _ _ _ hd;refine⟨_,_,e1,ih a' w' hG' gs' sl _ q (e2.trans hn) e3 e4 (hj.2.app0 ofEvents_g (λop hop b hb hs=>?_) ?_ (λop hop=>?_))⟩
  ·obtain⟨e,he,rfl⟩:=zbd hop;exact(ia e he).1 b hb hs
  ·rw[Deaf_own,deafBehind_still (λe he=>⟨(ia e he).2.1,(ia e he).2.2.1⟩)];exact hj.2.deaf
  ·obtain⟨e,he,rfl⟩:=zbd hop;exact(ia e he).2.2.2
theorem um {mk:Mark}{Next:Γ→Δ→Prop}{n:Nat}(hm:(MemAct.mark mk).touch? =none)(hl:(MemAct.mark mk).low B){gs:Array Γ}{a:Γ}{w:Δ}{sl:Option (Nat×Nat)}{t:Φ}{q:Nat→Nat}(hn:gs.size=n)(hL:η P t gs q)(h0:gs[0]?=some a)(hP:fp Q Shun B d t)
 (hS:∀w₁,AtRel w w₁→Go.ConcX.AtMkS P mk Next a w₁):Reach P (ζ gs w sl) t λm t=>∃gs a w sl q,m=ζ gs w sl∧gs.size=n∧gs[0]?=some a∧Next a w∧η P t gs q∧fp Q Shun B (deafBehind d #[Go.ConcX.mk mk]) t:=by
 refine nT (J:=λw₁ t=>AtRel w w₁∧fp Q Shun B d t) (hS w (atRel_refl w)).1 (λw₁ t dd ops hj ⟨g,hg,hgo⟩ h1 h2=>⟨atRel_trans _ _ _ hj.1 ⟨dd,rfl⟩,hj.2.appMute hg hgo (λop hop=>(h1 op hop).1) (h2 B)⟩) (λgs w₁ sl t q hn hL h0 hj=>?_) gs w sl t q hn hL h0 ⟨atRel_refl w,hP⟩;obtain⟨_,a',hgo,qZ⟩:=hS w₁ hj.1;obtain⟨gs',e1,e2,e3,e4⟩:=xe (sl:=sl) hL h0 hgo;refine⟨_,_,e1,.here ⟨gs',a',w₁,sl,q,rfl,e2.trans hn,e4,qZ,e3,hj.2.app0 ofEvents_g (λop hop b hb hs=>?_) ?_ (λop hop=>?_)⟩⟩
 ·obtain⟨e,he,rfl⟩:=zbd hop;simp at he;subst he;rw[show(MemAct.ofEvent (Go.ConcX.mk mk))=.mark mk from rfl,hm]at hb;cases hb
 ·rw[Deaf_own,hj.2.deaf]
 ·obtain⟨e,he,rfl⟩:=zbd hop;simp at he;subst he;exact hl
end
end Go.Ren
