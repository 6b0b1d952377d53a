import Derived.Conc.FxFrame
import Derived.Test.YtlhimdjkkiflhaaGreatDoorProg
import Derived.Conc.FxGenDone
import Derived.Conc.FxGenWait
import Derived.Conc.FxGenLone
import Derived.KernelRfl
import Derived.Conc.DeferLaws
import GoSem.Extern.Table
import Derived.Test.YtlhimdjkkiflhaaGreatDoorDeep12
set_option linter.unusedSectionVars false
namespace Go.Ren
open Go Go.Conc
open Go.ConcX (Payload Shy stA smA Base CA JInv RCa RCd DCs AtR0 RPa DPi AtKd PA KK WgAt ChanAt Full Aside2 runTX JT AtW1 Acquired Lt4 LtG ltG_wf AtRetJ DPj)
open Go.ConcN (sumTo upd sumTo_upd upd_ne upd_same)
section
variable {P:Program} {c:Nat} {t:Trace} {gs:Array Goroutine} {q:Nat→Nat} {a b:Goroutine} {w:World} {sl:Option (Nat×Nat)}
theorem crew_cases2 (hC:Crew P c t gs q)(h0:gs[0]? =some a)(hc:gs[c]? =some b)(hwa:awake a)(hwb:awake b)(hrun:a.status= .running∨b.status= .running):
 ∃ d sl',(a.status= .running∧stepT P (crowd gs w sl)=runT P (crowd gs (w.at d) sl') 0)∨
 (b.status= .running∧stepT P (crowd gs w sl)=runT P (crowd gs (w.at d) sl') c)∨
 (∃ gs' ops q' x x',stepT P (crowd gs w sl)=(.next (crowd gs' (w.at d) sl'),ops)∧Crew P c (t++ops) gs' q'∧gs'[0]? =some (Conc.woken P x x' (w.at d) a)∧gs'[c]? =some (Conc.woken P x x' (w.at d) b)∧sumTo c q'<sumTo c q∧(∀ op∈ops,op.act.touch? =none∧∀ a,op.act≠ .mark (.release a))∧(∀ B,∀ op∈ops,op.act.low B)∧Deaf (t++ops) 0=Deaf t 0∧Deaf (t++ops) c=Deaf t c):=by
 have hpos:=hC.pos
 have haw:∀ g∈gs,awake g:=by
  intro g hg
  obtain⟨i,hi,rfl⟩:=Array.mem_iff_getElem.1 hg
  have hi':=Array.getElem?_eq_getElem hi
  rcases hC.get hi' with rfl|rfl|⟨h1,h2⟩
  ·rw[h0] at hi';obtain rfl:=Option.some.inj hi';exact hwa
  ·rw[hc] at hi';obtain rfl:=Option.some.inj hi';exact hwb
  ·exact awake_of ((hC.old i _ h1 h2 hi').status.elim .inl fun x=> .inr (.inr x))
 obtain⟨i,g,d,sl',hi,hg,hst⟩:=crowd_pick (P:=P) (w:=w) (sl:=sl) haw (hrun.elim (fun h=>⟨0,a,h0,h⟩) fun h=>⟨c,b,hc,h⟩)
 refine⟨d,sl',?_⟩
 rcases hC.get hi with rfl|rfl|⟨h1,h2⟩
 ·rw[h0] at hi;obtain rfl:=Option.some.inj hi
  exact .inl ⟨hg,hst⟩
 ·rw[hc] at hi;obtain rfl:=Option.some.inj hi
  exact .inr (.inl ⟨hg,hst⟩)
 ·right;right
  have hq:=hC.old i g h1 h2 hi
  have hi0:(i==0)=false:=by simp;omega
  have hlt:i<gs.size:=(Array.getElem?_eq_some_iff.1 hi).1
  cases hqi:q i with
  |zero=>rw[hqi] at hq;rw[hq.1] at hg;cases hg
  |succ k=>
   rw[hqi] at hq
   rcases hq with⟨hf,_⟩|⟨_,g',es,hm,hstp,hq'⟩
   ·rw[hf] at hg;cases hg
   have hrunT:=runT_crowd_go (P:=P) (sl:=sl') (i:=i) hi (by rw[hi0];exact hstp (w.at d))
   have hsum:sumTo c (upd q i k)+(k+1)=sumTo c q+k:=by
    have:=sumTo_upd q k id h2
    simpa[hqi] using this
   refine⟨_,_,upd q i k,g,g',hst.trans hrunT,⟨by simp[hC.size],hpos,fun j x hj hjc hx=>?_,fun j hj=>?_⟩,?_,?_,by omega,fun op hop=>?_,fun B op hop=>?_,Deaf_other t (by omega) _ ofEvents_g,Deaf_other t (by omega) _ ofEvents_g⟩
   ·by_cases hji:i=j
    ·subst hji
     rw[Array.getElem?_setIfInBounds_self_of_lt (by simpa using hlt)] at hx
     obtain rfl:=Option.some.inj hx
     rw[upd_same,Deaf_own]
     exact hq'
    ·rw[Array.getElem?_setIfInBounds_ne hji,Array.getElem?_map] at hx
     obtain⟨y,hy,rfl⟩:=Option.map_eq_some_iff.1 hx
     have hqj:=hC.old j y hj hjc hy
     rw[woken_quitsD hqj,upd_ne q k (Ne.symm hji),Deaf_other t hji _ ofEvents_g]
     exact hqj
   ·rw[Deaf_other t (g':=i) (by omega) _ ofEvents_g]
    exact hC.above j hj
   ·rw[Array.getElem?_setIfInBounds_ne (by omega),Array.getElem?_map,h0];rfl
   ·rw[Array.getElem?_setIfInBounds_ne (by omega),Array.getElem?_map,hc];rfl
   ·obtain⟨e,he,rfl⟩:=Conc.mem_ofEvents hop;exact⟨touch_mute (hm e he),fun a=>mute_norel (hm e he) a⟩
   ·obtain⟨e,he,rfl⟩:=Conc.mem_ofEvents hop;exact low_mute (hm e he) B
end
section
variable {Wg:Nat}
def Side.J (x:Side Wg)(P:Program)(ty:TypeId)(Low:Nat)(μ:Nat×Nat×Nat×Nat)(a b:Goroutine)(w:World)(s:Trace):Prop:=@JInv x.pl P ty Wg x.C Low x.sh x.vals x.Mine x.AnchW x.Post μ (duo a b w none) s
def Side.acq (x:Side Wg)(P:Program)(ty:TypeId)(Low:Nat)(a b:Goroutine)(w:World)(s:Trace):Prop:=@Acquired x.pl P ty Wg x.C Low x.sh x.vals x.Mine x.Post (duo a b w none) s
end
theorem jinv_jt [Payload] {P:Program}{ty:TypeId}{Wg C Low:Nat} [Shy Wg C] {vals:List Value}{Mine:Loc→Prop}{AnchW:Goroutine→World→Prop}{Post:Value→World→Prop}{μ:Nat×Nat×Nat×Nat}{m:Machine}{s:Trace}
 (h:JInv P ty Wg C Low vals Mine AnchW Post μ m s):∃ p,JT Mine Wg C s p:=by
 cases h with
 |a _ _ _ _ _ p _ _ _ _ _ _ _ _ _ _ _ hB=>exact⟨p,hB.jt⟩
 |b _ _ _ _ _ p _ _ _ _ _ _ _ _ _ _ hB=>exact⟨p,hB.jt⟩
 |c _ _ _ _ _ p _ _ _ _ _ hB=>exact⟨p,hB.jt⟩
 |d _ _ _ _ _ p _ _ _ _ _ hB=>exact⟨p,hB.jt⟩
 |f _ _ _ _ _ p _ _ _ hB=>exact⟨p,hB.jt⟩
 |j _ _ _ _ _ p _ _ _ _ _ _ _ _ _ hB=>exact⟨p,hB.jt⟩
section
variable {P:Program} {ty:TypeId} {Wg Low:Nat} {x:Side Wg} {μ:Nat×Nat×Nat×Nat} {a b:Goroutine} {w:World} {s:Trace}
theorem Side.J_jt (h:x.J P ty Low μ a b w s):∃ p,x.jt s p:=@jinv_jt x.pl P ty Wg x.C Low x.sh x.vals x.Mine x.AnchW x.Post μ _ s h
theorem Side.J_shape (hx:SideOk P ty Wg Low x)(h:x.J P ty Low μ a b w s):awake a∧awake b∧(a.status= .running∨b.status= .running)∧∀ d,x.J P ty Low μ a b (w.at d) s:=by
 obtain⟨a1,b1,w1,sl1,e,h1,h2,h3,h4⟩:=@Go.ConcX.JInv.shape x.pl P ty Wg x.C Low x.sh x.vals x.Mine x.AnchW x.Post hx.hAr μ _ s h
 obtain⟨rfl,rfl,rfl,rfl⟩:=Go.ConcX.duo_inj e
 exact⟨h1,h2,h3,fun d=>h4 d none⟩
theorem Side.J_woken (hx:SideOk P ty Wg Low x)(h:x.J P ty Low μ a b w s)(g g':Goroutine):∃ μ',x.J P ty Low μ' (Conc.woken P g g' w a) (Conc.woken P g g' w b) w s:=by
 obtain⟨a1,b1,w1,sl1,e,μ',h1⟩:=@Go.ConcX.JInv.woken x.pl P ty Wg x.C Low x.sh x.vals x.Mine x.AnchW x.Post hx.hAr μ _ s h g g'
 obtain⟨rfl,rfl,rfl,rfl⟩:=Go.ConcX.duo_inj e
 exact⟨μ',h1⟩
theorem Side.acq_at (h:x.acq P ty Low a b w s)(d:Nat):x.acq P ty Low a b (w.at d) s:=@Go.ConcX.Acquired.at x.pl P ty Wg x.C Low x.sh x.vals x.Mine x.Post a b w none s h d none
theorem Side.J_step0 (hW:Wg<Low)(hx:SideOk P ty Wg Low x)(h:x.J P ty Low μ a b w s)(ha:a.status= .running):
 x.acq P ty Low a b w s∨∃ a' w' es μ',stepG P true a w= .go a' w' es∧Lt4 μ' μ∧x.J P ty Low μ' a' (Conc.woken P a a' w' b) w' (s++MemOp.ofEvents 0 a.frame.fn a.frame.place es):=by
 rcases @Go.ConcX.join_step x.pl P ty Wg x.C Low x.sh x.vals x.Mine x.AnchW x.Post hW hx.hC hx.hCW hx.hAr hx.hAn μ _ s h (runTX P (duo a b (w.at w.drawn) none) 0)
  (fun a2 b2 w2 sl2 e2=>by obtain⟨rfl,rfl,rfl,rfl⟩:=Go.ConcX.duo_inj e2;exact⟨w.drawn,none,.inl ⟨ha,rfl⟩⟩) with hacq|⟨m',ops,μ',hX,hlt,hJ'⟩
 ·exact .inl hacq
 ·rw[duo_eq_crowd] at hX
  obtain⟨g0,g',w',es,hg0,hgo,rfl,rfl⟩:=Go.ConcX.runTX_next hX
  obtain rfl:a=g0:=by simpa using hg0
  have em:crowd ((#[a,b].map (Conc.woken P a g' w')).setIfInBounds 0 g') w' none=duo g' (Conc.woken P a g' w' b) w' none:=by simp[crowd,duo]
  rw[em] at hJ'
  exact .inr ⟨g',w',es,μ',hgo,hlt,hJ'⟩
theorem Side.J_step1 (hW:Wg<Low)(hx:SideOk P ty Wg Low x)(h:x.J P ty Low μ a b w s)(hb:b.status= .running):
 x.acq P ty Low a b w s∨∃ b' w' es μ',stepG P false b w= .go b' w' es∧Lt4 μ' μ∧x.J P ty Low μ' (Conc.woken P b b' w' a) b' w' (s++MemOp.ofEvents 1 b.frame.fn b.frame.place es):=by
 rcases @Go.ConcX.join_step x.pl P ty Wg x.C Low x.sh x.vals x.Mine x.AnchW x.Post hW hx.hC hx.hCW hx.hAr hx.hAn μ _ s h (runTX P (duo a b (w.at w.drawn) none) 1)
  (fun a2 b2 w2 sl2 e2=>by obtain⟨rfl,rfl,rfl,rfl⟩:=Go.ConcX.duo_inj e2;exact⟨w.drawn,none,.inr ⟨hb,rfl⟩⟩) with hacq|⟨m',ops,μ',hX,hlt,hJ'⟩
 ·exact .inl hacq
 ·obtain⟨b',w',es,hgo,rfl,rfl⟩:=@duo_next x.pl P a b (w.at w.drawn) m' ops hX
  exact .inr ⟨b',w',es,μ',hgo,hlt,hJ'⟩
end
section
variable {P:Program} {ty:TypeId} {Q Shun:Loc→Prop} {c ch Wg Low B:Nat} {ro ownG X:Nat→Prop} {x y:Side Wg}
def End3 (P:Program)(ty:TypeId)(Q Shun:Loc→Prop)(c:Nat){Wg:Nat}(Low B:Nat)(ro ownG:Nat→Prop)(x y:Side Wg)(m:Machine)(t:Trace):Prop:=
 ∃ gs w sl q a b s,m=crowd gs w sl∧Crew P c t gs q∧gs[0]? =some a∧gs[c]? =some b∧TI Q Shun c ownG ro B t∧GL c Wg s t∧(x.acq P ty Low a b w s∨y.acq P ty Low a b w s)
theorem stage3 (hY:LayW Q Shun c ch Wg Low ro X)(hxo:SideOk P ty Wg Low x)(hyo:SideOk P ty Wg Low y)(hxy:x.C≠y.C)(hB:Low≤B)(hown:∀ b,ownG b→Low≤b):
 ∀ (M:Nat×(Nat×Nat×Nat×Nat)) (ν:Nat×Nat×Nat×Nat) (gs:Array Goroutine) (w:World) (sl:Option (Nat×Nat)) (t:Trace) (q:Nat→Nat) (a b:Goroutine) (s₁ s₂:Trace),sumTo c q=M.1→Crew P c t gs q→gs[0]? =some a→gs[c]? =some b→TI Q Shun c ownG ro B t→
   x.J P ty Low M.2 a b w s₁→y.J P ty Low ν a b w s₂→GL c Wg s₁ t→GL c Wg s₂ t→Reach P (crowd gs w sl) t (End3 P ty Q Shun c Low B ro ownG x y):=by
 intro M
 induction M using ltG_wf.induction with
 |_ M ih=>
 intro ν gs w sl t q a b s₁ s₂ hM hC h0 hc hT hx hy hg1 hg2
 obtain⟨awa,awb,hrun,hxat⟩:=Side.J_shape hxo hx
 obtain⟨_,_,_,hyat⟩:=Side.J_shape hyo hy
 have hQG:∀ l,Q l→¬ InB ownG l∧¬ InB ro l:=fun l hl=>⟨fun hi=>inB_ge hown hi (hY.shun l (hY.QS l hl)),fun hi=>hY.rS l hi (hY.QS l hl)⟩
 obtain⟨d,sl',hcase⟩:=crew_cases2 (w:=w) (sl:=sl) hC h0 hc awa awb hrun
 have hx1:=hxat d
 have hy1:=hyat d
 rcases hcase with⟨hr,hst⟩|⟨hr,hst⟩|⟨gs',ops,q',g,g',hst,hC',h0',hc',hlt,o1,o2,o3,o4⟩
 ·rcases Side.J_step0 hY.wlt hxo hx1 hr with hacq|⟨a',w',es,μ',hgo,hl,hx'⟩
  ·exact .here ⟨gs,w,sl,q,a,b,s₁,rfl,hC,h0,hc,hT,hg1,.inl (Side.acq_at hacq w.drawn)⟩
  rcases Side.J_step0 hY.wlt hyo hy1 hr with hacq|⟨a2,w2,es2,ν',hgo2,_,hy'⟩
  ·exact .here ⟨gs,w,sl,q,a,b,s₂,rfl,hC,h0,hc,hT,hg2,.inr (Side.acq_at hacq w.drawn)⟩
  rw[hgo] at hgo2
  obtain⟨rfl,rfl,rfl⟩:a'=a2∧w'=w2∧es=es2:=by simpa using hgo2
  obtain⟨p1,j1⟩:=Side.J_jt hx'
  obtain⟨p2,j2⟩:=Side.J_jt hy'
  have hev:=two_ev hxo hyo hxy j1 j2
  have hq2:∀ e∈es,∀ x,(MemAct.ofEvent e).touch? =some x→∃ ad,x.loc= .cell ad∧ad.block=Wg:=fun e he x hx=>let⟨ad,h1,h2,_⟩:=(hev e he).1 x hx;⟨ad,h1,h2⟩
  obtain⟨k1,k2⟩:=ops_two (Q:=Q) (g':=0) (fn:=a.frame.fn) (pos:=a.frame.place) hY.wQ (fun _=>rfl) hev
  obtain⟨gs',e1,e2,e3,e4⟩:=crew_go0 (sl:=sl') hC h0 hc hgo
  exact Reach.step (hst.trans e1) (ih (M.1,μ') (.right _ hl) ν' gs' w' sl' _ q a' _ _ _ hM e2 e3 e4 (hT.appQ (.inl rfl) k1 (fun op hop=>MemAct.low_mono hB (k2 op hop)) hY.QS hQG) hx' hy' (hg1.step hY.c0 (.inl rfl) (by simp) _ _ es (Side.norel j1) hq2) (hg2.step hY.c0 (.inl rfl) (by simp) _ _ es (Side.norel j2) hq2))
 ·rcases Side.J_step1 hY.wlt hxo hx1 hr with hacq|⟨a',w',es,μ',hgo,hl,hx'⟩
  ·exact .here ⟨gs,w,sl,q,a,b,s₁,rfl,hC,h0,hc,hT,hg1,.inl (Side.acq_at hacq w.drawn)⟩
  rcases Side.J_step1 hY.wlt hyo hy1 hr with hacq|⟨a2,w2,es2,ν',hgo2,_,hy'⟩
  ·exact .here ⟨gs,w,sl,q,a,b,s₂,rfl,hC,h0,hc,hT,hg2,.inr (Side.acq_at hacq w.drawn)⟩
  rw[hgo] at hgo2
  obtain⟨rfl,rfl,rfl⟩:a'=a2∧w'=w2∧es=es2:=by simpa using hgo2
  obtain⟨p1,j1⟩:=Side.J_jt hx'
  obtain⟨p2,j2⟩:=Side.J_jt hy'
  have hev:=two_ev hxo hyo hxy j1 j2
  have hq2:∀ e∈es,∀ x,(MemAct.ofEvent e).touch? =some x→∃ ad,x.loc= .cell ad∧ad.block=Wg:=fun e he x hx=>let⟨ad,h1,h2,_⟩:=(hev e he).1 x hx;⟨ad,h1,h2⟩
  obtain⟨k1,k2⟩:=ops_two (Q:=Q) (g':=c) (fn:=b.frame.fn) (pos:=b.frame.place) hY.wQ (by simp) hev
  obtain⟨gs',e1,e2,e3,e4⟩:=crew_goC (sl:=sl') hC h0 hc hgo
  exact Reach.step (hst.trans e1) (ih (M.1,μ') (.right _ hl) ν' gs' w' sl' _ q _ a' _ _ hM e2 e3 e4 (hT.appQ (.inr rfl) k1 (fun op hop=>MemAct.low_mono hB (k2 op hop)) hY.QS hQG) hx' hy' (hg1.step hY.c0 (.inr rfl) (by simp) _ _ es (Side.norel j1) hq2) (hg2.step hY.c0 (.inr rfl) (by simp) _ _ es (Side.norel j2) hq2))
 ·obtain⟨μ',hx'⟩:=Side.J_woken hxo hx1 g g'
  obtain⟨ν',hy'⟩:=Side.J_woken hyo hy1 g g'
  exact Reach.step hst (ih (sumTo c q',μ') (.left _ _ (by omega)) ν' gs' (w.at d) sl' _ q' _ _ s₁ s₂ rfl hC' h0' hc' (hT.still (fun op hop=>(o1 op hop).1) (o2 _)) hx' hy' (hg1.other (fun op hop=>⟨(o1 op hop).2 _,fun _=>(o1 op hop).1⟩) o3 o4) (hg2.other (fun op hop=>⟨(o1 op hop).2 _,fun _=>(o1 op hop).1⟩) o3 o4))
theorem past_of_acq {t:Trace}(hQS:∀ a:Addr,a.block=Wg→Shun (.cell a))(hT:TI Q Shun c ownG ro B t)(hA:AcqT c Wg t)(hd:Deaf t 0=0):Past Shun B t:=by
 obtain⟨R,K,hR,hK,hg,hh,hRK⟩:=hA
 have edge:HappensBefore t R K:= .single (.inr ⟨.marked hRK (.inr hR.act) hK (fun k h1 _=>hR.norel k h1),hR.heard,hh⟩)
 obtain⟨z,hz,hzg⟩:=Option.map_eq_some_iff.1 hg
 have before:∀ i,t.g? i=some c→i≤R→HappensBefore t i K:=fun i hi hle=>by
  rcases Nat.lt_or_ge i R with hlt|hge
  ·exact .trans (.single (.inl ⟨hlt,c,hi,hR.g⟩)) edge
  ·obtain rfl:i=R:=by omega
   exact edge
 refine⟨hT.clean,fun i a ha hm=>?_,fun i g hgi h0 hcn=>?_,hd,hT.seen⟩
 ·rcases hT.known i a ha hm with h|h|⟨h,_⟩
  ·exact .inl h
  ·exact .inr h
  ·rcases Nat.lt_or_ge R i with hlt|hle
   ·obtain⟨ad,h1,h2⟩:=hR.late i a hlt h ha
    refine .inr ⟨by rw[h1];exact hQS ad h2,?_⟩
    by_cases hk:a.kind= .atomic
    ·exact hk
    ·exact absurd ⟨a,ha,hm,.inl hk⟩ (hR.after i hlt h)
   ·exact .inl ⟨K,z,hz,hzg,.inr (before i h hle)⟩
 ·by_cases hgc:g=c
  ·subst hgc
   exact⟨K,hg,before i hgi (Nat.le_of_not_lt fun hlt=>hR.after i hlt hgi hcn)⟩
  ·exact hT.over i g hgi h0 hgc hcn
theorem evL_side (hxo:SideOk P ty Wg Low x)(hB:Low≤B)(hCS:∀ a:Addr,a.block=x.C→¬ Shun (.cell a)){e:Event}(h:@Go.ConcX.EvJ x.Mine Wg x.C x.sh e):EvL Shun B e:=by
 obtain⟨h1,h2,h3⟩:=h
 obtain⟨_,ht,_,hk⟩:=h1 0 ""
 obtain⟨k1,k2⟩:=hxo.ok _ hk
 refine⟨fun z hz hs=>?_,h2,h3,MemAct.low_mono hB k2⟩
 obtain⟨a,ha,hb|hb⟩:=k1 z hz
 ·exact(ht z hz).2.1 (.inl ⟨a,ha,hb⟩)
 ·rw[ha] at hs;exact absurd hs (hCS a hb)
def End4 (P:Program)(Shun:Loc→Prop)(c:Nat){Wg:Nat}(B:Nat)(x y:Side Wg)(m:Machine)(t:Trace):Prop:=
 ∃ gs w sl q a,m=crowd gs w sl∧gs.size=c+1∧gs[0]? =some a∧a.status= .running∧(x.sh.stop a w∨y.sh.stop a w)∧Leavers P t gs q∧Past Shun B t
theorem side_end {x:Side Wg}(hxo:SideOk P ty Wg Low x)(hB:Low≤B)(hQS:∀ a:Addr,a.block=Wg→Shun (.cell a))(hCS:∀ a:Addr,a.block=x.C→¬ Shun (.cell a)){gs:Array Goroutine}{w:World}{sl:Option (Nat×Nat)}{q:Nat→Nat}{a b:Goroutine}{s t:Trace}
 (hC:Crew P c t gs q)(h0:gs[0]? =some a)(hc:gs[c]? =some b)(hT:TI Q Shun c ownG ro B t)(hg:GL c Wg s t)(hA:x.acq P ty Low a b w s):
 Reach P (crowd gs w sl) t fun m t=>∃ gs w sl q a,m=crowd gs w sl∧gs.size=c+1∧gs[0]? =some a∧a.status= .running∧x.sh.stop a w∧Leavers P t gs q∧Past Shun B t:=by
 letI:=x.pl
 letI:=x.sh
 obtain⟨a1,b1,w1,sl1,p,d1,k,mp,r,vs,e,hBase,hG,hAc,hq⟩:=hA
 obtain⟨rfl,rfl,rfl,rfl⟩:=Go.ConcX.duo_inj e
 have hP:=past_of_acq hQS hT (hg.acq hAc) (hg.d0.trans hBase.deaf0)
 have hL:Leavers P t gs (upd q c k):=by
  refine⟨fun i g hi hgi=>?_,fun j hj=>hC.above j (by have:=hC.size;omega)⟩
  rcases hC.get hgi with rfl|rfl|⟨h1,h2⟩
  ·omega
  ·rw[hc] at hgi
   obtain rfl:=Option.some.inj hgi
   rw[upd_same,hg.dc,hBase.deaf1]
   exact hq
  ·rw[upd_ne q k (by omega)]
   exact hC.old i g h1 h2 hgi
 obtain⟨N,gs',a',w',sl',T',q',hr,hs',h0',hS,hL',hP''⟩:=walk_beside (P:=P) (fun _ _ es hD e he=>evL_side hxo hB hCS (hD.2 e he)) _ mp gs a w sl t _ (Nat.le_refl _) h0 hL hP hG
 exact⟨N,_,_,hr,gs',w',sl',q',a',rfl,hs'.trans hC.size,h0',hS.1,hS.2,hL',hP''⟩
theorem stage4 (hxo:SideOk P ty Wg Low x)(hyo:SideOk P ty Wg Low y)(hB:Low≤B)(hQS:∀ a:Addr,a.block=Wg→Shun (.cell a))(hxS:∀ a:Addr,a.block=x.C→¬ Shun (.cell a))(hyS:∀ a:Addr,a.block=y.C→¬ Shun (.cell a)){m:Machine}{t:Trace}(h:End3 P ty Q Shun c Low B ro ownG x y m t):
 Reach P m t (End4 P Shun c B x y):=by
 obtain⟨gs,w,sl,q,a,b,s,rfl,hC,h0,hc,hT,hg,hA|hA⟩:=h
 ·exact(side_end hxo hB hQS hxS hC h0 hc hT hg hA).mono fun m t ⟨gs,w,sl,q,a,e,h1,h2,h3,h4,h5,h6⟩=>⟨gs,w,sl,q,a,e,h1,h2,h3,.inl h4,h5,h6⟩
 ·exact(side_end hyo hB hQS hyS hC h0 hc hT hg hA).mono fun m t ⟨gs,w,sl,q,a,e,h1,h2,h3,h4,h5,h6⟩=>⟨gs,w,sl,q,a,e,h1,h2,h3,.inr h4,h5,h6⟩
end
end Go.Ren
set_option linter.unusedSectionVars false
namespace Go.Ren
open Go Go.Conc
open Go.ConcX (Payload Shy stA smA Base CA JInv RCa RCd DCs AtR0 RPa DPi AtKd PA KK WgAt ChanAt Full Aside2 runTX JT AtW1)
def okR (Wg C Low:Nat)(act:MemAct):Prop:=(∀ t,act.touch? =some t→∃ a,t.loc= .cell a∧(a.block=Wg∨a.block=C))∧act.low Low
@[reducible] def shyR (Wg C Low:Nat) (St:Goroutine→World→Prop) (hW:Wg<Low) (hC:C<Low):Shy Wg C where
  ok:=okR Wg C Low
  atomicWg a wr h:=⟨fun x hx=>by simp only[MemAct.touch?,Option.some.injEq] at hx;subst hx;exact⟨a,rfl,.inl h⟩,by show a.block<Low;omega⟩
  readWg a h:=⟨fun x hx=>by simp only[MemAct.touch?,Option.some.injEq] at hx;subst hx;exact⟨a,rfl,.inl h⟩,by show a.block<Low;omega⟩
  writeWg a h:=⟨fun x hx=>by simp only[MemAct.touch?,Option.some.injEq] at hx;subst hx;exact⟨a,rfl,.inl h⟩,by show a.block<Low;omega⟩
  theirs a wr h:=⟨fun x hx=>by simp only[MemAct.touch?,Option.some.injEq] at hx;subst hx;exact⟨a,rfl,.inr h⟩,by show a.block<Low;omega⟩
  disable:=⟨fun x hx=>(by cases hx),trivial⟩
  enable:=⟨fun x hx=>(by cases hx),trivial⟩
  relMerge:=⟨fun x hx=>(by cases hx),hW⟩
  acquire:=⟨fun x hx=>(by cases hx),hW⟩
  go1:=⟨fun x hx=>(by cases hx),trivial⟩
  start:=⟨fun x hx=>(by cases hx),trivial⟩
  stop:=St
structure Pay (Wg Low:Nat) where
 pl:Payload
 C:Nat
 vals:List Value
 hC:C<Low
 hCW:C≠Wg
 hW:Wg<Low
def none3:Loc→Prop:=fun _=>False
def Pay.side {Wg Low:Nat}(k:Pay Wg Low)(St:Goroutine→World→Prop)(A:Goroutine→World→Prop):Side Wg:=⟨k.pl,k.C,shyR Wg k.C Low St k.hW k.hC,k.vals,none3,A,fun _ _=>True⟩
def noSt:Goroutine→World→Prop:=fun _ _=>False
section
variable {P:Program} {ty:TypeId} {Wg Low:Nat} (k:Pay Wg Low)
theorem half_shift {St A St' A':Goroutine→World→Prop}{μ:Nat×Nat}{b:Goroutine}{w:World}{s:Trace}(h:(k.side St A).half P ty Low μ b w s):(k.side St' A').half P ty Low μ b w s:=by
 change @Half k.pl P ty Wg k.C Low (shyR Wg k.C Low St' k.hW k.hC) k.vals none3 μ b w s
 replace h:@Half k.pl P ty Wg k.C Low (shyR Wg k.C Low St k.hW k.hC) k.vals none3 μ b w s:=h
 rcases h with⟨p,d1,rc,mc,rel,cl,sent,vs,e,hs,⟨b1,b2,⟨j1,j2,j3,j4,j5,j6,j7⟩,b4,b5,b6,b7⟩,hc⟩|⟨p,d1,q,e,⟨b1,b2,⟨j1,j2,j3,j4,j5,j6,j7⟩,b4,b5,b6,b7⟩,hq⟩
 ·letI:=k.pl
  letI:=shyR Wg k.C Low St' k.hW k.hC
  refine .inl ⟨p,d1,rc,mc,rel,cl,sent,vs,e,hs,⟨b1,b2,⟨j1,j2,j3,j4,j5,j6,j7⟩,b4,b5,b6,b7⟩,?_⟩
  cases hc with
  |r0 h=>exact .r0 h
  |k1 h=>exact .k1 h
  |d1 h=>exact .d1 h
 ·letI:=k.pl
  letI:=shyR Wg k.C Low St' k.hW k.hC
  exact .inr ⟨p,d1,q,e,⟨b1,b2,⟨j1,j2,j3,j4,j5,j6,j7⟩,b4,b5,b6,b7⟩,hq⟩
theorem sideOk0 {St:Goroutine→World→Prop}:SideOk P ty Wg Low (k.side St noSt):=⟨k.hC,k.hCW,fun _ _ h=>h.elim,fun _ _ h=>h.elim,fun _ h=>h⟩
def Pay.fin (k:Pay Wg Low)(P:Program)(ty:TypeId)(b:Goroutine)(w:World):Prop:=
 letI:=k.pl;letI:=shyR Wg k.C Low noSt k.hW k.hC;∃ n,Goes P false (RCa ty Wg Low) (DCs none3 Wg k.C) (AtR0 P ty Wg k.C Low k.vals) n b w
def Pay.wait (k:Pay Wg Low)(P:Program)(ty:TypeId)(St A:Goroutine→World→Prop)(a:Goroutine)(w:World):Prop:=
 letI:=k.pl;letI:=shyR Wg k.C Low St k.hW k.hC;SideOk P ty Wg Low (k.side St A)∧∃ m,Goes P true (RPa ty Wg k.C k.vals) (DPi none3 Wg k.C Low) (AtKd P ty Wg k.C Low k.vals none3 A) m a w
end
section
variable {P:Program} {ty:TypeId} {Q Shun:Loc→Prop} {c ch Wg Low:Nat} {ro:Nat→Prop} {z:Value} {x y:Pay Wg Low} {After:(Nat→Prop)→World→Goroutine→World→Prop}
def Pay.kpa {Wg Low:Nat}(k:Pay Wg Low)(ty:TypeId)(w:World):Prop:=letI:=k.pl;letI:=shyR Wg k.C Low noSt k.hW k.hC;Go.ConcX.KPa ty Wg k.C k.vals w
theorem half_kpa {k:Pay Wg Low}{St A:Goroutine→World→Prop}{μ:Nat×Nat}{b:Goroutine}{w:World}{s:Trace}(h:(k.side St A).half P ty Low μ b w s):k.kpa ty w:=by
 replace h:@Half k.pl P ty Wg k.C Low (shyR Wg k.C Low St k.hW k.hC) k.vals none3 μ b w s:=h
 rcases h with⟨p,d1,rc,mc,rel,cl,sent,vs,e,hs,⟨b1,b2,b3,b4,b5,b6,b7⟩,hc⟩|⟨p,d1,q,e,⟨b1,b2,b3,b4,b5,b6,b7⟩,hq⟩
 ·exact .inl b1
 ·exact .inr ⟨b1,b2⟩
def FinM (P:Program)(ty:TypeId){Wg Low:Nat}(x y:Pay Wg Low)(After:(Nat→Prop)→World→Goroutine→World→Prop)(own:Nat→Prop)(a:Goroutine)(w:World):Prop:=
 x.kpa ty w→y.kpa ty w→∃ St Ax Ay,x.wait P ty St Ax a w∧y.wait P ty St Ay a w∧∀ a' w',St a' w'→w.heap.size≤w'.heap.size∧After own w a' w'
def FinC (P:Program)(ty:TypeId){Wg Low:Nat}(x y:Pay Wg Low)(_own:Nat→Prop)(b:Goroutine)(w:World):Prop:=WgAt ty Wg w KK 0→x.fin P ty b w∧y.fin P ty b w
def Joined (P:Program)(Shun:Loc→Prop)(c ch Wg Low:Nat)(After:(Nat→Prop)→World→Goroutine→World→Prop)(w0:World)(m:Machine)(t:Trace):Prop:=
 ∃ gs w' w sl q a own,m=crowd gs w sl∧gs.size=c+1∧gs[0]? =some a∧a.status= .running∧After own w' a w∧w'.heap.size≤w.heap.size∧Leavers P t gs q∧Past Shun w.heap.size t∧
   (∀ b,own b→Low≤b∧b<w'.heap.size)∧Low≤w'.heap.size∧(∀ b,b<Low→b≠ch→b≠Wg→w'.heap[b]? =w0.heap[b]?)∧w'.tape=w0.tape∧w'.os=w0.os∧w'.output=w0.output
theorem fork_join (hY:LayW Q Shun c ch Wg Low ro (fun b=>b=ch∨b=Wg))(hxy:x.C≠y.C)(hxS:∀ a:Addr,a.block=x.C→¬ Shun (.cell a))(hyS:∀ a:Addr,a.block=y.C→¬ Shun (.cell a))
 {vs:List Value}{gs:Array Goroutine}{w0:World}{sl:Option (Nat×Nat)}{t:Trace}{q:Nat→Nat}{ownM ownG:Nat→Prop}{a b:Goroutine}(hC:Crew P c t gs q)(h0:gs[0]? =some a)(hc:gs[c]? =some b)
 (hM:RecvsW P ro ch z (FinM P ty x y After) vs ownM a w0)(hG:SendsW P ro ch (FinC P ty x y) vs ownG b w0)(hSt:St1 Q Shun c ch Low ro ownM ownG (fun b=>b=ch) false w0 w0 t)(hw:WgAt ty Wg w0 KK 0):
 Reach P (crowd gs w0 sl) t (Joined P Shun c ch Wg Low After w0):=by
 refine(stage1 hY.toLay vs gs w0 sl t q ownM ownG a b hC h0 hc hM hG hSt).bind ?_
 rintro m t ⟨gs,w,sl,q,ownM,ownG,a,b,t₁,fn,pos,rfl,hC,h0,hc,hb,hM,hfc,hSt,_,hd⟩
 have hw1:WgAt ty Wg w KK 0:=hw.of_block (hSt.keep Wg hY.wlt hY.wch)
 obtain⟨⟨n₁,hG1⟩,⟨n₂,hG2⟩⟩:=hfc hw1
 have hx0:(x.side noSt noSt).half P ty Low (7,n₁) b w gst:=@Half.init x.pl P ty Wg x.C Low (shyR Wg x.C Low noSt x.hW x.hC) x.vals none3 b w n₁ hw1 hG1
 have hy0:(y.side noSt noSt).half P ty Low (7,n₂) b w gst:=@Half.init y.pl P ty Wg y.C Low (shyR Wg y.C Low noSt y.hW y.hC) y.vals none3 b w n₂ hw1 hG2
 refine(stage2 (x:=x.side noSt noSt) (y:=y.side noSt noSt) hY (sideOk0 x) (sideOk0 y) hxy (recvsW_iff.1 hM) (7,n₁) (7,n₂) ownG b gst gst gs w sl t q hC h0 hc (Rely.refl _ _ _) (hSt.weaken fun b hb=> .inl hb) hx0 hy0 (GL.init hSt.d0 hd) (GL.init hSt.d0 hd)).bind ?_
 rintro m t ⟨gs,w,sl,q,ownM,ownG,a,b,s₁,s₂,μ,ν,rfl,hC,h0,hc,hfm,hSt,hx,hy,hg1,hg2⟩
 obtain⟨St,Ax,Ay,⟨hxo,m₁,hk1⟩,⟨hyo,m₂,hk2⟩,hfin⟩:=hfm (half_kpa hx) (half_kpa hy)
 obtain⟨μ',hJx⟩:=@Half.inv x.pl P ty Wg x.C Low (shyR Wg x.C Low St x.hW x.hC) x.vals none3 Ax (fun _ _=>True) μ a b w s₁ none (half_shift x (St':=St) (A':=Ax) hx) m₁ hk1
 obtain⟨ν',hJy⟩:=@Half.inv y.pl P ty Wg y.C Low (shyR Wg y.C Low St y.hW y.hC) y.vals none3 Ay (fun _ _=>True) ν a b w s₂ none (half_shift y (St':=St) (A':=Ay) hy) m₂ hk2
 refine(stage3 (x:=x.side St Ax) (y:=y.side St Ay) hY hxo hyo hxy hSt.big (fun b hb=>(hSt.glt b hb).1) (Go.ConcN.sumTo c q,μ') ν' gs w sl t q a b s₁ s₂ rfl hC h0 hc hSt.ti hJx hJy hg1 hg2).bind ?_
 intro m t h3
 refine(stage4 hxo hyo hSt.big (fun a ha=>hY.QS _ (hY.wQ a ha)) hxS hyS h3).mono ?_
 rintro m t ⟨gs,w',sl,q,a,rfl,h1,h2,h3,h4,h5,h6⟩
 have h4':St a w':=h4.elim id id
 obtain⟨k1,k2⟩:=hfin a w' h4'
 exact⟨gs,w,w',sl,q,a,ownM,rfl,h1,h2,h3,k2,k1,h5,h6.mono k1,hSt.mlt,hSt.big,fun b e1 e2 e3=>hSt.keep b e1 (fun e=>e.elim e2 e3),hSt.tape,hSt.os,hSt.output⟩
end
end Go.Ren
namespace Go.Ren
open Go Go.Proofs Go.Conc.Lib
abbrev linkz:WgLink:={ add:=68,done:=70,wait:=72,relMerge:=107,disable:=108,enable:=109,inBubble:=110,associate:=111,fatal:=112,uOr:=113,uAdd:=114,raceRead:=115,uLoad:=116,uStore:=117,disassociate:=118,semrelease:=119,acquire:=122,isAssociated:=123,uCas:=124,raceWrite:=125,semacquire:=126,orU64:=164,addU64:=165,loadU64:=166,storeU64:=167,casU64:=173,tWgP:=194,tUP:=196,tAssoc:=197,tWg:=142,tAU:=139,tU64:=137,tUint:=200,tU32:=140,tPU32:=201,tPAU:=240,tPU64:=242,tNoCopy:=134,tANoCopy:=135,tAlign64:=136 }
theorem wz_add:Tryz.prog.funcs[68]? =some (addFn linkz):=by kernel_rfl
theorem wz_done:Tryz.prog.funcs[70]? =some (doneFn linkz):=by kernel_rfl
theorem wz_wait:Tryz.prog.funcs[72]? =some (waitFn linkz):=by kernel_rfl
theorem wgz:WgLib Tryz.prog linkz:=by
 refine⟨wz_add,wz_done,wz_wait,?_,?_,?_,?_,?_,?_,?_,?_,?_,?_,?_,?_,?_,?_,?_,?_,?_,?_,?_,?_,?_,?_,?_,
  ?_,?_,?_,?_,?_,?_,?_,?_,?_,?_,?_,?_,?_,?_,?_,?_,?_,?_,?_,?_,?_,?_,?_,?_,?_,?_,?_,?_,?_,?_,?_,?_,?_,?_,?_,?_,?_,?_,?_,?_,?_,?_,?_,?_,?_,?_,?_,?_,?_,?_,?_,?_,?_,?_,?_,?_,?_,?_,?_,?_,?_,?_,?_,?_,?_,?_,?_,?_,?_,?_,?_,?_,?_,?_,?_,?_,?_,?_,?_,?_,?_,?_,?_,?_,?_,?_,?_⟩
 all_goals first
  |kernel_rfl
  |(intro w;kernel_rfl)
end Go.Ren
namespace Go.Ren
open Go Go.Conc
variable {P:Program} {main:Bool} {b:Frame} {a:Act} {k:List Item} {cs:List Frame} {w:World}
def dclose (ch:Value)(ty rt:TypeId)(bs:Array Bool):Deferred:={ target:= .builtin .close #[ty] rt bs,args:=#[ch] }
theorem stepG_defer_close {ops:Array Oper}{i:Nat}{rest:List Nat}{o:Oper}{x:Tmp}{ty:TypeId}(ho:ops[i]? =some o)(hw:Region.wanted o (yielded ops a.tmps)=true)(hk:b.kind≠ .early)
 (hop:o.op= .defer { callee:= .builtin .close,args:=#[.tmp x],argTypes:=#[ty] }):
 stepG P main (G (b.at a (.inRegion ops (i::rest)::k)) cs) w= .go (G (b.at (Act.put ⟨a.tmps,dclose (a.eval (.tmp x)) ty o.type #[false]::a.defers⟩ o.dst undef) (.inRegion ops rest::k)) cs) w #[]:=by
 have hr:(execOp a.eval o).run P w= .ok (.defer (dclose (a.eval (.tmp x)) ty o.type #[false])) w:=by
  unfold execOp
  simp[hop,resolve,dclose]
 have he:(execOp a.eval o).events P w #[]=#[]:=by
  unfold execOp
  simp[hop,resolve]
 have hfin:(b.at ⟨a.tmps,dclose (a.eval (.tmp x)) ty o.type #[false]::a.defers⟩ (.inRegion ops (i::rest)::k)).finish undef=b.at (Act.put ⟨a.tmps,dclose (a.eval (.tmp x)) ty o.type #[false]::a.defers⟩ o.dst undef) (.inRegion ops rest::k):=by rw[Frame.finish_at,ho];rfl
 have hk':(b.kind==CallKind.early)=false:=by simpa using hk
 rw[stepG_oper ho hw,←hfin]
 simp[stepG.apply,hr,he,G,Frame.at,hk',GStep.after,seen_none]
theorem stepG_unwind_close {todo:List Item}{ds:List Deferred}{c s r:Nat}{tm:Bool}{ty rt:TypeId}{bs:Array Bool}(hd:a.defers=dclose (.chan (some c)) ty rt bs::ds)(hc:w.heap[c]? =some (.chan 0 #[] false s r tm))(hq:(P.funcs[b.fn]?).any (·.norace)=false):
 stepG P main (G { b.at a todo with mode:= .returning } cs) w= .go (G { b.at ⟨a.tmps,ds⟩ todo with mode:= .returning } cs) (w.setChan c 0 #[] true s r tm) (closeEv c):=by
 have h1:(builtin .close #[ty] rt bs #[.chan (some c)]).run P w= .ok (.value (.tuple #[])) (w.setChan c 0 #[] true s r tm):=by
  unfold builtin
  simp[go_sem,run_close_open _ _ hc,World.setChan]
 have h2:(builtin .close #[ty] rt bs #[.chan (some c)]).events P w #[]=closeEv c:=by
  unfold builtin
  simp[go_sem,events_close_open _ _ hc,closeEv]
 have h3:seen P b.fn ((builtin .close #[ty] rt bs #[.chan (some c)]).events P w #[])=closeEv c:=by
  rw[h2]
  exact seen_eq hq (by intro e he f;simp[closeEv] at he;rcases he with rfl|rfl<;>simp)
 simp[G,stepG,unwind,callDeferred,Frame.at,hd,dclose,invoke,h1,GStep.after] at h3 ⊢
 exact h3
end Go.Ren
namespace Go.Ren
open Go
section
variable {P:Program} {ρ:Rn}
theorem e_xloadBytes:∀ (n:Nat) (a:Addr) (acc:ByteArray),Eqv P ρ Eq (Extern.Bytes.loadBytes a n acc) (Extern.Bytes.loadBytes (ra ρ a) n acc)
 |0,a,acc=>Eqv.pure rfl
 |n+1,a,acc=>by
  unfold Extern.Bytes.loadBytes
  refine Eqv.bind (e_load a) ?_
  rintro v _ rfl
  cases v with
  |int k b=>
   cases k with
   |u8=>rw[rv];simp only;rw[add_ra];exact e_xloadBytes n (a.add 1) _
   |_=>exact Eqv.stuck _
  |_=>exact Eqv.stuck _
theorem e_bytesOf (v:Value):Eqv P ρ Eq (Extern.Bytes.bytesOf v) (Extern.Bytes.bytesOf (rv ρ v)):=by
 cases v with
 |string s=>rw[rv];exact Eqv.pure rfl
 |slice a l c=>
  cases a with
  |none=>rw[rv];exact Eqv.pure rfl
  |some a=>rw[rv];exact e_xloadBytes l a _
 |_=>exact Eqv.stuck _
theorem e_asByte (v:Value):Eqv P ρ Eq (Extern.Bytes.asByte v) (Extern.Bytes.asByte (rv ρ v)):=by
 cases v with
 |int k b=>
  rw[rv]
  cases k with
  |u8=>exact Eqv.pure rfl
  |_=>exact Eqv.stuck _
 |_=>exact Eqv.stuck _
theorem vv_int (n:Int):VV ρ (goInt n) (goInt n):=by simp[VV,goInt,rv]
theorem e_indexByte (args:Array Value):Eqv P ρ (VV ρ) (Extern.BytealgIndexByte.indexByte args) (Extern.BytealgIndexByte.indexByte (args.map (rv ρ))):=by
 obtain⟨l⟩:=args
 rcases l with _|⟨b,_|⟨c,_|⟨d,l⟩⟩⟩
 ·exact Eqv.stuck "bytealg.IndexByte: two arguments expected"
 ·exact Eqv.stuck "bytealg.IndexByte: two arguments expected"
 ·have h:∀ b c,Extern.BytealgIndexByte.indexByte #[b,c]=(do
   let b ←Extern.Bytes.bytesOf b
   let c ←Extern.Bytes.asByte c
   match(List.range b.size).find? fun i=>b[i]! ==c with
   |some i=>pure (goInt i)
   |none=>pure (goInt (-1))):=fun _ _=>rfl
  have e:(Array.map (rv ρ) { toList:=[b,c] })=#[rv ρ b,rv ρ c]:=by simp
  rw[e,h,h]
  refine Eqv.bind (e_bytesOf b) ?_
  rintro x _ rfl
  refine Eqv.bind (e_asByte c) ?_
  rintro y _ rfl
  split
  ·exact Eqv.pure (vv_int _)
  ·exact Eqv.pure (vv_int _)
 ·exact Eqv.stuck "bytealg.IndexByte: two arguments expected"
theorem e_same (args:Array Value):Eqv P ρ (VV ρ) (Extern.AbiNoEscape.same args) (Extern.AbiNoEscape.same (args.map (rv ρ))):=by
 obtain⟨l⟩:=args
 rcases l with _|⟨b,_|⟨c,l⟩⟩
 ·exact Eqv.stuck "abi.NoEscape, Escape: one argument expected"
 ·have h:∀ b,Extern.AbiNoEscape.same #[b]=pure b:=fun _=>rfl
  have e:(Array.map (rv ρ) { toList:=[b] })=#[rv ρ b]:=by simp
  rw[e,h,h]
  exact Eqv.pure rfl
 ·exact Eqv.stuck "abi.NoEscape, Escape: one argument expected"
theorem e_maxLen (hx:∀ g,g<P.globals.size→g<ρ.d∨ρ g=g):Eqv P ρ Eq Extern.BytealgIndex.maxLen Extern.BytealgIndex.maxLen:=by
 unfold Extern.BytealgIndex.maxLen globalAddr
 refine Eqv.bind (R:=fun(a b:Addr)=>b=a∧(a.block<ρ.d∨ρ a.block=a.block)) (Eqv.bind e_program ?_) ?_
 ·rintro p p' ⟨rfl,rfl⟩
  split
  ·rename_i g hg
   refine Eqv.pure ?_
   have:=Array.findIdx?_eq_some_iff_getElem.1 hg
   exact⟨rfl,hx g this.1⟩
  ·exact Eqv.stuck _
 ·rintro a b ⟨rfl,h⟩
  refine Eqv.bind (R:=VV ρ) ?_ ?_
  ·rcases h with h|h
   ·exact .inl h
   ·have e:ra ρ b=b:=by unfold ra;rw[h]
    have:=e_load (P:=P) (ρ:=ρ) b
    rwa[e] at this
  ·rintro v _ rfl
   exact e_asInt v
theorem e_xindex (hx:∀ g,g<P.globals.size→g<ρ.d∨ρ g=g)(args:Array Value):Eqv P ρ (VV ρ) (Extern.BytealgIndex.index args) (Extern.BytealgIndex.index (args.map (rv ρ))):=by
 obtain⟨l⟩:=args
 rcases l with _|⟨b,_|⟨c,_|⟨d,l⟩⟩⟩
 ·exact Eqv.stuck "bytealg.Index: two arguments expected"
 ·exact Eqv.stuck "bytealg.Index: two arguments expected"
 ·have h:∀ b c,Extern.BytealgIndex.index #[b,c]=(do
   let a ←Extern.Bytes.bytesOf b
   let b ←Extern.Bytes.bytesOf c
   if b.size<2||(b.size:Int)>(←Extern.BytealgIndex.maxLen) then
    unsupported (.noEntry "extern/internal/bytealg.Index.length")
   if a.size≥2^32-15 then
    unsupported (.noEntry "extern/internal/bytealg.Index: a haystack of 2^32 - 15 bytes or more")
   match(List.range (a.size+1-b.size)).find? fun i=>a.extract i (i+b.size)==b with
   |some i=>pure (goInt i)
   |none=>pure (goInt (-1))):=fun _ _=>rfl
  have e:(Array.map (rv ρ) { toList:=[b,c] })=#[rv ρ b,rv ρ c]:=by simp
  rw[e,h,h]
  refine Eqv.bind (e_bytesOf b) ?_
  rintro x _ rfl
  refine Eqv.bind (e_bytesOf c) ?_
  rintro y _ rfl
  refine Eqv.bind (e_maxLen hx) ?_
  rintro m _ rfl
  dsimp only
  refine Eqv.same_ite (fun _=>?_) (fun _=>?_)
  ·exact trivial
  ·refine Eqv.same_ite (fun _=>?_) (fun _=>?_)
   ·exact trivial
   ·split
    ·exact Eqv.pure (by simp[VV,goInt,rv])
    ·exact Eqv.pure (by simp[VV,goInt,rv])
 ·exact Eqv.stuck "bytealg.Index: two arguments expected"
end
theorem bare_agg {cs:Array Value}(h:∀ x∈cs,Bare x):Bare (.agg cs):=fun ρ=>by
 rw[rv]
 have h':∀ x∈cs,rv ρ x=id x:=fun x hx=>h x hx ρ
 rw[map_congr' h',Array.map_id]
theorem bare_cells {v:Value}(h:Bare v):∀ x∈v.cells,Bare x:=by
 intro x hx
 cases v with
 |agg cs=>
  intro ρ
  have:=h ρ
  rw[rv] at this
  simp only[Value.agg.injEq] at this
  obtain⟨i,hi,rfl⟩:=Array.mem_iff_getElem.1 (show x∈cs from hx)
  have h2:=congrArg (fun a=>a[i]?) this
  simp only[Array.getElem?_map,Array.getElem?_eq_getElem hi,Option.map_some,Option.some.injEq] at h2
  exact h2
 |_=>simp only[Value.cells,List.mem_toArray,List.mem_cons,List.not_mem_nil,or_false] at hx;subst hx;exact h
theorem forIn_inv {α β:Type}(I:β→Prop){f:α→β→Option (ForInStep β)}(hs:∀ a b s,I b→f a b=some s→I s.value):∀ (l:List α) (init r:β),I init→forIn l init f=some r→I r
 |[],init,r,h0,h=>by
  simp only[List.forIn_nil,pure,Option.some.injEq] at h
  exact h▸h0
 |a::l,init,r,h0,h=>by
  simp only[List.forIn_cons,bind,Option.bind_eq_some_iff] at h
  obtain⟨s,h1,h2⟩:=h
  have hI:=hs a init s h0 h1
  cases s with
  |done b=>simp only[pure,Option.some.injEq] at h2;exact h2▸hI
  |yield b=>exact forIn_inv I hs l b r hI h2
theorem reckonStruct_zero {info:TypeId→Option TypeInfo}(hi:∀ t i v,info t=some i→i.zero=some v→Bare v){fs:Array Field}{i:TypeInfo}(h:Made.reckonStruct info fs=some i){v:Value}(hz:i.zero=some v):Bare v:=by
 unfold Made.reckonStruct at h
 simp only[bind,Option.bind_eq_some_iff,pure,←Array.forIn_toList] at h
 obtain⟨a,ha,h⟩:=h
 have key:∀ arr,a.2.2.2.2.2.2.2.1=some arr→∀ x∈arr,Bare x:=by
  refine forIn_inv (fun s=>∀ arr,s.2.2.2.2.2.2.2.1=some arr→∀ x∈arr,Bare x) ?_ _ _ _ ?_ ha
  ·intro f b s hb hf
   simp only[Option.bind_eq_some_iff] at hf
   obtain⟨j,hj,hf⟩:=hf
   have fin:∀ arr,(if b.2.1+j.size>Made.mostCells then none else b.2.2.2.2.2.2.2.1.bind fun y=>j.zero.bind fun z=>some (y++z.cells))=some arr→∀ x∈arr,Bare x:=by
    intro arr harr x hx
    split at harr
    ·cases harr
    ·simp only[Option.bind_eq_some_iff] at harr
     obtain⟨y,hy,z,hz,e⟩:=harr
     cases e
     rcases Array.mem_append.1 hx with h1|h1
     ·exact hb y hy x h1
     ·exact bare_cells (hi _ _ _ hj hz) x h1
   by_cases c1:j.str.isEmpty=true
   ·rw[if_pos c1] at hf;cases hf
   rw[if_neg c1] at hf
   by_cases c2:f.embedded=true
   ·rw[if_pos c2] at hf;cases hf
   rw[if_neg c2] at hf
   by_cases c3:f.tag.isEmpty=true
   ·rw[if_pos c3] at hf
    by_cases c4:j.bytes=0
    ·simp only[Option.bind_some,if_pos c4] at hf;cases hf;exact fin
    ·simp only[Option.bind_some,if_neg c4] at hf;cases hf;exact fin
   ·rw[if_neg c3] at hf
    rw[Option.bind_eq_some_iff] at hf
    obtain⟨tag,_,hf⟩:=hf
    by_cases c4:j.bytes=0
    ·rw[if_pos c4] at hf;cases hf;exact fin
    ·rw[if_neg c4] at hf;cases hf;exact fin
  ·intro arr harr x hx
   simp only[Option.some.injEq] at harr
   subst harr
   simp at hx
 split at h
 all_goals
  cases h
  simp only[Option.map_eq_some_iff] at hz
  obtain⟨arr,harr,rfl⟩:=hz
  exact bare_agg (key arr harr)
theorem reckon_zero {info:TypeId→Option TypeInfo}(hi:∀ t i v,info t=some i→i.zero=some v→Bare v){d:TypeDesc}{i:TypeInfo}(h:Made.reckon info d=some i){v:Value}(hz:i.zero=some v):Bare v:=by
 have w0:∀ (d:TypeDesc) (s:String) (z:Value) (c:Bool) (n:Nat),Bare z→some (Made.word d s z c n)=some i→Bare v:=by
  intro d s z c n hb e
  cases e
  simp only[Made.word] at hz
  cases hz
  exact hb
 unfold Made.reckon at h
 split at h
 ·simp only[bind,Option.bind_eq_some_iff,pure] at h
  obtain⟨j,_,h⟩:=h
  split at h
  ·cases h
  ·split at h
   ·cases h
   ·simp only[Option.bind_eq_some_iff] at h
    obtain⟨s,_,h⟩:=h
    exact w0 _ _ _ _ _ (fun ρ=>by simp[rv]) h
  ·simp only[Option.bind_eq_some_iff] at h
   obtain⟨s,_,h⟩:=h
   exact w0 _ _ _ _ _ (fun ρ=>by simp[rv]) h
 ·simp only[bind,Option.bind_eq_some_iff,pure] at h
  obtain⟨j,_,s,_,h⟩:=h
  exact w0 _ _ _ _ _ (fun ρ=>by simp[rv]) h
 ·simp only[bind,Option.bind_eq_some_iff,pure] at h
  obtain⟨_,_,_,_,_,_,_,_,h⟩:=h
  exact w0 _ _ _ _ _ (fun ρ=>by simp[rv]) h
 ·simp only[bind,Option.bind_eq_some_iff,pure] at h
  obtain⟨_,_,_,_,h⟩:=h
  exact w0 _ _ _ _ _ (fun ρ=>by simp[rv]) h
 ·simp only[bind,Option.bind_eq_some_iff,pure] at h
  obtain⟨_,_,h⟩:=h
  exact w0 _ _ _ _ _ (fun ρ=>by simp[rv]) h
 ·simp only[bind,Option.bind_eq_some_iff,pure] at h
  obtain⟨j,hj,s,_,h⟩:=h
  cases h
  simp only at hz
  split at hz
  ·cases hz
  ·split at hz
   ·cases hz
    exact bare_agg fun x hx=>by simp at hx
   ·simp only[Option.map_eq_some_iff] at hz
    obtain⟨zz,hzz,rfl⟩:=hz
    refine bare_agg fun x hx=>?_
    rw[Array.mem_flatten] at hx
    obtain⟨ys,h1,h2⟩:=hx
    rw[Array.mem_replicate] at h1
    obtain⟨_,rfl⟩:=h1
    exact bare_cells (hi _ _ _ hj hzz) x h2
 ·exact reckonStruct_zero hi h hz
 ·cases h
theorem infoAt_zero {T:Tables}(hT:∀ (t:TypeId) (i:TypeInfo) (v:Value),T.types[t]? =some i→i.zero=some v→Bare v):∀ (n:Nat) (t:TypeId) (i:TypeInfo) (v:Value),Made.infoAt T n t=some i→i.zero=some v→Bare v
 |0,t,i,v,h,_=>by simp[Made.infoAt] at h
 |n+1,t,i,v,h,hz=>by
  unfold Made.infoAt at h
  split at h
  ·exact hT t i v h hz
  ·simp only[Option.bind_eq_some_iff] at h
   obtain⟨d,_,h⟩:=h
   exact reckon_zero (infoAt_zero hT n) h hz
def bare1:Value→Bool
 | .agg cs=>cs.toList.all plainV
 |v=>plainV v
def bare2:Value→Bool
 | .tuple cs=>cs.toList.all bare1
 |v=>bare1 v
def tyB (i:TypeInfo):Bool:=match i.zero with|some v=>bare2 v|none=>true
theorem bare1_bare {v:Value}(h:bare1 v=true):Bare v:=by
 unfold bare1 at h
 split at h
 ·rename_i cs
  rw[List.all_eq_true] at h
  exact bare_agg fun x hx=>plainV_bare (h x (Array.mem_toList_iff.2 hx))
 ·exact plainV_bare h
theorem bare2_bare {v:Value}(h:bare2 v=true):Bare v:=by
 unfold bare2 at h
 split at h
 ·rename_i cs
  rw[List.all_eq_true] at h
  intro ρ
  rw[rv]
  have h':∀ x∈cs,rv ρ x=id x:=fun x hx=>bare1_bare (h x (Array.mem_toList_iff.2 hx)) ρ
  rw[map_congr' h',Array.map_id]
 ·exact bare1_bare h
theorem zero_of {P:Program}(h:P.types.toList.all tyB=true):∀ (t:TypeId) (i:TypeInfo) (v:Value),P.info? t=some i→i.zero=some v→∀ ρ:Rn,rv ρ v=v:=by
 have hT:∀ (t:TypeId) (i:TypeInfo) (v:Value),P.types[t]? =some i→i.zero=some v→Bare v:=by
  intro t i v hi hz
  rw[List.all_eq_true] at h
  have:=h i (Array.mem_toList_iff.2 (Array.mem_of_getElem? hi))
  unfold tyB at this
  rw[hz] at this
  exact bare2_bare this
 intro t i v hi hz
 unfold Tables.info? at hi
 split at hi
 ·exact hT t i v hi hz
 ·exact infoAt_zero hT _ t i v hi hz
end Go.Ren
