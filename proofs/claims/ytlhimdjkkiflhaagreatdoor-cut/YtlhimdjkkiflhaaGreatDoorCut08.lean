import Derived.Test.YtlhimdjkkiflhaaGreatDoorCut07
set_option maxHeartbeats 8000000
set_option maxRecDepth 100000
namespace Go.Ren
open Go Go.Conc
open Go.ConcN (sumTo upd sumTo_upd upd_ne upd_same)
structure NS (Shun:Loc→Prop) (ro own:Nat→Prop) (w:World):Prop where
 NQ:∀b,own b→b<w.heap.size
 DT:∀b,ro b→b<w.heap.size
 qZ:∀l,jR own l∨jR ro l→¬Shun l
 low:∀l,Shun l→l.low w.heap.size
structure Kept (own:Nat→Prop) (w w':World):Prop where
 tape:w'.tape=w.tape
 os:w'.os=w.os
 output:w'.output=w.output
 size:w.heap.size≤w'.heap.size
 block:∀b,b<w.heap.size→¬own b→w'.heap[b]?=w.heap[b]?
theorem Kept.refl (own:Nat→Prop)(w:World):Kept own w w:=⟨rfl,rfl,rfl,zaa _,λ_ _ _=>rfl⟩
theorem fF (ro own:Nat→Prop)(w:World)(d:Nat):bV ro own w (w.at d):=⟨rfl,rfl,rfl,zaa _,λ_ _=>rfl⟩
theorem Kept.step {ro own:Nat→Prop}{w w₁ w₂:World}{es:Array Event}(h:BN ro own w w₁ es)(k:Kept (Grow own w w₁) w₁ w₂):Kept own w w₂:=
 ⟨k.tape.trans h.tape,k.os.trans h.os,k.output.trans h.output,zad h.size k.size,λb hb hn=>by
   have hs:=h.size;rw[k.block b (by omega) λhg=>hg.elim hn λx=>by omega,h.block b hb hn]⟩
section
variable {P:Program}{Shun:Loc→Prop}{ro own:Nat→Prop}{Stop:(Nat→Prop)→Goroutine→World→Prop}
theorem K4 {own:Nat→Prop}{w w':World}{l:Loc}(h:jR (Grow own w w') l)(hl:l.low w.heap.size):jR own l:=by
 cases l with
 |cell a=>exact h.elim id λx=>by have:a.block<w.heap.size:=hl;omega
 |obj r=>exact h.elim id λx=>by have:r<w.heap.size:=hl;omega
 |_=>exact h
theorem NS.grow {w w':World}{es:Array Event}(h:NS Shun ro own w)(hg:BN ro own w w' es):NS Shun ro (Grow own w w') w':=by
 have hs:=hg.size;refine⟨λb hb=>hb.elim (λx=>by have:=h.NQ b x;omega) (·.2),λb hb=>by have:=h.DT b hb;omega,λl hl hS=>?_,λl hl=>Loc.low_mono hs (h.low l hl)⟩;exact h.qZ l (hl.imp (λx=>K4 x (h.low l hS)) id) hS
theorem NS.at {w:World}(h:NS Shun ro own w)(d:Nat):NS Shun ro own (w.at d):=⟨h.NQ,h.DT,h.qZ,h.low⟩
theorem NS.evL {w w':World}{es:Array Event}(h:NS Shun ro own w)(hg:BN ro own w w' es):∀e∈es,EvL Shun w'.heap.size e:=by
 intro e he;have hn:=h.grow hg;have hE:=hg.evs e he;refine⟨λx hx hs=>absurd hs (hn.qZ _ ?_),(nX hE).1,(nX hE).2,Gr hn.NQ hn.DT hE⟩;exact(yP hE x hx).imp id (·.1)
def aay (P:Program)(Shun:Loc→Prop)(ro:Nat→Prop)(Stop:(Nat→Prop)→Goroutine→World→Prop)(n:Nat)(own:Nat→Prop)(w:World)(m:Machine)(t:Trace):Prop:=
 ∃gs own' a' w' sl q,m=crowd gs w' sl∧gs.size=n∧gs[0]?=some a'∧(∀w₁,bV ro own' w' w₁→Stop own' a' w₁)∧Leavers P t gs q∧Past Shun w'.heap.size t∧NS Shun ro own' w'∧(∀b,own b→own' b)∧(∀b,own' b→own b∨w.heap.size≤b)∧Kept own w w'
theorem iK {a:Goroutine}{w:World}(hW:aj P true ro Stop own a w):∀(w₁:World),bV ro own w w₁→∀(gs:Array Goroutine) (sl:Option (Nat×Nat)) (t:Trace) (q:Nat→Nat),gs[0]?=some a→Leavers P t gs q→Past Shun w₁.heap.size t→NS Shun ro own w₁→Reach P (crowd gs w₁ sl) t (aay P Shun ro Stop gs.size own w₁):=by
 induction hW with
 | @stop own a w h=>
   intro w₁ hr gs sl t q h0 hL hP hN;exact .here ⟨gs,own,a,w₁,sl,q,rfl,rfl,h0,λw₂ h₂=>h w₂ (hr.trans h₂),hL,hP,hN,λ_ x=>x,λ_ x=> .inl x,Kept.refl _ _⟩
 | @step own a w nx nw ne hs h1 h2 _ ih=>
   intro w₁ hr gs sl t q h0 hL hP hN;generalize hM:sumTo gs.size q=M
   induction M using Nat.strongRecOn generalizing w₁ gs sl t q with
   |_ M ihM=>
   have Tx:∀g∈gs,awake g:=by
    intro g hg;obtain⟨i,hi,rfl⟩:=zbp.1 hg;rcases zbz i with rfl|jS
    ·have:gs[0]=a:=by simpa[Array.getElem?_eq_getElem hi]using h0
     rw[this];exact awake_of (.inl hs)
    ·exact awake_of ((hL.old i _ jS (zar hi)).status.elim .inl λx=> .inr (.inr x))
   obtain⟨i,g,d,sl',hi,hg,hst⟩:=crowd_pick (P:=P) (w:=w₁) (sl:=sl) Tx ⟨0,a,h0,hs⟩;have gl:bV ro own w (w₁.at d):=hr.trans (fF ro own w₁ d);rcases zbz i with rfl|jS
   ·obtain rfl:g=a:=by rw[h0]at hi;exact(Option.some.inj hi).symm
    have hgo:=h1 _ gl;have NR:=h2 _ gl;have qX:=runT_crowd_go (P:=P) (sl:=sl') (i:=0) hi (show stepG P (0==0) g (w₁.at d)=_ from hgo);have hlt:0<gs.size:=(zae.1 h0).1;have K5:=(hN.at d).grow NR;have Es:=(hP.mono (B':=(nw (w₁.at d)).heap.size) NR.size).own (fn:=g.frame.fn) (pos:=g.frame.place) ((hN.at d).evL NR);refine Reach.step (hst.trans qX) ((ih _ gl _ (bV.refl _ _ _) ((gs.map (woken P g (nx (w₁.at d)) (nw (w₁.at d)))).setIfInBounds 0 (nx (w₁.at d))) sl' _ q (by simp[hlt]) ⟨λj x hj hx=>?_,λj hj=>?_⟩ Es K5).mono ?_)
    ·rw[zan (by omega),zal]at hx;obtain⟨y,hy,rfl⟩:=zam.1 hx;have hq:=hL.old j y hj hy;rw[woken_quitsD hq,Deaf_other t (by omega) _ ofEvents_g];exact hq
    ·rw[Deaf_other t (g':=0) (by simp at hj;omega) _ ofEvents_g];exact hL.above j (by simpa using hj)
    ·rintro m t' ⟨gs',own',a',w',TC,q',e1,e2,e3,e4,e5,e6,e7,e8,e9,K6⟩;have hsz:=NR.size;exact⟨gs',own',a',w',TC,q',e1,by rw[e2];simp,e3,e4,e5,e6,e7,λb hb=>e8 b (.inl hb),λb hb=>(e9 b hb).elim (λx=>x.elim .inl λy=> .inr y.1) (λx=> .inr (zad hsz x)),by have hk:=Kept.step NR K6;exact⟨hk.tape,hk.os,hk.output,hk.size,hk.block⟩⟩
   ·have hq:=hL.old i g jS hi;have Ty:(i==0)=false:=by simp;omega
    have hlt:i<gs.size:=(zae.1 hi).1;cases Ep:q i with
    |zero=>rw[Ep]at hq;rw[hq.1]at hg;cases hg
    |succ k=>
     rw[Ep]at hq;rcases hq with⟨hf,_⟩|⟨_,g',es,hm,Er,hq'⟩
     ·rw[hf]at hg;cases hg
     have qX:=runT_crowd_go (P:=P) (sl:=sl') (i:=i) hi (by rw[Ty];exact Er (w₁.at d));have hsz:((gs.map (woken P g g' (w₁.at d))).setIfInBounds i g').size=gs.size:=by simp
     have Tz:sumTo gs.size (upd q i k)+(k+1)=sumTo gs.size q+k:=by
      have:=sumTo_upd q k id hlt;simpa[Ep]using this
     have:=ihM (sumTo gs.size (upd q i k)) (by omega) (w₁.at d) gl ((gs.map (woken P g g' (w₁.at d))).setIfInBounds i g') sl' (t++MemOp.ofEvents i g.frame.fn g.frame.place es) (upd q i k)
      (by rw[zan (by omega),zal,h0];simp[woken_run hs])
      ⟨λj x hj hx=>by
        by_cases Ac:i=j
        ·subst Ac;rw[zaV (by simpa using hlt)]at hx;obtain rfl:=Option.some.inj hx;rw[upd_same,Deaf_own];exact hq'
        ·rw[zan Ac,zal]at hx;obtain⟨y,hy,rfl⟩:=zam.1 hx;have K2:=hL.old j y hj hy;rw[woken_quitsD K2,upd_ne q k (Ne.symm Ac),Deaf_other t Ac _ ofEvents_g];exact K2,λj hj=>by
        rw[Deaf_other t (g':=i) (by simp at hj;omega) _ ofEvents_g];exact hL.above j (by simpa using hj)⟩
      (hP.mute (by omega) hm) (hN.at d) (by rw[hsz])
     rw[hsz]at this;refine Reach.step (hst.trans qX) (this.mono ?_);rintro m t' ⟨gs',own',a',w',TC,q',e1,e2,e3,e4,e5,e6,e7,e8,e9,K6⟩;exact⟨gs',own',a',w',TC,q',e1,e2,e3,e4,e5,e6,e7,e8,e9,⟨K6.tape,K6.os,K6.output,K6.size,K6.block⟩⟩
end
end Go.Ren
namespace Go.Ren
open Go Go.Conc
structure bq where
 base:World
 lo:Nat
 n0:Nat
 r0:Rn
 at_:Machine→Trace→Prop
 bot:List Frame:=[]
 an:Nat:=0
 ar:Rn:=jD
 ro:Nat→Prop:=λ_=>False
 l6:∀b,ro b→b<base.heap.size∧∀r,lo≤r→r<n0→b≠r0 r:=by exact λ_ h=>h.elim
def bq.mine (Ψ:bq)(x:Nat):Prop:=∃r,Ψ.lo≤r∧r<Ψ.n0∧x=Ψ.r0 r
structure Ad (Ψ:bq) (W:World):Prop where
 tape:W.tape=Ψ.base.tape
 os:W.os=Ψ.base.os
 output:W.output=Ψ.base.output
 size:Ψ.base.heap.size≤W.heap.size
 block:∀b,b<Ψ.base.heap.size→¬Ψ.mine b→W.heap[b]?=Ψ.base.heap[b]?
structure se (n0:Nat) (r0:Rn) (w:World) (ρ:Rn):Prop where
 size:n0≤w.heap.size
 same:∀r,r<n0→ρ r=r0 r
theorem se.refl (w:World)(ρ:Rn):se w.heap.size ρ w ρ:=⟨zaa _,λ_ _=>rfl⟩
section
variable {P:Program}{F:FuncId→Bool}{S:Sd}{Ψ:bq}{fr fr':Frame}{cs cs':List Frame}{w w' W:World}{ρ:Rn}
def af (P:Program)(S:Sd)(Ψ:bq)(fr:Frame)(cs:List Frame)(w:World):Prop:=
 ∀(ρ:Rn) (W:World) (gs:Array Goroutine) (sl:Option (Nat×Nat)) (t:Trace) (q:Nat→Nat) (Shun:Loc→Prop),gp P S ρ w W→ib P S w.heap.size fr→(∀f∈cs,ib P S w.heap.size f)→
  gs[0]?=some (G (bP ρ fr) (cs.map (bP ρ)++Ψ.bot))→Leavers P t gs q→Past Shun W.heap.size t→NS Shun Ψ.ro (Touch S.d ρ w) W→Ad Ψ W→(∀x,Touch S.d ρ w x→Ψ.base.heap.size≤x∨Ψ.mine x)→se Ψ.n0 Ψ.r0 w ρ→se Ψ.an Ψ.ar w ρ→Reach P (crowd gs W sl) t Ψ.at_
theorem gp.self (h:gp P S ρ w W):WR P S jD w w:=
 ⟨λr o _ ho=>by rw[BK];exact ho,h.wr.ok,h.wr.dead,h.wr.closed,λr hr=>by show r=_;omega,λr _ h2=>h2,⟨h.wr.big.d,h.wr.big.g,zaj _,h.wr.big.p,h.wr.big.dp,λ_ _ _=>rfl,λ_ _=> .inr rfl⟩⟩
def Et (P:Program)(S:Sd)(Good:Frame→List Frame→World→Prop)(bot:List Frame)(n0:Nat)(r0:Rn)(own:Nat→Prop)(g:Goroutine)(W:World):Prop:=
 ∃fr cs w ρ,Good fr cs w∧gp P S ρ w W∧(∀x,Touch S.d ρ w x→own x)∧g=G (bP ρ fr) (cs.map (bP ρ)++bot)∧ib P S w.heap.size fr∧(∀f∈cs,ib P S w.heap.size f)∧se n0 r0 w ρ
theorem aj.co {main:Bool}{ro own:Nat→Prop}{Good:Frame→List Frame→World→Prop}{bot:List Frame}{n0:Nat}{r0:Rn}(hG:Good fr cs w)(hS:gp P S ρ w W)(hown:∀x,Touch S.d ρ w x→own x)(hc:ib P S w.heap.size fr)(hcs:∀f∈cs,ib P S w.heap.size f)(h0:se n0 r0 w ρ):aj P main ro (Et P S Good bot n0 r0) own (G (bP ρ fr) (cs.map (bP ρ)++bot)) W:=by
 refine .stop λaF hr=>⟨fr,cs,w,cL ρ w.heap.size aF.heap.size,hG,hS.grow hr.size λx hx=>hr.block x (.inl (hown x hx)),λx hx=>hown x (by rwa[cv]at hx),?_,hc,hcs,⟨h0.size,λr hr=>by rw[aR (zaq hr h0.size)];exact h0.same r hr⟩⟩;rw[dw hc (ρ:=ρ) (ρ':=cL ρ w.heap.size aF.heap.size) (λr hlt=>(aR hlt).symm) (λ_=>rfl),eO (ρ:=ρ) (ρ':=cL ρ w.heap.size aF.heap.size) (λr hlt=>(aR hlt).symm) (λ_=>rfl) hcs]
theorem NS.sub {Shun:Loc→Prop}{ro own own':Nat→Prop}(h:NS Shun ro own W)(hs:∀x,own' x→own x):NS Shun ro own' W:=
 ⟨λb hb=>h.NQ b (hs b hb),h.DT,λl hl=>h.qZ l (hl.imp (λx=>by
   cases l with
   |cell a=>exact hs _ x
   |obj r=>exact hs _ x
   |_=>exact x) id),h.low⟩
theorem af.walk (h:∀ρ W,gp P S ρ w W→ib P S w.heap.size fr→(∀f∈cs,ib P S w.heap.size f)→nC Ψ.ro (Touch S.d ρ w) W→aj P true Ψ.ro (Et P S (af P S Ψ) Ψ.bot w.heap.size ρ) (Touch S.d ρ w) (G (bP ρ fr) (cs.map (bP ρ)++Ψ.bot)) W):af P S Ψ fr cs w:=by
 intro ρ W gs sl t q Shun hS hc hcs h0 hL hP hN hO hT ku ly;refine(iK (h ρ W hS hc hcs ⟨λb hb=>hb.elim (hN.NQ b) (hN.DT b),λb hb ht=>(hT b ht).elim (λh1=>by have:=(Ψ.l6 b hb).1;omega) λ⟨r,h1,h2,e⟩=>(Ψ.l6 b hb).2 r h1 h2 e⟩) W (bV.refl _ _ _) gs sl t q h0 hL hP hN).bind ?_;rintro m t' ⟨gs',own',a',w',sl',q',rfl,_,vV,hst,Eu,Es,K5,_,pz,hK⟩;obtain⟨fr2,cs2,w2,vW,hG,pA,hown,rfl,hc2,TD,vX⟩:=hst w' (bV.refl _ _ _);have hsz:=hO.size;exact hG vW w' gs' sl' t' q' Shun pA hc2 TD vV Eu Es (K5.sub hown)
  ⟨hK.tape.trans hO.tape,hK.os.trans hO.os,hK.output.trans hO.output,zad hsz hK.size,λb hb hm=>(hK.block b (by omega) λht=>(hT b ht).elim (λh=>by omega) hm).trans (hO.block b hb hm)⟩
  (λx hx=>(pz x (hown x hx)).elim (hT x) λe=> .inl (by omega)) ⟨zad ku.size vX.size,λr hr=>(vX.same r (zaq hr ku.size)).trans (ku.same r hr)⟩ ⟨zad ly.size vX.size,λr hr=>(vX.same r (zaq hr ly.size)).trans (ly.same r hr)⟩
theorem af.re (h:af P S Ψ fr cs w)(e:w'.heap=w.heap):af P S Ψ fr cs w':=by
 intro ρ W gs sl t q Shun hS hc hcs h0 hL hP hN hO hT ku ly;have Gn:gp P S ρ w W:=hS.XH e.symm;have ht:Touch S.d ρ w'=Touch S.d ρ w:=by unfold Touch;rw[e]
 rw[e]at hc hcs;rw[ht]at hN hT;exact h ρ W gs sl t q Shun Gn hc hcs h0 hL hP hN hO hT ⟨by have:=ku.size;rwa[e]at this,ku.same⟩ ⟨by have:=ly.size;rwa[e]at this,ly.same⟩
theorem af.silent (hst:∀ρ W,stepG P true (G (bP ρ fr) (cs.map (bP ρ)++Ψ.bot)) W=.go (G (bP ρ fr') (cs'.map (bP ρ)++Ψ.bot)) W #[])
 (eG:ib P S w.heap.size fr→(∀f∈cs,ib P S w.heap.size f)→ib P S w.heap.size fr'∧∀f∈cs',ib P S w.heap.size f)(k:af P S Ψ fr' cs' w):af P S Ψ fr cs w:=
 af.walk λρ W hS hc hcs hR=>by
  obtain⟨h1,h2⟩:=eG hc hcs;refine aj.silent rfl (λaF=>?_) (aj.co k hS (λ_ h=>h) h1 h2 (se.refl _ _));exact hst ρ aF
def _root_.Go.Act.rn (a:Act)(ρ:Rn):Act:={ a with tmps:=a.tmps.map (rv ρ) }
theorem pY (b:Frame)(a:Act)(k:List Item):bP ρ (b.at a k)=b.at (a.rn ρ) k:=rfl
def pI (_P:Program)(S:Sd)(n:Nat)(a:Act):Prop:=∀v∈a.tmps,rv (sg S S.d n) v=v
theorem getD_map (c:Array Value)(i:Nat):(c.map (rv ρ)).getD i undef=rv ρ (c.getD i undef):=by
 simp only[zaL,zal];cases c[i]? with
 |none=>simp[dG]
 |some v=>simp
theorem uQ (a:Act):(a.rn ρ).eval=fE λt=>rv ρ (a.tmps.getD t undef):=by
 funext x;cases x with
 |tmp t=>exact getD_map _ _
 |_=>rfl
theorem l7 (a:Act):a.eval=fE λt=>a.tmps.getD t undef:=by
 funext x;cases x<;>rfl
theorem pI.get {n:Nat}{a:Act}(h:pI P S n a)(t:Nat):rv (sg S S.d n) (a.tmps.getD t undef)=a.tmps.getD t undef:=by
 rw[zaL];cases he:a.tmps[t]? with
 |none=>simp[dG]
 |some v=>simp;exact h v (zaT he)
theorem nZ (a:Act)(d:Option Tmp)(v:Value):(a.rn ρ).put d (rv ρ v)=(a.put d v).rn ρ:=by
 cases d with
 |none=>rfl
 |some d=>simp[Act.put,Act.rn,Array.map_setIfInBounds]
theorem pI.put {n:Nat}{a:Act}(h:pI P S n a)(d:Option Tmp){v:Value}(hv:rv (sg S S.d n) v=v):pI P S n (a.put d v):=by
 cases d with
 |none=>exact h
 |some d=>
  intro x hx;have Ab:x∈a.tmps.setIfInBounds d v:=hx;rcases Array.mem_or_eq_of_mem_setIfInBounds Ab with h1|h1
  ·exact h x h1
  ·rw[h1];exact hv
section
variable {b:Frame}{a:Act}{ops:Array Oper}{i:Nat}{rest:List Nat}{o:Oper}{kk:List Item}
theorem af.BP (hC:jB P F S)(cC:eN P F S o.op=true)(ho:ops[i]?=some o)(hw:Region.wanted o (yielded ops a.tmps)=true)(hk:b.kind≠.early)
 (h:∀τ d,∃v w',(execOp a.eval o).run P (w.re τ d)=.ok (.value v) w'∧af P S Ψ (b.at (a.put o.dst v) (.inRegion ops rest::kk)) cs w'):af P S Ψ (b.at a (.inRegion ops (i::rest)::kk)) cs w:=
 af.walk λρ W hS hc hcs hR=>by
  have Ev:pI P S w.heap.size a:=hc;refine aj.BP (a:=a.rn ρ) (b:=b) (T:=λt=>a.tmps.getD t undef) hC cC ho (by show Region.wanted o (yielded ops (a.tmps.map (rv ρ)))=true;rw[show yielded ops (a.tmps.map (rv ρ))=yielded ops a.tmps from funext λj=>nR ops a.tmps j];exact hw) hk (λt=>Ev.get t) hS (λ_ h=>h) (by rw[uQ]) (by rw[←l7];exact h)
   (λv w' ρ' W' own' hq Gn nI hsz eG hown _ _ _=>?_) hR
  have DR:(a.rn ρ).put o.dst (rv ρ' v)=(a.put o.dst v).rn ρ':=by
   have e:a.rn ρ=a.rn ρ':=by
    unfold Act.rn;rw[dM λx hx=>agree (σ:=sg S S.d w.heap.size) (λr hr=>(nI r (bW.1 hr).2).symm) (λy _=>(Aa hS Gn y).symm) x (Ev x hx)]
   rw[e,nZ]
  have aaz:cs.map (bP ρ)=cs.map (bP ρ'):=eO (λr hr=>(nI r hr).symm) (λx=>(Aa hS Gn x).symm) hcs;rw[DR,aaz];exact aj.co (fr:=b.at (a.put o.dst v) (.inRegion ops rest::kk)) hq Gn hown (pI.put (P:=P) (λx hx=>ek (cR hsz).1 (cR hsz).2 x (Ev x hx)) o.dst eG) (λf hf=>iI hsz (hcs f hf)) ⟨hsz,nI⟩
end
end
section
variable {P:Program}{F:FuncId→Bool}{S:Sd}{Ψ:bq}{fr fr':Frame}{cs cs':List Frame}{w w' W:World}{ρ:Rn}{b:Frame}{a:Act}{k:List Item}
theorem af.ctl {k':List Item}(hst:∀(a:Act) (cs:List Frame) W,stepG P true (G (b.at a k) cs) W=.go (G (b.at a k') cs) W #[])(h:af P S Ψ (b.at a k') cs w):af P S Ψ (b.at a k) cs w:=
 af.silent (fr':=b.at a k') (cs':=cs) (λρ W=>by rw[pY,pY];exact hst _ _ _) (λh1 h2=>⟨h1,h2⟩) h
theorem af.seq {x y:Code}(h:af P S Ψ (b.at a (.code x::.code y::k)) cs w):af P S Ψ (b.at a (.code (.seq x y)::k)) cs w:=af.ctl (λ_ _ _=>stepG_seq) h
theorem af.region {id:Nat}{ops:Array Oper}(h:af P S Ψ (b.at a (.inRegion ops (List.range ops.size)::k)) cs w):af P S Ψ (b.at a (.code (.region id ops false)::k)) cs w:=af.ctl (λ_ _ _=>stepG_region) h
theorem Ae {c:Operand}{t:Bool}(h:a.eval c=.bool t):(a.rn ρ).eval c=.bool t:=by
 rw[uQ];rw[l7]at h;cases c with
 |tmp i=>
  simp only[fE]at h ⊢;rw[h];simp[rv]
 |const v=>exact h
 |global g=>exact h
 |func f=>exact h
def eC (b:Frame)(a:Act)(k:List Item):Frame:={ b.at a k with mode:= .returning }
theorem Gs:bP ρ (eC b a k)=eC b (a.rn ρ) k:=rfl
theorem tL {main:Bool}{ops:Array Oper}{i:Nat}{rest:List Nat}{o:Oper}{kk:List Item}(ho:ops[i]?=some o)(hw:Region.wanted o (yielded ops a.tmps)=true)(hk:b.kind≠.early){f:FuncId}{xs:Array Operand}{ats:Array TypeId}(hop:o.op=.call { callee:= .value (.func f),args:=xs,argTypes:=ats })
 (pZ:(P.funcs[f]?).any (λfn=>fn.body.isSome)=true)(Ew:(P.funcs[f]?).any (λfn=>fn.name != "runtime.NumGoroutine")=true):
 stepG P main (G (b.at a (.inRegion ops (i::rest)::kk)) cs) w=.go (G (Frame.enter P f (xs.map a.eval) .normal) (b.at a (.inRegion ops (i::rest)::kk)::cs)) w #[]:=by
 cases hf:P.funcs[f]? with
 |none=>rw[hf]at pZ;simp at pZ
 |some fn=>
  rw[hf]at pZ Ew;simp only[Option.any_some]at pZ Ew;obtain⟨cc,hcc⟩:=zbq.1 pZ;have hne:¬fn.name= "runtime.NumGoroutine" :=by simpa using Ew
  have hr:(execOp a.eval o).run P w=.ok (.enter f (xs.map a.eval)) w:=by
   unfold execOp;simp[hop,resolve,invoke,callFunc,hf,hcc,hne,Act.eval,Deferred.ofValue,go_sem]
  have he:(execOp a.eval o).events P w #[]=#[]:=by
   unfold execOp;simp[hop,resolve,invoke,callFunc,hf,hcc,hne,Act.eval,Deferred.ofValue,go_sem]
  rw[stepG_enter ho hw hk hr,listed_none he]
theorem Gt (hf:qO S ρ){xs:Array Operand}(hx:xs.all (gL S)=true):xs.map (a.rn ρ).eval=(xs.map a.eval).map (rv ρ):=by
 rw[zbo];refine Array.map_congr_left λx hm=>?_;have:=zbr.1 hx x hm;show(a.rn ρ).eval x=rv ρ (a.eval x);rw[uQ,l7];exact KW this hf
theorem Gu {n:Nat}(hn:S.g≤n)(h:pI P S n a){xs:Array Operand}(hx:xs.all (gL S)=true):∀v∈xs.map a.eval,rv (sg S S.d n) v=v:=by
 intro v hv;obtain⟨x,hm,rfl⟩:=Array.mem_map.1 hv;have:=zbr.1 hx x hm;rw[l7];exact Gp hn (λt=>h.get t) this
theorem BR {n:Nat}{f:FuncId}{args:Array Value}(h:∀v∈args,rv (sg S S.d n) v=v):ib P S n (Frame.enter P f args .normal):=by
 have e:bP (sg S S.d n) (Frame.enter P f args .normal)=Frame.enter P f args .normal:=by
  rw[←iu,bz.2 h]
 exact sG e
theorem af.OL (hst:∀ρ:Rn,qO S ρ→∀W,stepG P true (G (bP ρ fr) (cs.map (bP ρ)++Ψ.bot)) W=.go (G (bP ρ fr') (cs'.map (bP ρ)++Ψ.bot)) W #[])
 (eG:S.g≤w.heap.size→ib P S w.heap.size fr→(∀f∈cs,ib P S w.heap.size f)→ib P S w.heap.size fr'∧∀f∈cs',ib P S w.heap.size f)(k:af P S Ψ fr' cs' w):af P S Ψ fr cs w:=
 af.walk λρ W hS hc hcs _=>by
  obtain⟨h1,h2⟩:=eG hS.wr.big.g hc hcs;exact aj.silent rfl (λaF=>hst ρ hS.fix aF) (aj.co k hS (λ_ h=>h) h1 h2 (se.refl _ _))
theorem af.enter {ops:Array Oper}{i:Nat}{rest:List Nat}{o:Oper}{kk:List Item}(ho:ops[i]?=some o)(hw:Region.wanted o (yielded ops a.tmps)=true)(hk:b.kind≠.early){f:FuncId}{xs:Array Operand}{ats:Array TypeId}(hop:o.op=.call { callee:= .value (.func f),args:=xs,argTypes:=ats })
 (pZ:(P.funcs[f]?).any (λfn=>fn.body.isSome)=true)(Ew:(P.funcs[f]?).any (λfn=>fn.name != "runtime.NumGoroutine")=true)(hx:xs.all (gL S)=true)
 (h:af P S Ψ (Frame.enter P f (xs.map a.eval) .normal) (b.at a (.inRegion ops (i::rest)::kk)::cs) w):af P S Ψ (b.at a (.inRegion ops (i::rest)::kk)) cs w:=by
 refine af.OL (λρ ku W=>?_) (λh0 h1 h2=>⟨BR (Gu (P:=P) h0 h1 hx),λg hg=>?_⟩) h
 ·rw[zao,pY,←iu,←Gt ku hx];refine tL ho ?_ hk hop pZ Ew;show Region.wanted o (yielded ops (a.tmps.map (rv ρ)))=true;rw[show yielded ops (a.tmps.map (rv ρ))=yielded ops a.tmps from funext λj=>nR ops a.tmps j];exact hw
 ·rcases zas.1 hg with rfl|hg
  ·exact h1
  ·exact h2 g hg
end
def jY (ρ σ:Rn):Rn:={ b:=λr=>ρ (σ r),f:=λx=>ρ.f (σ.f x),d:=ρ.d }
theorem eP {f g h:Value→Value}{cs:Array Value}(e:∀x∈cs,f (g x)=h x):(cs.map g).map f=cs.map h:=by
 rw[zbo];exact Array.map_congr_left λx hx=>e x hx
theorem iL (ρ σ:Rn):∀v:Value,rv ρ (rv σ v)=rv (jY ρ σ) v
 |.pointer none=>by simp[rv]
 |.pointer (some a)=>by simp[rv,ra,jY]
 |.slice none _ _=>by simp[rv]
 |.slice (some a) l c=>by simp[rv,ra,jY]
 |.map none=>by simp[rv]
 |.map (some r)=>by simp[rv,jY]
 |.chan none=>by simp[rv]
 |.chan (some r)=>by simp[rv,jY]
 |.func fn first captured=>by
  simp only[rv,Value.func.injEq];refine⟨rfl,eP λx hx=>?_,eP λx hx=>?_⟩
  ·have:=zaA hx;exact iL ρ σ x
  ·have:=zaA hx;exact iL ρ σ x
 |.iface t v=>by simp only[rv,Value.iface.injEq,true_and];exact iL ρ σ v
 |.agg cs=>by
  simp only[rv,Value.agg.injEq];refine eP λx hx=>?_;have:=zaA hx;exact iL ρ σ x
 |.tuple cs=>by
  simp only[rv,Value.tuple.injEq];refine eP λx hx=>?_;have:=zaA hx;exact iL ρ σ x
 |.bool _=>by simp[rv]
 |.int _ _=>by simp[rv]
 |.float _ _=>by simp[rv]
 |.complex _ _ _=>by simp[rv]
 |.string _=>by simp[rv]
 |.nilFunc=>by simp[rv]
 |.nilIface=>by simp[rv]
termination_by v=>SizeOf.sizeOf v
theorem Gv (ρ σ:Rn)(o:Obj):ro ρ (ro σ o)=ro (jY ρ σ) o:=by
 cases o with
 |cells c t f=>simp only[ro,Obj.cells.injEq,and_true];exact eP λx _=>iL ρ σ x
 |pending c t=>simp only[ro,Obj.pending.injEq,and_true];exact eP λx _=>iL ρ σ x
 |chan a b c d e f=>simp only[ro,Obj.chan.injEq,true_and,and_true];exact eP λx _=>iL ρ σ x
 |view a t=>simp[ro,ra,jY]
 |number a t=>simp[ro,ra,jY]
 |map es c=>
  simp only[ro,Obj.map.injEq,and_true,zbo];refine Array.map_congr_left λe _=>?_;simp[iL]
 |_=>rfl
theorem K7 {ρ:Rn}{o:Obj}(h:lO o):lO (ro ρ o):=by
 cases o<;>first|exact h|trivial
def yR (g0 n:Nat):Rn:={ b:=λr=>if g0≤r then n+(r-g0)else r,f:=id,d:=0 }
def yS (ρ gK:Rn)(g0 n m N:Nat):Rn:={ b:=λr=>if r<n then ρ r else if r<n+(m-g0)then gK (g0+(r-n))else N+(r-(n+(m-g0))),f:=ρ.f,d:=ρ.d }
def Ex (P:Program)(w w₂:World):World:={ w with heap:=w.heap++(w₂.heap.extract P.globals.size w₂.heap.size).map (ro (yR P.globals.size w.heap.size)) }
structure Two (P:Program) (S iY:Sd):Prop where
 z:iY.d=P.globals.size
 dp:S.d≤P.globals.size
 f:∀g,iY g=true→S g=true
section
variable {P:Program}{S iY:Sd}{ρ gK:Rn}{w w₂ W:World}
theorem oU (h:P.globals.size≤w₂.heap.size):(Ex P w w₂).heap.size=w.heap.size+(w₂.heap.size-P.globals.size):=by
 simp only[Ex,Array.size_append,Array.size_map,Array.size_extract];omega
theorem Ey {r:Nat}(h:r<w.heap.size):(Ex P w w₂).heap[r]?=w.heap[r]?:=by
 simp only[Ex];rw[Array.getElem?_append_left h]
theorem K8 {r:Nat}(h1:P.globals.size≤r)(h2:r<w₂.heap.size):(Ex P w w₂).heap[w.heap.size+(r-P.globals.size)]?=(w₂.heap[r]?).map (ro (yR P.globals.size w.heap.size)):=by
 simp only[Ex];rw[Array.getElem?_append_right (by omega),zal,show w.heap.size+(r-P.globals.size)-w.heap.size=r-P.globals.size by omega,Array.getElem?_extract,if_pos (by omega),show P.globals.size+(r-P.globals.size)=r by omega]
theorem Ez {r:Nat}{o:Obj}(hb:P.globals.size≤w₂.heap.size)(h:(Ex P w w₂).heap[r]?=some o):(r<w.heap.size∧w.heap[r]?=some o)∨∃r₂ vY,P.globals.size≤r₂∧r₂<w₂.heap.size∧r=w.heap.size+(r₂-P.globals.size)∧w₂.heap[r₂]?=some vY∧o=ro (yR P.globals.size w.heap.size) vY:=by
 rcases zag r w.heap.size with hlt|js
 ·rw[Ey hlt]at h;exact .inl ⟨hlt,h⟩
 ·right;have hs:=(zae.1 h).1;rw[oU hb]at hs;have h2:P.globals.size+(r-w.heap.size)<w₂.heap.size:=by omega
  have e:r=w.heap.size+(P.globals.size+(r-w.heap.size)-P.globals.size):=by omega
  rw[e,K8 (by omega) h2]at h;obtain⟨vY,h3,h4⟩:=zam.1 h;exact⟨_,vY,by omega,h2,e,h3,h4.symm⟩
theorem XO (T:Two P S iY)(h:gp P S ρ w W)(h₂:gp P iY gK w₂ W){v:Value}(hc:Cl P iY w₂ v):rv (yS ρ gK P.globals.size w.heap.size w₂.heap.size W.heap.size) (rv (yR P.globals.size w.heap.size) v)=rv gK v:=by
 rw[iL];refine agree (σ:=sg iY iY.d w₂.heap.size) (λr hr=>?_) (λx _=>?_) v hc
 ·obtain⟨h1,h2⟩:=bW.1 hr;rw[T.z]at h1;simp only[jY,yR,yS,if_pos h1];rw[if_neg (by omega),if_pos (by omega)]
  congr 1
  omega
 ·simp only[jY,yR,yS,id];rw[h.f,h₂.f]
theorem XP (T:Two P S iY)(h:gp P S ρ w W)(h₂:gp P iY gK w₂ W){o:Obj}(hc:ro (sg iY iY.d w₂.heap.size) o=o):ro (yS ρ gK P.globals.size w.heap.size w₂.heap.size W.heap.size) (ro (yR P.globals.size w.heap.size) o)=ro gK o:=by
 rw[Gv];refine sw (σ:=sg iY iY.d w₂.heap.size) (λr hr=>?_) (λx _=>?_) hc
 ·obtain⟨h1,h2⟩:=bW.1 hr;rw[T.z]at h1;simp only[jY,yR,yS,if_pos h1];rw[if_neg (by omega),if_pos (by omega)]
  congr 1
  omega
 ·simp only[jY,yR,yS,id];rw[h.f,h₂.f]
theorem XQ (T:Two P S iY)(hb:P.globals.size≤w.heap.size)(kF:P.globals.size≤w₂.heap.size){v:Value}(hc:Cl P iY w₂ v):Cl P S (Ex P w w₂) (rv (yR P.globals.size w.heap.size) v):=by
 unfold Cl;rw[iL];refine agree (σ:=sg iY iY.d w₂.heap.size) (λr hr=>?_) (λx hx=>?_) v hc
 ·obtain⟨h1,h2⟩:=bW.1 hr;rw[T.z]at h1;simp only[jY,yR,if_pos h1];exact bW.2 ⟨by have:=T.dp;omega,by rw[oU kF];omega⟩
 ·simp only[jY,yR,id];obtain⟨g,rfl,hg⟩:=iF.1 hx;exact iF.2 ⟨g,rfl,T.f g hg⟩
theorem TE (T:Two P S iY)(hb:P.globals.size≤w.heap.size)(kF:P.globals.size≤w₂.heap.size){o:Obj}(hc:ro (sg iY iY.d w₂.heap.size) o=o):ro (sg S S.d (Ex P w w₂).heap.size) (ro (yR P.globals.size w.heap.size) o)=ro (yR P.globals.size w.heap.size) o:=by
 rw[Gv];refine sw (σ:=sg iY iY.d w₂.heap.size) (λr hr=>?_) (λx hx=>?_) hc
 ·obtain⟨h1,h2⟩:=bW.1 hr;rw[T.z]at h1;simp only[jY,yR,if_pos h1];exact bW.2 ⟨by have:=T.dp;omega,by rw[oU kF];omega⟩
 ·simp only[jY,yR,id];obtain⟨g,rfl,hg⟩:=iF.1 hx;exact iF.2 ⟨g,rfl,T.f g hg⟩
theorem gp.merge (T:Two P S iY)(h:gp P S ρ w W)(h₂:gp P iY gK w₂ W)(hd:∀b,Touch S.d ρ w b→¬Touch iY.d gK w₂ b):gp P S (yS ρ gK P.globals.size w.heap.size w₂.heap.size W.heap.size) (Ex P w w₂) W:=by
 have hb:=h.wr.big.p;have kF:=h₂.wr.big.p;have yc:=T.dp;have hz:=T.z;have hs:=oU (w:=w) kF;have nI:∀r,r<w.heap.size→yS ρ gK P.globals.size w.heap.size w₂.heap.size W.heap.size r=ρ r:=λr hr=>by simp only[yS,if_pos hr]
 have mH:∀r,P.globals.size≤r→r<w₂.heap.size→yS ρ gK P.globals.size w.heap.size w₂.heap.size W.heap.size (w.heap.size+(r-P.globals.size))=gK r:=λr h1 h2=>by
  simp only[yS];rw[if_neg (by omega),if_pos (by omega)]
  congr 1
  omega
 have xY:∀r,w.heap.size+(w₂.heap.size-P.globals.size)≤r→yS ρ gK P.globals.size w.heap.size w₂.heap.size W.heap.size r=W.heap.size+(r-(w.heap.size+(w₂.heap.size-P.globals.size))):=λr hr=>by
  simp only[yS];rw[if_neg (by omega),if_neg (by omega)]
 have cs:∀r,r<w.heap.size∨(∃r₂,P.globals.size≤r₂∧r₂<w₂.heap.size∧r=w.heap.size+(r₂-P.globals.size))∨w.heap.size+(w₂.heap.size-P.globals.size)≤r:=λr=>by
  rcases zag r w.heap.size with h1|h1
  ·exact .inl h1
  ·rcases zag r (w.heap.size+(w₂.heap.size-P.globals.size))with h2|h2
   ·exact .inr (.inl ⟨P.globals.size+(r-w.heap.size),by omega,by omega,by omega⟩)
   ·exact .inr (.inr h2)
 refine⟨⟨λr o js ho=>?_,λr o ho=>?_,λr hr=>?_,λr o js ho=>?_,λr hr=>?_,λr h1 h2=>?_,?_⟩,λa b e=>?_,λr=>?_,h.f,h.nB⟩
 ·rcases Ez kF ho with⟨h1,h2⟩|⟨r₂,vY,h1,h2,rfl,h3,rfl⟩
  ·rw[nI r h1,h.wr.live r o js h2]
   congr 1
   exact sw (σ:=sg S S.d w.heap.size) (λx hx=>(nI x (bW.1 hx).2).symm) (λ_ _=>rfl) (h.wr.closed r o js h2)
  ·rw[mH r₂ h1 h2,XP T h h₂ (h₂.wr.closed r₂ vY (by omega) h3)];exact h₂.wr.live r₂ vY (by omega) h3
 ·rcases Ez kF ho with⟨h1,h2⟩|⟨r₂,vY,h1,h2,rfl,h3,rfl⟩
  ·exact h.wr.ok r o h2
  ·exact K7 (h₂.wr.ok r₂ vY h3)
 ·rw[Ey (by omega)];exact h.wr.dead r hr
 ·rcases Ez kF ho with⟨h1,h2⟩|⟨r₂,vY,h1,h2,rfl,h3,rfl⟩
  ·have:=h.wr.closed r o js h2;have e:=sw (σ:=sg S S.d w.heap.size) (ρ:=sg S S.d (Ex P w w₂).heap.size) (ρ':=sg S S.d w.heap.size) (λx hx=>by
    rw[hx];exact bW.2 ⟨(bW.1 hx).1,by have:=(bW.1 hx).2;rw[hs];omega⟩) (λx hx=>by rw[hx];exact iF.2 (iF.1 hx)) this
   rw[e];exact this
  ·exact TE T hb kF (h₂.wr.closed r₂ vY (by omega) h3)
 ·rw[hs]at hr ⊢;exact xY r hr
 ·rw[hs]at h2;rcases cs r with h3|⟨r₂,h3,h4,rfl⟩|h3
  ·rw[nI r h3];exact h.wr.low r h1 h3
  ·rw[mH r₂ h3 h4];exact h₂.wr.low r₂ (by omega) h4
  ·omega
 ·rw[hs];exact⟨by omega,by have:=h.wr.big.g;omega,h.wr.big.r,by omega,yc,λg h1 h2=>by rw[nI g (by have:=h.wr.big.g;omega)];exact h.wr.big.fg g h1 h2,λg h1=>by rw[nI g (by omega)];exact h.wr.big.fl g h1⟩
 ·rcases cs a with ha|⟨a₂,ha1,ha2,rfl⟩|ha<;>rcases cs b with hb'|⟨sH,hb1,hb2,rfl⟩|hb'
  ·rw[nI a ha,nI b hb']at e;exact h.inj a b e
  ·rw[nI a ha,mH sH hb1 hb2]at e;rcases zag a P.globals.size with hl|hl
   ·have g1:=(h.jE a).2 hl;rw[e]at g1;have:=(h₂.jE sH).1 g1;omega
   ·exact absurd ⟨sH,by omega,hb2,e⟩ (hd (ρ a) ⟨a,by omega,ha,rfl⟩)
  ·rw[nI a ha,xY b hb']at e;have:=h.low ha;omega
  ·rw[mH a₂ ha1 ha2,nI b hb']at e;rcases zag b P.globals.size with hl|hl
   ·have g1:=(h.jE b).2 hl;rw[←e]at g1;have:=(h₂.jE a₂).1 g1;omega
   ·exact absurd ⟨a₂,by omega,ha2,e.symm⟩ (hd (ρ b) ⟨b,by omega,hb',rfl⟩)
  ·rw[mH a₂ ha1 ha2,mH sH hb1 hb2]at e;have:=h₂.inj a₂ sH e;omega
  ·rw[mH a₂ ha1 ha2,xY b hb']at e;have:=h₂.low ha2;omega
  ·rw[xY a ha,nI b hb']at e;have:=h.low hb';omega
  ·rw[xY a ha,mH sH hb1 hb2]at e;have:=h₂.low hb2;omega
  ·rw[xY a ha,xY b hb']at e;omega
 ·rcases cs r with h3|⟨r₂,h3,h4,rfl⟩|h3
  ·rw[nI r h3];exact h.jE r
  ·rw[mH r₂ h3 h4];have:=h₂.jE r₂;constructor
   ·intro q;have:=this.1 q;omega
   ·intro q;omega
  ·rw[xY r h3];have:=h.nB;constructor<;>intro<;>omega
theorem BS (T:Two P S iY)(kF:P.globals.size≤w₂.heap.size){b:Nat}(ht:Touch S.d (yS ρ gK P.globals.size w.heap.size w₂.heap.size W.heap.size) (Ex P w w₂) b):Touch S.d ρ w b∨Touch iY.d gK w₂ b:=by
 obtain⟨r,h1,h2,rfl⟩:=ht;rw[oU kF]at h2;rcases zag r w.heap.size with hlt|js
 ·exact .inl ⟨r,h1,hlt,by simp only[yS,if_pos hlt]⟩
 ·refine .inr ⟨P.globals.size+(r-w.heap.size),by have:=T.z;omega,by omega,?_⟩;simp only[yS];rw[if_neg (by omega),if_pos (by omega)]
theorem TF {base:Nat}{e:TypeId}{z:Nat}{v:Value}{n:Nat}{xs:List Value}(hb:P.globals.size≤base)(h:w₂.ownsRow base e z v n xs)(hx:∀x∈xs,rv (yR P.globals.size w.heap.size) x=x):(Ex P w w₂).ownsRow w.heap.size e z (rv (yR P.globals.size w.heap.size) v) n xs:=by
 refine⟨h.1,?_⟩;rcases h.2 with⟨rfl,h0⟩|⟨g,cap,cur,rfl,h1,h2,h3,h4,h5,h6⟩
 ·exact .inl ⟨by simp[rv],h0⟩
 ·refine .inr ⟨w.heap.size+(g-P.globals.size),cap,cur.map (rv (yR P.globals.size w.heap.size)),?_,by omega,?_,h3,h4,by simpa using h5,?_⟩
  ·simp only[rv,zaM,ra,yR,if_pos (show P.globals.size≤g by omega)]
  ·rw[K8 (by omega) (zae.1 h2).1,h2];rfl
  ·rw[zaC,←List.map_take,h6]
   conv=>rhs;rw[←List.map_id xs]
   exact List.map_congr_left λx hm=>hx x hm
end
end Go.Ren
