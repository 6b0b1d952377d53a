import Derived.Test.YtlhimdjkkiflhaaGreatDoorKnown07
set_option maxHeartbeats 8000000
set_option maxRecDepth 100000
namespace Go.Ren
open Go Go.Conc
open Go.ConcN (sumTo upd sumTo_upd upd_ne upd_same)
structure NS (Shun:Loc→Prop) (ro own:Nat→Prop) (w:World):Prop where
 Up:∀b,own b→b<w.heap.size
 MC:∀b,ro b→b<w.heap.size
 sR:∀l,jv own l∨jv ro l→¬Shun l
 low:∀l,Shun l→l.low w.heap.size
structure Kept (own:Nat→Prop) (w w':World):Prop where
 tape:w'.tape=w.tape
 os:w'.os=w.os
 output:w'.output=w.output
 size:w.heap.size≤w'.heap.size
 block:∀b,b<w.heap.size→¬own b→w'.heap[b]?=w.heap[b]?
theorem Kept.refl (own:Nat→Prop)(w:World):Kept own w w:=⟨rfl,rfl,rfl,zaa _,λ_ _ _=>rfl⟩
theorem eR (ro own:Nat→Prop)(w:World)(d:Nat):bN ro own w (w.at d):=⟨rfl,rfl,rfl,zaa _,λ_ _=>rfl⟩
theorem Kept.step {ro own:Nat→Prop}{w w₁ w₂:World}{es:Array Event}(h:Ca ro own w w₁ es)(k:Kept (Grow own w w₁) w₁ w₂):Kept own w w₂:=
 ⟨k.tape.trans h.tape,k.os.trans h.os,k.output.trans h.output,zad h.size k.size,λb hb hn=>by
   have hs:=h.size;rw[k.block b (by omega) λhg=>hg.elim hn λx=>by omega,h.block b hb hn]⟩
section
variable {P:Program}{Shun:Loc→Prop}{ro own:Nat→Prop}{Stop:(Nat→Prop)→Goroutine→World→Prop}
theorem MD {own:Nat→Prop}{w w':World}{l:Loc}(h:jv (Grow own w w') l)(hl:l.low w.heap.size):jv own l:=by
 cases l with
 |cell a=>exact h.elim id λx=>by have:a.block<w.heap.size:=hl;omega
 |obj r=>exact h.elim id λx=>by have:r<w.heap.size:=hl;omega
 |_=>exact h
theorem NS.grow {w w':World}{es:Array Event}(h:NS Shun ro own w)(hg:Ca ro own w w' es):NS Shun ro (Grow own w w') w':=by
 have hs:=hg.size;refine⟨λb hb=>hb.elim (λx=>by have:=h.Up b x;omega) (·.2),λb hb=>by have:=h.MC b hb;omega,λl hl hS=>?_,λl hl=>Loc.low_mono hs (h.low l hl)⟩;exact h.sR l (hl.imp (λx=>MD x (h.low l hS)) id) hS
theorem NS.at {w:World}(h:NS Shun ro own w)(d:Nat):NS Shun ro own (w.at d):=⟨h.Up,h.MC,h.sR,h.low⟩
theorem NS.evL {w w':World}{es:Array Event}(h:NS Shun ro own w)(hg:Ca ro own w w' es):∀e∈es,EvL Shun w'.heap.size e:=by
 intro e he;have hn:=h.grow hg;have hE:=hg.evs e he;refine⟨λx hx hs=>absurd hs (hn.sR _ ?_),(nI hE).1,(nI hE).2,Ho hn.Up hn.MC hE⟩;exact(y7 hE x hx).imp id (·.1)
def acr (P:Program)(Shun:Loc→Prop)(ro:Nat→Prop)(Stop:(Nat→Prop)→Goroutine→World→Prop)(n:Nat)(own:Nat→Prop)(w:World)(m:Machine)(t:Trace):Prop:=
 ∃gs own' a' w' sl q,m=crowd gs w' sl∧gs.size=n∧gs[0]?=some a'∧(∀w₁,bN ro own' w' w₁→Stop own' a' w₁)∧Leavers P t gs q∧Past Shun w'.heap.size t∧NS Shun ro own' w'∧(∀b,own b→own' b)∧(∀b,own' b→own b∨w.heap.size≤b)∧Kept own w w'
theorem Au {a:Goroutine}{w:World}(hW:ai P true ro Stop own a w):∀(w₁:World),bN ro own w w₁→∀(gs:Array Goroutine) (sl:Option (Nat×Nat)) (t:Trace) (q:Nat→Nat),gs[0]?=some a→Leavers P t gs q→Past Shun w₁.heap.size t→NS Shun ro own w₁→Reach P (crowd gs w₁ sl) t (acr P Shun ro Stop gs.size own w₁):=by
 induction hW with
 | @stop own a w h=>
   intro w₁ hr gs sl t q h0 hL hP hN;exact .here ⟨gs,own,a,w₁,sl,q,rfl,rfl,h0,λw₂ h₂=>h w₂ (hr.trans h₂),hL,hP,hN,λ_ x=>x,λ_ x=> .inl x,Kept.refl _ _⟩
 | @step own a w nx nw ne hs h1 h2 _ ih=>
   intro w₁ hr gs sl t q h0 hL hP hN;generalize hM:sumTo gs.size q=M
   induction M using Nat.strongRecOn generalizing w₁ gs sl t q with
   |_ M ihM=>
   have Ul:∀g∈gs,awake g:=by
    intro g hg;obtain⟨i,hi,rfl⟩:=zbn.1 hg;rcases zbA i with rfl|iP
    ·have:gs[0]=a:=by simpa[Array.getElem?_eq_getElem hi]using h0
     rw[this];exact awake_of (.inl hs)
    ·exact awake_of ((hL.old i _ iP (zaq hi)).status.elim .inl λx=> .inr (.inr x))
   obtain⟨i,g,d,sl',hi,hg,hst⟩:=crowd_pick (P:=P) (w:=w₁) (sl:=sl) Ul ⟨0,a,h0,hs⟩;have et:bN ro own w (w₁.at d):=hr.trans (eR ro own w₁ d);rcases zbA i with rfl|iP
   ·obtain rfl:g=a:=by rw[h0]at hi;exact(Option.some.inj hi).symm
    have hgo:=h1 _ et;have PF:=h2 _ et;have qO:=runT_crowd_go (P:=P) (sl:=sl') (i:=0) hi (show stepG P (0==0) g (w₁.at d)=_ from hgo);have hlt:0<gs.size:=(zac.1 h0).1;have hN':=(hN.at d).grow PF;have Yb:=(hP.mono (B':=(nw (w₁.at d)).heap.size) PF.size).own (fn:=g.frame.fn) (pos:=g.frame.place) ((hN.at d).evL PF);refine Reach.step (hst.trans qO) ((ih _ et _ (bN.refl _ _ _) ((gs.map (woken P g (nx (w₁.at d)) (nw (w₁.at d)))).setIfInBounds 0 (nx (w₁.at d))) sl' _ q (by simp[hlt]) ⟨λj x hj hx=>?_,λj hj=>?_⟩ Yb hN').mono ?_)
    ·rw[zak (by omega),zal]at hx;obtain⟨y,hy,rfl⟩:=zai.1 hx;have hq:=hL.old j y hj hy;rw[woken_quitsD hq,Deaf_other t (by omega) _ ofEvents_g];exact hq
    ·rw[Deaf_other t (g':=0) (by simp at hj;omega) _ ofEvents_g];exact hL.above j (by simpa using hj)
    ·rintro m t' ⟨gs',own',a',w',Uq,q',e1,e2,e3,e4,e5,e6,e7,e8,e9,ME⟩;have hsz:=PF.size;exact⟨gs',own',a',w',Uq,q',e1,by rw[e2];simp,e3,e4,e5,e6,e7,λb hb=>e8 b (.inl hb),λb hb=>(e9 b hb).elim (λx=>x.elim .inl λy=> .inr y.1) (λx=> .inr (zad hsz x)),by have hk:=Kept.step PF ME;exact⟨hk.tape,hk.os,hk.output,hk.size,hk.block⟩⟩
   ·have hq:=hL.old i g iP hi;have PE:(i==0)=false:=by simp;omega
    have hlt:i<gs.size:=(zac.1 hi).1;cases Fl:q i with
    |zero=>rw[Fl]at hq;rw[hq.1]at hg;cases hg
    |succ k=>
     rw[Fl]at hq;rcases hq with⟨hf,_⟩|⟨_,g',es,hm,Fo,hq'⟩
     ·rw[hf]at hg;cases hg
     have qO:=runT_crowd_go (P:=P) (sl:=sl') (i:=i) hi (by rw[PE];exact Fo (w₁.at d));have hsz:((gs.map (woken P g g' (w₁.at d))).setIfInBounds i g').size=gs.size:=by simp
     have Um:sumTo gs.size (upd q i k)+(k+1)=sumTo gs.size q+k:=by
      have:=sumTo_upd q k id hlt;simpa[Fl]using this
     have:=ihM (sumTo gs.size (upd q i k)) (by omega) (w₁.at d) et ((gs.map (woken P g g' (w₁.at d))).setIfInBounds i g') sl' (t++MemOp.ofEvents i g.frame.fn g.frame.place es) (upd q i k)
      (by rw[zak (by omega),zal,h0];simp[woken_run hs])
      ⟨λj x hj hx=>by
        by_cases uz:i=j
        ·subst uz;rw[zaJ (by simpa using hlt)]at hx;obtain rfl:=Option.some.inj hx;rw[upd_same,Deaf_own];exact hq'
        ·rw[zak uz,zal]at hx;obtain⟨y,hy,rfl⟩:=zai.1 hx;have MA:=hL.old j y hj hy;rw[woken_quitsD MA,upd_ne q k (Ne.symm uz),Deaf_other t uz _ ofEvents_g];exact MA,λj hj=>by
        rw[Deaf_other t (g':=i) (by simp at hj;omega) _ ofEvents_g];exact hL.above j (by simpa using hj)⟩
      (hP.mute (by omega) hm) (hN.at d) (by rw[hsz])
     rw[hsz]at this;refine Reach.step (hst.trans qO) (this.mono ?_);rintro m t' ⟨gs',own',a',w',Uq,q',e1,e2,e3,e4,e5,e6,e7,e8,e9,ME⟩;exact⟨gs',own',a',w',Uq,q',e1,e2,e3,e4,e5,e6,e7,e8,e9,⟨ME.tape,ME.os,ME.output,ME.size,ME.block⟩⟩
end
end Go.Ren
namespace Go.Ren
open Go Go.Conc
structure cI where
 base:World
 lo:Nat
 n0:Nat
 r0:Rn
 at_:Machine→Trace→Prop
def cI.mine (Ψ:cI)(x:Nat):Prop:=∃r,Ψ.lo≤r∧r<Ψ.n0∧x=Ψ.r0 r
structure Ur (Ψ:cI) (W:World):Prop where
 tape:W.tape=Ψ.base.tape
 os:W.os=Ψ.base.os
 output:W.output=Ψ.base.output
 size:Ψ.base.heap.size≤W.heap.size
 block:∀b,b<Ψ.base.heap.size→¬Ψ.mine b→W.heap[b]?=Ψ.base.heap[b]?
structure QK (n0:Nat) (r0:Rn) (w:World) (ρ:Rn):Prop where
 size:n0≤w.heap.size
 same:∀r,r<n0→ρ r=r0 r
theorem QK.refl (w:World)(ρ:Rn):QK w.heap.size ρ w ρ:=⟨zaa _,λ_ _=>rfl⟩
section
variable {P:Program}{F:FuncId→Bool}{S:Sd}{Ψ:cI}{fr fr':Frame}{cs cs':List Frame}{w w' W:World}{ρ:Rn}
def aa (P:Program)(S:Sd)(Ψ:cI)(fr:Frame)(cs:List Frame)(w:World):Prop:=
 ∀(ρ:Rn) (W:World) (gs:Array Goroutine) (sl:Option (Nat×Nat)) (t:Trace) (q:Nat→Nat) (Shun:Loc→Prop),iH P S ρ w W→fY P S w.heap.size fr→(∀f∈cs,fY P S w.heap.size f)→
  gs[0]?=some (G (bV ρ fr) (cs.map (bV ρ)))→Leavers P t gs q→Past Shun W.heap.size t→NS Shun (λ_=>False) (Touch S.d ρ w) W→Ur Ψ W→(∀x,Touch S.d ρ w x→Ψ.base.heap.size≤x∨Ψ.mine x)→QK Ψ.n0 Ψ.r0 w ρ→Reach P (crowd gs W sl) t Ψ.at_
theorem iH.self (h:iH P S ρ w W):WR P S jA w w:=
 ⟨λr o _ ho=>by rw[B7];exact ho,h.wr.ok,h.wr.dead,h.wr.closed,λr hr=>by show r=_;omega,λr _ h2=>h2,⟨h.wr.big.d,h.wr.big.g,zah _,h.wr.big.p,h.wr.big.dp,λ_ _ _=>rfl,λ_ _=> .inr rfl⟩⟩
def MF (P:Program)(S:Sd)(Good:Frame→List Frame→World→Prop)(n0:Nat)(r0:Rn)(own:Nat→Prop)(g:Goroutine)(W:World):Prop:=
 ∃fr cs w ρ,Good fr cs w∧iH P S ρ w W∧(∀x,Touch S.d ρ w x→own x)∧g=G (bV ρ fr) (cs.map (bV ρ))∧fY P S w.heap.size fr∧(∀f∈cs,fY P S w.heap.size f)∧QK n0 r0 w ρ
theorem ai.co {main:Bool}{ro own:Nat→Prop}{Good:Frame→List Frame→World→Prop}{n0:Nat}{r0:Rn}(hG:Good fr cs w)(hS:iH P S ρ w W)(hown:∀x,Touch S.d ρ w x→own x)(hc:fY P S w.heap.size fr)(hcs:∀f∈cs,fY P S w.heap.size f)(h0:QK n0 r0 w ρ):ai P main ro (MF P S Good n0 r0) own (G (bV ρ fr) (cs.map (bV ρ))) W:=by
 refine .stop λaH hr=>⟨fr,cs,w,dD ρ w.heap.size aH.heap.size,hG,hS.grow hr.size λx hx=>hr.block x (.inl (hown x hx)),λx hx=>hown x (by rwa[cV]at hx),?_,hc,hcs,⟨h0.size,λr hr=>by rw[aT (zaw hr h0.size)];exact h0.same r hr⟩⟩;rw[ew hc (ρ:=ρ) (ρ':=dD ρ w.heap.size aH.heap.size) (λr hlt=>(aT hlt).symm) (λ_=>rfl),eQ (ρ:=ρ) (ρ':=dD ρ w.heap.size aH.heap.size) (λr hlt=>(aT hlt).symm) (λ_=>rfl) hcs]
theorem NS.sub {Shun:Loc→Prop}{ro own own':Nat→Prop}(h:NS Shun ro own W)(hs:∀x,own' x→own x):NS Shun ro own' W:=
 ⟨λb hb=>h.Up b (hs b hb),h.MC,λl hl=>h.sR l (hl.imp (λx=>by
   cases l with
   |cell a=>exact hs _ x
   |obj r=>exact hs _ x
   |_=>exact x) id),h.low⟩
theorem aa.walk (h:∀ρ W,iH P S ρ w W→fY P S w.heap.size fr→(∀f∈cs,fY P S w.heap.size f)→ai P true (λ_=>False) (MF P S (aa P S Ψ) w.heap.size ρ) (Touch S.d ρ w) (G (bV ρ fr) (cs.map (bV ρ))) W):aa P S Ψ fr cs w:=by
 intro ρ W gs sl t q Shun hS hc hcs h0 hL hP hN hO hT uX;refine(Au (h ρ W hS hc hcs) W (bN.refl _ _ _) gs sl t q h0 hL hP hN).bind ?_;rintro m t' ⟨gs',own',a',w',sl',q',rfl,_,Jt,hst,Yc,Yb,hN',_,B6,hK⟩;obtain⟨fr2,cs2,w2,Fp,hG,Mr,hown,rfl,hc2,acs,WH⟩:=hst w' (bN.refl _ _ _);have hsz:=hO.size;exact hG Fp w' gs' sl' t' q' Shun Mr hc2 acs Jt Yc Yb (hN'.sub hown)
  ⟨hK.tape.trans hO.tape,hK.os.trans hO.os,hK.output.trans hO.output,zad hsz hK.size,λb hb hm=>(hK.block b (by omega) λht=>(hT b ht).elim (λh=>by omega) hm).trans (hO.block b hb hm)⟩
  (λx hx=>(B6 x (hown x hx)).elim (hT x) λe=> .inl (by omega)) ⟨zad uX.size WH.size,λr hr=>(WH.same r (zaw hr uX.size)).trans (uX.same r hr)⟩
theorem aa.re (h:aa P S Ψ fr cs w)(e:w'.heap=w.heap):aa P S Ψ fr cs w':=by
 intro ρ W gs sl t q Shun hS hc hcs h0 hL hP hN hO hT uX;have QH:iH P S ρ w W:=hS.acm e.symm;have ht:Touch S.d ρ w'=Touch S.d ρ w:=by unfold Touch;rw[e]
 rw[e]at hc hcs;rw[ht]at hN hT;exact h ρ W gs sl t q Shun QH hc hcs h0 hL hP hN hO hT ⟨by have:=uX.size;rwa[e]at this,uX.same⟩
theorem aa.silent (hst:∀ρ W,stepG P true (G (bV ρ fr) (cs.map (bV ρ))) W=.go (G (bV ρ fr') (cs'.map (bV ρ))) W #[])
 (fe:fY P S w.heap.size fr→(∀f∈cs,fY P S w.heap.size f)→fY P S w.heap.size fr'∧∀f∈cs',fY P S w.heap.size f)(k:aa P S Ψ fr' cs' w):aa P S Ψ fr cs w:=
 aa.walk λρ W hS hc hcs=>by
  obtain⟨h1,h2⟩:=fe hc hcs;refine ai.silent rfl (λaH=>?_) (ai.co k hS (λ_ h=>h) h1 h2 (QK.refl _ _));exact hst ρ aH
def _root_.Go.Act.rn (a:Act)(ρ:Rn):Act:={ a with tmps:=a.tmps.map (rv ρ) }
theorem ml (b:Frame)(a:Act)(k:List Item):bV ρ (b.at a k)=b.at (a.rn ρ) k:=rfl
def MG (_P:Program)(S:Sd)(n:Nat)(a:Act):Prop:=∀v∈a.tmps,rv (sg S S.d n) v=v
theorem getD_map (c:Array Value)(i:Nat):(c.map (rv ρ)).getD i undef=rv ρ (c.getD i undef):=by
 simp only[zaV,zal];cases c[i]? with
 |none=>simp[dG]
 |some v=>simp
theorem Av (a:Act):(a.rn ρ).eval=fh λt=>rv ρ (a.tmps.getD t undef):=by
 funext x;cases x with
 |tmp t=>exact getD_map _ _
 |_=>rfl
theorem oK (a:Act):a.eval=fh λt=>a.tmps.getD t undef:=by
 funext x;cases x<;>rfl
theorem MG.get {n:Nat}{a:Act}(h:MG P S n a)(t:Nat):rv (sg S S.d n) (a.tmps.getD t undef)=a.tmps.getD t undef:=by
 rw[zaV];cases he:a.tmps[t]? with
 |none=>simp[dG]
 |some v=>simp;exact h v (zaX he)
theorem Fq (a:Act)(d:Option Tmp)(v:Value):(a.rn ρ).put d (rv ρ v)=(a.put d v).rn ρ:=by
 cases d with
 |none=>rfl
 |some d=>simp[Act.put,Act.rn,Array.map_setIfInBounds]
theorem MG.put {n:Nat}{a:Act}(h:MG P S n a)(d:Option Tmp){v:Value}(hv:rv (sg S S.d n) v=v):MG P S n (a.put d v):=by
 cases d with
 |none=>exact h
 |some d=>
  intro x hx;have Ar:x∈a.tmps.setIfInBounds d v:=hx;rcases Array.mem_or_eq_of_mem_setIfInBounds Ar with h1|h1
  ·exact h x h1
  ·rw[h1];exact hv
section
variable {b:Frame}{a:Act}{ops:Array Oper}{i:Nat}{rest:List Nat}{o:Oper}{kk:List Item}
theorem aa.Hn (hC:kO P F S)(bX:fw P F S o.op=true)(ho:ops[i]?=some o)(hw:Region.wanted o (yielded ops a.tmps)=true)(hk:b.kind≠.early)
 (h:∀τ d,∃v w',(execOp a.eval o).run P (w.re τ d)=.ok (.value v) w'∧aa P S Ψ (b.at (a.put o.dst v) (.inRegion ops rest::kk)) cs w'):aa P S Ψ (b.at a (.inRegion ops (i::rest)::kk)) cs w:=
 aa.walk λρ W hS hc hcs=>by
  have hca:MG P S w.heap.size a:=hc;refine ai.Hn (a:=a.rn ρ) (b:=b) (T:=λt=>a.tmps.getD t undef) hC bX ho (by show Region.wanted o (yielded ops (a.tmps.map (rv ρ)))=true;rw[show yielded ops (a.tmps.map (rv ρ))=yielded ops a.tmps from funext λj=>nC ops a.tmps j];exact hw) hk (λt=>hca.get t) hS (λ_ h=>h) (by rw[Av]) (by rw[←oK];exact h)
   (λv w' ρ' W' own' hq QH sM hsz fe hown _ _ _=>?_) ⟨λx hx=>hx.elim (λ⟨r,h1,h2,e⟩=>by rw[e];exact hS.low h2) False.elim,λ_ h=>h.elim⟩
  have LF:(a.rn ρ).put o.dst (rv ρ' v)=(a.put o.dst v).rn ρ':=by
   have e:a.rn ρ=a.rn ρ':=by
    unfold Act.rn;rw[dF λx hx=>agree (σ:=sg S S.d w.heap.size) (λr hr=>(sM r (bH.1 hr).2).symm) (λy _=>(Cc hS QH y).symm) x (hca x hx)]
   rw[e,Fq]
  have acu:cs.map (bV ρ)=cs.map (bV ρ'):=eQ (λr hr=>(sM r hr).symm) (λx=>(Cc hS QH x).symm) hcs;rw[LF,acu];exact ai.co (fr:=b.at (a.put o.dst v) (.inRegion ops rest::kk)) hq QH hown (MG.put (P:=P) (λx hx=>eu (dv hsz).1 (dv hsz).2 x (hca x hx)) o.dst fe) (λf hf=>ie hsz (hcs f hf)) ⟨hsz,sM⟩
end
end
section
variable {P:Program}{F:FuncId→Bool}{S:Sd}{Ψ:cI}{fr fr':Frame}{cs cs':List Frame}{w w' W:World}{ρ:Rn}{b:Frame}{a:Act}{k:List Item}
theorem aa.ctl {k':List Item}(hst:∀(a:Act) (cs:List Frame) W,stepG P true (G (b.at a k) cs) W=.go (G (b.at a k') cs) W #[])(h:aa P S Ψ (b.at a k') cs w):aa P S Ψ (b.at a k) cs w:=
 aa.silent (fr':=b.at a k') (cs':=cs) (λρ W=>by rw[ml,ml];exact hst _ _ _) (λh1 h2=>⟨h1,h2⟩) h
theorem aa.seq {x y:Code}(h:aa P S Ψ (b.at a (.code x::.code y::k)) cs w):aa P S Ψ (b.at a (.code (.seq x y)::k)) cs w:=aa.ctl (λ_ _ _=>stepG_seq) h
theorem aa.skip (h:aa P S Ψ (b.at a k) cs w):aa P S Ψ (b.at a (.code .skip::k)) cs w:=aa.ctl (λ_ _ _=>stepG_skip) h
theorem aa.inBlock {id:Nat}(h:aa P S Ψ (b.at a k) cs w):aa P S Ψ (b.at a (.inBlock id::k)) cs w:=aa.ctl (λ_ _ _=>stepG_inBlock) h
theorem aa.block {id:Nat}{c:Code}(h:aa P S Ψ (b.at a (.code c::.inBlock id::k)) cs w):aa P S Ψ (b.at a (.code (.block id c)::k)) cs w:=aa.ctl (λ_ _ _=>stepG_block) h
theorem aa.loop {c:Code}(h:aa P S Ψ (b.at a (.code c::.inLoop c::k)) cs w):aa P S Ψ (b.at a (.code (.loop c)::k)) cs w:=aa.ctl (λ_ _ _=>stepG_loop) h
theorem aa.inLoop {c:Code}(h:aa P S Ψ (b.at a (.code c::.inLoop c::k)) cs w):aa P S Ψ (b.at a (.inLoop c::k)) cs w:=aa.ctl (λ_ _ _=>stepG_inLoop) h
theorem aa.exit {id:Nat}{k':List Item}(he:exitTo id k=some k')(h:aa P S Ψ (b.at a k') cs w):aa P S Ψ (b.at a (.code (.exit id)::k)) cs w:=aa.ctl (λ_ _ _=>stepG_exit he) h
theorem aa.region {id:Nat}{ops:Array Oper}(h:aa P S Ψ (b.at a (.inRegion ops (List.range ops.size)::k)) cs w):aa P S Ψ (b.at a (.code (.region id ops false)::k)) cs w:=aa.ctl (λ_ _ _=>stepG_region) h
theorem Aw {c:Operand}{t:Bool}(h:a.eval c=.bool t):(a.rn ρ).eval c=.bool t:=by
 rw[Av];rw[oK]at h;cases c with
 |tmp i=>
  simp only[fh]at h ⊢;rw[h];simp[rv]
 |const v=>exact h
 |global g=>exact h
 |func f=>exact h
theorem aa.cond {c:Operand}{x y:Code}{t:Bool}(hc:a.eval c=.bool t)(h:aa P S Ψ (b.at a (.code (if t then x else y)::k)) cs w):aa P S Ψ (b.at a (.code (.cond c x y)::k)) cs w:=
 aa.silent (fr':=b.at a (.code (if t then x else y)::k)) (cs':=cs) (λρ W=>by rw[ml,ml];exact stepG_cond (Aw hc)) (λh1 h2=>⟨h1,h2⟩) h
def fR (b:Frame)(a:Act)(k:List Item):Frame:={ b.at a k with mode:= .returning }
theorem QL:bV ρ (fR b a k)=fR b (a.rn ρ) k:=rfl
theorem Cf {main:Bool}{ops:Array Oper}{i:Nat}{rest:List Nat}{o:Oper}{kk:List Item}(ho:ops[i]?=some o)(hw:Region.wanted o (yielded ops a.tmps)=true)(hk:b.kind≠.early){f:FuncId}{xs:Array Operand}{ats:Array TypeId}(hop:o.op=.call { callee:= .value (.func f),args:=xs,argTypes:=ats })
 (qQ:(P.funcs[f]?).any (λfn=>fn.body.isSome)=true)(MH:(P.funcs[f]?).any (λfn=>fn.name != "runtime.NumGoroutine")=true):
 stepG P main (G (b.at a (.inRegion ops (i::rest)::kk)) cs) w=.go (G (Frame.enter P f (xs.map a.eval) .normal) (b.at a (.inRegion ops (i::rest)::kk)::cs)) w #[]:=by
 cases hf:P.funcs[f]? with
 |none=>rw[hf]at qQ;simp at qQ
 |some fn=>
  rw[hf]at qQ MH;simp only[Option.any_some]at qQ MH;obtain⟨cc,hcc⟩:=zbB.1 qQ;have hne:¬fn.name= "runtime.NumGoroutine" :=by simpa using MH
  have hr:(execOp a.eval o).run P w=.ok (.enter f (xs.map a.eval)) w:=by
   unfold execOp;simp[hop,resolve,invoke,callFunc,hf,hcc,hne,Act.eval,Deferred.ofValue,go_sem]
  have he:(execOp a.eval o).events P w #[]=#[]:=by
   unfold execOp;simp[hop,resolve,invoke,callFunc,hf,hcc,hne,Act.eval,Deferred.ofValue,go_sem]
  rw[stepG_enter ho hw hk hr,listed_none he]
theorem QM (hf:qE S ρ){xs:Array Operand}(hx:xs.all (fV S)=true):xs.map (a.rn ρ).eval=(xs.map a.eval).map (rv ρ):=by
 rw[zbm];refine Array.map_congr_left λx hm=>?_;have:=Array.all_eq_true_iff_forall_mem.1 hx x hm;show(a.rn ρ).eval x=rv ρ (a.eval x);rw[Av,oK];exact Mt this hf
theorem QN {n:Nat}(hn:S.g≤n)(h:MG P S n a){xs:Array Operand}(hx:xs.all (fV S)=true):∀v∈xs.map a.eval,rv (sg S S.d n) v=v:=by
 intro v hv;obtain⟨x,hm,rfl⟩:=Array.mem_map.1 hv;have:=Array.all_eq_true_iff_forall_mem.1 hx x hm;rw[oK];exact Hl hn (λt=>h.get t) this
theorem Cg {n:Nat}{f:FuncId}{args:Array Value}(h:∀v∈args,rv (sg S S.d n) v=v):fY P S n (Frame.enter P f args .normal):=by
 have e:bV (sg S S.d n) (Frame.enter P f args .normal)=Frame.enter P f args .normal:=by
  rw[←gL,bj.2 h]
 exact sK e
theorem aa.QO (hst:∀ρ:Rn,qE S ρ→∀W,stepG P true (G (bV ρ fr) (cs.map (bV ρ))) W=.go (G (bV ρ fr') (cs'.map (bV ρ))) W #[])
 (fe:S.g≤w.heap.size→fY P S w.heap.size fr→(∀f∈cs,fY P S w.heap.size f)→fY P S w.heap.size fr'∧∀f∈cs',fY P S w.heap.size f)(k:aa P S Ψ fr' cs' w):aa P S Ψ fr cs w:=
 aa.walk λρ W hS hc hcs=>by
  obtain⟨h1,h2⟩:=fe hS.wr.big.g hc hcs;exact ai.silent rfl (λaH=>hst ρ hS.fix aH) (ai.co k hS (λ_ h=>h) h1 h2 (QK.refl _ _))
theorem aa.enter {ops:Array Oper}{i:Nat}{rest:List Nat}{o:Oper}{kk:List Item}(ho:ops[i]?=some o)(hw:Region.wanted o (yielded ops a.tmps)=true)(hk:b.kind≠.early){f:FuncId}{xs:Array Operand}{ats:Array TypeId}(hop:o.op=.call { callee:= .value (.func f),args:=xs,argTypes:=ats })
 (qQ:(P.funcs[f]?).any (λfn=>fn.body.isSome)=true)(MH:(P.funcs[f]?).any (λfn=>fn.name != "runtime.NumGoroutine")=true)(hx:xs.all (fV S)=true)
 (h:aa P S Ψ (Frame.enter P f (xs.map a.eval) .normal) (b.at a (.inRegion ops (i::rest)::kk)::cs) w):aa P S Ψ (b.at a (.inRegion ops (i::rest)::kk)) cs w:=by
 refine aa.QO (λρ uX W=>?_) (λh0 h1 h2=>⟨Cg (QN (P:=P) h0 h1 hx),λg hg=>?_⟩) h
 ·rw[zan,ml,←gL,←QM uX hx];refine Cf ho ?_ hk hop qQ MH;show Region.wanted o (yielded ops (a.tmps.map (rv ρ)))=true;rw[show yielded ops (a.tmps.map (rv ρ))=yielded ops a.tmps from funext λj=>nC ops a.tmps j];exact hw
 ·rcases zao.1 hg with rfl|hg
  ·exact h1
  ·exact h2 g hg
end
def jB (ρ σ:Rn):Rn:={ b:=λr=>ρ (σ r),f:=λx=>ρ.f (σ.f x),d:=ρ.d }
theorem ee {f g h:Value→Value}{cs:Array Value}(e:∀x∈cs,f (g x)=h x):(cs.map g).map f=cs.map h:=by
 rw[zbm];exact Array.map_congr_left λx hx=>e x hx
theorem ij (ρ σ:Rn):∀v:Value,rv ρ (rv σ v)=rv (jB ρ σ) v
 |.pointer none=>by simp[rv]
 |.pointer (some a)=>by simp[rv,ra,jB]
 |.slice none _ _=>by simp[rv]
 |.slice (some a) l c=>by simp[rv,ra,jB]
 |.map none=>by simp[rv]
 |.map (some r)=>by simp[rv,jB]
 |.chan none=>by simp[rv]
 |.chan (some r)=>by simp[rv,jB]
 |.func fn first captured=>by
  simp only[rv,Value.func.injEq];refine⟨rfl,ee λx hx=>?_,ee λx hx=>?_⟩
  ·have:=zaB hx;exact ij ρ σ x
  ·have:=zaB hx;exact ij ρ σ x
 |.iface t v=>by simp only[rv,Value.iface.injEq,true_and];exact ij ρ σ v
 |.agg cs=>by
  simp only[rv,Value.agg.injEq];refine ee λx hx=>?_;have:=zaB hx;exact ij ρ σ x
 |.tuple cs=>by
  simp only[rv,Value.tuple.injEq];refine ee λx hx=>?_;have:=zaB hx;exact ij ρ σ x
 |.bool _=>by simp[rv]
 |.int _ _=>by simp[rv]
 |.float _ _=>by simp[rv]
 |.complex _ _ _=>by simp[rv]
 |.string _=>by simp[rv]
 |.nilFunc=>by simp[rv]
 |.nilIface=>by simp[rv]
termination_by v=>SizeOf.sizeOf v
theorem Hp (ρ σ:Rn)(o:Obj):ro ρ (ro σ o)=ro (jB ρ σ) o:=by
 cases o with
 |cells c t f=>simp only[ro,Obj.cells.injEq,and_true];exact ee λx _=>ij ρ σ x
 |pending c t=>simp only[ro,Obj.pending.injEq,and_true];exact ee λx _=>ij ρ σ x
 |chan a b c d e f=>simp only[ro,Obj.chan.injEq,true_and,and_true];exact ee λx _=>ij ρ σ x
 |view a t=>simp[ro,ra,jB]
 |number a t=>simp[ro,ra,jB]
 |map es c=>
  simp only[ro,Obj.map.injEq,and_true,zbm];refine Array.map_congr_left λe _=>?_;simp[ij]
 |_=>rfl
theorem MI {ρ:Rn}{o:Obj}(h:lr o):lr (ro ρ o):=by
 cases o<;>first|exact h|trivial
def y9 (g0 n:Nat):Rn:={ b:=λr=>if g0≤r then n+(r-g0)else r,f:=id,d:=0 }
def za (ρ fS:Rn)(g0 n m N:Nat):Rn:={ b:=λr=>if r<n then ρ r else if r<n+(m-g0)then fS (g0+(r-n))else N+(r-(n+(m-g0))),f:=ρ.f,d:=ρ.d }
def Fs (P:Program)(w w₂:World):World:={ w with heap:=w.heap++(w₂.heap.extract P.globals.size w₂.heap.size).map (ro (y9 P.globals.size w.heap.size)) }
structure Two (P:Program) (S iI:Sd):Prop where
 z:iI.d=P.globals.size
 dp:S.d≤P.globals.size
 f:∀g,iI g=true→S g=true
section
variable {P:Program}{S iI:Sd}{ρ fS:Rn}{w w₂ W:World}
theorem oL (h:P.globals.size≤w₂.heap.size):(Fs P w w₂).heap.size=w.heap.size+(w₂.heap.size-P.globals.size):=by
 simp only[Fs,Array.size_append,Array.size_map,Array.size_extract];omega
theorem Fu {r:Nat}(h:r<w.heap.size):(Fs P w w₂).heap[r]?=w.heap[r]?:=by
 simp only[Fs];rw[Array.getElem?_append_left h]
theorem MJ {r:Nat}(h1:P.globals.size≤r)(h2:r<w₂.heap.size):(Fs P w w₂).heap[w.heap.size+(r-P.globals.size)]?=(w₂.heap[r]?).map (ro (y9 P.globals.size w.heap.size)):=by
 simp only[Fs];rw[Array.getElem?_append_right (by omega),zal,show w.heap.size+(r-P.globals.size)-w.heap.size=r-P.globals.size by omega,Array.getElem?_extract,if_pos (by omega),show P.globals.size+(r-P.globals.size)=r by omega]
theorem Fv {r:Nat}{o:Obj}(hb:P.globals.size≤w₂.heap.size)(h:(Fs P w w₂).heap[r]?=some o):(r<w.heap.size∧w.heap[r]?=some o)∨∃r₂ wh,P.globals.size≤r₂∧r₂<w₂.heap.size∧r=w.heap.size+(r₂-P.globals.size)∧w₂.heap[r₂]?=some wh∧o=ro (y9 P.globals.size w.heap.size) wh:=by
 rcases zag r w.heap.size with hlt|i6
 ·rw[Fu hlt]at h;exact .inl ⟨hlt,h⟩
 ·right;have hs:=(zac.1 h).1;rw[oL hb]at hs;have h2:P.globals.size+(r-w.heap.size)<w₂.heap.size:=by omega
  have e:r=w.heap.size+(P.globals.size+(r-w.heap.size)-P.globals.size):=by omega
  rw[e,MJ (by omega) h2]at h;obtain⟨wh,h3,h4⟩:=zai.1 h;exact⟨_,wh,by omega,h2,e,h3,h4.symm⟩
theorem Yd (T:Two P S iI)(h:iH P S ρ w W)(h₂:iH P iI fS w₂ W){v:Value}(hc:Cl P iI w₂ v):rv (za ρ fS P.globals.size w.heap.size w₂.heap.size W.heap.size) (rv (y9 P.globals.size w.heap.size) v)=rv fS v:=by
 rw[ij];refine agree (σ:=sg iI iI.d w₂.heap.size) (λr hr=>?_) (λx _=>?_) v hc
 ·obtain⟨h1,h2⟩:=bH.1 hr;rw[T.z]at h1;simp only[jB,y9,za,if_pos h1];rw[if_neg (by omega),if_pos (by omega)]
  congr 1
  omega
 ·simp only[jB,y9,za,id];rw[h.f,h₂.f]
theorem Ye (T:Two P S iI)(h:iH P S ρ w W)(h₂:iH P iI fS w₂ W){o:Obj}(hc:ro (sg iI iI.d w₂.heap.size) o=o):ro (za ρ fS P.globals.size w.heap.size w₂.heap.size W.heap.size) (ro (y9 P.globals.size w.heap.size) o)=ro fS o:=by
 rw[Hp];refine sB (σ:=sg iI iI.d w₂.heap.size) (λr hr=>?_) (λx _=>?_) hc
 ·obtain⟨h1,h2⟩:=bH.1 hr;rw[T.z]at h1;simp only[jB,y9,za,if_pos h1];rw[if_neg (by omega),if_pos (by omega)]
  congr 1
  omega
 ·simp only[jB,y9,za,id];rw[h.f,h₂.f]
theorem Yf (T:Two P S iI)(hb:P.globals.size≤w.heap.size)(jZ:P.globals.size≤w₂.heap.size){v:Value}(hc:Cl P iI w₂ v):Cl P S (Fs P w w₂) (rv (y9 P.globals.size w.heap.size) v):=by
 unfold Cl;rw[ij];refine agree (σ:=sg iI iI.d w₂.heap.size) (λr hr=>?_) (λx hx=>?_) v hc
 ·obtain⟨h1,h2⟩:=bH.1 hr;rw[T.z]at h1;simp only[jB,y9,if_pos h1];exact bH.2 ⟨by have:=T.dp;omega,by rw[oL jZ];omega⟩
 ·simp only[jB,y9,id];obtain⟨g,rfl,hg⟩:=gY.1 hx;exact gY.2 ⟨g,rfl,T.f g hg⟩
theorem Us (T:Two P S iI)(hb:P.globals.size≤w.heap.size)(jZ:P.globals.size≤w₂.heap.size){o:Obj}(hc:ro (sg iI iI.d w₂.heap.size) o=o):ro (sg S S.d (Fs P w w₂).heap.size) (ro (y9 P.globals.size w.heap.size) o)=ro (y9 P.globals.size w.heap.size) o:=by
 rw[Hp];refine sB (σ:=sg iI iI.d w₂.heap.size) (λr hr=>?_) (λx hx=>?_) hc
 ·obtain⟨h1,h2⟩:=bH.1 hr;rw[T.z]at h1;simp only[jB,y9,if_pos h1];exact bH.2 ⟨by have:=T.dp;omega,by rw[oL jZ];omega⟩
 ·simp only[jB,y9,id];obtain⟨g,rfl,hg⟩:=gY.1 hx;exact gY.2 ⟨g,rfl,T.f g hg⟩
theorem iH.merge (T:Two P S iI)(h:iH P S ρ w W)(h₂:iH P iI fS w₂ W)(hd:∀b,Touch S.d ρ w b→¬Touch iI.d fS w₂ b):iH P S (za ρ fS P.globals.size w.heap.size w₂.heap.size W.heap.size) (Fs P w w₂) W:=by
 have hb:=h.wr.big.p;have jZ:=h₂.wr.big.p;have wj:=T.dp;have hz:=T.z;have hs:=oL (w:=w) jZ;have sM:∀r,r<w.heap.size→za ρ fS P.globals.size w.heap.size w₂.heap.size W.heap.size r=ρ r:=λr hr=>by simp only[za,if_pos hr]
 have mm:∀r,P.globals.size≤r→r<w₂.heap.size→za ρ fS P.globals.size w.heap.size w₂.heap.size W.heap.size (w.heap.size+(r-P.globals.size))=fS r:=λr h1 h2=>by
  simp only[za];rw[if_neg (by omega),if_pos (by omega)]
  congr 1
  omega
 have yh:∀r,w.heap.size+(w₂.heap.size-P.globals.size)≤r→za ρ fS P.globals.size w.heap.size w₂.heap.size W.heap.size r=W.heap.size+(r-(w.heap.size+(w₂.heap.size-P.globals.size))):=λr hr=>by
  simp only[za];rw[if_neg (by omega),if_neg (by omega)]
 have cs:∀r,r<w.heap.size∨(∃r₂,P.globals.size≤r₂∧r₂<w₂.heap.size∧r=w.heap.size+(r₂-P.globals.size))∨w.heap.size+(w₂.heap.size-P.globals.size)≤r:=λr=>by
  rcases zag r w.heap.size with h1|h1
  ·exact .inl h1
  ·rcases zag r (w.heap.size+(w₂.heap.size-P.globals.size))with h2|h2
   ·exact .inr (.inl ⟨P.globals.size+(r-w.heap.size),by omega,by omega,by omega⟩)
   ·exact .inr (.inr h2)
 refine⟨⟨λr o i6 ho=>?_,λr o ho=>?_,λr hr=>?_,λr o i6 ho=>?_,λr hr=>?_,λr h1 h2=>?_,?_⟩,λa b e=>?_,λr=>?_,h.f,h.oX⟩
 ·rcases Fv jZ ho with⟨h1,h2⟩|⟨r₂,wh,h1,h2,rfl,h3,rfl⟩
  ·rw[sM r h1,h.wr.live r o i6 h2]
   congr 1
   exact sB (σ:=sg S S.d w.heap.size) (λx hx=>(sM x (bH.1 hx).2).symm) (λ_ _=>rfl) (h.wr.closed r o i6 h2)
  ·rw[mm r₂ h1 h2,Ye T h h₂ (h₂.wr.closed r₂ wh (by omega) h3)];exact h₂.wr.live r₂ wh (by omega) h3
 ·rcases Fv jZ ho with⟨h1,h2⟩|⟨r₂,wh,h1,h2,rfl,h3,rfl⟩
  ·exact h.wr.ok r o h2
  ·exact MI (h₂.wr.ok r₂ wh h3)
 ·rw[Fu (by omega)];exact h.wr.dead r hr
 ·rcases Fv jZ ho with⟨h1,h2⟩|⟨r₂,wh,h1,h2,rfl,h3,rfl⟩
  ·have:=h.wr.closed r o i6 h2;have e:=sB (σ:=sg S S.d w.heap.size) (ρ:=sg S S.d (Fs P w w₂).heap.size) (ρ':=sg S S.d w.heap.size) (λx hx=>by
    rw[hx];exact bH.2 ⟨(bH.1 hx).1,by have:=(bH.1 hx).2;rw[hs];omega⟩) (λx hx=>by rw[hx];exact gY.2 (gY.1 hx)) this
   rw[e];exact this
  ·exact Us T hb jZ (h₂.wr.closed r₂ wh (by omega) h3)
 ·rw[hs]at hr ⊢;exact yh r hr
 ·rw[hs]at h2;rcases cs r with h3|⟨r₂,h3,h4,rfl⟩|h3
  ·rw[sM r h3];exact h.wr.low r h1 h3
  ·rw[mm r₂ h3 h4];exact h₂.wr.low r₂ (by omega) h4
  ·omega
 ·rw[hs];exact⟨by omega,by have:=h.wr.big.g;omega,h.wr.big.r,by omega,wj,λg h1 h2=>by rw[sM g (by have:=h.wr.big.g;omega)];exact h.wr.big.fg g h1 h2,λg h1=>by rw[sM g (by omega)];exact h.wr.big.fl g h1⟩
 ·rcases cs a with ha|⟨a₂,ha1,ha2,rfl⟩|ha<;>rcases cs b with hb'|⟨sP,hb1,hb2,rfl⟩|hb'
  ·rw[sM a ha,sM b hb']at e;exact h.inj a b e
  ·rw[sM a ha,mm sP hb1 hb2]at e;rcases zag a P.globals.size with hl|hl
   ·have g1:=(h.kH a).2 hl;rw[e]at g1;have:=(h₂.kH sP).1 g1;omega
   ·exact absurd ⟨sP,by omega,hb2,e⟩ (hd (ρ a) ⟨a,by omega,ha,rfl⟩)
  ·rw[sM a ha,yh b hb']at e;have:=h.low ha;omega
  ·rw[mm a₂ ha1 ha2,sM b hb']at e;rcases zag b P.globals.size with hl|hl
   ·have g1:=(h.kH b).2 hl;rw[←e]at g1;have:=(h₂.kH a₂).1 g1;omega
   ·exact absurd ⟨a₂,by omega,ha2,e.symm⟩ (hd (ρ b) ⟨b,by omega,hb',rfl⟩)
  ·rw[mm a₂ ha1 ha2,mm sP hb1 hb2]at e;have:=h₂.inj a₂ sP e;omega
  ·rw[mm a₂ ha1 ha2,yh b hb']at e;have:=h₂.low ha2;omega
  ·rw[yh a ha,sM b hb']at e;have:=h.low hb';omega
  ·rw[yh a ha,mm sP hb1 hb2]at e;have:=h₂.low hb2;omega
  ·rw[yh a ha,yh b hb']at e;omega
 ·rcases cs r with h3|⟨r₂,h3,h4,rfl⟩|h3
  ·rw[sM r h3];exact h.kH r
  ·rw[mm r₂ h3 h4];have:=h₂.kH r₂;constructor
   ·intro q;have:=this.1 q;omega
   ·intro q;omega
  ·rw[yh r h3];have:=h.oX;constructor<;>intro<;>omega
theorem Ch (T:Two P S iI)(jZ:P.globals.size≤w₂.heap.size){b:Nat}(ht:Touch S.d (za ρ fS P.globals.size w.heap.size w₂.heap.size W.heap.size) (Fs P w w₂) b):Touch S.d ρ w b∨Touch iI.d fS w₂ b:=by
 obtain⟨r,h1,h2,rfl⟩:=ht;rw[oL jZ]at h2;rcases zag r w.heap.size with hlt|i6
 ·exact .inl ⟨r,h1,hlt,by simp only[za,if_pos hlt]⟩
 ·refine .inr ⟨P.globals.size+(r-w.heap.size),by have:=T.z;omega,by omega,?_⟩;simp only[za];rw[if_neg (by omega),if_pos (by omega)]
theorem Ut {base:Nat}{e:TypeId}{z:Nat}{v:Value}{n:Nat}{xs:List Value}(hb:P.globals.size≤base)(h:w₂.ownsRow base e z v n xs)(hx:∀x∈xs,rv (y9 P.globals.size w.heap.size) x=x):(Fs P w w₂).ownsRow w.heap.size e z (rv (y9 P.globals.size w.heap.size) v) n xs:=by
 refine⟨h.1,?_⟩;rcases h.2 with⟨rfl,h0⟩|⟨g,cap,cur,rfl,h1,h2,h3,h4,h5,h6⟩
 ·exact .inl ⟨by simp[rv],h0⟩
 ·refine .inr ⟨w.heap.size+(g-P.globals.size),cap,cur.map (rv (y9 P.globals.size w.heap.size)),?_,by omega,?_,h3,h4,by simpa using h5,?_⟩
  ·simp only[rv,zaH,ra,y9,if_pos (show P.globals.size≤g by omega)]
  ·rw[MJ (by omega) (zac.1 h2).1,h2];rfl
  ·rw[zaD,←List.map_take,h6]
   conv=>rhs;rw[←List.map_id xs]
   exact List.map_congr_left λx hm=>hx x hm
end
end Go.Ren
