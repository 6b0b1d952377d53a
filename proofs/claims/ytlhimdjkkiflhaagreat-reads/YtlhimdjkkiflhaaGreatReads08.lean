import Derived.Test.YtlhimdjkkiflhaaGreatReads07
set_option maxHeartbeats 8000000
set_option maxRecDepth 100000
open Go renaming Frame→Γ,World→Θ,exitTo→Λ,Program→Ξ,yielded→Φ,Value→Ω,Goroutine→ζ,execOp→θ,FuncId→ι,undef→ξ,Operand→π,stepG→υ,Trace→φ,Event→χ,TypeId→ψ
open Go.Sem renaming runT→Δ
open Go.Region renaming wanted→η
namespace Go.Ren
open Go Go.Conc
open Go.ConcN (sumTo upd sumTo_upd upd_ne upd_same)
structure NS (Shun:Loc→Prop) (ro own:Nat→Prop) (w:Θ):Prop where
 Ey:∀b,own b→b<w.heap.size
 ko:∀b,ro b→b<w.heap.size
 qV:∀l,jS own l∨jS ro l→¬Shun l
 low:∀l,Shun l→l.low w.heap.size
structure Kept (own:Nat→Prop) (w w':Θ):Prop where
 tape:w'.tape=w.tape
 os:w'.os=w.os
 output:w'.output=w.output
 size:w.heap.size≤w'.heap.size
 block:∀b,b<w.heap.size→¬own b→w'.heap[b]?=w.heap[b]?
theorem Kept.refl (own:Nat→Prop)(w:Θ):Kept own w w:=⟨rfl,rfl,rfl,zab _,λ_ _ _=>rfl⟩
theorem eW (ro own:Nat→Prop)(w:Θ)(d:Nat):bW ro own w (w.at d):=⟨rfl,rfl,rfl,zab _,λ_ _=>rfl⟩
theorem Kept.step {ro own:Nat→Prop}{w w₁ w₂:Θ}{es:Array χ}(h:Cs ro own w w₁ es)(k:Kept (Grow own w w₁) w₁ w₂):Kept own w w₂:=
 ⟨k.tape.trans h.tape,k.os.trans h.os,k.output.trans h.output,zaj h.size k.size,λb hb hn=>by
   have hs:=h.size;rw[k.block b (by omega) λhg=>hg.elim hn λx=>by omega,h.block b hb hn]⟩
section
variable {P:Ξ}{Shun:Loc→Prop}{ro own:Nat→Prop}{Stop:(Nat→Prop)→ζ→Θ→Prop}
theorem Ls {own:Nat→Prop}{w w':Θ}{l:Loc}(h:jS (Grow own w w') l)(hl:l.low w.heap.size):jS own l:=by
 cases l with
 |cell a=>exact h.elim id λx=>by have:a.block<w.heap.size:=hl;omega
 |obj r=>exact h.elim id λx=>by have:r<w.heap.size:=hl;omega
 |_=>exact h
theorem NS.grow {w w':Θ}{es:Array χ}(h:NS Shun ro own w)(hg:Cs ro own w w' es):NS Shun ro (Grow own w w') w':=by
 have hs:=hg.size;refine⟨λb hb=>hb.elim (λx=>by have:=h.Ey b x;omega) (·.2),λb hb=>by have:=h.ko b hb;omega,λl hl hS=>?_,λl hl=>Loc.low_mono hs (h.low l hl)⟩;exact h.qV l (hl.imp (λx=>Ls x (h.low l hS)) id) hS
theorem NS.at {w:Θ}(h:NS Shun ro own w)(d:Nat):NS Shun ro own (w.at d):=⟨h.Ey,h.ko,h.qV,h.low⟩
theorem NS.evL {w w':Θ}{es:Array χ}(h:NS Shun ro own w)(hg:Cs ro own w w' es):∀e∈es,EvL Shun w'.heap.size e:=by
 intro e he;have hn:=h.grow hg;have hE:=hg.evs e he;refine⟨λx hx hs=>absurd hs (hn.qV _ ?_),(nK hE).1,(nK hE).2,GM hn.Ey hn.ko hE⟩;exact(zm hE x hx).imp id (·.1)
def aa7 (P:Ξ)(Shun:Loc→Prop)(ro:Nat→Prop)(Stop:(Nat→Prop)→ζ→Θ→Prop)(n:Nat)(own:Nat→Prop)(w:Θ)(m:Machine)(t:φ):Prop:=
 ∃gs own' a' w' sl q,m=crowd gs w' sl∧gs.size=n∧gs[0]?=some a'∧(∀w₁,bW ro own' w' w₁→Stop own' a' w₁)∧Leavers P t gs q∧Past Shun w'.heap.size t∧NS Shun ro own' w'∧(∀b,own b→own' b)∧(∀b,own' b→own b∨w.heap.size≤b)∧Kept own w w'
theorem AR {a:ζ}{w:Θ}(hW:af P true ro Stop own a w):∀(w₁:Θ),bW ro own w w₁→∀(gs:Array ζ) (sl:Option (Nat×Nat)) (t:φ) (q:Nat→Nat),gs[0]?=some a→Leavers P t gs q→Past Shun w₁.heap.size t→NS Shun ro own w₁→Reach P (crowd gs w₁ sl) t (aa7 P Shun ro Stop gs.size own w₁):=by
 induction hW with
 | @stop own a w h=>
   intro w₁ hr gs sl t q h0 hL hP hN;exact .here ⟨gs,own,a,w₁,sl,q,rfl,rfl,h0,λw₂ h₂=>h w₂ (hr.trans h₂),hL,hP,hN,λ_ x=>x,λ_ x=> .inl x,Kept.refl _ _⟩
 | @step own a w nx nw ne hs h1 h2 _ ih=>
   intro w₁ hr gs sl t q h0 hL hP hN;generalize hM:sumTo gs.size q=M
   induction M using Nat.strongRecOn generalizing w₁ gs sl t q with
   |_ M ihM=>
   have SS:∀g∈gs,awake g:=by
    intro g hg;obtain⟨i,hi,rfl⟩:=zbV.1 hg;rcases Nat.eq_zero_or_pos i with rfl|jT
    ·have:gs[0]=a:=by simpa[Array.getElem?_eq_getElem hi]using h0
     rw[this];exact awake_of (.inl hs)
    ·exact awake_of ((hL.old i _ jT (zaE hi)).status.elim .inl λx=> .inr (.inr x))
   obtain⟨i,g,d,sl',hi,hg,hst⟩:=crowd_pick (P:=P) (w:=w₁) (sl:=sl) SS ⟨0,a,h0,hs⟩;have et:bW ro own w (w₁.at d):=hr.trans (eW ro own w₁ d);rcases Nat.eq_zero_or_pos i with rfl|jT
   ·obtain rfl:g=a:=by rw[h0]at hi;exact(zaY hi).symm
    have hgo:=h1 _ et;have Om:=h2 _ et;have qT:=runT_crowd_go (P:=P) (sl:=sl') (i:=0) hi (show υ P (0==0) g (w₁.at d)=_ from hgo);have hlt:0<gs.size:=(zag.1 h0).1;have hN':=(hN.at d).grow Om;have WG:=(hP.mono (B':=(nw (w₁.at d)).heap.size) Om.size).own (fn:=g.frame.fn) (pos:=g.frame.place) ((hN.at d).evL Om);refine Reach.step (hst.trans qT) ((ih _ et _ (bW.refl _ _ _) ((gs.map (woken P g (nx (w₁.at d)) (nw (w₁.at d)))).setIfInBounds 0 (nx (w₁.at d))) sl' _ q (by simp[hlt]) ⟨λj x hj hx=>?_,λj hj=>?_⟩ WG hN').mono ?_)
    ·rw[zax (by omega),zaw]at hx;obtain⟨y,hy,rfl⟩:=zav.1 hx;have hq:=hL.old j y hj hy;rw[woken_quitsD hq,zaF t (by omega) _ ofEvents_g];exact hq
    ·rw[zaF t (g':=0) (by simp at hj;omega) _ ofEvents_g];exact hL.above j (by simpa using hj)
    ·rintro m t' ⟨gs',own',a',w',SZ,q',e1,e2,e3,e4,e5,e6,e7,e8,e9,S0⟩;have hsz:=Om.size;exact⟨gs',own',a',w',SZ,q',e1,by rw[e2];simp,e3,e4,e5,e6,e7,λb hb=>e8 b (.inl hb),λb hb=>(e9 b hb).elim (λx=>x.elim .inl λy=> .inr y.1) (λx=> .inr (zaj hsz x)),by have hk:=Kept.step Om S0;exact⟨hk.tape,hk.os,hk.output,hk.size,hk.block⟩⟩
   ·have hq:=hL.old i g jT hi;have SU:(i==0)=false:=by simp;omega
    have hlt:i<gs.size:=(zag.1 hi).1;cases EY:q i with
    |zero=>rw[EY]at hq;rw[hq.1]at hg;cases hg
    |succ k=>
     rw[EY]at hq;rcases hq with⟨hf,_⟩|⟨_,g',es,hm,EZ,hq'⟩
     ·rw[hf]at hg;cases hg
     have qT:=runT_crowd_go (P:=P) (sl:=sl') (i:=i) hi (by rw[SU];exact EZ (w₁.at d));have hsz:((gs.map (woken P g g' (w₁.at d))).setIfInBounds i g').size=gs.size:=by simp
     have SV:sumTo gs.size (upd q i k)+(k+1)=sumTo gs.size q+k:=by
      have:=sumTo_upd q k id hlt;simpa[EY]using this
     have:=ihM (sumTo gs.size (upd q i k)) (by omega) (w₁.at d) et ((gs.map (woken P g g' (w₁.at d))).setIfInBounds i g') sl' (t++MemOp.ofEvents i g.frame.fn g.frame.place es) (upd q i k)
      (by rw[zax (by omega),zaw,h0];simp[woken_run hs])
      ⟨λj x hj hx=>by
        by_cases AQ:i=j
        ·subst AQ;rw[zbB (by simpa using hlt)]at hx;obtain rfl:=zaY hx;rw[upd_same,Deaf_own];exact hq'
        ·rw[zax AQ,zaw]at hx;obtain⟨y,hy,rfl⟩:=zav.1 hx;have Lq:=hL.old j y hj hy;rw[woken_quitsD Lq,upd_ne q k (Ne.symm AQ),zaF t AQ _ ofEvents_g];exact Lq,λj hj=>by
        rw[zaF t (g':=i) (by simp at hj;omega) _ ofEvents_g];exact hL.above j (by simpa using hj)⟩
      (hP.mute (by omega) hm) (hN.at d) (by rw[hsz])
     rw[hsz]at this;refine Reach.step (hst.trans qT) (this.mono ?_);rintro m t' ⟨gs',own',a',w',SZ,q',e1,e2,e3,e4,e5,e6,e7,e8,e9,S0⟩;exact⟨gs',own',a',w',SZ,q',e1,e2,e3,e4,e5,e6,e7,e8,e9,⟨S0.tape,S0.os,S0.output,S0.size,S0.block⟩⟩
end
end Go.Ren
namespace Go.Ren
open Go Go.Conc
structure dZ where
 base:Θ
 lo:Nat
 n0:Nat
 r0:Rn
 at_:Machine→φ→Prop
 bot:List Γ:=[]
 an:Nat:=0
 ar:Rn:=jR
 ro:Nat→Prop:=λ_=>False
 WH:∀b,ro b→b<base.heap.size∧∀r,lo≤r→r<n0→b≠r0 r:=by exact λ_ h=>h.elim
def dZ.mine (Ψ:dZ)(x:Nat):Prop:=∃r,Ψ.lo≤r∧r<Ψ.n0∧x=Ψ.r0 r
structure S1 (Ψ:dZ) (W:Θ):Prop where
 tape:W.tape=Ψ.base.tape
 os:W.os=Ψ.base.os
 output:W.output=Ψ.base.output
 size:Ψ.base.heap.size≤W.heap.size
 block:∀b,b<Ψ.base.heap.size→¬Ψ.mine b→W.heap[b]?=Ψ.base.heap[b]?
structure Oo (n0:Nat) (r0:Rn) (w:Θ) (ρ:Rn):Prop where
 size:n0≤w.heap.size
 same:∀r,r<n0→ρ r=r0 r
theorem Oo.refl (w:Θ)(ρ:Rn):Oo w.heap.size ρ w ρ:=⟨zab _,λ_ _=>rfl⟩
section
variable {P:Ξ}{F:ι→Bool}{S:Sd}{Ψ:dZ}{fr fr':Γ}{cs cs':List Γ}{w w' W:Θ}{ρ:Rn}
def ae (P:Ξ)(S:Sd)(Ψ:dZ)(fr:Γ)(cs:List Γ)(w:Θ):Prop:=
 ∀(ρ:Rn) (W:Θ) (gs:Array ζ) (sl:Option (Nat×Nat)) (t:φ) (q:Nat→Nat) (Shun:Loc→Prop),iO P S ρ w W→iw P S w.heap.size fr→(∀f∈cs,iw P S w.heap.size f)→
  gs[0]?=some (G (b8 ρ fr) (cs.map (b8 ρ)++Ψ.bot))→Leavers P t gs q→Past Shun W.heap.size t→NS Shun Ψ.ro (Touch S.d ρ w) W→S1 Ψ W→(∀x,Touch S.d ρ w x→Ψ.base.heap.size≤x∨Ψ.mine x)→Oo Ψ.n0 Ψ.r0 w ρ→Oo Ψ.an Ψ.ar w ρ→Reach P (crowd gs W sl) t Ψ.at_
theorem iO.self (h:iO P S ρ w W):WR P S jR w w:=
 ⟨λr o _ ho=>by rw[Cp];exact ho,h.wr.ok,h.wr.dead,h.wr.closed,λr hr=>by show r=_;omega,λr _ h2=>h2,⟨h.wr.big.d,h.wr.big.g,zap _,h.wr.big.p,h.wr.big.dp,λ_ _ _=>rfl,λ_ _=> .inr rfl⟩⟩
def Lt (P:Ξ)(S:Sd)(Good:Γ→List Γ→Θ→Prop)(bot:List Γ)(n0:Nat)(r0:Rn)(own:Nat→Prop)(g:ζ)(W:Θ):Prop:=
 ∃fr cs w ρ,Good fr cs w∧iO P S ρ w W∧(∀x,Touch S.d ρ w x→own x)∧g=G (b8 ρ fr) (cs.map (b8 ρ)++bot)∧iw P S w.heap.size fr∧(∀f∈cs,iw P S w.heap.size f)∧Oo n0 r0 w ρ
theorem af.co {main:Bool}{ro own:Nat→Prop}{Good:Γ→List Γ→Θ→Prop}{bot:List Γ}{n0:Nat}{r0:Rn}(hG:Good fr cs w)(hS:iO P S ρ w W)(hown:∀x,Touch S.d ρ w x→own x)(hc:iw P S w.heap.size fr)(hcs:∀f∈cs,iw P S w.heap.size f)(h0:Oo n0 r0 w ρ):af P main ro (Lt P S Good bot n0 r0) own (G (b8 ρ fr) (cs.map (b8 ρ)++bot)) W:=by
 refine .stop λaG hr=>⟨fr,cs,w,dT ρ w.heap.size aG.heap.size,hG,hS.grow hr.size λx hx=>hr.block x (.inl (hown x hx)),λx hx=>hown x (by rwa[dG]at hx),?_,hc,hcs,⟨h0.size,λr hr=>by rw[aV (zaH hr h0.size)];exact h0.same r hr⟩⟩;rw[eK hc (ρ:=ρ) (ρ':=dT ρ w.heap.size aG.heap.size) (λr hlt=>(aV hlt).symm) (λ_=>rfl),eV (ρ:=ρ) (ρ':=dT ρ w.heap.size aG.heap.size) (λr hlt=>(aV hlt).symm) (λ_=>rfl) hcs]
theorem NS.sub {Shun:Loc→Prop}{ro own own':Nat→Prop}(h:NS Shun ro own W)(hs:∀x,own' x→own x):NS Shun ro own' W:=
 ⟨λb hb=>h.Ey b (hs b hb),h.ko,λl hl=>h.qV l (hl.imp (λx=>by
   cases l with
   |cell a=>exact hs _ x
   |obj r=>exact hs _ x
   |_=>exact x) id),h.low⟩
theorem ae.walk (h:∀ρ W,iO P S ρ w W→iw P S w.heap.size fr→(∀f∈cs,iw P S w.heap.size f)→py Ψ.ro (Touch S.d ρ w) W→af P true Ψ.ro (Lt P S (ae P S Ψ) Ψ.bot w.heap.size ρ) (Touch S.d ρ w) (G (b8 ρ fr) (cs.map (b8 ρ)++Ψ.bot)) W):ae P S Ψ fr cs w:=by
 intro ρ W gs sl t q Shun hS hc hcs h0 hL hP hN hO hT vk yo;refine(AR (h ρ W hS hc hcs ⟨λb hb=>hb.elim (hN.Ey b) (hN.ko b),λb hb ht=>(hT b ht).elim (λh1=>by have:=(Ψ.WH b hb).1;omega) λ⟨r,h1,h2,e⟩=>(Ψ.WH b hb).2 r h1 h2 e⟩) W (bW.refl _ _ _) gs sl t q h0 hL hP hN).bind ?_;rintro m t' ⟨gs',own',a',w',sl',q',rfl,_,I0,hst,WI,WG,hN',_,vW,hK⟩;obtain⟨fr2,cs2,w2,E0,hG,wy,hown,rfl,hc2,aa8,hon⟩:=hst w' (bW.refl _ _ _);have hsz:=hO.size;exact hG E0 w' gs' sl' t' q' Shun wy hc2 aa8 I0 WI WG (hN'.sub hown)
  ⟨hK.tape.trans hO.tape,hK.os.trans hO.os,hK.output.trans hO.output,zaj hsz hK.size,λb hb hm=>(hK.block b (by omega) λht=>(hT b ht).elim (λh=>by omega) hm).trans (hO.block b hb hm)⟩
  (λx hx=>(vW x (hown x hx)).elim (hT x) λe=> .inl (by omega)) ⟨zaj vk.size hon.size,λr hr=>(hon.same r (zaH hr vk.size)).trans (vk.same r hr)⟩ ⟨zaj yo.size hon.size,λr hr=>(hon.same r (zaH hr yo.size)).trans (yo.same r hr)⟩
theorem ae.re (h:ae P S Ψ fr cs w)(e:w'.heap=w.heap):ae P S Ψ fr cs w':=by
 intro ρ W gs sl t q Shun hS hc hcs h0 hL hP hN hO hT vk yo;have Pj:iO P S ρ w W:=hS.aa3 e.symm;have ht:Touch S.d ρ w'=Touch S.d ρ w:=by unfold Touch;rw[e]
 rw[e]at hc hcs;rw[ht]at hN hT;exact h ρ W gs sl t q Shun Pj hc hcs h0 hL hP hN hO hT ⟨by have:=vk.size;rwa[e]at this,vk.same⟩ ⟨by have:=yo.size;rwa[e]at this,yo.same⟩
theorem ae.silent (hst:∀ρ W,υ P true (G (b8 ρ fr) (cs.map (b8 ρ)++Ψ.bot)) W=.go (G (b8 ρ fr') (cs'.map (b8 ρ)++Ψ.bot)) W #[])
 (gz:iw P S w.heap.size fr→(∀f∈cs,iw P S w.heap.size f)→iw P S w.heap.size fr'∧∀f∈cs',iw P S w.heap.size f)(k:ae P S Ψ fr' cs' w):ae P S Ψ fr cs w:=
 ae.walk λρ W hS hc hcs hR=>by
  obtain⟨h1,h2⟩:=gz hc hcs;refine af.silent rfl (λaG=>?_) (af.co k hS (λ_ h=>h) h1 h2 (Oo.refl _ _));exact hst ρ aG
def _root_.Go.Act.rn (a:Act)(ρ:Rn):Act:={ a with tmps:=a.tmps.map (rv ρ) }
theorem p9 (b:Γ)(a:Act)(k:List Item):b8 ρ (b.at a k)=b.at (a.rn ρ) k:=rfl
def Lu (_P:Ξ)(S:Sd)(n:Nat)(a:Act):Prop:=∀v∈a.tmps,rv (sg S S.d n) v=v
theorem getD_map (c:Array Ω)(i:Nat):(c.map (rv ρ)).getD i ξ=rv ρ (c.getD i ξ):=by
 simp only[zby,zaw];cases c[i]? with
 |none=>simp[dY]
 |some v=>simp
theorem GN (a:Act):(a.rn ρ).eval=fx λt=>rv ρ (a.tmps.getD t ξ):=by
 funext x;cases x with
 |tmp t=>exact getD_map _ _
 |_=>rfl
theorem s6 (a:Act):a.eval=fx λt=>a.tmps.getD t ξ:=by
 funext x;cases x<;>rfl
theorem Lu.get {n:Nat}{a:Act}(h:Lu P S n a)(t:Nat):rv (sg S S.d n) (a.tmps.getD t ξ)=a.tmps.getD t ξ:=by
 rw[zby];cases he:a.tmps[t]? with
 |none=>simp[dY]
 |some v=>simp;exact h v (zbG he)
theorem E4 (a:Act)(d:Option Tmp)(v:Ω):(a.rn ρ).put d (rv ρ v)=(a.put d v).rn ρ:=by
 cases d with
 |none=>rfl
 |some d=>simp[Act.put,Act.rn,Array.map_setIfInBounds]
theorem Lu.put {n:Nat}{a:Act}(h:Lu P S n a)(d:Option Tmp){v:Ω}(hv:rv (sg S S.d n) v=v):Lu P S n (a.put d v):=by
 cases d with
 |none=>exact h
 |some d=>
  intro x hx;have AP:x∈a.tmps.setIfInBounds d v:=hx;rcases Array.mem_or_eq_of_mem_setIfInBounds AP with h1|h1
  ·exact h x h1
  ·rw[h1];exact hv
section
variable {b:Γ}{a:Act}{ops:Array Oper}{i:Nat}{rest:List Nat}{o:Oper}{kk:List Item}
theorem ae.IY (hC:kZ P F S)(bM:jx P F S o.op=true)(ho:ops[i]?=some o)(hw:η o (Φ ops a.tmps)=true)(hk:b.kind≠.early)
 (h:∀τ d,∃v w',(θ a.eval o).run P (w.re τ d)=.ok (.value v) w'∧ae P S Ψ (b.at (a.put o.dst v) (.inRegion ops rest::kk)) cs w'):ae P S Ψ (b.at a (.inRegion ops (i::rest)::kk)) cs w:=
 ae.walk λρ W hS hc hcs hR=>by
  have hca:Lu P S w.heap.size a:=hc;refine af.IY (a:=a.rn ρ) (b:=b) (T:=λt=>a.tmps.getD t ξ) hC bM ho (by show η o (Φ ops (a.tmps.map (rv ρ)))=true;rw[show Φ ops (a.tmps.map (rv ρ))=Φ ops a.tmps from funext λj=>nH ops a.tmps j];exact hw) hk (λt=>hca.get t) hS (λ_ h=>h) (by rw[GN]) (by rw[←s6];exact h)
   (λv w' ρ' W' own' hq Pj sV hsz gz hown _ _ _=>?_) hR
  have p6:(a.rn ρ).put o.dst (rv ρ' v)=(a.put o.dst v).rn ρ':=by
   have e:a.rn ρ=a.rn ρ':=by
    unfold Act.rn;rw[dX λx hx=>agree (σ:=sg S S.d w.heap.size) (λr hr=>(sV r (bO.1 hr).2).symm) (λy _=>(Cu hS Pj y).symm) x (hca x hx)]
   rw[e,E4]
  have aa9:cs.map (b8 ρ)=cs.map (b8 ρ'):=eV (λr hr=>(sV r hr).symm) (λx=>(Cu hS Pj x).symm) hcs;rw[p6,aa9];exact af.co (fr:=b.at (a.put o.dst v) (.inRegion ops rest::kk)) hq Pj hown (Lu.put (P:=P) (λx hx=>eJ (dO hsz).1 (dO hsz).2 x (hca x hx)) o.dst gz) (λf hf=>ix hsz (hcs f hf)) ⟨hsz,sV⟩
end
end
section
variable {P:Ξ}{F:ι→Bool}{S:Sd}{Ψ:dZ}{fr fr':Γ}{cs cs':List Γ}{w w' W:Θ}{ρ:Rn}{b:Γ}{a:Act}{k:List Item}
theorem ae.ctl {k':List Item}(hst:∀(a:Act) (cs:List Γ) W,υ P true (G (b.at a k) cs) W=.go (G (b.at a k') cs) W #[])(h:ae P S Ψ (b.at a k') cs w):ae P S Ψ (b.at a k) cs w:=
 ae.silent (fr':=b.at a k') (cs':=cs) (λρ W=>by rw[p9,p9];exact hst _ _ _) (λh1 h2=>⟨h1,h2⟩) h
theorem ae.seq {x y:Code}(h:ae P S Ψ (b.at a (.code x::.code y::k)) cs w):ae P S Ψ (b.at a (.code (.seq x y)::k)) cs w:=ae.ctl (λ_ _ _=>zaR) h
theorem ae.region {id:Nat}{ops:Array Oper}(h:ae P S Ψ (b.at a (.inRegion ops (List.range ops.size)::k)) cs w):ae P S Ψ (b.at a (.code (.region id ops false)::k)) cs w:=ae.ctl (λ_ _ _=>zaU) h
def fJ (b:Γ)(a:Act)(k:List Item):Γ:={ b.at a k with mode:= .returning }
theorem Pn:b8 ρ (fJ b a k)=fJ b (a.rn ρ) k:=rfl
theorem Cw {main:Bool}{ops:Array Oper}{i:Nat}{rest:List Nat}{o:Oper}{kk:List Item}(ho:ops[i]?=some o)(hw:η o (Φ ops a.tmps)=true)(hk:b.kind≠.early){f:ι}{xs:Array π}{ats:Array ψ}(hop:o.op=.call { callee:= .value (.func f),args:=xs,argTypes:=ats })
 (qW:(P.funcs[f]?).any (λfn=>fn.body.isSome)=true)(E6:(P.funcs[f]?).any (λfn=>fn.name != "runtime.NumGoroutine")=true):
 υ P main (G (b.at a (.inRegion ops (i::rest)::kk)) cs) w=.go (G (Γ.enter P f (xs.map a.eval) .normal) (b.at a (.inRegion ops (i::rest)::kk)::cs)) w #[]:=by
 cases hf:P.funcs[f]? with
 |none=>rw[hf]at qW;simp at qW
 |some fn=>
  rw[hf]at qW E6;simp only[Option.any_some]at qW E6;obtain⟨cc,hcc⟩:=zbP.1 qW;have hne:¬fn.name= "runtime.NumGoroutine" :=by simpa using E6
  have hr:(θ a.eval o).run P w=.ok (.enter f (xs.map a.eval)) w:=by
   unfold θ;simp[hop,resolve,invoke,callFunc,hf,hcc,hne,Act.eval,Deferred.ofValue,go_sem]
  have he:(θ a.eval o).events P w #[]=#[]:=by
   unfold θ;simp[hop,resolve,invoke,callFunc,hf,hcc,hne,Act.eval,Deferred.ofValue,go_sem]
  rw[stepG_enter ho hw hk hr,listed_none he]
theorem Po (hf:qJ S ρ){xs:Array π}(hx:xs.all (gN S)=true):xs.map (a.rn ρ).eval=(xs.map a.eval).map (rv ρ):=by
 rw[zbU];refine Array.map_congr_left λx hm=>?_;have:=zbQ.1 hx x hm;show(a.rn ρ).eval x=rv ρ (a.eval x);rw[GN,s6];exact Li this hf
theorem Pp {n:Nat}(hn:S.g≤n)(h:Lu P S n a){xs:Array π}(hx:xs.all (gN S)=true):∀v∈xs.map a.eval,rv (sg S S.d n) v=v:=by
 intro v hv;obtain⟨x,hm,rfl⟩:=Array.mem_map.1 hv;have:=zbQ.1 hx x hm;rw[s6];exact GJ hn (λt=>h.get t) this
theorem Cx {n:Nat}{f:ι}{args:Array Ω}(h:∀v∈args,rv (sg S S.d n) v=v):iw P S n (Γ.enter P f args .normal):=by
 have e:b8 (sg S S.d n) (Γ.enter P f args .normal)=Γ.enter P f args .normal:=by
  rw[←gU,bt.2 h]
 exact sT e
theorem ae.Pq (hst:∀ρ:Rn,qJ S ρ→∀W,υ P true (G (b8 ρ fr) (cs.map (b8 ρ)++Ψ.bot)) W=.go (G (b8 ρ fr') (cs'.map (b8 ρ)++Ψ.bot)) W #[])
 (gz:S.g≤w.heap.size→iw P S w.heap.size fr→(∀f∈cs,iw P S w.heap.size f)→iw P S w.heap.size fr'∧∀f∈cs',iw P S w.heap.size f)(k:ae P S Ψ fr' cs' w):ae P S Ψ fr cs w:=
 ae.walk λρ W hS hc hcs _=>by
  obtain⟨h1,h2⟩:=gz hS.wr.big.g hc hcs;exact af.silent rfl (λaG=>hst ρ hS.fix aG) (af.co k hS (λ_ h=>h) h1 h2 (Oo.refl _ _))
theorem ae.enter {ops:Array Oper}{i:Nat}{rest:List Nat}{o:Oper}{kk:List Item}(ho:ops[i]?=some o)(hw:η o (Φ ops a.tmps)=true)(hk:b.kind≠.early){f:ι}{xs:Array π}{ats:Array ψ}(hop:o.op=.call { callee:= .value (.func f),args:=xs,argTypes:=ats })
 (qW:(P.funcs[f]?).any (λfn=>fn.body.isSome)=true)(E6:(P.funcs[f]?).any (λfn=>fn.name != "runtime.NumGoroutine")=true)(hx:xs.all (gN S)=true)
 (h:ae P S Ψ (Γ.enter P f (xs.map a.eval) .normal) (b.at a (.inRegion ops (i::rest)::kk)::cs) w):ae P S Ψ (b.at a (.inRegion ops (i::rest)::kk)) cs w:=by
 refine ae.Pq (λρ vk W=>?_) (λh0 h1 h2=>⟨Cx (Pp (P:=P) h0 h1 hx),λg hg=>?_⟩) h
 ·rw[zaC,p9,←gU,←Po vk hx];refine Cw ho ?_ hk hop qW E6;show η o (Φ ops (a.tmps.map (rv ρ)))=true;rw[show Φ ops (a.tmps.map (rv ρ))=Φ ops a.tmps from funext λj=>nH ops a.tmps j];exact hw
 ·rcases zaI.1 hg with rfl|hg
  ·exact h1
  ·exact h2 g hg
end
def jY (ρ σ:Rn):Rn:={ b:=λr=>ρ (σ r),f:=λx=>ρ.f (σ.f x),d:=ρ.d }
theorem eD {f g h:Ω→Ω}{cs:Array Ω}(e:∀x∈cs,f (g x)=h x):(cs.map g).map f=cs.map h:=by
 rw[zbU];exact Array.map_congr_left λx hx=>e x hx
theorem iz (ρ σ:Rn):∀v:Ω,rv ρ (rv σ v)=rv (jY ρ σ) v
 |.pointer none=>by simp[rv]
 |.pointer (some a)=>by simp[rv,ra,jY]
 |.slice none _ _=>by simp[rv]
 |.slice (some a) l c=>by simp[rv,ra,jY]
 |.map none=>by simp[rv]
 |.map (some r)=>by simp[rv,jY]
 |.chan none=>by simp[rv]
 |.chan (some r)=>by simp[rv,jY]
 |.func fn first captured=>by
  simp only[rv,Ω.func.injEq];refine⟨rfl,eD λx hx=>?_,eD λx hx=>?_⟩
  ·have:=zbi hx;exact iz ρ σ x
  ·have:=zbi hx;exact iz ρ σ x
 |.iface t v=>by simp only[rv,Ω.iface.injEq,true_and];exact iz ρ σ v
 |.agg cs=>by
  simp only[rv,Ω.agg.injEq];refine eD λx hx=>?_;have:=zbi hx;exact iz ρ σ x
 |.tuple cs=>by
  simp only[rv,Ω.tuple.injEq];refine eD λx hx=>?_;have:=zbi hx;exact iz ρ σ x
 |.bool _=>by simp[rv]
 |.int _ _=>by simp[rv]
 |.float _ _=>by simp[rv]
 |.complex _ _ _=>by simp[rv]
 |.string _=>by simp[rv]
 |.nilFunc=>by simp[rv]
 |.nilIface=>by simp[rv]
termination_by v=>SizeOf.sizeOf v
theorem GQ (ρ σ:Rn)(o:Obj):ro ρ (ro σ o)=ro (jY ρ σ) o:=by
 cases o with
 |cells c t f=>simp only[ro,Obj.cells.injEq,zat];exact eD λx _=>iz ρ σ x
 |pending c t=>simp only[ro,Obj.pending.injEq,zat];exact eD λx _=>iz ρ σ x
 |chan a b c d e f=>simp only[ro,Obj.chan.injEq,true_and,zat];exact eD λx _=>iz ρ σ x
 |view a t=>simp[ro,ra,jY]
 |number a t=>simp[ro,ra,jY]
 |map es c=>
  simp only[ro,Obj.map.injEq,zat,zbU];refine Array.map_congr_left λe _=>?_;simp[iz]
 |_=>rfl
theorem Lv {ρ:Rn}{o:Obj}(h:qC o):qC (ro ρ o):=by
 cases o<;>first|exact h|trivial
def zo (g0 n:Nat):Rn:={ b:=λr=>if g0≤r then n+(r-g0)else r,f:=id,d:=0 }
def zq (ρ fS:Rn)(g0 n m N:Nat):Rn:={ b:=λr=>if r<n then ρ r else if r<n+(m-g0)then fS (g0+(r-n))else N+(r-(n+(m-g0))),f:=ρ.f,d:=ρ.d }
def E7 (P:Ξ)(w w₂:Θ):Θ:={ w with heap:=w.heap++(w₂.heap.extract P.globals.size w₂.heap.size).map (ro (zo P.globals.size w.heap.size)) }
structure Two (P:Ξ) (S iP:Sd):Prop where
 z:iP.d=P.globals.size
 dp:S.d≤P.globals.size
 f:∀g,iP g=true→S g=true
section
variable {P:Ξ}{S iP:Sd}{ρ fS:Rn}{w w₂ W:Θ}
theorem oN (h:P.globals.size≤w₂.heap.size):(E7 P w w₂).heap.size=w.heap.size+(w₂.heap.size-P.globals.size):=by
 simp only[E7,Array.size_append,Array.size_map,Array.size_extract];omega
theorem E8 {r:Nat}(h:r<w.heap.size):(E7 P w w₂).heap[r]?=w.heap[r]?:=by
 simp only[E7];rw[Array.getElem?_append_left h]
theorem Lx {r:Nat}(h1:P.globals.size≤r)(h2:r<w₂.heap.size):(E7 P w w₂).heap[w.heap.size+(r-P.globals.size)]?=(w₂.heap[r]?).map (ro (zo P.globals.size w.heap.size)):=by
 simp only[E7];rw[Array.getElem?_append_right (by omega),zaw,show w.heap.size+(r-P.globals.size)-w.heap.size=r-P.globals.size by omega,Array.getElem?_extract,zac (by omega),show P.globals.size+(r-P.globals.size)=r by omega]
theorem E9 {r:Nat}{o:Obj}(hb:P.globals.size≤w₂.heap.size)(h:(E7 P w w₂).heap[r]?=some o):(r<w.heap.size∧w.heap[r]?=some o)∨∃r₂ wB,P.globals.size≤r₂∧r₂<w₂.heap.size∧r=w.heap.size+(r₂-P.globals.size)∧w₂.heap[r₂]?=some wB∧o=ro (zo P.globals.size w.heap.size) wB:=by
 rcases zar r w.heap.size with hlt|ft
 ·rw[E8 hlt]at h;exact .inl ⟨hlt,h⟩
 ·right;have hs:=(zag.1 h).1;rw[oN hb]at hs;have h2:P.globals.size+(r-w.heap.size)<w₂.heap.size:=by omega
  have e:r=w.heap.size+(P.globals.size+(r-w.heap.size)-P.globals.size):=by omega
  rw[e,Lx (by omega) h2]at h;obtain⟨wB,h3,h4⟩:=zav.1 h;exact⟨_,wB,by omega,h2,e,h3,h4.symm⟩
theorem WJ (T:Two P S iP)(h:iO P S ρ w W)(h₂:iO P iP fS w₂ W){v:Ω}(hc:Cl P iP w₂ v):rv (zq ρ fS P.globals.size w.heap.size w₂.heap.size W.heap.size) (rv (zo P.globals.size w.heap.size) v)=rv fS v:=by
 rw[iz];refine agree (σ:=sg iP iP.d w₂.heap.size) (λr hr=>?_) (λx _=>?_) v hc
 ·obtain⟨h1,h2⟩:=bO.1 hr;rw[T.z]at h1;simp only[jY,zo,zq,zac h1];rw[zaa (by omega),zac (by omega)]
  congr 1
  omega
 ·simp only[jY,zo,zq,id];rw[h.f,h₂.f]
theorem WK (T:Two P S iP)(h:iO P S ρ w W)(h₂:iO P iP fS w₂ W){o:Obj}(hc:ro (sg iP iP.d w₂.heap.size) o=o):ro (zq ρ fS P.globals.size w.heap.size w₂.heap.size W.heap.size) (ro (zo P.globals.size w.heap.size) o)=ro fS o:=by
 rw[GQ];refine sM (σ:=sg iP iP.d w₂.heap.size) (λr hr=>?_) (λx _=>?_) hc
 ·obtain⟨h1,h2⟩:=bO.1 hr;rw[T.z]at h1;simp only[jY,zo,zq,zac h1];rw[zaa (by omega),zac (by omega)]
  congr 1
  omega
 ·simp only[jY,zo,zq,id];rw[h.f,h₂.f]
theorem WL (T:Two P S iP)(hb:P.globals.size≤w.heap.size)(kI:P.globals.size≤w₂.heap.size){v:Ω}(hc:Cl P iP w₂ v):Cl P S (E7 P w w₂) (rv (zo P.globals.size w.heap.size) v):=by
 unfold Cl;rw[iz];refine agree (σ:=sg iP iP.d w₂.heap.size) (λr hr=>?_) (λx hx=>?_) v hc
 ·obtain⟨h1,h2⟩:=bO.1 hr;rw[T.z]at h1;simp only[jY,zo,zac h1];exact bO.2 ⟨by have:=T.dp;omega,by rw[oN kI];omega⟩
 ·simp only[jY,zo,id];obtain⟨g,rfl,hg⟩:=iq.1 hx;exact iq.2 ⟨g,rfl,T.f g hg⟩
theorem S2 (T:Two P S iP)(hb:P.globals.size≤w.heap.size)(kI:P.globals.size≤w₂.heap.size){o:Obj}(hc:ro (sg iP iP.d w₂.heap.size) o=o):ro (sg S S.d (E7 P w w₂).heap.size) (ro (zo P.globals.size w.heap.size) o)=ro (zo P.globals.size w.heap.size) o:=by
 rw[GQ];refine sM (σ:=sg iP iP.d w₂.heap.size) (λr hr=>?_) (λx hx=>?_) hc
 ·obtain⟨h1,h2⟩:=bO.1 hr;rw[T.z]at h1;simp only[jY,zo,zac h1];exact bO.2 ⟨by have:=T.dp;omega,by rw[oN kI];omega⟩
 ·simp only[jY,zo,id];obtain⟨g,rfl,hg⟩:=iq.1 hx;exact iq.2 ⟨g,rfl,T.f g hg⟩
theorem iO.merge (T:Two P S iP)(h:iO P S ρ w W)(h₂:iO P iP fS w₂ W)(hd:∀b,Touch S.d ρ w b→¬Touch iP.d fS w₂ b):iO P S (zq ρ fS P.globals.size w.heap.size w₂.heap.size W.heap.size) (E7 P w w₂) W:=by
 have hb:=h.wr.big.p;have kI:=h₂.wr.big.p;have qa:=T.dp;have hz:=T.z;have hs:=oN (w:=w) kI;have sV:∀r,r<w.heap.size→zq ρ fS P.globals.size w.heap.size w₂.heap.size W.heap.size r=ρ r:=λr hr=>by simp only[zq,zac hr]
 have mB:∀r,P.globals.size≤r→r<w₂.heap.size→zq ρ fS P.globals.size w.heap.size w₂.heap.size W.heap.size (w.heap.size+(r-P.globals.size))=fS r:=λr h1 h2=>by
  simp only[zq];rw[zaa (by omega),zac (by omega)]
  congr 1
  omega
 have B2:∀r,w.heap.size+(w₂.heap.size-P.globals.size)≤r→zq ρ fS P.globals.size w.heap.size w₂.heap.size W.heap.size r=W.heap.size+(r-(w.heap.size+(w₂.heap.size-P.globals.size))):=λr hr=>by
  simp only[zq];rw[zaa (by omega),zaa (by omega)]
 have cs:∀r,r<w.heap.size∨(∃r₂,P.globals.size≤r₂∧r₂<w₂.heap.size∧r=w.heap.size+(r₂-P.globals.size))∨w.heap.size+(w₂.heap.size-P.globals.size)≤r:=λr=>by
  rcases zar r w.heap.size with h1|h1
  ·exact .inl h1
  ·rcases zar r (w.heap.size+(w₂.heap.size-P.globals.size))with h2|h2
   ·exact .inr (.inl ⟨P.globals.size+(r-w.heap.size),by omega,by omega,by omega⟩)
   ·exact .inr (.inr h2)
 refine⟨⟨λr o ft ho=>?_,λr o ho=>?_,λr hr=>?_,λr o ft ho=>?_,λr hr=>?_,λr h1 h2=>?_,?_⟩,λa b e=>?_,λr=>?_,h.f,h.px⟩
 ·rcases E9 kI ho with⟨h1,h2⟩|⟨r₂,wB,h1,h2,rfl,h3,rfl⟩
  ·rw[sV r h1,h.wr.live r o ft h2]
   congr 1
   exact sM (σ:=sg S S.d w.heap.size) (λx hx=>(sV x (bO.1 hx).2).symm) (λ_ _=>rfl) (h.wr.closed r o ft h2)
  ·rw[mB r₂ h1 h2,WK T h h₂ (h₂.wr.closed r₂ wB (by omega) h3)];exact h₂.wr.live r₂ wB (by omega) h3
 ·rcases E9 kI ho with⟨h1,h2⟩|⟨r₂,wB,h1,h2,rfl,h3,rfl⟩
  ·exact h.wr.ok r o h2
  ·exact Lv (h₂.wr.ok r₂ wB h3)
 ·rw[E8 (by omega)];exact h.wr.dead r hr
 ·rcases E9 kI ho with⟨h1,h2⟩|⟨r₂,wB,h1,h2,rfl,h3,rfl⟩
  ·have:=h.wr.closed r o ft h2;have e:=sM (σ:=sg S S.d w.heap.size) (ρ:=sg S S.d (E7 P w w₂).heap.size) (ρ':=sg S S.d w.heap.size) (λx hx=>by
    rw[hx];exact bO.2 ⟨(bO.1 hx).1,by have:=(bO.1 hx).2;rw[hs];omega⟩) (λx hx=>by rw[hx];exact iq.2 (iq.1 hx)) this
   rw[e];exact this
  ·exact S2 T hb kI (h₂.wr.closed r₂ wB (by omega) h3)
 ·rw[hs]at hr ⊢;exact B2 r hr
 ·rw[hs]at h2;rcases cs r with h3|⟨r₂,h3,h4,rfl⟩|h3
  ·rw[sV r h3];exact h.wr.low r h1 h3
  ·rw[mB r₂ h3 h4];exact h₂.wr.low r₂ (by omega) h4
  ·omega
 ·rw[hs];exact⟨by omega,by have:=h.wr.big.g;omega,h.wr.big.r,by omega,qa,λg h1 h2=>by rw[sV g (by have:=h.wr.big.g;omega)];exact h.wr.big.fg g h1 h2,λg h1=>by rw[sV g (by omega)];exact h.wr.big.fl g h1⟩
 ·rcases cs a with ha|⟨a₂,ha1,ha2,rfl⟩|ha<;>rcases cs b with hb'|⟨sY,hb1,hb2,rfl⟩|hb'
  ·rw[sV a ha,sV b hb']at e;exact h.inj a b e
  ·rw[sV a ha,mB sY hb1 hb2]at e;rcases zar a P.globals.size with hl|hl
   ·have g1:=(h.ld a).2 hl;rw[e]at g1;have:=(h₂.ld sY).1 g1;omega
   ·exact absurd ⟨sY,by omega,hb2,e⟩ (hd (ρ a) ⟨a,by omega,ha,rfl⟩)
  ·rw[sV a ha,B2 b hb']at e;have:=h.low ha;omega
  ·rw[mB a₂ ha1 ha2,sV b hb']at e;rcases zar b P.globals.size with hl|hl
   ·have g1:=(h.ld b).2 hl;rw[←e]at g1;have:=(h₂.ld a₂).1 g1;omega
   ·exact absurd ⟨a₂,by omega,ha2,e.symm⟩ (hd (ρ b) ⟨b,by omega,hb',rfl⟩)
  ·rw[mB a₂ ha1 ha2,mB sY hb1 hb2]at e;have:=h₂.inj a₂ sY e;omega
  ·rw[mB a₂ ha1 ha2,B2 b hb']at e;have:=h₂.low ha2;omega
  ·rw[B2 a ha,sV b hb']at e;have:=h.low hb';omega
  ·rw[B2 a ha,mB sY hb1 hb2]at e;have:=h₂.low hb2;omega
  ·rw[B2 a ha,B2 b hb']at e;omega
 ·rcases cs r with h3|⟨r₂,h3,h4,rfl⟩|h3
  ·rw[sV r h3];exact h.ld r
  ·rw[mB r₂ h3 h4];have:=h₂.ld r₂;constructor
   ·intro q;have:=this.1 q;omega
   ·intro q;omega
  ·rw[B2 r h3];have:=h.px;constructor<;>intro<;>omega
theorem Cy (T:Two P S iP)(kI:P.globals.size≤w₂.heap.size){b:Nat}(ht:Touch S.d (zq ρ fS P.globals.size w.heap.size w₂.heap.size W.heap.size) (E7 P w w₂) b):Touch S.d ρ w b∨Touch iP.d fS w₂ b:=by
 obtain⟨r,h1,h2,rfl⟩:=ht;rw[oN kI]at h2;rcases zar r w.heap.size with hlt|ft
 ·exact .inl ⟨r,h1,hlt,by simp only[zq,zac hlt]⟩
 ·refine .inr ⟨P.globals.size+(r-w.heap.size),by have:=T.z;omega,by omega,?_⟩;simp only[zq];rw[zaa (by omega),zac (by omega)]
theorem S3 {base:Nat}{e:ψ}{z:Nat}{v:Ω}{n:Nat}{xs:List Ω}(hb:P.globals.size≤base)(h:w₂.ownsRow base e z v n xs)(hx:∀x∈xs,rv (zo P.globals.size w.heap.size) x=x):(E7 P w w₂).ownsRow w.heap.size e z (rv (zo P.globals.size w.heap.size) v) n xs:=by
 refine⟨h.1,?_⟩;rcases h.2 with⟨rfl,h0⟩|⟨g,cap,cur,rfl,h1,h2,h3,h4,h5,h6⟩
 ·exact .inl ⟨by simp[rv],h0⟩
 ·refine .inr ⟨w.heap.size+(g-P.globals.size),cap,cur.map (rv (zo P.globals.size w.heap.size)),?_,by omega,?_,h3,h4,by simpa using h5,?_⟩
  ·simp only[rv,zbA,ra,zo,zac (show P.globals.size≤g by omega)]
  ·rw[Lx (by omega) (zag.1 h2).1,h2];rfl
  ·rw[zbk,←List.map_take,h6]
   conv=>rhs;rw[←List.map_id xs]
   exact List.map_congr_left λx hm=>hx x hm
end
abbrev pz:Item:= .code (.refuse default)
structure I1 (x:Γ) (l:List Item):Prop where
 todo:x.todo=l++[pz]
 run:x.mode=.run
theorem gV (l:List Item):(l++[pz]).dropLast=l:=by simp
theorem dz {id:Nat}(k:List Item):∀{l k':List Item},Λ id (l++[pz])=some k'→∃l',k'=l'++[pz]∧Λ id (l++k)=some (l'++k)
 |[],k',h=>by simp[Λ,pz]at h
 |.inBlock id'::l,k',h=>by
  simp only[zaV,Λ]at h ⊢;split at h
  ·rename_i e;rw[zac e];cases h;exact⟨l,rfl,rfl⟩
  ·rename_i e;rw[zaa e];exact dz k h
 |.code c::l,k',h=>by simp only[zaV,Λ]at h ⊢;exact dz k h
 |.inLoop c::l,k',h=>by simp only[zaV,Λ]at h ⊢;exact dz k h
 |.inRegion ..::l,k',h=>by simp only[zaV,Λ]at h ⊢;exact dz k h
 |.inScope c::l,k',h=>by simp only[zaV,Λ]at h ⊢;exact dz k h
 |.inRangeFunc c::l,k',h=>by simp only[zaV,Λ]at h ⊢;exact dz k h
 |.endRangeFunc c::l,k',h=>by simp only[zaV,Λ]at h ⊢;exact dz k h
 |.beginRound::l,k',h=>by simp only[zaV,Λ]at h ⊢;exact dz k h
 |.call ..::l,k',h=>by simp only[zaV,Λ]at h ⊢;exact dz k h
 |.extern ..::l,k',h=>by simp only[zaV,Λ]at h ⊢;exact dz k h
section
variable {P:Ξ}{F:ι→Bool}{S:Sd}{w w1:Θ}{es:Array χ}
theorem AU {f:Γ}{c:Γ}{r:List Γ}{f1:Γ}{a1:List Γ}(hr:(aS P f (c::r)).runT P w #[]=(.ok (f1,a1) w1,es)):(∃p,a1=p++c::r∧∀ab,(aS P f ab).runT P w #[]=(.ok (f1,p++ab) w1,es))∨(∃v,f1=c.finish v∧a1=r∧∀c' r',(aS P f (c'::r')).runT P w #[]=(.ok (c'.finish v,r') w1,es)):=by
 obtain⟨fn0,tmps,todo,defers,mode,kind,np⟩:=f;by_cases hm:mode=.run
 ·left;subst hm
  match todo,hr with
  |[],hr=>
   simp only[aS,pure,Δ,zah,zam]at hr;obtain⟨⟨⟨rfl,rfl⟩,rfl⟩,rfl⟩:=hr;exact⟨[],rfl,λab=>rfl⟩
  |.code .ret::k,hr=>
   simp only[aS,pure,Δ,zah,zam]at hr;obtain⟨⟨⟨rfl,rfl⟩,rfl⟩,rfl⟩:=hr;exact⟨[],rfl,λab=>rfl⟩
  |.code .skip::k,hr=>
   simp only[aS,pure,Δ,zah,zam]at hr;obtain⟨⟨⟨rfl,rfl⟩,rfl⟩,rfl⟩:=hr;exact⟨[],rfl,λab=>rfl⟩
  |.inBlock _::k,hr=>
   simp only[aS,pure,Δ,zah,zam]at hr;obtain⟨⟨⟨rfl,rfl⟩,rfl⟩,rfl⟩:=hr;exact⟨[],rfl,λab=>rfl⟩
  |.code (.seq a b)::k,hr=>
   simp only[aS,pure,Δ,zah,zam]at hr;obtain⟨⟨⟨rfl,rfl⟩,rfl⟩,rfl⟩:=hr;exact⟨[],rfl,λab=>rfl⟩
  |.code (.block id a)::k,hr=>
   simp only[aS,pure,Δ,zah,zam]at hr;obtain⟨⟨⟨rfl,rfl⟩,rfl⟩,rfl⟩:=hr;exact⟨[],rfl,λab=>rfl⟩
  |.code (.loop a)::k,hr=>
   simp only[aS,pure,Δ,zah,zam]at hr;obtain⟨⟨⟨rfl,rfl⟩,rfl⟩,rfl⟩:=hr;exact⟨[],rfl,λab=>rfl⟩
  |.inLoop a::k,hr=>
   simp only[aS,pure,Δ,zah,zam]at hr;obtain⟨⟨⟨rfl,rfl⟩,rfl⟩,rfl⟩:=hr;exact⟨[],rfl,λab=>rfl⟩
  |.inRegion _ []::k,hr=>
   simp only[aS,pure,Δ,zah,zam]at hr;obtain⟨⟨⟨rfl,rfl⟩,rfl⟩,rfl⟩:=hr;exact⟨[],rfl,λab=>rfl⟩
  |.code (.cond c a b)::k,hr=>
   simp only[aS]at hr ⊢;generalize Γ.eval _ c=q at hr ⊢;cases q with
   |bool t=>
    simp only[pure,Δ,zah,zam]at hr;obtain⟨⟨⟨rfl,rfl⟩,rfl⟩,rfl⟩:=hr;exact⟨[],rfl,λab=>rfl⟩
   |_=>simp[stuck]at hr
  |.code (.exit id)::k,hr=>
   simp only[aS]at hr ⊢;cases he:Λ id k with
   |none=>rw[he]at hr;simp[stuck]at hr
   |some k'=>
    rw[he]at hr;simp only[pure,Δ,zah,zam]at hr;obtain⟨⟨⟨rfl,rfl⟩,rfl⟩,rfl⟩:=hr;exact⟨[],rfl,λab=>rfl⟩
  |.code (.region id ops draw)::k,hr=>
   cases draw with
   |false=>
    simp only[aS,pure,Δ,zah,zam,zaN,if_false]at hr;obtain⟨⟨⟨rfl,rfl⟩,rfl⟩,rfl⟩:=hr;exact⟨[],rfl,λab=>rfl⟩
   |true=>
    simp only[aS,if_true,bind,choose,Sem.bind,Δ,Question.forced,zaN,if_false,pure,zah,zam,Question.cut]at hr;obtain⟨⟨⟨rfl,rfl⟩,rfl⟩,rfl⟩:=hr;exact⟨[],rfl,λab=>by simp only[aS,if_true,bind,choose,Sem.bind,Δ,Question.forced,zaN,if_false,pure,Question.cut,List.nil_append]⟩
  |.inRegion ops (i::rest)::k,hr=>
   simp only[aS]at hr ⊢;by_cases hw:((ops[i]?).map (η · (Φ ops tmps))).getD false=true
   ·rw[zac hw]at hr;cases ho:ops[i]? with
    |none=>rw[ho]at hr;simp[stuck]at hr
    |some o=>
     rw[ho]at hr hw;dsimp only at hr ⊢;simp only[zac hw];generalize (θ (Γ.eval ⟨fn0,tmps,.inRegion ops (i::rest)::k,defers,.run,kind,np⟩) o)=ex at hr ⊢;rw[bB]at hr;simp only[bB];cases hrun:ex.runT P w #[]with
     |mk q di=>
      rw[hrun]at hr;cases q with
      |halt hh w1=>simp at hr
      |ok nx w1=>
       dsimp only at hr ⊢;cases nx with
       |value v=>
        simp only[pure,Δ,zah,zam]at hr;obtain⟨⟨⟨rfl,rfl⟩,rfl⟩,rfl⟩:=hr;exact⟨[],rfl,λab=>rfl⟩
       |skip=>
        simp only[pure,Δ,zah,zam]at hr;obtain⟨⟨⟨rfl,rfl⟩,rfl⟩,rfl⟩:=hr;exact⟨[],rfl,λab=>rfl⟩
       |enter f args=>
        simp only[pure,Δ,zah,zam]at hr;obtain⟨⟨⟨rfl,rfl⟩,rfl⟩,rfl⟩:=hr;exact⟨[⟨fn0,tmps,.inRegion ops (i::rest)::k,defers,.run,kind,np⟩],rfl,λab=>rfl⟩
       |_=>simp[stuck]at hr
   ·rw[zaa hw]at hr;simp only[zaa hw];simp only[pure,Δ,zah,zam]at hr;obtain⟨⟨⟨rfl,rfl⟩,rfl⟩,rfl⟩:=hr;exact⟨[],rfl,λab=>rfl⟩
  |.code (.rangeFunc ..)::k,hr=>simp[aS,stuck]at hr
  |.code (.scope ..)::k,hr=>simp[aS,stuck]at hr
  |.code (.label ..)::k,hr=>simp[aS,stuck]at hr
  |.code (.goto ..)::k,hr=>simp[aS,stuck]at hr
  |.code (.refuse ..)::k,hr=>simp[aS,stuck]at hr
  |.inScope c::k,hr=>simp[aS,stuck]at hr
  |.inRangeFunc c::k,hr=>simp[aS,stuck]at hr
  |.endRangeFunc c::k,hr=>simp[aS,stuck]at hr
  |.beginRound::k,hr=>simp[aS,stuck]at hr
  |.call ..::k,hr=>simp[aS,stuck]at hr
  |.extern ..::k,hr=>simp[aS,stuck]at hr
 ·right;have key:∀ab,aS P ⟨fn0,tmps,todo,defers,mode,kind,np⟩ ab=match P.funcs[fn0]? with
   |some fn=>do
    let v ←results fn tmps
    match ab with
    |c::rest=>pure (c.finish v,rest)
    |[]=>stuck ""
   |none=>stuck "" :=λab=>by
   cases mode with
   |run=>exact absurd rfl hm
   |_=>rfl
  rw[key]at hr;simp only[key];cases hf:P.funcs[fn0]? with
  |none=>rw[hf]at hr;simp[stuck]at hr
  |some fn=>
   rw[hf]at hr;dsimp only at hr ⊢;rw[bB]at hr;simp only[bB];cases hrun:(results fn tmps).runT P w #[]with
   |mk q di=>
    rw[hrun]at hr;cases q with
    |halt hh w1=>simp at hr
    |ok v w1=>
     simp only[pure,Δ,zah,zam]at hr;obtain⟨⟨⟨rfl,rfl⟩,rfl⟩,rfl⟩:=hr;exact⟨v,rfl,rfl,λc' r'=>rfl⟩
theorem LA {f:Γ}(hm:f.mode≠.run){f1:Γ}{a1:List Γ}(hr:(aS P f []).runT P w #[]=(.ok (f1,a1) w1,es)):False:=by
 obtain⟨fn0,tmps,todo,defers,mode,kind,np⟩:=f;have key:aS P ⟨fn0,tmps,todo,defers,mode,kind,np⟩ []=match P.funcs[fn0]? with
  |some fn=>do
   let _ ←results fn tmps
   stuck ""
  |none=>stuck "" :=by
  cases mode with
  |run=>exact absurd rfl hm
  |_=>rfl
 rw[key]at hr;cases hf:P.funcs[fn0]? with
 |none=>rw[hf]at hr;simp[stuck]at hr
 |some fn=>
  rw[hf]at hr;dsimp only at hr;rw[bB]at hr;cases hrun:(results fn tmps).runT P w #[]with
  |mk q di=>
   rw[hrun]at hr;cases q with
   |halt hh w1=>simp at hr
   |ok v w1=>simp[stuck]at hr
end
end Go.Ren
