import Derived.Conc.TokenWalk
import Derived.Deep.MidRow
import Derived.Deep.WholeRow
import Derived.Test.YtlhimdjkkiflhaaGreatDoorRet04
set_option maxHeartbeats 8000000
set_option maxRecDepth 100000
open Go renaming World→Γ,Goroutine→Δ,execOp→Θ,Value→Λ,Frame→Ξ,Program→Ω,yielded→η,FuncId→θ,Event→ι,Operand→ξ,TypeId→υ,stepG→φ,undef→χ
open Go.Region renaming wanted→Φ
open Go.MemAct renaming ofEvent→ζ
open Go.Act renaming put→π
namespace Go.Ren
open Go Go.Conc
structure cq (ro own:Nat→Prop) (w w₁:Γ):Prop where
 tape:w₁.tape=w.tape
 os:w₁.os=w.os
 output:w₁.output=w.output
 size:w.heap.size≤w₁.heap.size
 block:∀b,own b∨ro b→w₁.heap[b]?=w.heap[b]?
def Grow (own:Nat→Prop)(w w':Γ):Nat→Prop:=λb=>own b∨(w.heap.size≤b∧b<w'.heap.size)
def DO (ro own:Nat→Prop)(e:ι):Prop:=
 match e.loc with
 |.cell a=>own a.block∨(ro a.block∧e.write=false)
 |.obj r=>own r∧e.sync=false
 |.mark m=>MOk m∧e.sync=true
 |_=>False
structure Eo (ro own:Nat→Prop) (w w':Γ) (es:Array ι):Prop where
 tape:w'.tape=w.tape
 os:w'.os=w.os
 output:w'.output=w.output
 size:w.heap.size≤w'.heap.size
 block:∀b,b<w.heap.size→¬own b→w'.heap[b]?=w.heap[b]?
 evs:∀e∈es,DO ro (Grow own w w') e
inductive af (P:Ω) (main:Bool) (ro:Nat→Prop) (Stop:(Nat→Prop)→Δ→Γ→Prop):(Nat→Prop)→Δ→Γ→Prop
 |stop {own:Nat→Prop} {g:Δ} {w:Γ}:(∀w₁,cq ro own w w₁→Stop own g w₁)→af P main ro Stop own g w
 |step {own:Nat→Prop} {g:Δ} {w:Γ} (nx:Γ→Δ) (nw:Γ→Γ) (ne:Γ→Array ι):g.status=.running→
   (∀w₁,cq ro own w w₁→φ P main g w₁=.go (nx w₁) (nw w₁) (ne w₁))→(∀w₁,cq ro own w w₁→Eo ro own w₁ (nw w₁) (ne w₁))→(∀w₁,cq ro own w w₁→af P main ro Stop (Grow own w₁ (nw w₁)) (nx w₁) (nw w₁))→
   af P main ro Stop own g w
section
variable {P:Ω}{F:θ→Bool}{S:Sd}{main:Bool}{ro:Nat→Prop}{Stop Ep:(Nat→Prop)→Δ→Γ→Prop}
theorem cq.refl (ro own:Nat→Prop)(w:Γ):cq ro own w w:=⟨rfl,rfl,rfl,zac _,λ_ _=>rfl⟩
theorem cq.trans {own:Nat→Prop}{a b c:Γ}(h:cq ro own a b)(k:cq ro own b c):cq ro own a c:=
 ⟨k.tape.trans h.tape,k.os.trans h.os,k.output.trans h.output,zag h.size k.size,λx hx=>(k.block x hx).trans (h.block x hx)⟩
theorem af.step' {own:Nat→Prop}{g:Δ}{w:Γ}(hs:g.status=.running)(h:∀w₁,cq ro own w w₁→∃g' w' es,φ P main g w₁=.go g' w' es∧Eo ro own w₁ w' es∧af P main ro Stop (Grow own w₁ w') g' w'):af P main ro Stop own g w:=by
 classical
 let X:Γ→Δ×Γ×Array ι:=λw₁=>if hr:cq ro own w w₁ then(Classical.choose (h w₁ hr),Classical.choose (zaP (h w₁ hr)),Classical.choose (zaP (zaP (h w₁ hr))))else default
 have hX:∀w₁,cq ro own w w₁→φ P main g w₁=.go (X w₁).1 (X w₁).2.1 (X w₁).2.2∧Eo ro own w₁ (X w₁).2.1 (X w₁).2.2∧af P main ro Stop (Grow own w₁ (X w₁).2.1) (X w₁).1 (X w₁).2.1:=λw₁ hr=>by
  simp only[X,dif_pos hr];exact zaP (zaP (zaP (h w₁ hr)))
 exact .step (λw₁=>(X w₁).1) (λw₁=>(X w₁).2.1) (λw₁=>(X w₁).2.2) hs (λw₁ hr=>(hX w₁ hr).1) (λw₁ hr=>(hX w₁ hr).2.1) (λw₁ hr=>(hX w₁ hr).2.2)
theorem af.rely {own:Nat→Prop}{g:Δ}{w w₁:Γ}(h:af P main ro Stop own g w)(hr:cq ro own w w₁):af P main ro Stop own g w₁:=by
 cases h with
 |stop h=>exact .stop λw₂ h₂=>h w₂ (hr.trans h₂)
 |step nx nw ne hs h1 h2 h3=>exact .step nx nw ne hs (λw₂ h₂=>h1 w₂ (hr.trans h₂)) (λw₂ h₂=>h2 w₂ (hr.trans h₂)) (λw₂ h₂=>h3 w₂ (hr.trans h₂))
theorem af.bind {own:Nat→Prop}{g:Δ}{w:Γ}(h:af P main ro Stop own g w)(hq:∀own g w,Stop own g w→af P main ro Ep own g w)(_keep:∀own g w w₁,(∀w₂,cq ro own w w₂→Stop own g w₂)→cq ro own w w₁→True:=λ_ _ _ _ _ _=>trivial):af P main ro Ep own g w:=by
 induction h with
 | @stop own g w h=>exact hq own g w (h w (cq.refl ro own w))
 |step nx nw ne hs h1 h2 _ ih=>exact .step nx nw ne hs h1 h2 ih
structure ja (P:Ω) (S:Sd) (ρ:Rn) (w W:Γ):Prop where
 wr:WR P S ρ w W
 inj:∀a b,ρ a=ρ b→a=b
 lr:Am P ρ
 f:∀x,ρ.f x=x
 qb:P.globals.size≤W.heap.size
def ek (ρ:Rn)(n N:Nat):Rn:={ b:=λr=>if r<n then ρ r else N+(r-n),f:=ρ.f,d:=ρ.d }
theorem bg {ρ:Rn}{n N r:Nat}(h:r<n):ek ρ n N r=ρ r:=by simp[ek,h]
theorem eC {ρ:Rn}{n N r:Nat}(h:n≤r):ek ρ n N r=N+(r-n):=by simp[ek];omega
theorem ja.fix {ρ:Rn}{w W:Γ}(h:ja P S ρ w W):rV S ρ:=⟨λ_ _=>h.f _,h.wr.big.fg,h.wr.big.fl⟩
theorem xw.ext {ρ:Rn}{n N:Nat}(h:xw P S ρ n):xw P S (ek ρ n N) n:=⟨h.d,h.g,h.r,h.p,h.dp,λg h1 h2=>by rw[bg (zaI h2 h.g)];exact h.fg g h1 h2,λg hg=>by rw[bg (zaI hg h.d)];exact h.fl g hg⟩
theorem ja.low {ρ:Rn}{w W:Γ}(h:ja P S ρ w W){r:Nat}(hr:r<w.heap.size):ρ r<W.heap.size:=by
 rcases zaw r P.globals.size with hlt|jB
 ·have:=(h.lr r).2 hlt;have:=h.qb;omega
 ·exact h.wr.low r (zag h.wr.big.dp jB) hr
theorem Lq {ρ:Rn}{n N:Nat}:(∀r,sg S S.d n r=r→ρ r=ek ρ n N r)∧∀x,(sg S S.d n).f x=x→ρ.f x=(ek ρ n N).f x:=
 ⟨λ_r hr=>(bg (bY.1 hr).2).symm,λ_x _=>rfl⟩
theorem eZ {ρ ρ':Rn}{n:Nat}{fr:Ξ}(hc:iH P S n fr)(hb:∀r,r<n→ρ r=ρ' r)(hf:∀x,ρ.f x=ρ'.f x):cv ρ fr=cv ρ' fr:=by
 unfold cv;rw[et λv hv=>agree (σ:=sg S S.d n) (λr hr=>hb r (bY.1 hr).2) (λx _=>hf x) v (hc v hv)]
theorem fw {ρ ρ':Rn}{n:Nat}(hb:∀r,r<n→ρ r=ρ' r)(hf:∀x,ρ.f x=ρ'.f x):∀{above:List Ξ},(∀f∈above,iH P S n f)→above.map (cv ρ)=above.map (cv ρ')
 |[],_=>rfl
 |f::l,h=>by rw[zaB,zaB,eZ (h f (by simp)) hb hf,fw hb hf λg hg=>h g (by simp[hg])]
theorem ja.rely {ρ:Rn}{w W aS:Γ}(h:ja P S ρ w W)(hr:cq ro (Touch S.d ρ w) W aS):ja P S (ek ρ w.heap.size aS.heap.size) w aS:=by
 have rF:=Lq (S:=S) (ρ:=ρ) (n:=w.heap.size) (N:=aS.heap.size);have hsz:=hr.size;refine⟨⟨λr o jB ho=>?_,h.wr.ok,h.wr.dead,h.wr.closed,λr jB=>eC jB,λr jB hlt=>?_,h.wr.big.ext⟩,λa b e=>?_,λr=>?_,h.f,zag h.qb hsz⟩
 ·have hlt:=gg ho;rw[bg hlt,hr.block _ (.inl ⟨r,jB,hlt,rfl⟩),h.wr.live r o jB ho,tO rF.1 rF.2 (h.wr.closed r o jB ho)]
 ·rw[bg hlt];have:=h.wr.low r jB hlt;omega
 ·rcases zaw a w.heap.size with ha|ha<;>rcases zaw b w.heap.size with hb|hb
  ·rw[bg ha,bg hb]at e;exact h.inj a b e
  ·rw[bg ha,eC hb]at e;have:=h.low ha;omega
  ·rw[eC ha,bg hb]at e;have:=h.low hb;omega
  ·rw[eC ha,eC hb]at e;omega
 ·rcases zaw r w.heap.size with ha|ha
  ·rw[bg ha];exact h.lr r
  ·rw[eC ha];have:=h.qb;have:=h.wr.big.p;constructor<;>intro<;>omega
theorem dN {ρ:Rn}{w:Γ}{N:Nat}:Touch S.d (ek ρ w.heap.size N) w=Touch S.d ρ w:=by
 funext b;refine propext ⟨?_,?_⟩
 ·rintro ⟨r,h1,h2,rfl⟩;exact⟨r,h1,h2,bg h2⟩
 ·rintro ⟨r,h1,h2,rfl⟩;exact⟨r,h1,h2,(bg h2).symm⟩
theorem xG {ρ:Rn}{w w1 W W1:Γ}(h:ja P S ρ w W)(hD:DM S.d ρ w w1 W W1):Touch S.d ρ w1=Grow (Touch S.d ρ w) W W1:=by
 funext b;have hs:=hD.size;have hg:=hD.gK;have hb:=h.wr.big.d;refine propext ⟨?_,?_⟩
 ·rintro ⟨r,h1,h2,rfl⟩;rcases zaw r w.heap.size with hlt|jB
  ·exact .inl ⟨r,h1,hlt,rfl⟩
  ·right;rw[h.wr.next r jB];omega
 ·rintro (⟨r,h1,h2,rfl⟩|⟨h1,h2⟩)
  ·exact⟨r,h1,by omega,rfl⟩
  ·refine⟨w.heap.size+(b-W.heap.size),by omega,by omega,?_⟩;rw[h.wr.next _ (by omega)];omega
def TD (P:Ω)(F:θ→Bool)(S:Sd)(Q:Ξ→List Ξ→Γ→Prop)(cs:List Ξ)(kK:Rn)(n₀:Nat)(own:Nat→Prop)(g:Δ)(W:Γ):Prop:=
 ∃fr above w ρ,Q fr above w∧PI P F S fr above w∧ja P S ρ w W∧own=Touch S.d ρ w∧g=G (cv ρ fr) (above.map (cv ρ)++cs)∧n₀≤w.heap.size∧∀r,r<n₀→ρ r=kK r
theorem CI (hC:lp P F S){Q:Ξ→List Ξ→Γ→Prop}{cs:List Ξ}{fr:Ξ}{above:List Ξ}{w:Γ}(hb:Om P Q fr above w):PI P F S fr above w→∀(kK:Rn) (n₀:Nat) (ρ:Rn) (W:Γ),ja P S ρ w W→n₀≤w.heap.size→(∀r,r<n₀→ρ r=kK r)→af P main ro (TD P F S Q cs kK n₀) (Touch S.d ρ w) (G (cv ρ fr) (above.map (cv ρ)++cs)) W:=by
 induction hb with
 | @stop fr above w hq=>
   intro hI kK n₀ ρ W hS hn wH;refine .stop λaS hr=>⟨fr,above,w,_,hq,hI,hS.rely hr,dN.symm,?_,hn,λr hlt=>by rw[bg (by omega)];exact wH r hlt⟩;rw[eZ hI.cl (ρ:=ρ) (ρ':=ek ρ w.heap.size aS.heap.size) (λr hlt=>(bg hlt).symm) (λ_=>rfl),fw (ρ:=ρ) (ρ':=ek ρ w.heap.size aS.heap.size) (λr hlt=>(bg hlt).symm) (λ_=>rfl) hI.cls]
 | @step fr above w nf na nw ne h1 _ ih=>
   intro hI kK n₀ ρ W hS hn wH;refine af.step' rfl λaS hr=>?_;have hS1:=hS.rely hr;generalize tW:ek ρ w.heap.size aS.heap.size=cH at hS1;have Hk:∀r,r<w.heap.size→cH r=ρ r:=λr hlt=>by rw[←tW];exact bg hlt
   have Lr:∀x,cH.f x=ρ.f x:=λx=>by rw[←tW];rfl
   have hrun:=h1 aS.tape aS.drawn;have hW:WR P S cH (w.re aS.tape aS.drawn) aS:=⟨hS1.wr.live,hS1.wr.ok,hS1.wr.dead,hS1.wr.closed,hS1.wr.next,hS1.wr.low,hS1.wr.big⟩;obtain⟨W2,es',q1,q2,q3,q4⟩:=Ol hC (ρ:=cH) ⟨λt i v a b=>hC.zero t i v a b _,hS1.inj⟩ hS1.lr hS1.fix (hI.re aS.tape aS.drawn) hW (λj _ q=>rfl) hrun;have Wy:=(eL hC (hI.re aS.tape aS.drawn) hrun).1;have X0:ja P S cH (w.re aS.tape aS.drawn) aS:=⟨hW,hS1.inj,hS1.lr,hS1.f,hS1.qb⟩;have Oq:ja P S cH (nw aS.tape aS.drawn) W2:=⟨q1,hS1.inj,hS1.lr,hS1.f,by have:=hS1.qb;have h3:=q2.size;have h4:=q2.gK;omega⟩;have hgrow:Touch S.d cH (nw aS.tape aS.drawn)=Grow (Touch S.d ρ w) aS W2:=by
    rw[xG X0 q2];have:Touch S.d cH (w.re aS.tape aS.drawn)=Touch S.d ρ w:=by
     rw[←tW];exact dN
    rw[this]
   have Nv:cv ρ fr=cv cH fr:=eZ hI.cl (λr hlt=>(Hk r hlt).symm) (λx=>(Lr x).symm);have hab:above.map (cv ρ)=above.map (cv cH):=fw (λr hlt=>(Hk r hlt).symm) (λx=>(Lr x).symm) hI.cls;refine⟨_,W2,_,by rw[Nv,hab];exact q4 main cs,⟨q2.tape,q2.os,q2.output,by have h3:=q2.size;have h4:=q2.gK;simp only[Γ.re]at h3 h4;omega,λb hb hnb=>?_,λe he=>?_⟩,?_⟩
   ·refine q2.frame b hb λht=>?_;rw[hgrow]at ht;rcases ht with h|⟨h,_⟩
    ·exact hnb h
    ·omega
   ·have:=q3 e (mem_seen he);unfold nU at this;unfold DO;rw[←hgrow];cases hl:e.loc<;>simp only[hl]at this ⊢<;>first|exact .inl this|exact this
   ·rw[←hgrow];refine ih aS.tape aS.drawn Wy kK n₀ cH W2 Oq ?_ λr hlt=>(Hk r (by omega)).trans (wH r hlt);have h4:=q2.gK;simp only[Γ.re]at h4;omega
end
section
variable {P:Ω}{F:θ→Bool}{S:Sd}{main:Bool}{ro own:Nat→Prop}{Stop Ep:(Nat→Prop)→Δ→Γ→Prop}
theorem af.mono {g:Δ}{w:Γ}(h:af P main ro Stop own g w)(hs:∀own g w,Stop own g w→Ep own g w):af P main ro Ep own g w:=by
 induction h with
 |stop h=>exact .stop λw₁ hr=>hs _ _ _ (h w₁ hr)
 |step nx nw ne hr h1 h2 _ ih=>exact .step nx nw ne hr h1 h2 ih
def Beside (ro:Nat→Prop)(Stop:(Nat→Prop)→Δ→Γ→Prop)(extra:Nat→Prop)(w₀:Γ)(JP:Nat→Prop)(g:Δ)(w:Γ):Prop:=
 ∃own',(∀b,JP b↔own' b∨extra b)∧Stop own' g w∧w₀.heap.size≤w.heap.size∧∀b,extra b∨ro b→¬own' b∧w.heap[b]?=w₀.heap[b]?
theorem cq.sub {own own':Nat→Prop}{w w₁:Γ}(h:cq ro own' w w₁)(hs:∀b,own b→own' b):cq ro own w w₁:=⟨h.tape,h.os,h.output,h.size,λb hb=>h.block b (hb.imp (hs b) id)⟩
theorem DO.mono {own own':Nat→Prop}{e:ι}(h:DO ro own e)(hs:∀b,own b→own' b):DO ro own' e:=by
 unfold DO at h ⊢;split at h
 ·exact h.imp (hs _) id
 ·exact⟨hs _ h.1,h.2⟩
 ·exact h
 ·exact h.elim
theorem af.frame {extra:Nat→Prop}{g:Δ}{w:Γ}(h:af P main ro Stop own g w):(∀b,extra b∨ro b→¬own b∧b<w.heap.size)→af P main ro (Beside ro Stop extra w) (λb=>own b∨extra b) g w:=by
 induction h with
 | @stop own g w h=>
   intro hd;exact .stop λw₁ hr=>⟨own,λb=>Iff.rfl,h w₁ (hr.sub λb hb=> .inl hb),hr.size,λb hb=>⟨(hd b hb).1,hr.block b (hb.imp .inr id)⟩⟩
 | @step own g w nx nw ne hs h1 h2 h3 ih=>
   intro hd;refine .step nx nw ne hs (λw₁ hr=>h1 w₁ (hr.sub λb hb=> .inl hb)) (λw₁ hr=>?_) (λw₁ hr=>?_)
   ·have hg:=h2 w₁ (hr.sub λb hb=> .inl hb);exact⟨hg.tape,hg.os,hg.output,hg.size,λb hb hn=>hg.block b hb λx=>hn (.inl x),λe he=>(hg.evs e he).mono λb hb=>hb.imp .inl id⟩
   ·have qy:=hr.sub (own:=own) λb hb=> .inl hb;have hg:=h2 w₁ qy;have hsz:=hr.size;have aaj:=hg.size;have:=ih w₁ qy λb hb=>⟨λx=>x.elim (hd b hb).1 λy=>by have:=(hd b hb).2;omega,by have:=(hd b hb).2;omega⟩;have e:(λb=>Grow own w₁ (nw w₁) b∨extra b)=Grow (λb=>own b∨extra b) w₁ (nw w₁):=by
     funext b;unfold Grow;refine propext ⟨?_,?_⟩
     ·rintro ((x|x)|x)
      ·exact .inl (.inl x)
      ·exact .inr x
      ·exact .inl (.inr x)
     ·rintro ((x|x)|x)
      ·exact .inl (.inl x)
      ·exact .inr x
      ·exact .inl (.inr x)
    rw[e]at this;refine this.mono λJP g' w' ⟨own',k1,k2,k0,k3⟩=>⟨own',k1,k2,by omega,λb hb=>⟨(k3 b hb).1,?_⟩⟩;rw[(k3 b hb).2,hg.block b (by have:=(hd b hb).2;omega) (hd b hb).1,hr.block b (hb.imp .inr id)]
end
section
variable {P:Ω}{F:θ→Bool}{S:Sd}{main:Bool}{ro:Nat→Prop}
class Shut (P:Ω) (S:Sd):Prop where
 d:S.d=P.globals.size
 g:S.g≤P.globals.size
def Hl (P:Ω)(W:Γ):Γ:={ W with heap:=Array.replicate P.globals.size iE }
theorem oy (W:Γ):(Hl P W).heap.size=P.globals.size:=by simp[Hl]
theorem Ot [Z:Shut P S] (W:Γ){W':Γ}{ρ:Rn}(hd:ρ.d≤P.globals.size)(hi:∀r,r<P.globals.size→ρ r=r)(hn:∀r:Nat,P.globals.size≤r→ρ r=W'.heap.size+(r-P.globals.size)):WR P S ρ (Hl P W) W':=by
 have hs:=oy (P:=P) W;have hZ:=Z.d;have hG:=Z.g;refine⟨λr o jB ho=>?_,λr o ho=>?_,λr hr=>?_,λr o jB ho=>?_,λr hr=>by rw[hs]at hr ⊢;exact hn r hr,λr h1 h2=>by omega,⟨by omega,by omega,by omega,by omega,by omega,λg h1 h2=>hi g (by omega),λg h1=> .inr (hi g (by omega))⟩⟩
 ·have:=gg ho;omega
 ·have hlt:=gg ho;simp only[Hl,Array.getElem?_replicate]at ho;split at ho
  ·cases ho;trivial
  ·cases ho
 ·simp only[Hl,Array.getElem?_replicate,zab (show r<P.globals.size by omega)]
 ·have:=gg ho;omega
theorem JQ [Shut P S] {W:Γ}(hb:P.globals.size≤W.heap.size):ja P S (ek jR P.globals.size W.heap.size) (Hl P W) W:=by
 refine⟨Ot W (zaq _) (λr hr=>bg hr) λr hr=>eC hr,λa b e=>?_,λr=>?_,λ_=>rfl,hb⟩
 ·rcases zaw a P.globals.size with ha|ha<;>rcases zaw b P.globals.size with hb'|hb'
  ·rw[bg ha,bg hb']at e;exact e
  ·rw[bg ha,eC hb']at e;have:jR.b a=a:=rfl;omega
  ·rw[eC ha,bg hb']at e;have:jR.b b=b:=rfl;omega
  ·rw[eC ha,eC hb']at e;omega
 ·rcases zaw r P.globals.size with ha|ha
  ·rw[bg ha];exact Iff.rfl
  ·rw[eC ha];constructor<;>intro<;>omega
theorem Ls (hC:lp P F S){fr:Ξ}{w W:Γ}{ρ:Rn}(hI:PI P F S fr [] w)(hS:ja P S ρ w W){v:Λ}(hl:fr.leaving P w (.returned v))(hv:gq v)(c:Ξ)(cs:List Ξ):∃es,φ P main (G (cv ρ fr) (c::cs)) W=.go (G (c.finish v) cs) W es∧∀e∈es,nU S.d ρ w e:=by
 have hl':fr.mode=.returning∧fr.defers=[]∧fr.kind=.normal∧∃fn,P.funcs[fr.fn]?=some fn∧(results fn fr.tmps).run P w=.ok v w:=hl;obtain⟨h1,h2,h3,fn,h4,h5⟩:=hl';have hp:Plain P ρ:=⟨λt i v a b=>hC.zero t i v a b _,hS.inj⟩;cases hrun:(results fn fr.tmps).runT P w #[]with
 |mk r es=>
  have q1:=zak Prod.fst hrun;simp at q1;rw[h5]at q1;subst q1;have se:∀n,w.heap.size≤n→ae P (sg S S.d n) (VV (sg S S.d n)) (results fn fr.tmps) (results fn fr.tmps):=λn hn=>by
   have:=jm (mg hC n) fn fr.tmps eu;have e:fr.tmps.map (rv (sg S S.d n))=fr.tmps:=bF.2 (iJ hn hI.cl);rwa[e]at this
  obtain⟨b,W1,es',r1,r2,_,r4,r5,r6⟩:=dG hp (λo=> .inl hS.lr) _ _ _ _ w W #[] #[] _ _ _ (jm hp fn fr.tmps eu) se hS.wr (λj hj=>by omega) hrun;have hb:b=v:=by have:=r2;unfold VV at this;rw[hv ρ]at this;exact this
  have hs:=r5.size;have hW1:W1=W:=by
   refine pD (Array.ext_getElem? λi=>?_) r5.tape (by have:=r5.drawn;omega) r5.os r5.output;rcases zaw i W.heap.size with hlt|jB
   ·by_cases ht:Touch S.d ρ w i
    ·obtain⟨k,hr1,hr2,rfl⟩:=ht;have En:=r4.live _ _ hr1 (zaL hr2);have xF:=hS.wr.live _ _ hr1 (zaL hr2);exact En.trans xF.symm
    ·exact r5.frame i hlt ht
   ·rw[zbQ (by omega),zbQ jB]
  subst hb hW1;have cG:kJ P F S (cv ρ fr):=⟨hI.ok.defers,hI.ok.mode,hI.ok.kind,hI.ok.round,hI.ok.todo,hI.ok.fn⟩;have hps:(ba P (cv ρ fr) [c]).runT P W1 #[]=(.ok (c.finish b,[]) W1,es'):=by
   have hm:(cv ρ fr).mode=.returning:=h1;have hf:P.funcs[(cv ρ fr).fn]?=some fn:=h4;unfold ba;rw[hm];simp only[hf];rw[bO];have:(results fn (cv ρ fr).tmps).runT P W1 #[]=(.ok b W1,es'):=r1;rw[this];rfl
  have hst:=mN (main:=main) (cs:=cs) cG hps;refine⟨_,hst,λe he=>?_⟩;rcases r6 e (mem_seen he)with h|h
  ·simp at h
  ·exact h
theorem pE {ρ:Rn}{w:Γ}{e:ι}(h:nU S.d ρ w e):DO ro (Touch S.d ρ w) e:=by
 unfold nU at h;unfold DO;cases hl:e.loc<;>simp only[hl]at h ⊢<;>first|exact .inl h|exact h
theorem xH [Z:Shut P S] (hC:lp P F S){f:θ}{args:Array Λ}(hF:F f=true)(ha:∀v∈args,gq v){Qv:Λ→Prop}(hv:∀v,Qv v→gq v){W:Γ}(hb:P.globals.size≤W.heap.size)
 (hc:∀w:Γ,w.heap=Array.replicate P.globals.size iE→w.os=W.os→w.output=W.output→Calls P f args w λe _=>∃v,e=.returned v∧Qv v)(c:Ξ)(cs:List Ξ):
 af P main ro (λ_ g _=>∃v,Qv v∧g=G (c.finish v) cs) (λ_=>False) (G (Ξ.enter P f args .normal) (c::cs)) W:=by
 have hw:WR P S jR (Hl P W) (Hl P W):=Ot W (zaq _) (λ_ _=>rfl) λr hr=>by rw[oy];show r=_;omega
 have X1:=CH (Q:=λv _=>Qv v) hC hF (w:=Hl P W) (args:=args) (λv hv'=>ha v hv' _) hw (λ_ _ _ _ h=>h) λτ=>hc _ rfl rfl rfl;have hI:PI P F S (Ξ.enter P f args .normal) [] (Hl P W):=by
  refine⟨xB hC hF args,by simp,λv hv'=>?_,by simp,hw⟩;have e:cv (sg S S.d (Hl P W).heap.size) (Ξ.enter P f args .normal)=Ξ.enter P f args .normal:=by
   rw[←il,bF.2 λv hv'=>ha v hv' _]
  have:=zak Ξ.tmps e;simp only[cv]at this;exact bF.1 this v hv'
 have hS:=JQ (S:=S) hb;have key:=CI (main:=main) (ro:=ro) (cs:=c::cs) hC X1 hI (ek jR P.globals.size W.heap.size) 0 _ W hS (by omega) (λr hr=>by omega);have e1:cv (ek jR P.globals.size W.heap.size) (Ξ.enter P f args .normal)=Ξ.enter P f args .normal:=by
  rw[←il,bF.2 λv hv'=>ha v hv' _]
 have e2:Touch S.d (ek jR P.globals.size W.heap.size) (Hl P W)=λ_=>False:=by
  funext b;refine propext ⟨?_,False.elim⟩;rintro ⟨r,h1,h2,_⟩;rw[oy]at h2;rw[Z.d]at h1;omega
 rw[e1,e2]at key;refine af.bind key λown g W' hst=>?_;obtain⟨fr,above,w,ρ,⟨rfl,_,v,hq,hl⟩,hI',TE,rfl,rfl,_,_⟩:=hst;refine af.step' rfl λaS hr=>?_;have hS1:=TE.rely hr;obtain⟨es,hstep,iG⟩:=Ls (main:=main) hC hI' hS1 hl (hv v hq) c cs;have Nv:cv ρ fr=cv (ek ρ w.heap.size aS.heap.size) fr:=eZ hI'.cl (λr hlt=>(bg hlt).symm) (λ_=>rfl);refine⟨_,aS,es,by rw[Nv];exact hstep,⟨rfl,rfl,rfl,zac _,λ_ _ _=>rfl,λe he=>?_⟩,.stop λ_ _=>⟨v,hq,rfl⟩⟩;have:=pE (ro:=ro) (iG e he);rw[dN]at this;exact this.mono λb hb=> .inl hb
end
section
variable {P:Ω}{main:Bool}{ro own:Nat→Prop}{Stop:(Nat→Prop)→Δ→Γ→Prop}{g:Δ}{w:Γ}
theorem tX (own:Nat→Prop){w w':Γ}(h:w'.heap.size=w.heap.size):Grow own w w'=own:=by
 funext b;unfold Grow;refine propext ⟨λx=>x.elim id λy=>by omega,.inl⟩
theorem af.silent {g':Δ}(hs:g.status=.running)(h:∀w₁,φ P main g w₁=.go g' w₁ #[])(k:af P main ro Stop own g' w):af P main ro Stop own g w:=
 af.step' hs λw₁ hr=>⟨g',w₁,#[],h w₁,⟨rfl,rfl,rfl,zac _,λ_ _ _=>rfl,by simp⟩,by rw[tX own rfl];exact k.rely hr⟩
end
section
variable {P:Ω}{F:θ→Bool}{S:Sd}{main:Bool}{ro own:Nat→Prop}{Stop:(Nat→Prop)→Δ→Γ→Prop}{w W:Γ}{ρ:Rn}{b:Ξ}{a:Act}{ops:Array Oper}{i:Nat}{rest:List Nat}{o:Oper}{kk:List Item}{cs:List Ξ}
structure qc (ro own:Nat→Prop) (W:Γ):Prop where
 lt:∀b,own b∨ro b→b<W.heap.size
 ap:∀b,ro b→¬own b
theorem qc.grow {aS W':Γ}(h:qc ro own W)(h1:W.heap.size≤aS.heap.size)(h2:aS.heap.size≤W'.heap.size):qc ro (Grow own aS W') W':=
 ⟨λb hb=>by
   rcases hb with(hb|hb)|hb
   ·have:=h.lt b (.inl hb);omega
   ·exact hb.2
   ·have:=h.lt b (.inr hb);omega,λb hb hg=>by
   rcases hg with hg|hg
   ·exact h.ap b hb hg
   ·have:=h.lt b (.inr hb);omega⟩
theorem af.bounded {g:Δ}(h:af P main ro Stop own g w):(∀b,own b→b<w.heap.size)→af P main ro (λown g w=>Stop own g w∧∀b,own b→b<w.heap.size) own g w:=by
 induction h with
 | @stop own g w h=>intro hb;exact .stop λw₁ hr=>⟨h w₁ hr,λb hx=>by have:=hb b hx;have:=hr.size;omega⟩
 | @step own g w nx nw ne hs h1 h2 _ ih=>
   intro hb;refine .step nx nw ne hs h1 h2 λw₁ hr=>ih w₁ hr λb hx=>?_;have h3:=(h2 w₁ hr).size;have h4:=hr.size;rcases hx with hx|hx
   ·have:=hb b hx;omega
   ·exact hx.2
theorem af.call' [Shut P S] (hC:lp P F S){f:θ}{args:Array Λ}(hF:F f=true)(ha:∀v∈args,gq v){Qv:Λ→Prop}(hv:∀v,Qv v→gq v){c:Ξ}{g:Δ}
 (hs:g.status=.running)(hst:∀w₁,φ P main g w₁=.go (G (Ξ.enter P f args .normal) (c::cs)) w₁ #[])(hb:P.globals.size≤w.heap.size)(hH:qc ro own w)
 (hc:∀w':Γ,w'.heap=Array.replicate P.globals.size iE→Calls P f args w' λe _=>∃v,e=.returned v∧Qv v)
 (k:∀v w' own',Qv v→(∀b,own b→own' b)→qc ro own' w'→(∀b,own b∨ro b→w'.heap[b]?=w.heap[b]?)→w.heap.size≤w'.heap.size→af P main ro Stop own' (G (c.finish v) cs) w'):af P main ro Stop own g w:=by
 refine af.silent hs hst ?_;have h1:=((xH (main:=main) (ro:=ro) hC hF ha hv hb (λw' e _ _=>hc w' e) c cs).bounded (λ_ h=>h.elim)).frame (extra:=own) (λb hb=>⟨λh=>h,hH.lt b hb⟩);have e:(λb=>False∨own b)=own:=by funext b;exact propext ⟨λh=>h.elim False.elim id,.inr⟩
 rw[e]at h1;refine af.bind h1 λJP g' w' ⟨own',k1,⟨⟨v,hq,hg⟩,k4⟩,k2,k3⟩=>?_;subst hg;refine k v w' JP hq (λb hb=>(k1 b).2 (.inr hb)) ⟨λb hb=>?_,λb hr hb=>?_⟩ (λb hb=>(k3 b hb).2) k2
 ·rcases hb with hb|hb
  ·rcases(k1 b).1 hb with h|h
   ·exact k4 b h
   ·have:=hH.lt b (.inl h);omega
  ·have:=hH.lt b (.inr hb);omega
 ·rcases(k1 b).1 hb with h|h
  ·exact(k3 b (.inr hr)).1 h
  ·exact hH.ap b hr h
theorem ja.grow {aS:Γ}(h:ja P S ρ w W)(hs:W.heap.size≤aS.heap.size)(hb:∀b,Touch S.d ρ w b→aS.heap[b]?=W.heap[b]?):ja P S (ek ρ w.heap.size aS.heap.size) w aS:=by
 have h':ja P S ρ w { W with tape:=aS.tape,os:=aS.os,output:=aS.output }:=⟨⟨h.wr.live,h.wr.ok,h.wr.dead,h.wr.closed,h.wr.next,h.wr.low,h.wr.big⟩,h.inj,h.lr,h.f,h.qb⟩;exact h'.rely (ro:=λ_=>False) ⟨rfl,rfl,rfl,hs,λb hx=>hx.elim (hb b) False.elim⟩
def Cl (_P:Ω)(S:Sd)(w:Γ)(v:Λ):Prop:=rv (sg S S.d w.heap.size) v=v
theorem Cl.agree {ρ':Rn}{v:Λ}(h:Cl P S w v)(hb:∀r,r<w.heap.size→ρ' r=ρ r)(hf:∀x,ρ'.f x=ρ.f x):rv ρ' v=rv ρ v:=
 Go.Ren.agree (σ:=sg S S.d w.heap.size) (λr hr=>hb r (bY.1 hr).2) (λx _=>hf x) v h
theorem Cl.mono {w':Γ}{v:Λ}(h:Cl P S w v)(hs:w.heap.size≤w'.heap.size):Cl P S w' v:=eY (dY hs).1 (dY hs).2 v h
def fL (f:Nat→Λ):ξ→Λ
 |.tmp t=>f t
 |.const v=>v
 |.global g=> .pointer (some ⟨g,0,none⟩)
 |.func f=> .func (.func f) #[] #[]
theorem Ou {T:Nat→Λ}{x:ξ}(hx:gD S x=true)(hf:rV S ρ):fL (λt=>rv ρ (T t)) x=rv ρ (fL T x):=by
 cases x with
 |tmp t=>rfl
 |const v=>simp only[gD]at hx;exact(ik hx ρ).symm
 |global g=>
  simp only[gD,zae,zaK]at hx;simp[fL,rv,ra,hf.g g hx.1 hx.2]
 |func f=>simp[fL,rv,hf.f f hx]
theorem JR {T:Nat→Λ}{n:Nat}(hn:S.g≤n)(hT:∀t,rv (sg S S.d n) (T t)=T t){x:ξ}(hx:gD S x=true):rv (sg S S.d n) (fL T x)=fL T x:=by
 cases x with
 |tmp t=>exact hT t
 |const v=>simp only[gD]at hx;exact ik hx _
 |global g=>
  simp only[gD,zae,zaK]at hx;have:(sg S S.d n) g=g:=bY.2 ⟨hx.1,by omega⟩;simp[fL,rv,ra,this]
 |func f=>
  simp only[fL,rv];have:(sg S S.d n).f (.func f)=.func f:=iD.2 ⟨f,rfl,hx⟩;simp[this]
theorem JS (hC:lp P F S)(cG:fo P F S o.op=true){T:Nat→Λ}(hT:∀t,Cl P S w (T t))(hS:ja P S ρ w W){nx:Next}{w':Γ}
 (hrun:(Θ (fL T) o).run P (w.re W.tape W.drawn)=.ok nx w'):
 ∃Ty W' es,(Θ (fL λt=>rv ρ (T t)) o).runT P W #[]=(.ok Ty W',es)∧NN F ρ nx Ty∧NN F (sg S S.d w'.heap.size) nx nx∧ja P S ρ w' W'∧DM S.d ρ (w.re W.tape W.drawn) w' W W'∧∀e∈es,nU S.d ρ w' e:=by
 have hp:Plain P ρ:=⟨λt i v a b=>hC.zero t i v a b _,hS.inj⟩;have hfv:∀x,gD S x=true→FV S ((fL T) x):=λx hx=>jo (JR (n:=w.heap.size) hS.wr.big.g hT hx);have e1:=ou (P:=P) (F:=F) (S:=S) (ρ:=ρ) (ev:=(fL T)) (ev':=(fL λt=>rv ρ (T t))) hp hS.fix hC.SF hC.fn o cG (λx hx=>Ou hx hS.fix) (λx _=> .inl hS.lr) hfv (λ_=>rfl) (λ_=>rfl) (λ_=>rfl) (λ_=>rfl);have e2:∀n,(w.re W.tape W.drawn).heap.size≤n→ae P (sg S S.d n) (NN F (sg S S.d n)) (Θ (fL T) o) (Θ (fL T) o):=λn hn=>by
  have hT':∀t,rv (sg S S.d n) (T t)=T t:=λt=>eY (dY hn).1 (dY hn).2 _ (hT t);exact ou (mg hC n) (wC (zag hS.wr.big.g hn)) hC.SF hC.fn o cG (λx hx=>(JR (zag hS.wr.big.g hn) hT' hx).symm) (λx hx=> .inr (JR (zag hS.wr.big.g hn) hT' hx)) hfv (λ_=>rfl) (λ_=>rfl) (λ_=>rfl) (λ_=>rfl)
 cases hrt:(Θ (fL T) o).runT P (w.re W.tape W.drawn) #[]with
 |mk r es=>
  have q1:=zak Prod.fst hrt;simp at q1;rw[hrun]at q1;subst q1;have hW:WR P S ρ (w.re W.tape W.drawn) W:=⟨hS.wr.live,hS.wr.ok,hS.wr.dead,hS.wr.closed,hS.wr.next,hS.wr.low,hS.wr.big⟩;obtain⟨Ty,W',es',r1,r2,r3,r4,r5,r6⟩:=dG hp (λo=> .inl hS.lr) _ _ _ (λn=>NN F (sg S S.d n)) (w.re W.tape W.drawn) W #[] #[] _ _ _ e1 e2 hW (λj _ q=>rfl) hrt;exact⟨Ty,W',es',r1,r2,r3 _ (zac _),⟨r4,hS.inj,hS.lr,hS.f,by have h1:=r5.size;have h2:=r5.gK;have:=hS.qb;omega⟩,r5,λe he=>(r6 e he).resolve_left (by simp)⟩
theorem af.JU (hC:lp P F S)(cG:fo P F S o.op=true)(ho:ops[i]?=some o)(hw:Φ o (η ops a.tmps)=true)(hk:b.kind≠.early){T:Nat→Λ}(hT:∀t,Cl P S w (T t))(hS:ja P S ρ w W)(hown:∀x,Touch S.d ρ w x→own x)
 (hx:Θ a.eval o=Θ (fL λt=>rv ρ (T t)) o){Q:Λ→Γ→Prop}(hrun:∀τ d,∃v w',(Θ (fL T) o).run P (w.re τ d)=.ok (.value v) w'∧Q v w')
 (k:∀v w' ρ' W' own',Q v w'→ja P S ρ' w' W'→(∀r,r<w.heap.size→ρ' r=ρ r)→w.heap.size≤w'.heap.size→Cl P S w' v→(∀x,Touch S.d ρ' w' x→own' x)→(∀x,own x→own' x)→
   (∀x,ro x→W'.heap[x]?=W.heap[x]?)→qc ro own' W'→af P main ro Stop own' (G (b.at (a.put o.dst (rv ρ' v)) (.inRegion ops rest::kk)) cs) W')(hro:qc ro own W):
 af P main ro Stop own (G (b.at a (.inRegion ops (i::rest)::kk)) cs) W:=by
 refine af.step' rfl λaS hr=>?_;have hS1:=hS.grow hr.size λx hx=>hr.block x (.inl (hown x hx));generalize tW:ek ρ w.heap.size aS.heap.size=cH at hS1;have hlt:∀r,r<w.heap.size→cH r=ρ r:=λr h=>by rw[←tW];exact bg h
 have hf:∀x,cH.f x=ρ.f x:=λx=>by rw[←tW];rfl
 obtain⟨v,w',hv,hq⟩:=hrun aS.tape aS.drawn;obtain⟨Ty,W',es,r1,r2,r3,r4,r5,r6⟩:=JS hC cG hT hS1 hv;have qa:Ty=.value (rv cH v):=r2;subst qa;have fK:Cl P S w' v:=by
  have:Next.value v=.value (rv (sg S S.d w'.heap.size) v):=r3;exact(Next.value.inj this).symm
 have hTe:(λt=>rv ρ (T t))=λt=>rv cH (T t):=funext λt=>((hT t).agree hlt hf).symm;have Ov:(Θ a.eval o).run P aS=.ok (.value (rv cH v)) W':=by
  rw[hx,hTe];have:=zak Prod.fst r1;simpa using this
 have iG:(Θ a.eval o).events P aS #[]=es:=by
  rw[hx,hTe];have:=zak Prod.snd r1;simpa using this
 have hsz:=r5.size;have Hm:=r5.gK;simp only[Γ.re]at hsz Hm;have ia:∀x,Touch S.d cH w' x→Grow own aS W' x:=by
  rintro x ⟨r,h1,h2,rfl⟩;rcases zaw r w.heap.size with h3|h3
  ·exact .inl (hown _ ⟨r,h1,h3,by rw[hlt r h3]⟩)
  ·right;rw[hS1.wr.next r h3];omega
 have hnt:∀x,x<aS.heap.size→¬own x→W'.heap[x]?=aS.heap[x]?:=λx h1 h2=>r5.frame x h1 λht=>by
  rcases ia x ht with h|⟨h,_⟩
  ·exact h2 h
  ·omega
 refine⟨_,W',_,stepG_value ho hw hk Ov,⟨r5.tape,r5.os,r5.output,by omega,hnt,λe he=>?_⟩,k v w' cH W' _ hq r4 hlt Hm fK ia (λx hx=> .inl hx) (λx hx=>?_) (hro.grow hr.size (by omega))⟩
 ·unfold listed at he;rw[iG]at he;have:=pE (ro:=ro) (r6 e (mem_seen he));exact this.mono ia
 ·have h1:=hro.lt x (.inr hx);have h2:=hr.size;rw[hnt x (by omega) (hro.ap x hx),hr.block x (.inr hx)]
theorem af.opn (hC:lp P F S)(cG:fo P F S o.op=true)(ho:ops[i]?=some o)(hw:Φ o (η ops a.tmps)=true)(hk:b.kind≠.early){T:Nat→Λ}(hT:∀t,Cl P S w (T t))(hS:ja P S ρ w W)(hown:∀x,Touch S.d ρ w x→own x)
 (hx:Θ a.eval o=Θ (fL λt=>rv ρ (T t)) o){Q:Γ→Prop}(hrun:∀τ d,∃w',(Θ (fL T) o).run P (w.re τ d)=.ok .skip w'∧Q w')
 (k:∀w' ρ' W' own',Q w'→ja P S ρ' w' W'→(∀r,r<w.heap.size→ρ' r=ρ r)→w.heap.size≤w'.heap.size→(∀x,Touch S.d ρ' w' x→own' x)→(∀x,own x→own' x)→
   (∀x,ro x→W'.heap[x]?=W.heap[x]?)→qc ro own' W'→af P main ro Stop own' (G (b.at (a.put o.dst χ) (.inRegion ops rest::kk)) cs) W')(hro:qc ro own W):
 af P main ro Stop own (G (b.at a (.inRegion ops (i::rest)::kk)) cs) W:=by
 refine af.step' rfl λaS hr=>?_;have hS1:=hS.grow hr.size λx hx=>hr.block x (.inl (hown x hx));generalize tW:ek ρ w.heap.size aS.heap.size=cH at hS1;have hlt:∀r,r<w.heap.size→cH r=ρ r:=λr h=>by rw[←tW];exact bg h
 have hf:∀x,cH.f x=ρ.f x:=λx=>by rw[←tW];rfl
 obtain⟨w',hv,hq⟩:=hrun aS.tape aS.drawn;obtain⟨Ty,W',es,r1,r2,r3,r4,r5,r6⟩:=JS hC cG hT hS1 hv;have qa:Ty=.skip:=r2;subst qa;have hTe:(λt=>rv ρ (T t))=λt=>rv cH (T t):=funext λt=>((hT t).agree hlt hf).symm;have Ov:(Θ a.eval o).run P aS=.ok .skip W':=by
  rw[hx,hTe];have:=zak Prod.fst r1;simpa using this
 have iG:(Θ a.eval o).events P aS #[]=es:=by
  rw[hx,hTe];have:=zak Prod.snd r1;simpa using this
 have hsz:=r5.size;have Hm:=r5.gK;simp only[Γ.re]at hsz Hm;have ia:∀x,Touch S.d cH w' x→Grow own aS W' x:=by
  rintro x ⟨r,h1,h2,rfl⟩;rcases zaw r w.heap.size with h3|h3
  ·exact .inl (hown _ ⟨r,h1,h3,by rw[hlt r h3]⟩)
  ·right;rw[hS1.wr.next r h3];omega
 have hnt:∀x,x<aS.heap.size→¬own x→W'.heap[x]?=aS.heap[x]?:=λx h1 h2=>r5.frame x h1 λht=>by
  rcases ia x ht with h|⟨h,_⟩
  ·exact h2 h
  ·omega
 refine⟨_,W',_,stepG_none ho hw hk Ov,⟨r5.tape,r5.os,r5.output,by omega,hnt,λe he=>?_⟩,k w' cH W' _ hq r4 hlt Hm ia (λx hx=> .inl hx) (λx hx=>?_) (hro.grow hr.size (by omega))⟩
 ·unfold listed at he;rw[iG]at he;have:=pE (ro:=ro) (r6 e (mem_seen he));exact this.mono ia
 ·have h1:=hro.lt x (.inr hx);have h2:=hr.size;rw[hnt x (by omega) (hro.ap x hx),hr.block x (.inr hx)]
end
section
variable {P:Ω}{F:θ→Bool}{S:Sd}{main:Bool}{ro own:Nat→Prop}{Stop:(Nat→Prop)→Δ→Γ→Prop}{w W:Γ}{ρ:Rn}{b:Ξ}{a:Act}{ops:Array Oper}{i:Nat}{rest:List Nat}{o:Oper}{kk:List Item}{cs:List Ξ}
theorem ja.acI {w₂:Γ}(h:ja P S ρ w W)(e:w₂.heap=w.heap):ja P S ρ w₂ W:=by
 obtain⟨⟨h1,h2,h3,h4,h5,h6,h7⟩,g1,g2,g3,g4⟩:=h;exact⟨⟨by rw[e];exact h1,by rw[e];exact h2,by rw[e];exact h3,by rw[e];exact h4,by rw[e];exact h5,by rw[e];exact h6,by rw[e];exact h7⟩,g1,g2,g3,g4⟩
theorem bV (w:Γ)(o:Obj):(w.alloc o).heap.size=w.heap.size+1:=by show(w.heap.push o).size=_;simp
structure At (P:Ω) (S:Sd) (ro:Nat→Prop) (ρ:Rn) (w W:Γ) (own:Nat→Prop):Prop where
 vG:ja P S ρ w W
 Wz:∀x,Touch S.d ρ w x→own x
 hold:qc ro own W
structure On (ro:Nat→Prop) (ρ:Rn) (w W:Γ) (own:Nat→Prop) (ρ':Rn) (W':Γ) (own':Nat→Prop):Prop where
 agree:∀r,r<w.heap.size→ρ' r=ρ r
 own:∀x,own x→own' x
 ro:∀x,ro x→W'.heap[x]?=W.heap[x]?
theorem Er {ρ':Rn}(h:ja P S ρ w W){w' W':Γ}(h':ja P S ρ' w' W'):∀x,ρ'.f x=ρ.f x:=λx=>by rw[h.f,h'.f]
theorem af.Ow (hC:lp P F S)(cG:fo P F S o.op=true)(ho:ops[i]?=some o)(hw:Φ o (η ops a.tmps)=true)(hk:b.kind≠.early){T:Nat→Λ}(hT:∀t,Cl P S w (T t))(hA:At P S ro ρ w W own)
 (hx:Θ a.eval o=Θ (fL λt=>rv ρ (T t)) o){v:Γ→Λ}{o':Γ→Γ}(hrun:∀τ d,(Θ (fL T) o).run P (w.re τ d)=.ok (.value (v (w.re τ d))) (o' (w.re τ d)))
 (k:∀(w₀:Γ) ρ' W' own',w₀.heap=w.heap→At P S ro ρ' (o' w₀) W' own'→On ro ρ w W own ρ' W' own'→Cl P S (o' w₀) (v w₀)→af P main ro Stop own' (G (b.at (a.put o.dst (rv ρ' (v w₀))) (.inRegion ops rest::kk)) cs) W'):
 af P main ro Stop own (G (b.at a (.inRegion ops (i::rest)::kk)) cs) W:=
 af.JU hC cG ho hw hk hT hA.vG hA.Wz hx (Q:=λx w'=>∃τ d,x=v (w.re τ d)∧w'=o' (w.re τ d)) (λτ d=>⟨_,_,hrun τ d,τ,d,rfl,rfl⟩)
  (λx w' ρ' W' own' hq hS h1 _ h3 h4 h5 h6 h7=>by
    obtain⟨τ,d,rfl,rfl⟩:=hq;exact k (w.re τ d) ρ' W' own' rfl ⟨hS,h4,h7⟩ ⟨h1,h5,h6⟩ h3) hA.hold
theorem af.acJ (hC:lp P F S)(cG:fo P F S o.op=true)(ho:ops[i]?=some o)(hw:Φ o (η ops a.tmps)=true)(hk:b.kind≠.early){T:Nat→Λ}(hT:∀t,Cl P S w (T t))(hA:At P S ro ρ w W own)
 (hx:Θ a.eval o=Θ (fL λt=>rv ρ (T t)) o){o':Γ→Γ}(hrun:∀τ d,(Θ (fL T) o).run P (w.re τ d)=.ok .skip (o' (w.re τ d)))
 (k:∀(w₀:Γ) ρ' W' own',w₀.heap=w.heap→At P S ro ρ' (o' w₀) W' own'→On ro ρ w W own ρ' W' own'→af P main ro Stop own' (G (b.at (a.put o.dst χ) (.inRegion ops rest::kk)) cs) W'):
 af P main ro Stop own (G (b.at a (.inRegion ops (i::rest)::kk)) cs) W:=
 af.opn hC cG ho hw hk hT hA.vG hA.Wz hx (Q:=λw'=>∃τ d,w'=o' (w.re τ d)) (λτ d=>⟨_,hrun τ d,τ,d,rfl⟩)
  (λw' ρ' W' own' hq hS h1 _ h4 h5 h6 h7=>by
    obtain⟨τ,d,rfl⟩:=hq;exact k (w.re τ d) ρ' W' own' rfl ⟨hS,h4,h7⟩ ⟨h1,h5,h6⟩) hA.hold
theorem af.mv (ho:ops[i]?=some o)(hw:Φ o (η ops a.tmps)=true)(hk:b.kind≠.early){dd:Option Tmp}(hdd:o.dst=dd){x:ξ}(hop:o.op=.move x∨o.op=.assign x){v:Λ}(hv:a.eval x=v)
 (k:af P main ro Stop own (G (b.at (a.put dd v) (.inRegion ops rest::kk)) cs) W):af P main ro Stop own (G (b.at a (.inRegion ops (i::rest)::kk)) cs) W:=by
 subst hdd;subst hv;refine af.silent rfl (λw₁=>?_) k;have hr:(Θ a.eval o).run P w₁=.ok (.value (a.eval x)) w₁:=by
  unfold Θ;rcases hop with h|h<;>simp[h]
 have he:(Θ a.eval o).events P w₁ #[]=#[]:=by
  unfold Θ;rcases hop with h|h<;>simp[h]
 rw[stepG_value ho hw hk hr,listed_none he]
theorem af.aak (ho:ops[i]?=some o)(hw:Φ o (η ops a.tmps)=true)(hk:b.kind≠.early){dd:Option Tmp}(hdd:o.dst=dd){x:ξ}{j:Nat}(hop:o.op=.extract x j){vs:Array Λ}{v:Λ}(hx:a.eval x=.tuple vs)(hv:vs[j]?=some v)
 (k:af P main ro Stop own (G (b.at (a.put dd v) (.inRegion ops rest::kk)) cs) W):af P main ro Stop own (G (b.at a (.inRegion ops (i::rest)::kk)) cs) W:=by
 subst hdd;refine af.silent rfl (λw₁=>?_) k;have hr:(Θ a.eval o).run P w₁=.ok (.value v) w₁:=by
  unfold Θ;simp[hop,hx,Instr.extract,hv]
 have he:(Θ a.eval o).events P w₁ #[]=#[]:=by
  unfold Θ;simp[hop,hx,Instr.extract,hv]
 rw[stepG_value ho hw hk hr,listed_none he]
theorem af.Ox (hC:lp P F S)(ho:ops[i]?=some o)(hw:Φ o (η ops a.tmps)=true)(hk:b.kind≠.early){dd:Option Tmp}(hdd:o.dst=dd){e:υ}(hop:o.op=.alloc e){ti:TypeInfo}{z:Λ}(hi:P.info? e=some ti)(hz:ti.zero=some z)(hA:At P S ro ρ w W own)
 (k:∀(w₀:Γ) ρ' W' own',w₀.heap=w.heap→At P S ro ρ' (w₀.alloc (.cells z.cells e)) W' own'→On ro ρ w W own ρ' W' own'→af P main ro Stop own' (G (b.at (a.put dd (.pointer (some ⟨ρ' w.heap.size,0,none⟩))) (.inRegion ops rest::kk)) cs) W'):
 af P main ro Stop own (G (b.at a (.inRegion ops (i::rest)::kk)) cs) W:=by
 subst hdd;exact af.Ow hC (by rw[hop];rfl) ho hw hk (T:=λ_=>χ) (λ_=>eu) hA (by unfold Θ;rw[hop]) (v:=λ_=> .pointer (some ⟨w.heap.size,0,none⟩)) (o':=λw₀=>w₀.alloc (.cells z.cells e))
  (λτ d=>by unfold Θ;simp[hop,Instr.alloc,zeroValue,typeInfo,hi,hz,newVar,newRow,Γ.re])
  (λw₀ ρ' W' own' e0 hA' hO _=>by
    have:rv ρ' (.pointer (some ⟨w.heap.size,0,none⟩))=.pointer (some ⟨ρ' w.heap.size,0,none⟩):=by simp[rv,ra]
    rw[this];exact k w₀ ρ' W' own' e0 hA' hO)
theorem af.storeT (hC:lp P F S)(ho:ops[i]?=some o)(hw:Φ o (η ops a.tmps)=true)(hk:b.kind≠.early){dd:Option Tmp}(hdd:o.dst=dd){e:υ}{s t:Tmp}(hst:s≠t)(hop:o.op=.store e (.tmp s) (.tmp t)){c c':Array Λ}(hi:(P.info? e).map (·.size)=some c'.size)(hs:c.size=c'.size)(h1:c'.all (·.oneCell')=true)
 (hA:At P S ro ρ (w.alloc (.cells c e)) W own)(hp:a.eval (.tmp s)=.pointer (some ⟨ρ w.heap.size,0,none⟩))(hv:a.eval (.tmp t)=rv ρ (.agg c'))(fK:Cl P S (w.alloc (.cells c e)) (.agg c'))(hg:P.globals.size≤w.heap.size)
 (k:∀(w₀:Γ) ρ' W' own',w₀.heap=w.heap→At P S ro ρ' (w₀.alloc (.cells c' e)) W' own'→On ro ρ (w.alloc (.cells c e)) W own ρ' W' own'→af P main ro Stop own' (G (b.at (a.put dd χ) (.inRegion ops rest::kk)) cs) W'):
 af P main ro Stop own (G (b.at a (.inRegion ops (i::rest)::kk)) cs) W:=by
 subst hdd;exact af.acJ hC (by rw[hop];rfl) ho hw hk (T:=λx=>if x=s then .pointer (some ⟨w.heap.size,0,none⟩)else .agg c') (λx=>by
  by_cases h:x=s
  ·simp only[h,if_true];unfold Cl;have:(sg S S.d (w.alloc (.cells c e)).heap.size) w.heap.size=w.heap.size:=bY.2 ⟨zag hA.vG.wr.big.dp hg,by rw[bV];omega⟩;simp only[rv,ra,zbp,this]
  ·simp only[h,if_false];exact fK) hA
  (by
    unfold Θ;rw[hop];simp only[fL,hp,hv,if_true,zaa (Ne.symm hst)];simp[rv,ra]) (o':=λw₁=>{ w₁ with heap:=w.heap.push (.cells c' e) })
  (λτ d=>by
    unfold Θ;simp only[hop,fL,if_true,zaa (Ne.symm hst)];have:=run_storeAt_new (P:=P) (w.re τ d) e c c' hi hs h1;have h2:(w.alloc (.cells c e)).re τ d=(w.re τ d).alloc (.cells c e):=rfl;have h3:(w.re τ d).heap.size=w.heap.size:=rfl;rw[h3]at this;rw[h2];simp only[zba,this,zbb,zbd];rfl)
  (λw₀ ρ' W' own' e0 hA' hO=>k { w₀ with heap:=w.heap } ρ' W' own' rfl hA' hO)
theorem af.loadT (hC:lp P F S)(ho:ops[i]?=some o)(hw:Φ o (η ops a.tmps)=true)(hk:b.kind≠.early){dd:Option Tmp}(hdd:o.dst=dd){e:υ}{s:Tmp}(hop:o.op=.load e (.tmp s)){c:Array Λ}{d:TypeDesc}(hu:P.underlying e=some d)(hd:d.isRow=true)(hi:(P.info? e).map (·.size)=some c.size)
 (hA:At P S ro ρ (w.alloc (.cells c e)) W own)(hp:a.eval (.tmp s)=.pointer (some ⟨ρ w.heap.size,0,none⟩))(hg:P.globals.size≤w.heap.size)
 (k:∀(w₀:Γ) ρ' W' own',w₀.heap=w.heap→At P S ro ρ' (w₀.alloc (.cells c e)) W' own'→On ro ρ (w.alloc (.cells c e)) W own ρ' W' own'→af P main ro Stop own' (G (b.at (a.put dd (rv ρ' (.agg c))) (.inRegion ops rest::kk)) cs) W'):
 af P main ro Stop own (G (b.at a (.inRegion ops (i::rest)::kk)) cs) W:=by
 subst hdd
 exact af.Ow hC (by rw[hop];rfl) ho hw hk (T:=λx=> .pointer (some ⟨w.heap.size,0,none⟩)) (λx=>by
       unfold Cl;have:(sg S S.d (w.alloc (.cells c e)).heap.size) w.heap.size=w.heap.size:=bY.2 ⟨zag hA.vG.wr.big.dp hg,by rw[bV];omega⟩;simp only[rv,ra,zbp,this]) hA
  (by
    unfold Θ;rw[hop];simp only[fL,hp];simp[rv,ra]) (v:=λ_=> .agg c) (o':=λw₁=>{ w₁ with heap:=w.heap.push (.cells c e) })
  (λτ dd=>by
    unfold Θ;simp only[hop,fL];have h2:(w.alloc (.cells c e)).re τ dd=(w.re τ dd).alloc (.cells c e):=rfl;have:=run_loadAt_mid (P:=P) ((w.re τ dd).alloc (.cells c e)) w.heap.size 0 e c.toList d (λj v hv=>by
     have hl:(w.re τ dd).heap.size=w.heap.size:=rfl;have:((w.re τ dd).heap.push (Obj.cells c e))[w.heap.size]?=some (.cells c e):=by rw[←hl];simp
     have h5:((w.re τ dd).alloc (.cells c e)).heap[w.heap.size]?=some (.cells c e):=this;simp only[Γ.cell?,h5];simpa using hv) hu hd (by simpa using hi)
    rw[h2];simp only[zba,this,zbb,zbd];rfl)
  (λw₀ ρ' W' own' e0 hA' hO _=>k { w₀ with heap:=w.heap } ρ' W' own' rfl hA' hO)
end
section
variable {P:Ω}{F:θ→Bool}{S:Sd}{main:Bool}{ro own:Nat→Prop}{Stop:(Nat→Prop)→Δ→Γ→Prop}{w W:Γ}{ρ:Rn}{b:Ξ}{a:Act}{ops:Array Oper}{i:Nat}{rest:List Nat}{o:Oper}{kk:List Item}{cs:List Ξ}
theorem Oy {n off:Nat}(hg:S.d≤n)(hn:n<w.heap.size):Cl P S w (.pointer (some ⟨n,off,none⟩)):=by
 unfold Cl;have:(sg S S.d w.heap.size) n=n:=bY.2 ⟨hg,hn⟩;simp only[rv,ra,zbp,this]
theorem af.X2 (hC:lp P F S)(ho:ops[i]?=some o)(hw:Φ o (η ops a.tmps)=true)(hk:b.kind≠.early){dd:Option Tmp}(hdd:o.dst=dd){e:υ}{s:Tmp}{j off:Nat}(hop:o.op=.fieldAddr e (.tmp s) j)
 (hf:∀(w:Γ) (r:Nat),(Instr.fieldAt e (.pointer (some ⟨r,0,none⟩)) j).run P w=.ok (.pointer (some ⟨r,off,none⟩)) w){x:Obj}
 (hA:At P S ro ρ (w.alloc x) W own)(hp:a.eval (.tmp s)=.pointer (some ⟨ρ w.heap.size,0,none⟩))(hg:P.globals.size≤w.heap.size)
 (k:∀(w₀:Γ) ρ' W' own',w₀.heap=w.heap→At P S ro ρ' (w₀.alloc x) W' own'→On ro ρ (w.alloc x) W own ρ' W' own'→af P main ro Stop own' (G (b.at (a.put dd (.pointer (some ⟨ρ' w.heap.size,off,none⟩))) (.inRegion ops rest::kk)) cs) W'):
 af P main ro Stop own (G (b.at a (.inRegion ops (i::rest)::kk)) cs) W:=by
 subst hdd;exact af.Ow hC (by rw[hop];rfl) ho hw hk (T:=λ_=> .pointer (some ⟨w.heap.size,0,none⟩)) (λ_=>Oy (zag hA.vG.wr.big.dp hg) (by rw[bV];omega)) hA
  (by
    unfold Θ;rw[hop];simp only[fL,hp];simp[rv,ra]) (v:=λ_=> .pointer (some ⟨w.heap.size,off,none⟩)) (o':=λw₁=>{ w₁ with heap:=w.heap.push x })
  (λτ dd=>by
    unfold Θ;simp only[hop,fL,zba,hf,zbb,zbd];rfl)
  (λw₀ ρ' W' own' e0 hA' hO _=>by
    have:rv ρ' (.pointer (some ⟨w.heap.size,off,none⟩))=.pointer (some ⟨ρ' w.heap.size,off,none⟩):=by simp[rv,ra]
    rw[this];exact k { w₀ with heap:=w.heap } ρ' W' own' rfl hA' hO)
theorem af.aal (hC:lp P F S)(ho:ops[i]?=some o)(hw:Φ o (η ops a.tmps)=true)(hk:b.kind≠.early){dd:Option Tmp}(hdd:o.dst=dd){e e':υ}{s:Tmp}{off:Nat}(hop:o.op=.load e (.tmp s)){c:Array Λ}{v:Λ}
 (hl:∀(w:Γ) (a:Addr),w.cell? a=some v→(Instr.loadAt e (.pointer (some a))).run P w=.ok v w)(hc:c[off]?=some v)
 (hA:At P S ro ρ (w.alloc (.cells c e')) W own)(hp:a.eval (.tmp s)=.pointer (some ⟨ρ w.heap.size,off,none⟩))(hg:P.globals.size≤w.heap.size)
 (k:∀(w₀:Γ) ρ' W' own',w₀.heap=w.heap→At P S ro ρ' (w₀.alloc (.cells c e')) W' own'→On ro ρ (w.alloc (.cells c e')) W own ρ' W' own'→af P main ro Stop own' (G (b.at (a.put dd (rv ρ' v)) (.inRegion ops rest::kk)) cs) W'):
 af P main ro Stop own (G (b.at a (.inRegion ops (i::rest)::kk)) cs) W:=by
 subst hdd;exact af.Ow hC (by rw[hop];rfl) ho hw hk (T:=λ_=> .pointer (some ⟨w.heap.size,off,none⟩)) (λ_=>Oy (zag hA.vG.wr.big.dp hg) (by rw[bV];omega)) hA
  (by
    unfold Θ;rw[hop];simp only[fL,hp];simp[rv,ra]) (v:=λ_=>v) (o':=λw₁=>{ w₁ with heap:=w.heap.push (.cells c e') })
  (λτ dd=>by
    have h2:(w.alloc (.cells c e')).re τ dd=(w.re τ dd).alloc (.cells c e'):=rfl;have hcell:((w.re τ dd).alloc (.cells c e')).cell? ⟨w.heap.size,off,none⟩=some v:=by
     have hl:(w.re τ dd).heap.size=w.heap.size:=rfl;have:((w.re τ dd).heap.push (Obj.cells c e'))[w.heap.size]?=some (.cells c e'):=by rw[←hl];simp
     have h5:((w.re τ dd).alloc (.cells c e')).heap[w.heap.size]?=some (.cells c e'):=this;simp only[Γ.cell?,h5];simpa using hc
    unfold Θ;simp only[hop,fL,zba,h2,hl _ _ hcell,zbb,zbd];rfl)
  (λw₀ ρ' W' own' e0 hA' hO _=>k { w₀ with heap:=w.heap } ρ' W' own' rfl hA' hO)
theorem At.rely {aS:Γ}(hA:At P S ro ρ w W own)(hr:cq ro own W aS):At P S ro (ek ρ w.heap.size aS.heap.size) w aS own∧On ro ρ w W own (ek ρ w.heap.size aS.heap.size) aS own:=
 ⟨⟨hA.vG.grow hr.size λx hx=>hr.block x (.inl (hA.Wz x hx)),λx hx=>hA.Wz x (by rw[dN]at hx;exact hx),λb hb=>by have:=hA.hold.lt b hb;have:=hr.size;omega,hA.hold.ap⟩,
  λr h=>bg h,λx h=>h,λx h=>hr.block x (.inr h)⟩
theorem At.call {W':Γ}{own':Nat→Prop}(hA:At P S ro ρ w W own)(h1:∀b,own b∨ro b→W'.heap[b]?=W.heap[b]?)(h2:W.heap.size≤W'.heap.size)(h3:∀b,own b→own' b)(h4:qc ro own' W'):At P S ro (ek ρ w.heap.size W'.heap.size) w W' own'∧On ro ρ w W own (ek ρ w.heap.size W'.heap.size) W' own':=
 ⟨⟨hA.vG.grow h2 λx hx=>h1 x (.inl (hA.Wz x hx)),λx hx=>h3 x (hA.Wz x (by rw[dN]at hx;exact hx)),h4⟩,λr h=>bg h,h3,λx h=>h1 x (.inr h)⟩
theorem At.empty [Z:Shut P S] (hH:qc ro own W)(hb:P.globals.size≤W.heap.size):At P S ro (ek jR P.globals.size W.heap.size) (Hl P W) W own:=
 ⟨JQ hb,λx hx=>by obtain⟨r,h1,h2,_⟩:=hx;rw[oy]at h2;rw[Z.d]at h1;omega,hH⟩
theorem aN {t k:Tmp}{v:Λ}(h:t≠k):(π a (some t) v).eval (.tmp k)=a.eval (.tmp k):=by
 simp only[π,Act.eval,zbE,zaA h]
theorem bn {k:Tmp}{v:Λ}(h:k<a.tmps.size):(π a (some k) v).eval (.tmp k)=v:=by
 simp only[π,Act.eval,zbE,zbG h];rfl
theorem size_put {d:Option Tmp}{v:Λ}:(π a d v).tmps.size=a.tmps.size:=by
 cases d<;>simp[π]
theorem cP {d:Option Tmp}{v:Λ}:(π a d v).defers=a.defers:=by
 cases d<;>simp[π]
theorem xI {v:Λ}:π a none v=a:=rfl
end
def jS (X:Nat→Prop):Loc→Prop
 |.cell a=>X a.block
 |.obj r=>X r
 |_=>False
def Oz (ro own:Nat→Prop)(op:MemOp):Prop:=
 (∀x,op.act.touch? =some x→jS own x.loc∨(jS ro x.loc∧x.write=false))∧op.act≠.mark .disable∧op.act≠.mark .enable
structure TI (Q Shun:Loc→Prop) (c:Nat) (aW ro:Nat→Prop) (B:Nat) (t:Trace):Prop where
 clean:∀said,¬Race said t
 known:∀i a,touchAt t i=some a→a.loc.isMemory=true→Knows t 0 i∨(Shun a.loc∧a.kind=.atomic)∨(t.g? i=some c∧(jS aW a.loc∨(jS ro a.loc∧a.write=false)))
 Lu:∀i a,touchAt t i=some a→jS aW a.loc→t.g? i=some c
 grd:∀i a,touchAt t i=some a→jS ro a.loc→a.write=true→Knows t c i
 quiet:∀i a,touchAt t i=some a→Q a.loc→a.kind≠.plain∧(a.kind=.said→t.g? i=some 0)
 over:∀i g,t.g? i=some g→g≠0→g≠c→t.counts i→∃j,t.g? j=some 0∧HappensBefore t i j
 seen:∀op∈t,op.act.low B
theorem jS.mono {X Y:Nat→Prop}(h:∀b,X b→Y b):∀{l:Loc},jS X l→jS Y l
 |.cell _,x=>h _ x
 |.obj _,x=>h _ x
theorem jS.no {X Y:Nat→Prop}(h:∀b,X b→¬Y b):∀{l:Loc},jS X l→¬jS Y l
 |.cell _,x=>h _ x
 |.obj _,x=>h _ x
theorem Bc {ro own:Nat→Prop}{e:ι}(h:DO ro own e):∀x,(ζ e).touch? =some x→jS own x.loc∨(jS ro x.loc∧x.write=false):=by
 intro x hx;obtain⟨loc,wr,sy⟩:=e;cases loc with
 |cell a=>
  have:ζ ⟨.cell a,wr,sy⟩=.access ⟨.cell a,wr,sy⟩:=by cases wr<;>cases sy<;>rfl
  rw[this]at hx;simp only[MemAct.touch?,zaE]at hx;subst hx;exact h
 |obj r=>
  obtain⟨h1,h2⟩:=h;simp only at h2;subst h2;have:ζ ⟨.obj r,wr,false⟩=.access ⟨.obj r,wr,false⟩:=by cases wr<;>rfl
  rw[this]at hx;simp only[MemAct.touch?,zaE]at hx;subst hx;exact .inl h1
 |mark m=>
  have:ζ ⟨.mark m,wr,sy⟩=.mark m:=by cases wr<;>cases sy<;>rfl
  rw[this]at hx;obtain⟨h1,_⟩:=h;cases m<;>first|exact h1.elim|cases hx
 |_=>exact h.elim
theorem oz {ro own:Nat→Prop}{e:ι}(h:DO ro own e):e.loc≠.mark .disable∧e.loc≠.mark .enable:=by
 obtain⟨loc,wr,sy⟩:=e;cases loc with
 |mark m=>obtain⟨h1,_⟩:=h;cases m<;>first|exact h1.elim|exact⟨by simp,by simp⟩
 |_=>exact⟨by simp,by simp⟩
theorem JV {ro own:Nat→Prop}{B:Nat}(hB:∀b,own b→b<B)(hr:∀b,ro b→b<B){e:ι}(h:DO ro own e):(ζ e).low B:=by
 obtain⟨loc,wr,sy⟩:=e;cases loc with
 |cell a=>
  have:ζ ⟨.cell a,wr,sy⟩=.access ⟨.cell a,wr,sy⟩:=by cases wr<;>cases sy<;>rfl
  rw[this];exact h.elim (λx=>hB _ x) λx=>hr _ x.1
 |obj r=>
  obtain⟨h1,h2⟩:=h;simp only at h2;subst h2;have:ζ ⟨.obj r,wr,false⟩=.access ⟨.obj r,wr,false⟩:=by cases wr<;>rfl
  rw[this];exact hB _ h1
 |mark m=>
  have:ζ ⟨.mark m,wr,sy⟩=.mark m:=by cases wr<;>cases sy<;>rfl
  rw[this];obtain⟨h1,_⟩:=h;cases m<;>first|exact h1.elim|trivial
 |_=>exact h.elim
section
variable {Q Shun:Loc→Prop}{c:Nat}{aW ro own:Nat→Prop}{B:Nat}{t u:Trace}
theorem TF {X:Nat→Prop}{l:Loc}(h:jS X l)(hX:∀b,X b→¬b<B)(hl:l.low B):False:=by
 cases l<;>first|exact hX _ h hl|exact h.elim
theorem Be {op:MemOp}{x:Go.Touch}(hl:op.act.low B)(hx:op.act.touch? =some x):x.loc.low B:=by
 obtain⟨g,fn,pos,act⟩:=op;cases act with
 |access e=>simp only[MemAct.touch?,zaE]at hx;subst hx;exact hl
 |mark m=>cases m<;>simp only[MemAct.touch?,zaE]at hx<;>first|(subst hx;exact hl)|cases hx
 |_=>cases hx
theorem si (h:∀i g,t.g? i=some g→g≠0→g≠c→t.counts i→∃j,t.g? j=some 0∧HappensBefore t i j)(hu:∀op∈u,op.g=0∨op.g=c∨op.act.touch? =none):∀i g,(t++u).g? i=some g→g≠0→g≠c→(t++u).counts i→∃j,(t++u).g? j=some 0∧HappensBefore (t++u) i j:=by
 intro i g hg h0 hc uS;obtain⟨x,hx,hm,hk⟩:=id uS;obtain⟨op,hop,hox⟩:=touch_of hx;rcases getElem?_append_cases hop with⟨hi,afl⟩|⟨_,acK⟩
 ·obtain⟨j,hj,hb⟩:=h i g (by rw[←g?_old (u:=u) hi];exact hg) h0 hc ((counts_old hi).1 uS);have xJ:j<t.size:=by
   unfold Trace.g? at hj;obtain⟨z,hz,_⟩:=zas.1 hj;exact lt_size_of_getElem? hz
  exact⟨j,by rw[g?_old xJ];exact hj,hb_app u hb⟩
 ·have hgo:op.g=g:=by simpa[Trace.g?,hop]using hg
  rcases hu op acK with h1|h1|h1
  ·exact absurd (hgo.symm.trans h1) h0
  ·exact absurd (hgo.symm.trans h1) hc
  ·rw[h1]at hox;cases hox
theorem TI.mono {B':Nat}(h:TI Q Shun c aW ro B t)(hB:B≤B'):TI Q Shun c aW ro B' t:=⟨h.clean,h.known,h.Lu,h.grd,h.quiet,h.over,λop hop=>MemAct.low_mono hB (h.seen op hop)⟩
theorem bU {i:Nat}{a:Go.Touch}(ha:touchAt (t++u) i=some a):(i<t.size∧touchAt t i=some a)∨(t.size≤i∧∃op∈u,(t++u)[i]?=some op∧op.act.touch? =some a):=by
 obtain⟨x,hx,hxa⟩:=touch_of ha;rcases getElem?_append_cases hx with⟨hi,tJ⟩|⟨hi,hxu⟩
 ·exact .inl ⟨hi,by rw[touchAt_of tJ];exact hxa⟩
 ·exact .inr ⟨hi,x,hxu,hx,hxa⟩
theorem TI.still (h:TI Q Shun c aW ro B t)(hn:∀op∈u,op.act.touch? =none)(hl:∀op∈u,op.act.low B):TI Q Shun c aW ro B (t++u):=by
 have old:∀{i a},touchAt (t++u) i=some a→i<t.size∧touchAt t i=some a:=λha=>by
  rcases bU ha with h|⟨_,op,hop,_,hx⟩
  ·exact h
  ·rw[hn op hop]at hx;cases hx
 refine⟨λsaid=>?_,λi a ha hm=>?_,λi a ha hg=>?_,λi a ha hg hw=>?_,λi a ha hq=>?_,si h.over λop hop=> .inr (.inr (hn op hop)),seen_app h.seen hl⟩
 ·rintro ⟨i,j,hij,⟨a,b,ha,hb,hc⟩,n1,n2⟩;obtain⟨hi,ha'⟩:=old ha;obtain⟨hj,hb'⟩:=old hb;exact h.clean said ⟨i,j,hij,⟨a,b,ha',hb',hc⟩,λe=>n1 (hb_app u e),λe=>n2 (hb_app u e)⟩
 ·obtain⟨hi,ha'⟩:=old ha;rw[g?_old hi];exact(h.known i a ha' hm).imp (·.app u) id
 ·obtain⟨hi,ha'⟩:=old ha;rw[g?_old hi];exact h.Lu i a ha' hg
 ·obtain⟨hi,ha'⟩:=old ha;exact(h.grd i a ha' hg hw).app u
 ·obtain⟨hi,ha'⟩:=old ha;rw[g?_old hi];exact h.quiet i a ha' hq
theorem TI.app0 (_hc0:c≠0)(h:TI Q Shun c aW ro B t)(hu:∀op∈u,op.g=0∧Oz ro own op)(hl:∀op∈u,op.act.low B)
 (hS:∀l,jS own l∨jS ro l→¬Shun l)(hQ:∀l,jS own l∨jS ro l→¬Q l)(hG:∀b,own b→¬aW b)(hR:∀b,own b→¬ro b)(hGR:∀b,aW b→¬ro b):TI Q Shun c aW ro B (t++u):=by
 have place:∀op∈u,∀x,op.act.touch? =some x→jS own x.loc∨jS ro x.loc:=λop hop x hx=>((hu op hop).2.1 x hx).imp id (·.1);refine⟨λsaid=>noRace_append (h.clean said) (λop hop=>(hu op hop).1) λi a ha op hop b hb hc=>?_,λi a ha hm=>?_,λi a ha hg=>?_,λi a ha hg hw=>?_,λi a ha hq=>?_,si h.over λop hop=> .inl (hu op hop).1,seen_app h.seen hl⟩
 ·rcases h.known i a ha hc.2.1 with hk|⟨hs,_⟩|⟨_,hg|⟨hr,hw⟩⟩
  ·exact hk
  ·exact absurd (hc.1▸hs) (hS _ (place op hop b hb))
  ·rcases place op hop b hb with h1|h1
   ·exact absurd (hc.1▸hg) (jS.no hG h1)
   ·exact absurd h1 (jS.no hGR (hc.1▸hg))
  ·rcases(hu op hop).2.1 b hb with h1|⟨_,h1⟩
   ·exact absurd (hc.1▸hr) (jS.no hR h1)
   ·have:=hc.2.2.1;rw[hw,h1]at this;simp at this
 ·rcases bU ha with⟨hi,ha'⟩|⟨_,op,hop,hx,_⟩
  ·rw[g?_old hi];exact(h.known i a ha' hm).imp (·.app u) id
  ·have:=knows_own hx;rw[(hu op hop).1]at this;exact .inl this
 ·rcases bU ha with⟨hi,ha'⟩|⟨_,op,hop,_,hb⟩
  ·rw[g?_old hi];exact h.Lu i a ha' hg
  ·rcases place op hop a hb with h1|h1
   ·exact absurd hg (jS.no hG h1)
   ·exact absurd h1 (jS.no hGR hg)
 ·rcases bU ha with⟨hi,ha'⟩|⟨_,op,hop,_,hb⟩
  ·exact(h.grd i a ha' hg hw).app u
  ·rcases(hu op hop).2.1 a hb with h1|⟨_,h1⟩
   ·exact absurd hg (jS.no hR h1)
   ·rw[h1]at hw;cases hw
 ·rcases bU ha with⟨hi,ha'⟩|⟨_,op,hop,_,hb⟩
  ·rw[g?_old hi];exact h.quiet i a ha' hq
  ·exact absurd hq (hQ _ (place op hop a hb))
theorem TI.acL {own':Nat→Prop}{B':Nat}(h:TI Q Shun c aW ro B t)(hB:B≤B')(hu:∀op∈u,op.g=c∧Oz ro own' op)(hl:∀op∈u,op.act.low B')
 (hown:∀b,own' b↔aW b∨(B≤b∧b<B'))(hQ:∀l,jS own' l∨jS ro l→¬Q l):TI Q Shun c own' ro B' (t++u):=by
 have place:∀op∈u,∀x,op.act.touch? =some x→jS own' x.loc∨jS ro x.loc:=λop hop x hx=>((hu op hop).2.1 x hx).imp id (·.1);have aam:∀i a,touchAt t i=some a→jS own' a.loc→jS aW a.loc:=λi a ha hi=>by
  obtain⟨x,hx,hxa⟩:=touch_of ha;have fV:=Be (h.seen x (mem_of_getElem? hx)) hxa;generalize a.loc=l at hi fV;cases l with
  |cell ad=>exact((hown _).1 hi).resolve_right λh1=>by have:ad.block<B:=fV;omega
  |obj r=>exact((hown _).1 hi).resolve_right λh1=>by have:r<B:=fV;omega
  |_=>exact hi.elim
 refine⟨λsaid=>noRace_append (h.clean said) (λop hop=>(hu op hop).1) λi a ha op hop b hb hc=>?_,λi a ha hm=>?_,λi a ha hg=>?_,λi a ha hg hw=>?_,λi a ha hq=>?_,si h.over λop hop=> .inr (.inl (hu op hop).1),seen_app (λop hop=>MemAct.low_mono hB (h.seen op hop)) hl⟩
 ·rcases(hu op hop).2.1 b hb with h1|⟨h1,h2⟩
  ·have hg:=h.Lu i a ha (aam i a ha (hc.1▸h1));obtain⟨x,hx,_⟩:=touch_of ha;have:=knows_own hx;have e:x.g=c:=by simpa[Trace.g?,hx]using hg
   rwa[e]at this
  ·refine h.grd i a ha (hc.1▸h1) ?_;rcases hc.2.2.1 with h3|h3
   ·exact h3
   ·rw[h2]at h3;cases h3
 ·rcases bU ha with⟨hi,ha'⟩|⟨_,op,hop,hx,hb⟩
  ·rw[g?_old hi];rcases h.known i a ha' hm with hk|hk|⟨hk,hk2⟩
   ·exact .inl (hk.app u)
   ·exact .inr (.inl hk)
   ·exact .inr (.inr ⟨hk,hk2.imp (jS.mono λb hb=>(hown b).2 (.inl hb)) id⟩)
  ·exact .inr (.inr ⟨by simp[Trace.g?,hx,(hu op hop).1],(hu op hop).2.1 a hb⟩)
 ·rcases bU ha with⟨hi,ha'⟩|⟨_,op,hop,hx,_⟩
  ·rw[g?_old hi];exact h.Lu i a ha' (aam i a ha' hg)
  ·simp[Trace.g?,hx,(hu op hop).1]
 ·rcases bU ha with⟨hi,ha'⟩|⟨_,op,hop,hx,_⟩
  ·exact(h.grd i a ha' hg hw).app u
  ·have:=knows_own hx;rwa[(hu op hop).1]at this
 ·rcases bU ha with⟨hi,ha'⟩|⟨_,op,hop,_,hb⟩
  ·rw[g?_old hi];exact h.quiet i a ha' hq
  ·exact absurd hq (hQ _ (place op hop a hb))
theorem TI.TG {g:Nat}(h:TI Q Shun c aW ro B t)(hg:g=0∨g=c)(hu:∀op∈u,op.g=g∧∀x,op.act.touch? =some x→Q x.loc∧x.kind≠.plain∧(x.kind=.said→g=0))(hl:∀op∈u,op.act.low B)
 (WA:∀l,Q l→Shun l)(hQG:∀l,Q l→¬jS aW l∧¬jS ro l):TI Q Shun c aW ro B (t++u):=by
 refine⟨λsaid=>noRace_append (h.clean said) (λop hop=>(hu op hop).1) λi a ha op hop b hb hc=>?_,λi a ha hm=>?_,λi a ha hgo=>?_,λi a ha hr hw=>?_,λi a ha hq=>?_,si h.over λop hop=>hg.elim (λe=> .inl ((hu op hop).1.trans e)) λe=> .inr (.inl ((hu op hop).1.trans e)),seen_app h.seen hl⟩
 ·obtain⟨q1,q2,q3⟩:=(hu op hop).2 b hb;obtain⟨p1,p2⟩:=h.quiet i a ha (hc.1▸q1);rcases hc.2.2.2 with h1|h1|⟨_,h1,h2⟩
  ·exact absurd h1 p1
  ·exact absurd h1 q2
  ·have e0:=q3 h2;subst e0;obtain⟨x,hx,_⟩:=touch_of ha;have:=knows_own hx;have e:x.g=0:=by simpa[Trace.g?,hx]using p2 h1
   rwa[e]at this
 ·rcases bU ha with⟨hi,ha'⟩|⟨_,op,hop,hx,hb⟩
  ·rw[g?_old hi];exact(h.known i a ha' hm).imp (·.app u) id
  ·obtain⟨q1,q2,q3⟩:=(hu op hop).2 a hb;by_cases hk:a.kind=.atomic
   ·exact .inr (.inl ⟨WA _ q1,hk⟩)
   ·have aan:a.kind=.said:=by
     cases eF:a.kind<;>simp_all
    have:=knows_own hx;rw[(hu op hop).1,q3 aan]at this;exact .inl this
 ·rcases bU ha with⟨hi,ha'⟩|⟨_,op,hop,_,hb⟩
  ·rw[g?_old hi];exact h.Lu i a ha' hgo
  ·exact absurd hgo (hQG _ ((hu op hop).2 a hb).1).1
 ·rcases bU ha with⟨hi,ha'⟩|⟨_,op,hop,_,hb⟩
  ·exact(h.grd i a ha' hr hw).app u
  ·exact absurd hr (hQG _ ((hu op hop).2 a hb).1).2
 ·rcases bU ha with⟨hi,ha'⟩|⟨_,op,hop,hx,hb⟩
  ·rw[g?_old hi];exact h.quiet i a ha' hq
  ·obtain⟨_,q2,q3⟩:=(hu op hop).2 a hb;refine⟨q2,λhs=>?_⟩;rw[show(t++u).g? i=some op.g by simp[Trace.g?,hx],(hu op hop).1,q3 hs]
end
end Go.Ren
