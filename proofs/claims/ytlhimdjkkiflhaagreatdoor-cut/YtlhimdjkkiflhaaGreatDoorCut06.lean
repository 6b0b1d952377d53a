import Derived.Test.YtlhimdjkkiflhaaGreatDoorCut05
set_option maxHeartbeats 8000000
set_option maxRecDepth 100000
namespace Go.Ren
open Go Go.Conc
section
variable {P:Program}{F:FuncId→Bool}{S:Sd}
theorem Ek (hC:jB P F S){fr:Frame}{above:List Frame}{w:World}(h:PI P F S fr above w){fn:Func}{v:Value}(hr:(results fn fr.tmps).run P w=.ok v w)(τ:Tp)(d:Nat):(results fn fr.tmps).run P (w.re τ d)=.ok v (w.re τ d):=by
 cases hrun:(results fn fr.tmps).runT P w #[]with
 |mk r es=>
  have q1:=congrArg Prod.fst hrun;simp at q1;rw[hr]at q1;subst q1;have hid:aa P jD (VV jD) (results fn fr.tmps) (results fn fr.tmps):=by
   have:=jd (lW hC) fn fr.tmps (nT undef);rwa[map_id']at this
  have qU:∀n,w.heap.size≤n→aa P (sg S S.d n) (VV (sg S S.d n)) (results fn fr.tmps) (results fn fr.tmps):=λn hn=>by
   have:=jd (lX hC n) fn fr.tmps dG;have e:fr.tmps.map (rv (sg S S.d n))=fr.tmps:=bz.2 (iI hn h.cl);rwa[e]at this
  have hW:WR P S jD w (w.re τ d):=⟨h.wr.live,h.wr.ok,h.wr.dead,h.wr.closed,h.wr.next,h.wr.low,h.wr.big⟩;obtain⟨b,W1,es',r1,r2,_,r4,r5,_⟩:=dm (lW hC) KO _ _ _ _ w (w.re τ d) #[] #[] _ _ _ hid qU hW (λj hj=>by omega) hrun;have q2:=congrArg Prod.fst r1;simp at q2;have hb:b=v:=by have:=r2;unfold VV at this;rw[nT]at this;exact this
  have hs:=r5.size;have hW1:W1=w.re τ d:=by
   refine oT (Array.ext_getElem? λi=>?_) r5.tape (by have:=r5.drawn;omega) r5.os r5.output;have hsz:W1.heap.size=(w.re τ d).heap.size:=by omega
   rcases zag i (w.re τ d).heap.size with hlt|js
   ·by_cases ht:Touch S.d jD w i
    ·obtain⟨k,hr1,hr2,rfl⟩:=ht;have BM:=r4.live _ _ hr1 (zar hr2);have vQ:=hW.live _ _ hr1 (zar hr2);exact BM.trans vQ.symm
    ·exact r5.frame i hlt ht
   ·rw[zaU (by omega),zaU js]
  rw[q2,hb,hW1]
theorem KS (hC:jB P F S){f:FuncId}{args:Array Value}{w:World}{Q:Value→World→Prop}(hI:PI P F S (Frame.enter P f args .normal) [] w)
 (hc:∀τ:Tp,Calls P f args (w.re τ 0) λe w'=>∃v,e=.returned v∧Q v w')(τ:Tp):
 ∃n fr a w',lZ P n (Frame.enter P f args .normal) [] (w.re τ 0) fr a w'∧(a=[]∧fr.fn=f∧∃v,Q v w'∧fr.leaving P w' (.returned v)):=by
 generalize DR:Frame.enter P f args .normal=fr0 at hI;have h:=hc τ [c0 P];rw[DR]at h;generalize hcs:[c0 P]=cs at h;obtain⟨e,w',fr,⟨v,he,hq⟩,hs,hfn,hl⟩:=h;subst he;have hs':Steps P (lone fr0 cs (w.re τ 0)) (lone fr cs w'):=hs;obtain⟨n,hn⟩:=hs';have OG:fr.mode=.returning:=hl.1;subst hcs;obtain⟨m,hm⟩:=zZ hC n fr0 [] (w.re τ 0) fr w' (hI.re τ 0) hn OG;exact⟨m,fr,[],w',hm,rfl,hfn,v,hq,hl⟩
theorem z7 (hC:jB P F S){f:FuncId}{args:Array Value}{w:World}{Q:Value→World→Prop}(hF:F f=true)(ha:∀v∈args,rv (sg S S.d w.heap.size) v=v)(hw:WR P S jD w w)(hQ:∀v w τ d,Q v w→Q v (w.re τ d))
 (hc:∀τ:Tp,Calls P f args (w.re τ 0) λe w'=>∃v,e=.returned v∧Q v w'):
 Ih P (λfr above w'=>above=[]∧fr.fn=f∧∃v,Q v w'∧fr.leaving P w' (.returned v)) (Frame.enter P f args .normal) [] w:=by
 have hI:PI P F S (Frame.enter P f args .normal) [] w:=by
  refine⟨vK hC hF args,by simp,λv hv=>?_,by simp,hw⟩;have e:bP (sg S S.d w.heap.size) (Frame.enter P f args .normal)=Frame.enter P f args .normal:=by
   rw[←iu,bz.2 ha]
  have:=congrArg Frame.tmps e;simp only[bP]at this;exact bz.1 this v hv
 have hT:=KS hC hI hc;generalize Frame.enter P f args .normal=fr0 at hI hT ⊢;refine nU hC (λfr above w τ d hI hx=>?_) hI hT;obtain⟨e1,e2,v,hq,hl⟩:=hx;refine⟨e1,e2,v,hQ v w τ d hq,?_⟩;have hl':fr.mode=.returning∧fr.defers=[]∧fr.kind=.normal∧∃fn,P.funcs[fr.fn]?=some fn∧(results fn fr.tmps).run P w=.ok v w:=hl;obtain⟨h1,h2,h3,fn,h4,h5⟩:=hl';exact(show fr.mode=.returning∧fr.defers=[]∧fr.kind=.normal∧∃fn,P.funcs[fr.fn]?=some fn∧(results fn fr.tmps).run P (w.re τ d)=.ok v (w.re τ d) from⟨h1,h2,h3,fn,h4,Ek hC hI h5 τ d⟩)
end
structure bV (ro own:Nat→Prop) (w w₁:World):Prop where
 tape:w₁.tape=w.tape
 os:w₁.os=w.os
 output:w₁.output=w.output
 size:w.heap.size≤w₁.heap.size
 block:∀b,own b∨ro b→w₁.heap[b]?=w.heap[b]?
def Grow (own:Nat→Prop)(w w':World):Nat→Prop:=λb=>own b∨(w.heap.size≤b∧b<w'.heap.size)
def yO (ro own:Nat→Prop)(e:Event):Prop:=
 match e.loc with
 |.cell a=>own a.block∨(ro a.block∧e.write=false)
 |.obj r=>own r∧e.sync=false
 |.mark m=>MOk m∧e.sync=true
 |_=>False
structure BN (ro own:Nat→Prop) (w w':World) (es:Array Event):Prop where
 tape:w'.tape=w.tape
 os:w'.os=w.os
 output:w'.output=w.output
 size:w.heap.size≤w'.heap.size
 block:∀b,b<w.heap.size→¬own b→w'.heap[b]?=w.heap[b]?
 evs:∀e∈es,yO ro (Grow own w w') e
inductive aj (P:Program) (main:Bool) (ro:Nat→Prop) (Stop:(Nat→Prop)→Goroutine→World→Prop):(Nat→Prop)→Goroutine→World→Prop
 |stop {own:Nat→Prop} {g:Goroutine} {w:World}:(∀w₁,bV ro own w w₁→Stop own g w₁)→aj P main ro Stop own g w
 |step {own:Nat→Prop} {g:Goroutine} {w:World} (nx:World→Goroutine) (nw:World→World) (ne:World→Array Event):g.status=.running→
   (∀w₁,bV ro own w w₁→stepG P main g w₁=.go (nx w₁) (nw w₁) (ne w₁))→(∀w₁,bV ro own w w₁→BN ro own w₁ (nw w₁) (ne w₁))→(∀w₁,bV ro own w w₁→aj P main ro Stop (Grow own w₁ (nw w₁)) (nx w₁) (nw w₁))→
   aj P main ro Stop own g w
section
variable {P:Program}{F:FuncId→Bool}{S:Sd}{main:Bool}{ro:Nat→Prop}{Stop BO:(Nat→Prop)→Goroutine→World→Prop}
theorem bV.refl (ro own:Nat→Prop)(w:World):bV ro own w w:=⟨rfl,rfl,rfl,zaa _,λ_ _=>rfl⟩
theorem bV.trans {own:Nat→Prop}{a b c:World}(h:bV ro own a b)(k:bV ro own b c):bV ro own a c:=
 ⟨k.tape.trans h.tape,k.os.trans h.os,k.output.trans h.output,zad h.size k.size,λx hx=>(k.block x hx).trans (h.block x hx)⟩
theorem aj.step' {own:Nat→Prop}{g:Goroutine}{w:World}(hs:g.status=.running)(h:∀w₁,bV ro own w w₁→∃g' w' es,stepG P main g w₁=.go g' w' es∧BN ro own w₁ w' es∧aj P main ro Stop (Grow own w₁ w') g' w'):aj P main ro Stop own g w:=by
 classical
 let X:World→Goroutine×World×Array Event:=λw₁=>if hr:bV ro own w w₁ then(Classical.choose (h w₁ hr),Classical.choose (Classical.choose_spec (h w₁ hr)),Classical.choose (Classical.choose_spec (Classical.choose_spec (h w₁ hr))))else default
 have hX:∀w₁,bV ro own w w₁→stepG P main g w₁=.go (X w₁).1 (X w₁).2.1 (X w₁).2.2∧BN ro own w₁ (X w₁).2.1 (X w₁).2.2∧aj P main ro Stop (Grow own w₁ (X w₁).2.1) (X w₁).1 (X w₁).2.1:=λw₁ hr=>by
  simp only[X,dif_pos hr];exact Classical.choose_spec (Classical.choose_spec (Classical.choose_spec (h w₁ hr)))
 exact .step (λw₁=>(X w₁).1) (λw₁=>(X w₁).2.1) (λw₁=>(X w₁).2.2) hs (λw₁ hr=>(hX w₁ hr).1) (λw₁ hr=>(hX w₁ hr).2.1) (λw₁ hr=>(hX w₁ hr).2.2)
theorem aj.rely {own:Nat→Prop}{g:Goroutine}{w w₁:World}(h:aj P main ro Stop own g w)(hr:bV ro own w w₁):aj P main ro Stop own g w₁:=by
 cases h with
 |stop h=>exact .stop λw₂ h₂=>h w₂ (hr.trans h₂)
 |step nx nw ne hs h1 h2 h3=>exact .step nx nw ne hs (λw₂ h₂=>h1 w₂ (hr.trans h₂)) (λw₂ h₂=>h2 w₂ (hr.trans h₂)) (λw₂ h₂=>h3 w₂ (hr.trans h₂))
theorem aj.bind {own:Nat→Prop}{g:Goroutine}{w:World}(h:aj P main ro Stop own g w)(hq:∀own g w,Stop own g w→aj P main ro BO own g w)(_keep:∀own g w w₁,(∀w₂,bV ro own w w₂→Stop own g w₂)→bV ro own w w₁→True:=λ_ _ _ _ _ _=>trivial):aj P main ro BO own g w:=by
 induction h with
 | @stop own g w h=>exact hq own g w (h w (bV.refl ro own w))
 |step nx nw ne hs h1 h2 _ ih=>exact .step nx nw ne hs h1 h2 ih
structure gp (P:Program) (S:Sd) (ρ:Rn) (w W:World):Prop where
 wr:WR P S ρ w W
 inj:∀a b,ρ a=ρ b→a=b
 jE:xU P ρ
 f:∀x,ρ.f x=x
 nB:P.globals.size≤W.heap.size
def cL (ρ:Rn)(n N:Nat):Rn:={ b:=λr=>if r<n then ρ r else N+(r-n),f:=ρ.f,d:=ρ.d }
theorem aR {ρ:Rn}{n N r:Nat}(h:r<n):cL ρ n N r=ρ r:=by simp[cL,h]
theorem eu {ρ:Rn}{n N r:Nat}(h:n≤r):cL ρ n N r=N+(r-n):=by simp[cL];omega
theorem gp.fix {ρ:Rn}{w W:World}(h:gp P S ρ w W):qO S ρ:=⟨λ_ _=>h.f _,h.wr.big.fg,h.wr.big.fl⟩
theorem vG.ext {ρ:Rn}{n N:Nat}(h:vG P S ρ n):vG P S (cL ρ n N) n:=⟨h.d,h.g,h.r,h.p,h.dp,λg h1 h2=>by rw[aR (zaq h2 h.g)];exact h.fg g h1 h2,λg hg=>by rw[aR (zaq hg h.d)];exact h.fl g hg⟩
theorem gp.low {ρ:Rn}{w W:World}(h:gp P S ρ w W){r:Nat}(hr:r<w.heap.size):ρ r<W.heap.size:=by
 rcases zag r P.globals.size with hlt|js
 ·have:=(h.jE r).2 hlt;have:=h.nB;omega
 ·exact h.wr.low r (zad h.wr.big.dp js) hr
theorem Ij {ρ:Rn}{n N:Nat}:(∀r,sg S S.d n r=r→ρ r=cL ρ n N r)∧∀x,(sg S S.d n).f x=x→ρ.f x=(cL ρ n N).f x:=
 ⟨λ_r hr=>(aR (bW.1 hr).2).symm,λ_x _=>rfl⟩
theorem dw {ρ ρ':Rn}{n:Nat}{fr:Frame}(hc:ib P S n fr)(hb:∀r,r<n→ρ r=ρ' r)(hf:∀x,ρ.f x=ρ'.f x):bP ρ fr=bP ρ' fr:=by
 unfold bP;rw[dM λv hv=>agree (σ:=sg S S.d n) (λr hr=>hb r (bW.1 hr).2) (λx _=>hf x) v (hc v hv)]
theorem eO {ρ ρ':Rn}{n:Nat}(hb:∀r,r<n→ρ r=ρ' r)(hf:∀x,ρ.f x=ρ'.f x):∀{above:List Frame},(∀f∈above,ib P S n f)→above.map (bP ρ)=above.map (bP ρ')
 |[],_=>rfl
 |f::l,h=>by rw[zao,zao,dw (h f (by simp)) hb hf,eO hb hf λg hg=>h g (by simp[hg])]
theorem gp.rely {ρ:Rn}{w W aF:World}(h:gp P S ρ w W)(hr:bV ro (Touch S.d ρ w) W aF):gp P S (cL ρ w.heap.size aF.heap.size) w aF:=by
 have nI:=Ij (S:=S) (ρ:=ρ) (n:=w.heap.size) (N:=aF.heap.size);have hsz:=hr.size;refine⟨⟨λr o js ho=>?_,h.wr.ok,h.wr.dead,h.wr.closed,λr js=>eu js,λr js hlt=>?_,h.wr.big.ext⟩,λa b e=>?_,λr=>?_,h.f,zad h.nB hsz⟩
 ·have hlt:=gh ho;rw[aR hlt,hr.block _ (.inl ⟨r,js,hlt,rfl⟩),h.wr.live r o js ho,sw nI.1 nI.2 (h.wr.closed r o js ho)]
 ·rw[aR hlt];have:=h.wr.low r js hlt;omega
 ·rcases zag a w.heap.size with ha|ha<;>rcases zag b w.heap.size with hb|hb
  ·rw[aR ha,aR hb]at e;exact h.inj a b e
  ·rw[aR ha,eu hb]at e;have:=h.low ha;omega
  ·rw[eu ha,aR hb]at e;have:=h.low hb;omega
  ·rw[eu ha,eu hb]at e;omega
 ·rcases zag r w.heap.size with ha|ha
  ·rw[aR ha];exact h.jE r
  ·rw[eu ha];have:=h.nB;have:=h.wr.big.p;constructor<;>intro<;>omega
theorem cv {ρ:Rn}{w:World}{N:Nat}:Touch S.d (cL ρ w.heap.size N) w=Touch S.d ρ w:=by
 funext b;refine propext ⟨?_,?_⟩
 ·rintro ⟨r,h1,h2,rfl⟩;exact⟨r,h1,h2,aR h2⟩
 ·rintro ⟨r,h1,h2,rfl⟩;exact⟨r,h1,h2,(aR h2).symm⟩
theorem pW {ρ:Rn}{w w1 W W1:World}(h:gp P S ρ w W)(hD:Bl S.d ρ w w1 W W1):Touch S.d ρ w1=Grow (Touch S.d ρ w) W W1:=by
 funext b;have hs:=hD.size;have hg:=hD.fZ;have hb:=h.wr.big.d;refine propext ⟨?_,?_⟩
 ·rintro ⟨r,h1,h2,rfl⟩;rcases zag r w.heap.size with hlt|js
  ·exact .inl ⟨r,h1,hlt,rfl⟩
  ·right;rw[h.wr.next r js];omega
 ·rintro (⟨r,h1,h2,rfl⟩|⟨h1,h2⟩)
  ·exact⟨r,h1,by omega,rfl⟩
  ·refine⟨w.heap.size+(b-W.heap.size),by omega,by omega,?_⟩;rw[h.wr.next _ (by omega)];omega
def OH (P:Program)(F:FuncId→Bool)(S:Sd)(Q:Frame→List Frame→World→Prop)(cs:List Frame)(gq:Rn)(n₀:Nat)(own:Nat→Prop)(g:Goroutine)(W:World):Prop:=
 ∃fr above w ρ,Q fr above w∧PI P F S fr above w∧gp P S ρ w W∧own=Touch S.d ρ w∧g=G (bP ρ fr) (above.map (bP ρ)++cs)∧n₀≤w.heap.size∧∀r,r<n₀→ρ r=gq r
theorem z8 (hC:jB P F S){Q:Frame→List Frame→World→Prop}{cs:List Frame}{fr:Frame}{above:List Frame}{w:World}(hb:Ih P Q fr above w):PI P F S fr above w→∀(gq:Rn) (n₀:Nat) (ρ:Rn) (W:World),gp P S ρ w W→n₀≤w.heap.size→(∀r,r<n₀→ρ r=gq r)→aj P main ro (OH P F S Q cs gq n₀) (Touch S.d ρ w) (G (bP ρ fr) (above.map (bP ρ)++cs)) W:=by
 induction hb with
 | @stop fr above w hq=>
   intro hI gq n₀ ρ W hS hn ku;refine .stop λaF hr=>⟨fr,above,w,_,hq,hI,hS.rely hr,cv.symm,?_,hn,λr hlt=>by rw[aR (by omega)];exact ku r hlt⟩;rw[dw hI.cl (ρ:=ρ) (ρ':=cL ρ w.heap.size aF.heap.size) (λr hlt=>(aR hlt).symm) (λ_=>rfl),eO (ρ:=ρ) (ρ':=cL ρ w.heap.size aF.heap.size) (λr hlt=>(aR hlt).symm) (λ_=>rfl) hI.cls]
 | @step fr above w nf na nw ne h1 _ ih=>
   intro hI gq n₀ ρ W hS hn ku;refine aj.step' rfl λaF hr=>?_;have hS1:=hS.rely hr;generalize nV:cL ρ w.heap.size aF.heap.size=bO at hS1;have vR:∀r,r<w.heap.size→bO r=ρ r:=λr hlt=>by rw[←nV];exact aR hlt
   have xZ:∀x,bO.f x=ρ.f x:=λx=>by rw[←nV];rfl
   have hrun:=h1 aF.tape aF.drawn;have hW:WR P S bO (w.re aF.tape aF.drawn) aF:=⟨hS1.wr.live,hS1.wr.ok,hS1.wr.dead,hS1.wr.closed,hS1.wr.next,hS1.wr.low,hS1.wr.big⟩;obtain⟨W2,es',q1,q2,q3,q4⟩:=KR hC (ρ:=bO) ⟨λt i v a b=>hC.zero t i v a b _,hS1.inj⟩ hS1.jE hS1.fix (hI.re aF.tape aF.drawn) hW (λj _ q=>rfl) hrun;have XE:=(dY hC (hI.re aF.tape aF.drawn) hrun).1;have KT:gp P S bO (w.re aF.tape aF.drawn) aF:=⟨hW,hS1.inj,hS1.jE,hS1.f,hS1.nB⟩;have pA:gp P S bO (nw aF.tape aF.drawn) W2:=⟨q1,hS1.inj,hS1.jE,hS1.f,by have:=hS1.nB;have h3:=q2.size;have h4:=q2.fZ;omega⟩;have hgrow:Touch S.d bO (nw aF.tape aF.drawn)=Grow (Touch S.d ρ w) aF W2:=by
    rw[pW KT q2];have:Touch S.d bO (w.re aF.tape aF.drawn)=Touch S.d ρ w:=by
     rw[←nV];exact cv
    rw[this]
   have DR:bP ρ fr=bP bO fr:=dw hI.cl (λr hlt=>(vR r hlt).symm) (λx=>(xZ x).symm);have hab:above.map (bP ρ)=above.map (bP bO):=eO (λr hlt=>(vR r hlt).symm) (λx=>(xZ x).symm) hI.cls;refine⟨_,W2,_,by rw[DR,hab];exact q4 main cs,⟨q2.tape,q2.os,q2.output,by have h3:=q2.size;have h4:=q2.fZ;simp only[World.re]at h3 h4;omega,λb hb Tu=>?_,λe he=>?_⟩,?_⟩
   ·refine q2.frame b hb λht=>?_;rw[hgrow]at ht;rcases ht with h|⟨h,_⟩
    ·exact Tu h
    ·omega
   ·have:=q3 e (mem_seen he);unfold lU at this;unfold yO;rw[←hgrow];cases hl:e.loc<;>simp only[hl]at this ⊢<;>first|exact .inl this|exact this
   ·rw[←hgrow];refine ih aF.tape aF.drawn XE gq n₀ bO W2 pA ?_ λr hlt=>(vR r (by omega)).trans (ku r hlt);have h4:=q2.fZ;simp only[World.re]at h4;omega
end
section
variable {P:Program}{F:FuncId→Bool}{S:Sd}{main:Bool}{ro own:Nat→Prop}{Stop BO:(Nat→Prop)→Goroutine→World→Prop}
theorem aj.mono {g:Goroutine}{w:World}(h:aj P main ro Stop own g w)(hs:∀own g w,Stop own g w→BO own g w):aj P main ro BO own g w:=by
 induction h with
 |stop h=>exact .stop λw₁ hr=>hs _ _ _ (h w₁ hr)
 |step nx nw ne hr h1 h2 _ ih=>exact .step nx nw ne hr h1 h2 ih
def Beside (ro:Nat→Prop)(Stop:(Nat→Prop)→Goroutine→World→Prop)(extra:Nat→Prop)(w₀:World)(Gl:Nat→Prop)(g:Goroutine)(w:World):Prop:=
 ∃own',(∀b,Gl b↔own' b∨extra b)∧Stop own' g w∧w₀.heap.size≤w.heap.size∧∀b,extra b∨ro b→¬own' b∧w.heap[b]?=w₀.heap[b]?
theorem bV.sub {own own':Nat→Prop}{w w₁:World}(h:bV ro own' w w₁)(hs:∀b,own b→own' b):bV ro own w w₁:=⟨h.tape,h.os,h.output,h.size,λb hb=>h.block b (hb.imp (hs b) id)⟩
theorem yO.mono {own own':Nat→Prop}{e:Event}(h:yO ro own e)(hs:∀b,own b→own' b):yO ro own' e:=by
 unfold yO at h ⊢;split at h
 ·exact h.imp (hs _) id
 ·exact⟨hs _ h.1,h.2⟩
 ·exact h
 ·exact h.elim
theorem aj.frame {extra:Nat→Prop}{g:Goroutine}{w:World}(h:aj P main ro Stop own g w):(∀b,extra b∨ro b→¬own b∧b<w.heap.size)→aj P main ro (Beside ro Stop extra w) (λb=>own b∨extra b) g w:=by
 induction h with
 | @stop own g w h=>
   intro hd;exact .stop λw₁ hr=>⟨own,λb=>Iff.rfl,h w₁ (hr.sub λb hb=> .inl hb),hr.size,λb hb=>⟨(hd b hb).1,hr.block b (hb.imp .inr id)⟩⟩
 | @step own g w nx nw ne hs h1 h2 h3 ih=>
   intro hd;refine .step nx nw ne hs (λw₁ hr=>h1 w₁ (hr.sub λb hb=> .inl hb)) (λw₁ hr=>?_) (λw₁ hr=>?_)
   ·have hg:=h2 w₁ (hr.sub λb hb=> .inl hb);exact⟨hg.tape,hg.os,hg.output,hg.size,λb hb hn=>hg.block b hb λx=>hn (.inl x),λe he=>(hg.evs e he).mono λb hb=>hb.imp .inl id⟩
   ·have l4:=hr.sub (own:=own) λb hb=> .inl hb;have hg:=h2 w₁ l4;have hsz:=hr.size;have El:=hg.size;have:=ih w₁ l4 λb hb=>⟨λx=>x.elim (hd b hb).1 λy=>by have:=(hd b hb).2;omega,by have:=(hd b hb).2;omega⟩;have e:(λb=>Grow own w₁ (nw w₁) b∨extra b)=Grow (λb=>own b∨extra b) w₁ (nw w₁):=by
     funext b;unfold Grow;refine propext ⟨?_,?_⟩
     ·rintro ((x|x)|x)
      ·exact .inl (.inl x)
      ·exact .inr x
      ·exact .inl (.inr x)
     ·rintro ((x|x)|x)
      ·exact .inl (.inl x)
      ·exact .inr x
      ·exact .inl (.inr x)
    rw[e]at this;refine this.mono λGl g' w' ⟨own',k1,k2,k0,k3⟩=>⟨own',k1,k2,by omega,λb hb=>⟨(k3 b hb).1,?_⟩⟩;rw[(k3 b hb).2,hg.block b (by have:=(hd b hb).2;omega) (hd b hb).1,hr.block b (hb.imp .inr id)]
end
section
variable {P:Program}{F:FuncId→Bool}{S:Sd}{main:Bool}{ro:Nat→Prop}
class Shut (P:Program) (S:Sd):Prop where
 d:S.d=P.globals.size
 g:S.g≤P.globals.size
def Em (P:Program)(W:World):World:={ W with heap:=Array.replicate P.globals.size iG }
theorem nW (W:World):(Em P W).heap.size=P.globals.size:=by simp[Em]
theorem KU [Z:Shut P S] (W:World){W':World}{ρ:Rn}(hd:ρ.d≤P.globals.size)(hi:∀r,r<P.globals.size→ρ r=r)(hn:∀r:Nat,P.globals.size≤r→ρ r=W'.heap.size+(r-P.globals.size)):WR P S ρ (Em P W) W':=by
 have hs:=nW (P:=P) W;have hZ:=Z.d;have hG:=Z.g;refine⟨λr o js ho=>?_,λr o ho=>?_,λr hr=>?_,λr o js ho=>?_,λr hr=>by rw[hs]at hr ⊢;exact hn r hr,λr h1 h2=>by omega,⟨by omega,by omega,by omega,by omega,by omega,λg h1 h2=>hi g (by omega),λg h1=> .inr (hi g (by omega))⟩⟩
 ·have:=gh ho;omega
 ·have hlt:=gh ho;simp only[Em,Array.getElem?_replicate]at ho;split at ho
  ·cases ho;trivial
  ·cases ho
 ·simp only[Em,Array.getElem?_replicate,if_pos (show r<P.globals.size by omega)]
 ·have:=gh ho;omega
theorem Gm [Shut P S] {W:World}(hb:P.globals.size≤W.heap.size):gp P S (cL jD P.globals.size W.heap.size) (Em P W) W:=by
 refine⟨KU W (zaj _) (λr hr=>aR hr) λr hr=>eu hr,λa b e=>?_,λr=>?_,λ_=>rfl,hb⟩
 ·rcases zag a P.globals.size with ha|ha<;>rcases zag b P.globals.size with hb'|hb'
  ·rw[aR ha,aR hb']at e;exact e
  ·rw[aR ha,eu hb']at e;have:jD.b a=a:=rfl;omega
  ·rw[eu ha,aR hb']at e;have:jD.b b=b:=rfl;omega
  ·rw[eu ha,eu hb']at e;omega
 ·rcases zag r P.globals.size with ha|ha
  ·rw[aR ha];exact Iff.rfl
  ·rw[eu ha];constructor<;>intro<;>omega
theorem Ik (hC:jB P F S){fr:Frame}{w W:World}{ρ:Rn}(hI:PI P F S fr [] w)(hS:gp P S ρ w W){v:Value}(hl:fr.leaving P w (.returned v))(hv:gH v)(c:Frame)(cs:List Frame):∃es,stepG P main (G (bP ρ fr) (c::cs)) W=.go (G (c.finish v) cs) W es∧∀e∈es,lU S.d ρ w e:=by
 have hl':fr.mode=.returning∧fr.defers=[]∧fr.kind=.normal∧∃fn,P.funcs[fr.fn]?=some fn∧(results fn fr.tmps).run P w=.ok v w:=hl;obtain⟨h1,h2,h3,fn,h4,h5⟩:=hl';have hp:Plain P ρ:=⟨λt i v a b=>hC.zero t i v a b _,hS.inj⟩;cases hrun:(results fn fr.tmps).runT P w #[]with
 |mk r es=>
  have q1:=congrArg Prod.fst hrun;simp at q1;rw[h5]at q1;subst q1;have qU:∀n,w.heap.size≤n→aa P (sg S S.d n) (VV (sg S S.d n)) (results fn fr.tmps) (results fn fr.tmps):=λn hn=>by
   have:=jd (lX hC n) fn fr.tmps dG;have e:fr.tmps.map (rv (sg S S.d n))=fr.tmps:=bz.2 (iI hn hI.cl);rwa[e]at this
  obtain⟨b,W1,es',r1,r2,_,r4,r5,r6⟩:=dm hp (λo=> .inl hS.jE) _ _ _ _ w W #[] #[] _ _ _ (jd hp fn fr.tmps dG) qU hS.wr (λj hj=>by omega) hrun;have hb:b=v:=by have:=r2;unfold VV at this;rw[hv ρ]at this;exact this
  have hs:=r5.size;have hW1:W1=W:=by
   refine oT (Array.ext_getElem? λi=>?_) r5.tape (by have:=r5.drawn;omega) r5.os r5.output;rcases zag i W.heap.size with hlt|js
   ·by_cases ht:Touch S.d ρ w i
    ·obtain⟨k,hr1,hr2,rfl⟩:=ht;have BM:=r4.live _ _ hr1 (zar hr2);have vQ:=hS.wr.live _ _ hr1 (zar hr2);exact BM.trans vQ.symm
    ·exact r5.frame i hlt ht
   ·rw[zaU (by omega),zaU js]
  subst hb hW1;have cC:jA P F S (bP ρ fr):=⟨hI.ok.defers,hI.ok.mode,hI.ok.kind,hI.ok.round,hI.ok.todo,hI.ok.fn⟩;have Ws:(aL P (bP ρ fr) [c]).runT P W1 #[]=(.ok (c.finish b,[]) W1,es'):=by
   have hm:(bP ρ fr).mode=.returning:=h1;have hf:P.funcs[(bP ρ fr).fn]?=some fn:=h4;unfold aL;rw[hm];simp only[hf];rw[bE];have:(results fn (bP ρ fr).tmps).runT P W1 #[]=(.ok b W1,es'):=r1;rw[this];rfl
  have hst:=mG (main:=main) (cs:=cs) cC Ws;refine⟨_,hst,λe he=>?_⟩;rcases r6 e (mem_seen he)with h|h
  ·simp at h
  ·exact h
theorem l5 {ρ:Rn}{w:World}{e:Event}(h:lU S.d ρ w e):yO ro (Touch S.d ρ w) e:=by
 unfold lU at h;unfold yO;cases hl:e.loc<;>simp only[hl]at h ⊢<;>first|exact .inl h|exact h
theorem vS [Z:Shut P S] (hC:jB P F S){f:FuncId}{args:Array Value}(hF:F f=true)(ha:∀v∈args,gH v){Qv:Value→Prop}(hv:∀v,Qv v→gH v){W:World}(hb:P.globals.size≤W.heap.size)
 (hc:∀w:World,w.heap=Array.replicate P.globals.size iG→w.os=W.os→w.output=W.output→Calls P f args w λe _=>∃v,e=.returned v∧Qv v)(c:Frame)(cs:List Frame):
 aj P main ro (λ_ g _=>∃v,Qv v∧g=G (c.finish v) cs) (λ_=>False) (G (Frame.enter P f args .normal) (c::cs)) W:=by
 have hw:WR P S jD (Em P W) (Em P W):=KU W (zaj _) (λ_ _=>rfl) λr hr=>by rw[nW];show r=_;omega
 have KV:=z7 (Q:=λv _=>Qv v) hC hF (w:=Em P W) (args:=args) (λv hv'=>ha v hv' _) hw (λ_ _ _ _ h=>h) λτ=>hc _ rfl rfl rfl;have hI:PI P F S (Frame.enter P f args .normal) [] (Em P W):=by
  refine⟨vK hC hF args,by simp,λv hv'=>?_,by simp,hw⟩;have e:bP (sg S S.d (Em P W).heap.size) (Frame.enter P f args .normal)=Frame.enter P f args .normal:=by
   rw[←iu,bz.2 λv hv'=>ha v hv' _]
  have:=congrArg Frame.tmps e;simp only[bP]at this;exact bz.1 this v hv'
 have hS:=Gm (S:=S) hb;have key:=z8 (main:=main) (ro:=ro) (cs:=c::cs) hC KV hI (cL jD P.globals.size W.heap.size) 0 _ W hS (by omega) (λr hr=>by omega);have e1:bP (cL jD P.globals.size W.heap.size) (Frame.enter P f args .normal)=Frame.enter P f args .normal:=by
  rw[←iu,bz.2 λv hv'=>ha v hv' _]
 have e2:Touch S.d (cL jD P.globals.size W.heap.size) (Em P W)=λ_=>False:=by
  funext b;refine propext ⟨?_,False.elim⟩;rintro ⟨r,h1,h2,_⟩;rw[nW]at h2;rw[Z.d]at h1;omega
 rw[e1,e2]at key;refine aj.bind key λown g W' hst=>?_;obtain⟨fr,above,w,ρ,⟨rfl,_,v,hq,hl⟩,hI',Gn,rfl,rfl,_,_⟩:=hst;refine aj.step' rfl λaF hr=>?_;have hS1:=Gn.rely hr;obtain⟨es,hstep,gi⟩:=Ik (main:=main) hC hI' hS1 hl (hv v hq) c cs;have DR:bP ρ fr=bP (cL ρ w.heap.size aF.heap.size) fr:=dw hI'.cl (λr hlt=>(aR hlt).symm) (λ_=>rfl);refine⟨_,aF,es,by rw[DR];exact hstep,⟨rfl,rfl,rfl,zaa _,λ_ _ _=>rfl,λe he=>?_⟩,.stop λ_ _=>⟨v,hq,rfl⟩⟩;have:=l5 (ro:=ro) (gi e he);rw[cv]at this;exact this.mono λb hb=> .inl hb
end
section
variable {P:Program}{main:Bool}{ro own:Nat→Prop}{Stop:(Nat→Prop)→Goroutine→World→Prop}{g:Goroutine}{w:World}
theorem jf (own:Nat→Prop){w w':World}(h:w'.heap.size=w.heap.size):Grow own w w'=own:=by
 funext b;unfold Grow;refine propext ⟨λx=>x.elim id λy=>by omega,.inl⟩
theorem aj.silent {g':Goroutine}(hs:g.status=.running)(h:∀w₁,stepG P main g w₁=.go g' w₁ #[])(k:aj P main ro Stop own g' w):aj P main ro Stop own g w:=
 aj.step' hs λw₁ hr=>⟨g',w₁,#[],h w₁,⟨rfl,rfl,rfl,zaa _,λ_ _ _=>rfl,by simp⟩,by rw[jf own rfl];exact k.rely hr⟩
end
section
variable {P:Program}{F:FuncId→Bool}{S:Sd}{main:Bool}{ro own:Nat→Prop}{Stop:(Nat→Prop)→Goroutine→World→Prop}{w W:World}{ρ:Rn}{b:Frame}{a:Act}{ops:Array Oper}{i:Nat}{rest:List Nat}{o:Oper}{kk:List Item}{cs:List Frame}
structure nC (ro own:Nat→Prop) (W:World):Prop where
 lt:∀b,own b∨ro b→b<W.heap.size
 ap:∀b,ro b→¬own b
theorem nC.grow {aF W':World}(h:nC ro own W)(h1:W.heap.size≤aF.heap.size)(h2:aF.heap.size≤W'.heap.size):nC ro (Grow own aF W') W':=
 ⟨λb hb=>by
   rcases hb with(hb|hb)|hb
   ·have:=h.lt b (.inl hb);omega
   ·exact hb.2
   ·have:=h.lt b (.inr hb);omega,λb hb hg=>by
   rcases hg with hg|hg
   ·exact h.ap b hb hg
   ·have:=h.lt b (.inr hb);omega⟩
theorem aj.bounded {g:Goroutine}(h:aj P main ro Stop own g w):(∀b,own b→b<w.heap.size)→aj P main ro (λown g w=>Stop own g w∧∀b,own b→b<w.heap.size) own g w:=by
 induction h with
 | @stop own g w h=>intro hb;exact .stop λw₁ hr=>⟨h w₁ hr,λb hx=>by have:=hb b hx;have:=hr.size;omega⟩
 | @step own g w nx nw ne hs h1 h2 _ ih=>
   intro hb;refine .step nx nw ne hs h1 h2 λw₁ hr=>ih w₁ hr λb hx=>?_;have h3:=(h2 w₁ hr).size;have h4:=hr.size;rcases hx with hx|hx
   ·have:=hb b hx;omega
   ·exact hx.2
theorem aj.call' [Shut P S] (hC:jB P F S){f:FuncId}{args:Array Value}(hF:F f=true)(ha:∀v∈args,gH v){Qv:Value→Prop}(hv:∀v,Qv v→gH v){c:Frame}{g:Goroutine}
 (hs:g.status=.running)(hst:∀w₁,stepG P main g w₁=.go (G (Frame.enter P f args .normal) (c::cs)) w₁ #[])(hb:P.globals.size≤w.heap.size)(hH:nC ro own w)
 (hc:∀w':World,w'.heap=Array.replicate P.globals.size iG→Calls P f args w' λe _=>∃v,e=.returned v∧Qv v)
 (k:∀v w' own',Qv v→(∀b,own b→own' b)→nC ro own' w'→(∀b,own b∨ro b→w'.heap[b]?=w.heap[b]?)→w.heap.size≤w'.heap.size→aj P main ro Stop own' (G (c.finish v) cs) w'):aj P main ro Stop own g w:=by
 refine aj.silent hs hst ?_;have h1:=((vS (main:=main) (ro:=ro) hC hF ha hv hb (λw' e _ _=>hc w' e) c cs).bounded (λ_ h=>h.elim)).frame (extra:=own) (λb hb=>⟨λh=>h,hH.lt b hb⟩);have e:(λb=>False∨own b)=own:=by funext b;exact propext ⟨λh=>h.elim False.elim id,.inr⟩
 rw[e]at h1;refine aj.bind h1 λGl g' w' ⟨own',k1,⟨⟨v,hq,hg⟩,k4⟩,k2,k3⟩=>?_;subst hg;refine k v w' Gl hq (λb hb=>(k1 b).2 (.inr hb)) ⟨λb hb=>?_,λb hr hb=>?_⟩ (λb hb=>(k3 b hb).2) k2
 ·rcases hb with hb|hb
  ·rcases(k1 b).1 hb with h|h
   ·exact k4 b h
   ·have:=hH.lt b (.inl h);omega
  ·have:=hH.lt b (.inr hb);omega
 ·rcases(k1 b).1 hb with h|h
  ·exact(k3 b (.inr hr)).1 h
  ·exact hH.ap b hr h
theorem gp.grow {aF:World}(h:gp P S ρ w W)(hs:W.heap.size≤aF.heap.size)(hb:∀b,Touch S.d ρ w b→aF.heap[b]?=W.heap[b]?):gp P S (cL ρ w.heap.size aF.heap.size) w aF:=by
 have h':gp P S ρ w { W with tape:=aF.tape,os:=aF.os,output:=aF.output }:=⟨⟨h.wr.live,h.wr.ok,h.wr.dead,h.wr.closed,h.wr.next,h.wr.low,h.wr.big⟩,h.inj,h.jE,h.f,h.nB⟩;exact h'.rely (ro:=λ_=>False) ⟨rfl,rfl,rfl,hs,λb hx=>hx.elim (hb b) False.elim⟩
def Cl (_P:Program)(S:Sd)(w:World)(v:Value):Prop:=rv (sg S S.d w.heap.size) v=v
theorem Cl.agree {ρ':Rn}{v:Value}(h:Cl P S w v)(hb:∀r,r<w.heap.size→ρ' r=ρ r)(hf:∀x,ρ'.f x=ρ.f x):rv ρ' v=rv ρ v:=
 Go.Ren.agree (σ:=sg S S.d w.heap.size) (λr hr=>hb r (bW.1 hr).2) (λx _=>hf x) v h
theorem Cl.mono {w':World}{v:Value}(h:Cl P S w v)(hs:w.heap.size≤w'.heap.size):Cl P S w' v:=ek (cR hs).1 (cR hs).2 v h
def fE (f:Nat→Value):Operand→Value
 |.tmp t=>f t
 |.const v=>v
 |.global g=> .pointer (some ⟨g,0,none⟩)
 |.func f=> .func (.func f) #[] #[]
theorem KW {T:Nat→Value}{x:Operand}(hx:gL S x=true)(hf:qO S ρ):fE (λt=>rv ρ (T t)) x=rv ρ (fE T x):=by
 cases x with
 |tmp t=>rfl
 |const v=>simp only[gL]at hx;exact(ir hx ρ).symm
 |global g=>
  simp only[gL,zac,decide_eq_true_eq]at hx;simp[fE,rv,ra,hf.g g hx.1 hx.2]
 |func f=>simp[fE,rv,hf.f f hx]
theorem Gp {T:Nat→Value}{n:Nat}(hn:S.g≤n)(hT:∀t,rv (sg S S.d n) (T t)=T t){x:Operand}(hx:gL S x=true):rv (sg S S.d n) (fE T x)=fE T x:=by
 cases x with
 |tmp t=>exact hT t
 |const v=>simp only[gL]at hx;exact ir hx _
 |global g=>
  simp only[gL,zac,decide_eq_true_eq]at hx;have:(sg S S.d n) g=g:=bW.2 ⟨hx.1,by omega⟩;simp[fE,rv,ra,this]
 |func f=>
  simp only[fE,rv];have:(sg S S.d n).f (.func f)=.func f:=iF.2 ⟨f,rfl,hx⟩;simp[this]
theorem Gq (hC:jB P F S)(cC:eN P F S o.op=true){T:Nat→Value}(hT:∀t,Cl P S w (T t))(hS:gp P S ρ w W){nx:Next}{w':World}
 (hrun:(execOp (fE T) o).run P (w.re W.tape W.drawn)=.ok nx w'):
 ∃OB W' es,(execOp (fE λt=>rv ρ (T t)) o).runT P W #[]=(.ok OB W',es)∧NN F ρ nx OB∧NN F (sg S S.d w'.heap.size) nx nx∧gp P S ρ w' W'∧Bl S.d ρ (w.re W.tape W.drawn) w' W W'∧∀e∈es,lU S.d ρ w' e:=by
 have hp:Plain P ρ:=⟨λt i v a b=>hC.zero t i v a b _,hS.inj⟩;have hfv:∀x,gL S x=true→FV S ((fE T) x):=λx hx=>iv (Gp (n:=w.heap.size) hS.wr.big.g hT hx);have e1:=nQ (P:=P) (F:=F) (S:=S) (ρ:=ρ) (ev:=(fE T)) (ev':=(fE λt=>rv ρ (T t))) hp hS.fix hC.SF hC.fn o cC (λx hx=>KW hx hS.fix) (λx _=> .inl hS.jE) hfv (λ_=>rfl) (λ_=>rfl) (λ_=>rfl) (λ_=>rfl);have e2:∀n,(w.re W.tape W.drawn).heap.size≤n→aa P (sg S S.d n) (NN F (sg S S.d n)) (execOp (fE T) o) (execOp (fE T) o):=λn hn=>by
  have Wt:∀t,rv (sg S S.d n) (T t)=T t:=λt=>ek (cR hn).1 (cR hn).2 _ (hT t);exact nQ (lX hC n) (uM (zad hS.wr.big.g hn)) hC.SF hC.fn o cC (λx hx=>(Gp (zad hS.wr.big.g hn) Wt hx).symm) (λx hx=> .inr (Gp (zad hS.wr.big.g hn) Wt hx)) hfv (λ_=>rfl) (λ_=>rfl) (λ_=>rfl) (λ_=>rfl)
 cases hrt:(execOp (fE T) o).runT P (w.re W.tape W.drawn) #[]with
 |mk r es=>
  have q1:=congrArg Prod.fst hrt;simp at q1;rw[hrun]at q1;subst q1;have hW:WR P S ρ (w.re W.tape W.drawn) W:=⟨hS.wr.live,hS.wr.ok,hS.wr.dead,hS.wr.closed,hS.wr.next,hS.wr.low,hS.wr.big⟩;obtain⟨OB,W',es',r1,r2,r3,r4,r5,r6⟩:=dm hp (λo=> .inl hS.jE) _ _ _ (λn=>NN F (sg S S.d n)) (w.re W.tape W.drawn) W #[] #[] _ _ _ e1 e2 hW (λj _ q=>rfl) hrt;exact⟨OB,W',es',r1,r2,r3 _ (zaa _),⟨r4,hS.inj,hS.jE,hS.f,by have h1:=r5.size;have h2:=r5.fZ;have:=hS.nB;omega⟩,r5,λe he=>(r6 e he).resolve_left (by simp)⟩
theorem aj.BP (hC:jB P F S)(cC:eN P F S o.op=true)(ho:ops[i]?=some o)(hw:Region.wanted o (yielded ops a.tmps)=true)(hk:b.kind≠.early){T:Nat→Value}(hT:∀t,Cl P S w (T t))(hS:gp P S ρ w W)(hown:∀x,Touch S.d ρ w x→own x)
 (hx:execOp a.eval o=execOp (fE λt=>rv ρ (T t)) o){Q:Value→World→Prop}(hrun:∀τ d,∃v w',(execOp (fE T) o).run P (w.re τ d)=.ok (.value v) w'∧Q v w')
 (k:∀v w' ρ' W' own',Q v w'→gp P S ρ' w' W'→(∀r,r<w.heap.size→ρ' r=ρ r)→w.heap.size≤w'.heap.size→Cl P S w' v→(∀x,Touch S.d ρ' w' x→own' x)→(∀x,own x→own' x)→
   (∀x,ro x→W'.heap[x]?=W.heap[x]?)→nC ro own' W'→aj P main ro Stop own' (G (b.at (a.put o.dst (rv ρ' v)) (.inRegion ops rest::kk)) cs) W')(hro:nC ro own W):
 aj P main ro Stop own (G (b.at a (.inRegion ops (i::rest)::kk)) cs) W:=by
 refine aj.step' rfl λaF hr=>?_;have hS1:=hS.grow hr.size λx hx=>hr.block x (.inl (hown x hx));generalize nV:cL ρ w.heap.size aF.heap.size=bO at hS1;have hlt:∀r,r<w.heap.size→bO r=ρ r:=λr h=>by rw[←nV];exact aR h
 have hf:∀x,bO.f x=ρ.f x:=λx=>by rw[←nV];rfl
 obtain⟨v,w',hv,hq⟩:=hrun aF.tape aF.drawn;obtain⟨OB,W',es,r1,r2,r3,r4,r5,r6⟩:=Gq hC cC hT hS1 hv;have xY:OB=.value (rv bO v):=r2;subst xY;have eG:Cl P S w' v:=by
  have:Next.value v=.value (rv (sg S S.d w'.heap.size) v):=r3;exact(Next.value.inj this).symm
 have XF:(λt=>rv ρ (T t))=λt=>rv bO (T t):=funext λt=>((hT t).agree hlt hf).symm;have KX:(execOp a.eval o).run P aF=.ok (.value (rv bO v)) W':=by
  rw[hx,XF];have:=congrArg Prod.fst r1;simpa using this
 have gi:(execOp a.eval o).events P aF #[]=es:=by
  rw[hx,XF];have:=congrArg Prod.snd r1;simpa using this
 have hsz:=r5.size;have En:=r5.fZ;simp only[World.re]at hsz En;have kj:∀x,Touch S.d bO w' x→Grow own aF W' x:=by
  rintro x ⟨r,h1,h2,rfl⟩;rcases zag r w.heap.size with h3|h3
  ·exact .inl (hown _ ⟨r,h1,h3,by rw[hlt r h3]⟩)
  ·right;rw[hS1.wr.next r h3];omega
 have XG:∀x,x<aF.heap.size→¬own x→W'.heap[x]?=aF.heap[x]?:=λx h1 h2=>r5.frame x h1 λht=>by
  rcases kj x ht with h|⟨h,_⟩
  ·exact h2 h
  ·omega
 refine⟨_,W',_,stepG_value ho hw hk KX,⟨r5.tape,r5.os,r5.output,by omega,XG,λe he=>?_⟩,k v w' bO W' _ hq r4 hlt En eG kj (λx hx=> .inl hx) (λx hx=>?_) (hro.grow hr.size (by omega))⟩
 ·unfold listed at he;rw[gi]at he;have:=l5 (ro:=ro) (r6 e (mem_seen he));exact this.mono kj
 ·have h1:=hro.lt x (.inr hx);have h2:=hr.size;rw[XG x (by omega) (hro.ap x hx),hr.block x (.inr hx)]
theorem aj.opn (hC:jB P F S)(cC:eN P F S o.op=true)(ho:ops[i]?=some o)(hw:Region.wanted o (yielded ops a.tmps)=true)(hk:b.kind≠.early){T:Nat→Value}(hT:∀t,Cl P S w (T t))(hS:gp P S ρ w W)(hown:∀x,Touch S.d ρ w x→own x)
 (hx:execOp a.eval o=execOp (fE λt=>rv ρ (T t)) o){Q:World→Prop}(hrun:∀τ d,∃w',(execOp (fE T) o).run P (w.re τ d)=.ok .skip w'∧Q w')
 (k:∀w' ρ' W' own',Q w'→gp P S ρ' w' W'→(∀r,r<w.heap.size→ρ' r=ρ r)→w.heap.size≤w'.heap.size→(∀x,Touch S.d ρ' w' x→own' x)→(∀x,own x→own' x)→
   (∀x,ro x→W'.heap[x]?=W.heap[x]?)→nC ro own' W'→aj P main ro Stop own' (G (b.at (a.put o.dst undef) (.inRegion ops rest::kk)) cs) W')(hro:nC ro own W):
 aj P main ro Stop own (G (b.at a (.inRegion ops (i::rest)::kk)) cs) W:=by
 refine aj.step' rfl λaF hr=>?_;have hS1:=hS.grow hr.size λx hx=>hr.block x (.inl (hown x hx));generalize nV:cL ρ w.heap.size aF.heap.size=bO at hS1;have hlt:∀r,r<w.heap.size→bO r=ρ r:=λr h=>by rw[←nV];exact aR h
 have hf:∀x,bO.f x=ρ.f x:=λx=>by rw[←nV];rfl
 obtain⟨w',hv,hq⟩:=hrun aF.tape aF.drawn;obtain⟨OB,W',es,r1,r2,r3,r4,r5,r6⟩:=Gq hC cC hT hS1 hv;have xY:OB=.skip:=r2;subst xY;have XF:(λt=>rv ρ (T t))=λt=>rv bO (T t):=funext λt=>((hT t).agree hlt hf).symm;have KX:(execOp a.eval o).run P aF=.ok .skip W':=by
  rw[hx,XF];have:=congrArg Prod.fst r1;simpa using this
 have gi:(execOp a.eval o).events P aF #[]=es:=by
  rw[hx,XF];have:=congrArg Prod.snd r1;simpa using this
 have hsz:=r5.size;have En:=r5.fZ;simp only[World.re]at hsz En;have kj:∀x,Touch S.d bO w' x→Grow own aF W' x:=by
  rintro x ⟨r,h1,h2,rfl⟩;rcases zag r w.heap.size with h3|h3
  ·exact .inl (hown _ ⟨r,h1,h3,by rw[hlt r h3]⟩)
  ·right;rw[hS1.wr.next r h3];omega
 have XG:∀x,x<aF.heap.size→¬own x→W'.heap[x]?=aF.heap[x]?:=λx h1 h2=>r5.frame x h1 λht=>by
  rcases kj x ht with h|⟨h,_⟩
  ·exact h2 h
  ·omega
 refine⟨_,W',_,stepG_none ho hw hk KX,⟨r5.tape,r5.os,r5.output,by omega,XG,λe he=>?_⟩,k w' bO W' _ hq r4 hlt En kj (λx hx=> .inl hx) (λx hx=>?_) (hro.grow hr.size (by omega))⟩
 ·unfold listed at he;rw[gi]at he;have:=l5 (ro:=ro) (r6 e (mem_seen he));exact this.mono kj
 ·have h1:=hro.lt x (.inr hx);have h2:=hr.size;rw[XG x (by omega) (hro.ap x hx),hr.block x (.inr hx)]
end
end Go.Ren
