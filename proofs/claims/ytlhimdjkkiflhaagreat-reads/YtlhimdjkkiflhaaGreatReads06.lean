import Derived.Test.YtlhimdjkkiflhaaGreatReads05
set_option maxHeartbeats 8000000
set_option maxRecDepth 100000
open Go renaming World→Γ,Goroutine→Δ,Frame→Θ,Value→Λ,execOp→Ξ,Program→Φ,FuncId→Ω,stepG→ζ,Event→η,Operand→θ,Calls→ι
namespace Go.Ren
open Go Go.Conc
section
variable {P:Φ}{F:Ω→Bool}{S:Sd}
theorem ES (hC:kZ P F S){fr:Θ}{above:List Θ}{w:Γ}(h:PI P F S fr above w){fn:Func}{v:Λ}(hr:(results fn fr.tmps).run P w=.ok v w)(τ:Tp)(d:Nat):(results fn fr.tmps).run P (w.re τ d)=.ok v (w.re τ d):=by
 cases hrun:(results fn fr.tmps).runT P w #[]with
 |mk r es=>
  have q1:=zal Prod.fst hrun;simp at q1;rw[hr]at q1;subst q1;have hid:aa P jR (VV jR) (results fn fr.tmps) (results fn fr.tmps):=by
   have:=ja (lV hC) fn fr.tmps (nI undef);rwa[map_id']at this
  have qP:∀n,w.heap.size≤n→aa P (sg S S.d n) (VV (sg S S.d n)) (results fn fr.tmps) (results fn fr.tmps):=λn hn=>by
   have:=ja (lW hC n) fn fr.tmps dY;have e:fr.tmps.map (rv (sg S S.d n))=fr.tmps:=bt.2 (ix hn h.cl);rwa[e]at this
  have hW:WR P S jR w (w.re τ d):=⟨h.wr.live,h.wr.ok,h.wr.dead,h.wr.closed,h.wr.next,h.wr.low,h.wr.big⟩;obtain⟨b,W1,es',r1,r2,_,r4,r5,_⟩:=dn (lV hC) K7 _ _ _ _ w (w.re τ d) #[] #[] _ _ _ hid qP hW (λj hj=>by omega) hrun;have q2:=zal Prod.fst r1;simp at q2;have hb:b=v:=by have:=r2;unfold VV at this;rw[nI]at this;exact this
  have hs:=r5.size;have hW1:W1=w.re τ d:=by
   refine oK (Array.ext_getElem? λi=>?_) r5.tape (by have:=r5.drawn;omega) r5.os r5.output;have hsz:W1.heap.size=(w.re τ d).heap.size:=by omega
   rcases zar i (w.re τ d).heap.size with hlt|ft
   ·by_cases ht:Touch S.d jR w i
    ·obtain⟨k,hr1,hr2,rfl⟩:=ht;have Cr:=r4.live _ _ hr1 (zaE hr2);have wu:=hW.live _ _ hr1 (zaE hr2);exact Cr.trans wu.symm
    ·exact r5.frame i hlt ht
   ·rw[zbW (by omega),zbW ft]
  rw[q2,hb,hW1]
theorem Ld (hC:kZ P F S){f:Ω}{args:Array Λ}{w:Γ}{Q:Λ→Γ→Prop}(hI:PI P F S (Θ.enter P f args .normal) [] w)
 (hc:∀τ:Tp,ι P f args (w.re τ 0) λe w'=>∃v,e=.returned v∧Q v w')(τ:Tp):
 ∃n fr a w',mA P n (Θ.enter P f args .normal) [] (w.re τ 0) fr a w'∧(a=[]∧fr.fn=f∧∃v,Q v w'∧fr.leaving P w' (.returned v)):=by
 generalize p6:Θ.enter P f args .normal=fr0 at hI;have h:=hc τ [c0 P];rw[p6]at h;generalize hcs:[c0 P]=cs at h;obtain⟨e,w',fr,⟨v,he,hq⟩,hs,hfn,hl⟩:=h;subst he;have hs':Steps P (lone fr0 cs (w.re τ 0)) (lone fr cs w'):=hs;obtain⟨n,hn⟩:=hs';have Wv:fr.mode=.returning:=hl.1;subst hcs;obtain⟨m,hm⟩:=AK hC n fr0 [] (w.re τ 0) fr w' (hI.re τ 0) hn Wv;exact⟨m,fr,[],w',hm,rfl,hfn,v,hq,hl⟩
theorem AL (hC:kZ P F S){f:Ω}{args:Array Λ}{w:Γ}{Q:Λ→Γ→Prop}(hF:F f=true)(ha:∀v∈args,rv (sg S S.d w.heap.size) v=v)(hw:WR P S jR w w)(hQ:∀v w τ d,Q v w→Q v (w.re τ d))
 (hc:∀τ:Tp,ι P f args (w.re τ 0) λe w'=>∃v,e=.returned v∧Q v w'):
 Lb P (λfr above w'=>above=[]∧fr.fn=f∧∃v,Q v w'∧fr.leaving P w' (.returned v)) (Θ.enter P f args .normal) [] w:=by
 have hI:PI P F S (Θ.enter P f args .normal) [] w:=by
  refine⟨wj hC hF args,by simp,λv hv=>?_,by simp,hw⟩;have e:b8 (sg S S.d w.heap.size) (Θ.enter P f args .normal)=Θ.enter P f args .normal:=by
   rw[←gU,bt.2 ha]
  have:=zal Θ.tmps e;simp only[b8]at this;exact bt.1 this v hv
 have hT:=Ld hC hI hc;generalize Θ.enter P f args .normal=fr0 at hI hT ⊢;refine ue hC (λfr above w τ d hI hx=>?_) hI hT;obtain⟨e1,e2,v,hq,hl⟩:=hx;refine⟨e1,e2,v,hQ v w τ d hq,?_⟩;have hl':fr.mode=.returning∧fr.defers=[]∧fr.kind=.normal∧∃fn,P.funcs[fr.fn]?=some fn∧(results fn fr.tmps).run P w=.ok v w:=hl;obtain⟨h1,h2,h3,fn,h4,h5⟩:=hl';exact(show fr.mode=.returning∧fr.defers=[]∧fr.kind=.normal∧∃fn,P.funcs[fr.fn]?=some fn∧(results fn fr.tmps).run P (w.re τ d)=.ok v (w.re τ d) from⟨h1,h2,h3,fn,h4,ES hC hI h5 τ d⟩)
end
structure bW (ro own:Nat→Prop) (w w₁:Γ):Prop where
 tape:w₁.tape=w.tape
 os:w₁.os=w.os
 output:w₁.output=w.output
 size:w.heap.size≤w₁.heap.size
 block:∀b,own b∨ro b→w₁.heap[b]?=w.heap[b]?
def Grow (own:Nat→Prop)(w w':Γ):Nat→Prop:=λb=>own b∨(w.heap.size≤b∧b<w'.heap.size)
def B4 (ro own:Nat→Prop)(e:η):Prop:=
 match e.loc with
 |.cell a=>own a.block∨(ro a.block∧e.write=false)
 |.obj r=>own r∧e.sync=false
 |.mark m=>MOk m∧e.sync=true
 |_=>False
structure Cs (ro own:Nat→Prop) (w w':Γ) (es:Array η):Prop where
 tape:w'.tape=w.tape
 os:w'.os=w.os
 output:w'.output=w.output
 size:w.heap.size≤w'.heap.size
 block:∀b,b<w.heap.size→¬own b→w'.heap[b]?=w.heap[b]?
 evs:∀e∈es,B4 ro (Grow own w w') e
inductive af (P:Φ) (main:Bool) (ro:Nat→Prop) (Stop:(Nat→Prop)→Δ→Γ→Prop):(Nat→Prop)→Δ→Γ→Prop
 |stop {own:Nat→Prop} {g:Δ} {w:Γ}:(∀w₁,bW ro own w w₁→Stop own g w₁)→af P main ro Stop own g w
 |step {own:Nat→Prop} {g:Δ} {w:Γ} (nx:Γ→Δ) (nw:Γ→Γ) (ne:Γ→Array η):g.status=.running→
   (∀w₁,bW ro own w w₁→ζ P main g w₁=.go (nx w₁) (nw w₁) (ne w₁))→(∀w₁,bW ro own w w₁→Cs ro own w₁ (nw w₁) (ne w₁))→(∀w₁,bW ro own w w₁→af P main ro Stop (Grow own w₁ (nw w₁)) (nx w₁) (nw w₁))→
   af P main ro Stop own g w
section
variable {P:Φ}{F:Ω→Bool}{S:Sd}{main:Bool}{ro:Nat→Prop}{Stop Ct:(Nat→Prop)→Δ→Γ→Prop}
theorem bW.refl (ro own:Nat→Prop)(w:Γ):bW ro own w w:=⟨rfl,rfl,rfl,zab _,λ_ _=>rfl⟩
theorem bW.trans {own:Nat→Prop}{a b c:Γ}(h:bW ro own a b)(k:bW ro own b c):bW ro own a c:=
 ⟨k.tape.trans h.tape,k.os.trans h.os,k.output.trans h.output,zaj h.size k.size,λx hx=>(k.block x hx).trans (h.block x hx)⟩
theorem af.step' {own:Nat→Prop}{g:Δ}{w:Γ}(hs:g.status=.running)(h:∀w₁,bW ro own w w₁→∃g' w' es,ζ P main g w₁=.go g' w' es∧Cs ro own w₁ w' es∧af P main ro Stop (Grow own w₁ w') g' w'):af P main ro Stop own g w:=by
 classical
 let X:Γ→Δ×Γ×Array η:=λw₁=>if hr:bW ro own w w₁ then(Classical.choose (h w₁ hr),Classical.choose (zaL (h w₁ hr)),Classical.choose (zaL (zaL (h w₁ hr))))else default
 have hX:∀w₁,bW ro own w w₁→ζ P main g w₁=.go (X w₁).1 (X w₁).2.1 (X w₁).2.2∧Cs ro own w₁ (X w₁).2.1 (X w₁).2.2∧af P main ro Stop (Grow own w₁ (X w₁).2.1) (X w₁).1 (X w₁).2.1:=λw₁ hr=>by
  simp only[X,dif_pos hr];exact zaL (zaL (zaL (h w₁ hr)))
 exact .step (λw₁=>(X w₁).1) (λw₁=>(X w₁).2.1) (λw₁=>(X w₁).2.2) hs (λw₁ hr=>(hX w₁ hr).1) (λw₁ hr=>(hX w₁ hr).2.1) (λw₁ hr=>(hX w₁ hr).2.2)
theorem af.rely {own:Nat→Prop}{g:Δ}{w w₁:Γ}(h:af P main ro Stop own g w)(hr:bW ro own w w₁):af P main ro Stop own g w₁:=by
 cases h with
 |stop h=>exact .stop λw₂ h₂=>h w₂ (hr.trans h₂)
 |step nx nw ne hs h1 h2 h3=>exact .step nx nw ne hs (λw₂ h₂=>h1 w₂ (hr.trans h₂)) (λw₂ h₂=>h2 w₂ (hr.trans h₂)) (λw₂ h₂=>h3 w₂ (hr.trans h₂))
theorem af.bind {own:Nat→Prop}{g:Δ}{w:Γ}(h:af P main ro Stop own g w)(hq:∀own g w,Stop own g w→af P main ro Ct own g w)(_keep:∀own g w w₁,(∀w₂,bW ro own w w₂→Stop own g w₂)→bW ro own w w₁→True:=λ_ _ _ _ _ _=>trivial):af P main ro Ct own g w:=by
 induction h with
 | @stop own g w h=>exact hq own g w (h w (bW.refl ro own w))
 |step nx nw ne hs h1 h2 _ ih=>exact .step nx nw ne hs h1 h2 ih
structure iO (P:Φ) (S:Sd) (ρ:Rn) (w W:Γ):Prop where
 wr:WR P S ρ w W
 inj:∀a b,ρ a=ρ b→a=b
 ld:yj P ρ
 f:∀x,ρ.f x=x
 px:P.globals.size≤W.heap.size
def dT (ρ:Rn)(n N:Nat):Rn:={ b:=λr=>if r<n then ρ r else N+(r-n),f:=ρ.f,d:=ρ.d }
theorem aV {ρ:Rn}{n N r:Nat}(h:r<n):dT ρ n N r=ρ r:=by simp[dT,h]
theorem ed {ρ:Rn}{n N r:Nat}(h:n≤r):dT ρ n N r=N+(r-n):=by simp[dT];omega
theorem iO.fix {ρ:Rn}{w W:Γ}(h:iO P S ρ w W):qJ S ρ:=⟨λ_ _=>h.f _,h.wr.big.fg,h.wr.big.fl⟩
theorem vV.ext {ρ:Rn}{n N:Nat}(h:vV P S ρ n):vV P S (dT ρ n N) n:=⟨h.d,h.g,h.r,h.p,h.dp,λg h1 h2=>by rw[aV (zaH h2 h.g)];exact h.fg g h1 h2,λg hg=>by rw[aV (zaH hg h.d)];exact h.fl g hg⟩
theorem iO.low {ρ:Rn}{w W:Γ}(h:iO P S ρ w W){r:Nat}(hr:r<w.heap.size):ρ r<W.heap.size:=by
 rcases zar r P.globals.size with hlt|ft
 ·have:=(h.ld r).2 hlt;have:=h.px;omega
 ·exact h.wr.low r (zaj h.wr.big.dp ft) hr
theorem IW {ρ:Rn}{n N:Nat}:(∀r,sg S S.d n r=r→ρ r=dT ρ n N r)∧∀x,(sg S S.d n).f x=x→ρ.f x=(dT ρ n N).f x:=
 ⟨λ_r hr=>(aV (bO.1 hr).2).symm,λ_x _=>rfl⟩
theorem eK {ρ ρ':Rn}{n:Nat}{fr:Θ}(hc:iw P S n fr)(hb:∀r,r<n→ρ r=ρ' r)(hf:∀x,ρ.f x=ρ'.f x):b8 ρ fr=b8 ρ' fr:=by
 unfold b8;rw[dX λv hv=>agree (σ:=sg S S.d n) (λr hr=>hb r (bO.1 hr).2) (λx _=>hf x) v (hc v hv)]
theorem eV {ρ ρ':Rn}{n:Nat}(hb:∀r,r<n→ρ r=ρ' r)(hf:∀x,ρ.f x=ρ'.f x):∀{above:List Θ},(∀f∈above,iw P S n f)→above.map (b8 ρ)=above.map (b8 ρ')
 |[],_=>rfl
 |f::l,h=>by rw[zaC,zaC,eK (h f (by simp)) hb hf,eV hb hf λg hg=>h g (by simp[hg])]
theorem iO.rely {ρ:Rn}{w W aG:Γ}(h:iO P S ρ w W)(hr:bW ro (Touch S.d ρ w) W aG):iO P S (dT ρ w.heap.size aG.heap.size) w aG:=by
 have sV:=IW (S:=S) (ρ:=ρ) (n:=w.heap.size) (N:=aG.heap.size);have hsz:=hr.size;refine⟨⟨λr o ft ho=>?_,h.wr.ok,h.wr.dead,h.wr.closed,λr ft=>ed ft,λr ft hlt=>?_,h.wr.big.ext⟩,λa b e=>?_,λr=>?_,h.f,zaj h.px hsz⟩
 ·have hlt:=fI ho;rw[aV hlt,hr.block _ (.inl ⟨r,ft,hlt,rfl⟩),h.wr.live r o ft ho,sM sV.1 sV.2 (h.wr.closed r o ft ho)]
 ·rw[aV hlt];have:=h.wr.low r ft hlt;omega
 ·rcases zar a w.heap.size with ha|ha<;>rcases zar b w.heap.size with hb|hb
  ·rw[aV ha,aV hb]at e;exact h.inj a b e
  ·rw[aV ha,ed hb]at e;have:=h.low ha;omega
  ·rw[ed ha,aV hb]at e;have:=h.low hb;omega
  ·rw[ed ha,ed hb]at e;omega
 ·rcases zar r w.heap.size with ha|ha
  ·rw[aV ha];exact h.ld r
  ·rw[ed ha];have:=h.px;have:=h.wr.big.p;constructor<;>intro<;>omega
theorem dG {ρ:Rn}{w:Γ}{N:Nat}:Touch S.d (dT ρ w.heap.size N) w=Touch S.d ρ w:=by
 funext b;refine propext ⟨?_,?_⟩
 ·rintro ⟨r,h1,h2,rfl⟩;exact⟨r,h1,h2,aV h2⟩
 ·rintro ⟨r,h1,h2,rfl⟩;exact⟨r,h1,h2,(aV h2).symm⟩
theorem wx {ρ:Rn}{w w1 W W1:Γ}(h:iO P S ρ w W)(hD:B1 S.d ρ w w1 W W1):Touch S.d ρ w1=Grow (Touch S.d ρ w) W W1:=by
 funext b;have hs:=hD.size;have hg:=hD.gw;have hb:=h.wr.big.d;refine propext ⟨?_,?_⟩
 ·rintro ⟨r,h1,h2,rfl⟩;rcases zar r w.heap.size with hlt|ft
  ·exact .inl ⟨r,h1,hlt,rfl⟩
  ·right;rw[h.wr.next r ft];omega
 ·rintro (⟨r,h1,h2,rfl⟩|⟨h1,h2⟩)
  ·exact⟨r,h1,by omega,rfl⟩
  ·refine⟨w.heap.size+(b-W.heap.size),by omega,by omega,?_⟩;rw[h.wr.next _ (by omega)];omega
def Ph (P:Φ)(F:Ω→Bool)(S:Sd)(Q:Θ→List Θ→Γ→Prop)(cs:List Θ)(kE:Rn)(n₀:Nat)(own:Nat→Prop)(g:Δ)(W:Γ):Prop:=
 ∃fr above w ρ,Q fr above w∧PI P F S fr above w∧iO P S ρ w W∧own=Touch S.d ρ w∧g=G (b8 ρ fr) (above.map (b8 ρ)++cs)∧n₀≤w.heap.size∧∀r,r<n₀→ρ r=kE r
theorem AO (hC:kZ P F S){Q:Θ→List Θ→Γ→Prop}{cs:List Θ}{fr:Θ}{above:List Θ}{w:Γ}(hb:Lb P Q fr above w):PI P F S fr above w→∀(kE:Rn) (n₀:Nat) (ρ:Rn) (W:Γ),iO P S ρ w W→n₀≤w.heap.size→(∀r,r<n₀→ρ r=kE r)→af P main ro (Ph P F S Q cs kE n₀) (Touch S.d ρ w) (G (b8 ρ fr) (above.map (b8 ρ)++cs)) W:=by
 induction hb with
 | @stop fr above w hq=>
   intro hI kE n₀ ρ W hS hn vk;refine .stop λaG hr=>⟨fr,above,w,_,hq,hI,hS.rely hr,dG.symm,?_,hn,λr hlt=>by rw[aV (by omega)];exact vk r hlt⟩;rw[eK hI.cl (ρ:=ρ) (ρ':=dT ρ w.heap.size aG.heap.size) (λr hlt=>(aV hlt).symm) (λ_=>rfl),eV (ρ:=ρ) (ρ':=dT ρ w.heap.size aG.heap.size) (λr hlt=>(aV hlt).symm) (λ_=>rfl) hI.cls]
 | @step fr above w nf na nw ne h1 _ ih=>
   intro hI kE n₀ ρ W hS hn vk;refine af.step' rfl λaG hr=>?_;have hS1:=hS.rely hr;generalize sW:dT ρ w.heap.size aG.heap.size=ct at hS1;have ET:∀r,r<w.heap.size→ct r=ρ r:=λr hlt=>by rw[←sW];exact aV hlt
   have lf:∀x,ct.f x=ρ.f x:=λx=>by rw[←sW];rfl
   have hrun:=h1 aG.tape aG.drawn;have hW:WR P S ct (w.re aG.tape aG.drawn) aG:=⟨hS1.wr.live,hS1.wr.ok,hS1.wr.dead,hS1.wr.closed,hS1.wr.next,hS1.wr.low,hS1.wr.big⟩;obtain⟨W2,es',q1,q2,q3,q4⟩:=La hC (ρ:=ct) ⟨λt i v a b=>hC.zero t i v a b _,hS1.inj⟩ hS1.ld hS1.fix (hI.re aG.tape aG.drawn) hW (λj _ q=>rfl) hrun;have Ex:=(eu hC (hI.re aG.tape aG.drawn) hrun).1;have SP:iO P S ct (w.re aG.tape aG.drawn) aG:=⟨hW,hS1.inj,hS1.ld,hS1.f,hS1.px⟩;have wy:iO P S ct (nw aG.tape aG.drawn) W2:=⟨q1,hS1.inj,hS1.ld,hS1.f,by have:=hS1.px;have h3:=q2.size;have h4:=q2.gw;omega⟩;have hgrow:Touch S.d ct (nw aG.tape aG.drawn)=Grow (Touch S.d ρ w) aG W2:=by
    rw[wx SP q2];have:Touch S.d ct (w.re aG.tape aG.drawn)=Touch S.d ρ w:=by
     rw[←sW];exact dG
    rw[this]
   have p6:b8 ρ fr=b8 ct fr:=eK hI.cl (λr hlt=>(ET r hlt).symm) (λx=>(lf x).symm);have hab:above.map (b8 ρ)=above.map (b8 ct):=eV (λr hlt=>(ET r hlt).symm) (λx=>(lf x).symm) hI.cls;refine⟨_,W2,_,by rw[p6,hab];exact q4 main cs,⟨q2.tape,q2.os,q2.output,by have h3:=q2.size;have h4:=q2.gw;simp only[Γ.re]at h3 h4;omega,λb hb Ky=>?_,λe he=>?_⟩,?_⟩
   ·refine q2.frame b hb λht=>?_;rw[hgrow]at ht;rcases ht with h|⟨h,_⟩
    ·exact Ky h
    ·omega
   ·have:=q3 e (mem_seen he);unfold nh at this;unfold B4;rw[←hgrow];cases hl:e.loc<;>simp only[hl]at this ⊢<;>first|exact .inl this|exact this
   ·rw[←hgrow];refine ih aG.tape aG.drawn Ex kE n₀ ct W2 wy ?_ λr hlt=>(ET r (by omega)).trans (vk r hlt);have h4:=q2.gw;simp only[Γ.re]at h4;omega
end
section
variable {P:Φ}{F:Ω→Bool}{S:Sd}{main:Bool}{ro own:Nat→Prop}{Stop Ct:(Nat→Prop)→Δ→Γ→Prop}
theorem af.mono {g:Δ}{w:Γ}(h:af P main ro Stop own g w)(hs:∀own g w,Stop own g w→Ct own g w):af P main ro Ct own g w:=by
 induction h with
 |stop h=>exact .stop λw₁ hr=>hs _ _ _ (h w₁ hr)
 |step nx nw ne hr h1 h2 _ ih=>exact .step nx nw ne hr h1 h2 ih
def Beside (ro:Nat→Prop)(Stop:(Nat→Prop)→Δ→Γ→Prop)(extra:Nat→Prop)(w₀:Γ)(GH:Nat→Prop)(g:Δ)(w:Γ):Prop:=
 ∃own',(∀b,GH b↔own' b∨extra b)∧Stop own' g w∧w₀.heap.size≤w.heap.size∧∀b,extra b∨ro b→¬own' b∧w.heap[b]?=w₀.heap[b]?
theorem bW.sub {own own':Nat→Prop}{w w₁:Γ}(h:bW ro own' w w₁)(hs:∀b,own b→own' b):bW ro own w w₁:=⟨h.tape,h.os,h.output,h.size,λb hb=>h.block b (hb.imp (hs b) id)⟩
theorem B4.mono {own own':Nat→Prop}{e:η}(h:B4 ro own e)(hs:∀b,own b→own' b):B4 ro own' e:=by
 unfold B4 at h ⊢;split at h
 ·exact h.imp (hs _) id
 ·exact⟨hs _ h.1,h.2⟩
 ·exact h
 ·exact h.elim
theorem af.frame {extra:Nat→Prop}{g:Δ}{w:Γ}(h:af P main ro Stop own g w):(∀b,extra b∨ro b→¬own b∧b<w.heap.size)→af P main ro (Beside ro Stop extra w) (λb=>own b∨extra b) g w:=by
 induction h with
 | @stop own g w h=>
   intro hd;exact .stop λw₁ hr=>⟨own,λb=>Iff.rfl,h w₁ (hr.sub λb hb=> .inl hb),hr.size,λb hb=>⟨(hd b hb).1,hr.block b (hb.imp .inr id)⟩⟩
 | @step own g w nx nw ne hs h1 h2 h3 ih=>
   intro hd;refine .step nx nw ne hs (λw₁ hr=>h1 w₁ (hr.sub λb hb=> .inl hb)) (λw₁ hr=>?_) (λw₁ hr=>?_)
   ·have hg:=h2 w₁ (hr.sub λb hb=> .inl hb);exact⟨hg.tape,hg.os,hg.output,hg.size,λb hb hn=>hg.block b hb λx=>hn (.inl x),λe he=>(hg.evs e he).mono λb hb=>hb.imp .inl id⟩
   ·have ug:=hr.sub (own:=own) λb hb=> .inl hb;have hg:=h2 w₁ ug;have hsz:=hr.size;have Le:=hg.size;have:=ih w₁ ug λb hb=>⟨λx=>x.elim (hd b hb).1 λy=>by have:=(hd b hb).2;omega,by have:=(hd b hb).2;omega⟩;have e:(λb=>Grow own w₁ (nw w₁) b∨extra b)=Grow (λb=>own b∨extra b) w₁ (nw w₁):=by
     funext b;unfold Grow;refine propext ⟨?_,?_⟩
     ·rintro ((x|x)|x)
      ·exact .inl (.inl x)
      ·exact .inr x
      ·exact .inl (.inr x)
     ·rintro ((x|x)|x)
      ·exact .inl (.inl x)
      ·exact .inr x
      ·exact .inl (.inr x)
    rw[e]at this;refine this.mono λGH g' w' ⟨own',k1,k2,k0,k3⟩=>⟨own',k1,k2,by omega,λb hb=>⟨(k3 b hb).1,?_⟩⟩;rw[(k3 b hb).2,hg.block b (by have:=(hd b hb).2;omega) (hd b hb).1,hr.block b (hb.imp .inr id)]
end
section
variable {P:Φ}{F:Ω→Bool}{S:Sd}{main:Bool}{ro:Nat→Prop}
class Shut (P:Φ) (S:Sd):Prop where
 d:S.d=P.globals.size
 g:S.g≤P.globals.size
def EU (P:Φ)(W:Γ):Γ:={ W with heap:=Array.replicate P.globals.size ir }
theorem nJ (W:Γ):(EU P W).heap.size=P.globals.size:=by simp[EU]
theorem Lh [Z:Shut P S] (W:Γ){W':Γ}{ρ:Rn}(hd:ρ.d≤P.globals.size)(hi:∀r,r<P.globals.size→ρ r=r)(hn:∀r:Nat,P.globals.size≤r→ρ r=W'.heap.size+(r-P.globals.size)):WR P S ρ (EU P W) W':=by
 have hs:=nJ (P:=P) W;have hZ:=Z.d;have hG:=Z.g;refine⟨λr o ft ho=>?_,λr o ho=>?_,λr hr=>?_,λr o ft ho=>?_,λr hr=>by rw[hs]at hr ⊢;exact hn r hr,λr h1 h2=>by omega,⟨by omega,by omega,by omega,by omega,by omega,λg h1 h2=>hi g (by omega),λg h1=> .inr (hi g (by omega))⟩⟩
 ·have:=fI ho;omega
 ·have hlt:=fI ho;simp only[EU,Array.getElem?_replicate]at ho;split at ho
  ·cases ho;trivial
  ·cases ho
 ·simp only[EU,Array.getElem?_replicate,zac (show r<P.globals.size by omega)]
 ·have:=fI ho;omega
theorem GI [Shut P S] {W:Γ}(hb:P.globals.size≤W.heap.size):iO P S (dT jR P.globals.size W.heap.size) (EU P W) W:=by
 refine⟨Lh W (zap _) (λr hr=>aV hr) λr hr=>ed hr,λa b e=>?_,λr=>?_,λ_=>rfl,hb⟩
 ·rcases zar a P.globals.size with ha|ha<;>rcases zar b P.globals.size with hb'|hb'
  ·rw[aV ha,aV hb']at e;exact e
  ·rw[aV ha,ed hb']at e;have:jR.b a=a:=rfl;omega
  ·rw[ed ha,aV hb']at e;have:jR.b b=b:=rfl;omega
  ·rw[ed ha,ed hb']at e;omega
 ·rcases zar r P.globals.size with ha|ha
  ·rw[aV ha];exact Iff.rfl
  ·rw[ed ha];constructor<;>intro<;>omega
theorem IX (hC:kZ P F S){fr:Θ}{w W:Γ}{ρ:Rn}(hI:PI P F S fr [] w)(hS:iO P S ρ w W){v:Λ}(hl:fr.leaving P w (.returned v))(hv:fR v)(c:Θ)(cs:List Θ):∃es,ζ P main (G (b8 ρ fr) (c::cs)) W=.go (G (c.finish v) cs) W es∧∀e∈es,nh S.d ρ w e:=by
 have hl':fr.mode=.returning∧fr.defers=[]∧fr.kind=.normal∧∃fn,P.funcs[fr.fn]?=some fn∧(results fn fr.tmps).run P w=.ok v w:=hl;obtain⟨h1,h2,h3,fn,h4,h5⟩:=hl';have hp:Plain P ρ:=⟨λt i v a b=>hC.zero t i v a b _,hS.inj⟩;cases hrun:(results fn fr.tmps).runT P w #[]with
 |mk r es=>
  have q1:=zal Prod.fst hrun;simp at q1;rw[h5]at q1;subst q1;have qP:∀n,w.heap.size≤n→aa P (sg S S.d n) (VV (sg S S.d n)) (results fn fr.tmps) (results fn fr.tmps):=λn hn=>by
   have:=ja (lW hC n) fn fr.tmps dY;have e:fr.tmps.map (rv (sg S S.d n))=fr.tmps:=bt.2 (ix hn hI.cl);rwa[e]at this
  obtain⟨b,W1,es',r1,r2,_,r4,r5,r6⟩:=dn hp (λo=> .inl hS.ld) _ _ _ _ w W #[] #[] _ _ _ (ja hp fn fr.tmps dY) qP hS.wr (λj hj=>by omega) hrun;have hb:b=v:=by have:=r2;unfold VV at this;rw[hv ρ]at this;exact this
  have hs:=r5.size;have hW1:W1=W:=by
   refine oK (Array.ext_getElem? λi=>?_) r5.tape (by have:=r5.drawn;omega) r5.os r5.output;rcases zar i W.heap.size with hlt|ft
   ·by_cases ht:Touch S.d ρ w i
    ·obtain⟨k,hr1,hr2,rfl⟩:=ht;have Cr:=r4.live _ _ hr1 (zaE hr2);have wu:=hS.wr.live _ _ hr1 (zaE hr2);exact Cr.trans wu.symm
    ·exact r5.frame i hlt ht
   ·rw[zbW (by omega),zbW ft]
  subst hb hW1;have bM:kD P F S (b8 ρ fr):=⟨hI.ok.defers,hI.ok.mode,hI.ok.kind,hI.ok.round,hI.ok.todo,hI.ok.fn⟩;have hps:(aS P (b8 ρ fr) [c]).runT P W1 #[]=(.ok (c.finish b,[]) W1,es'):=by
   have hm:(b8 ρ fr).mode=.returning:=h1;have hf:P.funcs[(b8 ρ fr).fn]?=some fn:=h4;unfold aS;rw[hm];simp only[hf];rw[bB];have:(results fn (b8 ρ fr).tmps).runT P W1 #[]=(.ok b W1,es'):=r1;rw[this];rfl
  have hst:=mz (main:=main) (cs:=cs) bM hps;refine⟨_,hst,λe he=>?_⟩;rcases r6 e (mem_seen he)with h|h
  ·simp at h
  ·exact h
theorem oM {ρ:Rn}{w:Γ}{e:η}(h:nh S.d ρ w e):B4 ro (Touch S.d ρ w) e:=by
 unfold nh at h;unfold B4;cases hl:e.loc<;>simp only[hl]at h ⊢<;>first|exact .inl h|exact h
theorem wz [Z:Shut P S] (hC:kZ P F S){f:Ω}{args:Array Λ}(hF:F f=true)(ha:∀v∈args,fR v){Qv:Λ→Prop}(hv:∀v,Qv v→fR v){W:Γ}(hb:P.globals.size≤W.heap.size)
 (hc:∀w:Γ,w.heap=Array.replicate P.globals.size ir→w.os=W.os→w.output=W.output→ι P f args w λe _=>∃v,e=.returned v∧Qv v)(c:Θ)(cs:List Θ):
 af P main ro (λ_ g _=>∃v,Qv v∧g=G (c.finish v) cs) (λ_=>False) (G (Θ.enter P f args .normal) (c::cs)) W:=by
 have hw:WR P S jR (EU P W) (EU P W):=Lh W (zap _) (λ_ _=>rfl) λr hr=>by rw[nJ];show r=_;omega
 have SQ:=AL (Q:=λv _=>Qv v) hC hF (w:=EU P W) (args:=args) (λv hv'=>ha v hv' _) hw (λ_ _ _ _ h=>h) λτ=>hc _ rfl rfl rfl;have hI:PI P F S (Θ.enter P f args .normal) [] (EU P W):=by
  refine⟨wj hC hF args,by simp,λv hv'=>?_,by simp,hw⟩;have e:b8 (sg S S.d (EU P W).heap.size) (Θ.enter P f args .normal)=Θ.enter P f args .normal:=by
   rw[←gU,bt.2 λv hv'=>ha v hv' _]
  have:=zal Θ.tmps e;simp only[b8]at this;exact bt.1 this v hv'
 have hS:=GI (S:=S) hb;have key:=AO (main:=main) (ro:=ro) (cs:=c::cs) hC SQ hI (dT jR P.globals.size W.heap.size) 0 _ W hS (by omega) (λr hr=>by omega);have e1:b8 (dT jR P.globals.size W.heap.size) (Θ.enter P f args .normal)=Θ.enter P f args .normal:=by
  rw[←gU,bt.2 λv hv'=>ha v hv' _]
 have e2:Touch S.d (dT jR P.globals.size W.heap.size) (EU P W)=λ_=>False:=by
  funext b;refine propext ⟨?_,False.elim⟩;rintro ⟨r,h1,h2,_⟩;rw[nJ]at h2;rw[Z.d]at h1;omega
 rw[e1,e2]at key;refine af.bind key λown g W' hst=>?_;obtain⟨fr,above,w,ρ,⟨rfl,_,v,hq,hl⟩,hI',Pj,rfl,rfl,_,_⟩:=hst;refine af.step' rfl λaG hr=>?_;have hS1:=Pj.rely hr;obtain⟨es,hstep,ia⟩:=IX (main:=main) hC hI' hS1 hl (hv v hq) c cs;have p6:b8 ρ fr=b8 (dT ρ w.heap.size aG.heap.size) fr:=eK hI'.cl (λr hlt=>(aV hlt).symm) (λ_=>rfl);refine⟨_,aG,es,by rw[p6];exact hstep,⟨rfl,rfl,rfl,zab _,λ_ _ _=>rfl,λe he=>?_⟩,.stop λ_ _=>⟨v,hq,rfl⟩⟩;have:=oM (ro:=ro) (ia e he);rw[dG]at this;exact this.mono λb hb=> .inl hb
end
section
variable {P:Φ}{main:Bool}{ro own:Nat→Prop}{Stop:(Nat→Prop)→Δ→Γ→Prop}{g:Δ}{w:Γ}
theorem sX (own:Nat→Prop){w w':Γ}(h:w'.heap.size=w.heap.size):Grow own w w'=own:=by
 funext b;unfold Grow;refine propext ⟨λx=>x.elim id λy=>by omega,.inl⟩
theorem af.silent {g':Δ}(hs:g.status=.running)(h:∀w₁,ζ P main g w₁=.go g' w₁ #[])(k:af P main ro Stop own g' w):af P main ro Stop own g w:=
 af.step' hs λw₁ hr=>⟨g',w₁,#[],h w₁,⟨rfl,rfl,rfl,zab _,λ_ _ _=>rfl,by simp⟩,by rw[sX own rfl];exact k.rely hr⟩
end
section
variable {P:Φ}{F:Ω→Bool}{S:Sd}{main:Bool}{ro own:Nat→Prop}{Stop:(Nat→Prop)→Δ→Γ→Prop}{w W:Γ}{ρ:Rn}{b:Θ}{a:Act}{ops:Array Oper}{i:Nat}{rest:List Nat}{o:Oper}{kk:List Item}{cs:List Θ}
structure py (ro own:Nat→Prop) (W:Γ):Prop where
 lt:∀b,own b∨ro b→b<W.heap.size
 ap:∀b,ro b→¬own b
theorem py.grow {aG W':Γ}(h:py ro own W)(h1:W.heap.size≤aG.heap.size)(h2:aG.heap.size≤W'.heap.size):py ro (Grow own aG W') W':=
 ⟨λb hb=>by
   rcases hb with(hb|hb)|hb
   ·have:=h.lt b (.inl hb);omega
   ·exact hb.2
   ·have:=h.lt b (.inr hb);omega,λb hb hg=>by
   rcases hg with hg|hg
   ·exact h.ap b hb hg
   ·have:=h.lt b (.inr hb);omega⟩
theorem af.bounded {g:Δ}(h:af P main ro Stop own g w):(∀b,own b→b<w.heap.size)→af P main ro (λown g w=>Stop own g w∧∀b,own b→b<w.heap.size) own g w:=by
 induction h with
 | @stop own g w h=>intro hb;exact .stop λw₁ hr=>⟨h w₁ hr,λb hx=>by have:=hb b hx;have:=hr.size;omega⟩
 | @step own g w nx nw ne hs h1 h2 _ ih=>
   intro hb;refine .step nx nw ne hs h1 h2 λw₁ hr=>ih w₁ hr λb hx=>?_;have h3:=(h2 w₁ hr).size;have h4:=hr.size;rcases hx with hx|hx
   ·have:=hb b hx;omega
   ·exact hx.2
theorem af.call' [Shut P S] (hC:kZ P F S){f:Ω}{args:Array Λ}(hF:F f=true)(ha:∀v∈args,fR v){Qv:Λ→Prop}(hv:∀v,Qv v→fR v){c:Θ}{g:Δ}
 (hs:g.status=.running)(hst:∀w₁,ζ P main g w₁=.go (G (Θ.enter P f args .normal) (c::cs)) w₁ #[])(hb:P.globals.size≤w.heap.size)(hH:py ro own w)
 (hc:∀w':Γ,w'.heap=Array.replicate P.globals.size ir→ι P f args w' λe _=>∃v,e=.returned v∧Qv v)
 (k:∀v w' own',Qv v→(∀b,own b→own' b)→py ro own' w'→(∀b,own b∨ro b→w'.heap[b]?=w.heap[b]?)→w.heap.size≤w'.heap.size→af P main ro Stop own' (G (c.finish v) cs) w'):af P main ro Stop own g w:=by
 refine af.silent hs hst ?_;have h1:=((wz (main:=main) (ro:=ro) hC hF ha hv hb (λw' e _ _=>hc w' e) c cs).bounded (λ_ h=>h.elim)).frame (extra:=own) (λb hb=>⟨λh=>h,hH.lt b hb⟩);have e:(λb=>False∨own b)=own:=by funext b;exact propext ⟨λh=>h.elim False.elim id,.inr⟩
 rw[e]at h1;refine af.bind h1 λGH g' w' ⟨own',k1,⟨⟨v,hq,hg⟩,k4⟩,k2,k3⟩=>?_;subst hg;refine k v w' GH hq (λb hb=>(k1 b).2 (.inr hb)) ⟨λb hb=>?_,λb hr hb=>?_⟩ (λb hb=>(k3 b hb).2) k2
 ·rcases hb with hb|hb
  ·rcases(k1 b).1 hb with h|h
   ·exact k4 b h
   ·have:=hH.lt b (.inl h);omega
  ·have:=hH.lt b (.inr hb);omega
 ·rcases(k1 b).1 hb with h|h
  ·exact(k3 b (.inr hr)).1 h
  ·exact hH.ap b hr h
theorem iO.grow {aG:Γ}(h:iO P S ρ w W)(hs:W.heap.size≤aG.heap.size)(hb:∀b,Touch S.d ρ w b→aG.heap[b]?=W.heap[b]?):iO P S (dT ρ w.heap.size aG.heap.size) w aG:=by
 have h':iO P S ρ w { W with tape:=aG.tape,os:=aG.os,output:=aG.output }:=⟨⟨h.wr.live,h.wr.ok,h.wr.dead,h.wr.closed,h.wr.next,h.wr.low,h.wr.big⟩,h.inj,h.ld,h.f,h.px⟩;exact h'.rely (ro:=λ_=>False) ⟨rfl,rfl,rfl,hs,λb hx=>hx.elim (hb b) False.elim⟩
def Cl (_P:Φ)(S:Sd)(w:Γ)(v:Λ):Prop:=rv (sg S S.d w.heap.size) v=v
theorem Cl.agree {ρ':Rn}{v:Λ}(h:Cl P S w v)(hb:∀r,r<w.heap.size→ρ' r=ρ r)(hf:∀x,ρ'.f x=ρ.f x):rv ρ' v=rv ρ v:=
 Go.Ren.agree (σ:=sg S S.d w.heap.size) (λr hr=>hb r (bO.1 hr).2) (λx _=>hf x) v h
theorem Cl.mono {w':Γ}{v:Λ}(h:Cl P S w v)(hs:w.heap.size≤w'.heap.size):Cl P S w' v:=eJ (dO hs).1 (dO hs).2 v h
def fx (f:Nat→Λ):θ→Λ
 |.tmp t=>f t
 |.const v=>v
 |.global g=> .pointer (some ⟨g,0,none⟩)
 |.func f=> .func (.func f) #[] #[]
theorem Li {T:Nat→Λ}{x:θ}(hx:gN S x=true)(hf:qJ S ρ):fx (λt=>rv ρ (T t)) x=rv ρ (fx T x):=by
 cases x with
 |tmp t=>rfl
 |const v=>simp only[gN]at hx;exact(gT hx ρ).symm
 |global g=>
  simp only[gN,zai,zbj]at hx;simp[fx,rv,ra,hf.g g hx.1 hx.2]
 |func f=>simp[fx,rv,hf.f f hx]
theorem GJ {T:Nat→Λ}{n:Nat}(hn:S.g≤n)(hT:∀t,rv (sg S S.d n) (T t)=T t){x:θ}(hx:gN S x=true):rv (sg S S.d n) (fx T x)=fx T x:=by
 cases x with
 |tmp t=>exact hT t
 |const v=>simp only[gN]at hx;exact gT hx _
 |global g=>
  simp only[gN,zai,zbj]at hx;have:(sg S S.d n) g=g:=bO.2 ⟨hx.1,by omega⟩;simp[fx,rv,ra,this]
 |func f=>
  simp only[fx,rv];have:(sg S S.d n).f (.func f)=.func f:=iq.2 ⟨f,rfl,hx⟩;simp[this]
theorem GK (hC:kZ P F S)(bM:jx P F S o.op=true){T:Nat→Λ}(hT:∀t,Cl P S w (T t))(hS:iO P S ρ w W){nx:Next}{w':Γ}
 (hrun:(Ξ (fx T) o).run P (w.re W.tape W.drawn)=.ok nx w'):
 ∃Pd W' es,(Ξ (fx λt=>rv ρ (T t)) o).runT P W #[]=(.ok Pd W',es)∧NN F ρ nx Pd∧NN F (sg S S.d w'.heap.size) nx nx∧iO P S ρ w' W'∧B1 S.d ρ (w.re W.tape W.drawn) w' W W'∧∀e∈es,nh S.d ρ w' e:=by
 have hp:Plain P ρ:=⟨λt i v a b=>hC.zero t i v a b _,hS.inj⟩;have hfv:∀x,gN S x=true→FV S ((fx T) x):=λx hx=>jb (GJ (n:=w.heap.size) hS.wr.big.g hT hx);have e1:=nE (P:=P) (F:=F) (S:=S) (ρ:=ρ) (ev:=(fx T)) (ev':=(fx λt=>rv ρ (T t))) hp hS.fix hC.SF hC.fn o bM (λx hx=>Li hx hS.fix) (λx _=> .inl hS.ld) hfv (λ_=>rfl) (λ_=>rfl) (λ_=>rfl) (λ_=>rfl);have e2:∀n,(w.re W.tape W.drawn).heap.size≤n→aa P (sg S S.d n) (NN F (sg S S.d n)) (Ξ (fx T) o) (Ξ (fx T) o):=λn hn=>by
  have hT':∀t,rv (sg S S.d n) (T t)=T t:=λt=>eJ (dO hn).1 (dO hn).2 _ (hT t);exact nE (lW hC n) (vd (zaj hS.wr.big.g hn)) hC.SF hC.fn o bM (λx hx=>(GJ (zaj hS.wr.big.g hn) hT' hx).symm) (λx hx=> .inr (GJ (zaj hS.wr.big.g hn) hT' hx)) hfv (λ_=>rfl) (λ_=>rfl) (λ_=>rfl) (λ_=>rfl)
 cases hrt:(Ξ (fx T) o).runT P (w.re W.tape W.drawn) #[]with
 |mk r es=>
  have q1:=zal Prod.fst hrt;simp at q1;rw[hrun]at q1;subst q1;have hW:WR P S ρ (w.re W.tape W.drawn) W:=⟨hS.wr.live,hS.wr.ok,hS.wr.dead,hS.wr.closed,hS.wr.next,hS.wr.low,hS.wr.big⟩;obtain⟨Pd,W',es',r1,r2,r3,r4,r5,r6⟩:=dn hp (λo=> .inl hS.ld) _ _ _ (λn=>NN F (sg S S.d n)) (w.re W.tape W.drawn) W #[] #[] _ _ _ e1 e2 hW (λj _ q=>rfl) hrt;exact⟨Pd,W',es',r1,r2,r3 _ (zab _),⟨r4,hS.inj,hS.ld,hS.f,by have h1:=r5.size;have h2:=r5.gw;have:=hS.px;omega⟩,r5,λe he=>(r6 e he).resolve_left (by simp)⟩
theorem af.IY (hC:kZ P F S)(bM:jx P F S o.op=true)(ho:ops[i]?=some o)(hw:Region.wanted o (yielded ops a.tmps)=true)(hk:b.kind≠.early){T:Nat→Λ}(hT:∀t,Cl P S w (T t))(hS:iO P S ρ w W)(hown:∀x,Touch S.d ρ w x→own x)
 (hx:Ξ a.eval o=Ξ (fx λt=>rv ρ (T t)) o){Q:Λ→Γ→Prop}(hrun:∀τ d,∃v w',(Ξ (fx T) o).run P (w.re τ d)=.ok (.value v) w'∧Q v w')
 (k:∀v w' ρ' W' own',Q v w'→iO P S ρ' w' W'→(∀r,r<w.heap.size→ρ' r=ρ r)→w.heap.size≤w'.heap.size→Cl P S w' v→(∀x,Touch S.d ρ' w' x→own' x)→(∀x,own x→own' x)→
   (∀x,ro x→W'.heap[x]?=W.heap[x]?)→py ro own' W'→af P main ro Stop own' (G (b.at (a.put o.dst (rv ρ' v)) (.inRegion ops rest::kk)) cs) W')(hro:py ro own W):
 af P main ro Stop own (G (b.at a (.inRegion ops (i::rest)::kk)) cs) W:=by
 refine af.step' rfl λaG hr=>?_;have hS1:=hS.grow hr.size λx hx=>hr.block x (.inl (hown x hx));generalize sW:dT ρ w.heap.size aG.heap.size=ct at hS1;have hlt:∀r,r<w.heap.size→ct r=ρ r:=λr h=>by rw[←sW];exact aV h
 have hf:∀x,ct.f x=ρ.f x:=λx=>by rw[←sW];rfl
 obtain⟨v,w',hv,hq⟩:=hrun aG.tape aG.drawn;obtain⟨Pd,W',es,r1,r2,r3,r4,r5,r6⟩:=GK hC bM hT hS1 hv;have B2:Pd=.value (rv ct v):=r2;subst B2;have gz:Cl P S w' v:=by
  have:Next.value v=.value (rv (sg S S.d w'.heap.size) v):=r3;exact(Next.value.inj this).symm
 have Ww:(λt=>rv ρ (T t))=λt=>rv ct (T t):=funext λt=>((hT t).agree hlt hf).symm;have Lj:(Ξ a.eval o).run P aG=.ok (.value (rv ct v)) W':=by
  rw[hx,Ww];have:=zal Prod.fst r1;simpa using this
 have ia:(Ξ a.eval o).events P aG #[]=es:=by
  rw[hx,Ww];have:=zal Prod.snd r1;simpa using this
 have hsz:=r5.size;have EW:=r5.gw;simp only[Γ.re]at hsz EW;have lg:∀x,Touch S.d ct w' x→Grow own aG W' x:=by
  rintro x ⟨r,h1,h2,rfl⟩;rcases zar r w.heap.size with h3|h3
  ·exact .inl (hown _ ⟨r,h1,h3,by rw[hlt r h3]⟩)
  ·right;rw[hS1.wr.next r h3];omega
 have Wx:∀x,x<aG.heap.size→¬own x→W'.heap[x]?=aG.heap[x]?:=λx h1 h2=>r5.frame x h1 λht=>by
  rcases lg x ht with h|⟨h,_⟩
  ·exact h2 h
  ·omega
 refine⟨_,W',_,stepG_value ho hw hk Lj,⟨r5.tape,r5.os,r5.output,by omega,Wx,λe he=>?_⟩,k v w' ct W' _ hq r4 hlt EW gz lg (λx hx=> .inl hx) (λx hx=>?_) (hro.grow hr.size (by omega))⟩
 ·unfold listed at he;rw[ia]at he;have:=oM (ro:=ro) (r6 e (mem_seen he));exact this.mono lg
 ·have h1:=hro.lt x (.inr hx);have h2:=hr.size;rw[Wx x (by omega) (hro.ap x hx),hr.block x (.inr hx)]
theorem af.opn (hC:kZ P F S)(bM:jx P F S o.op=true)(ho:ops[i]?=some o)(hw:Region.wanted o (yielded ops a.tmps)=true)(hk:b.kind≠.early){T:Nat→Λ}(hT:∀t,Cl P S w (T t))(hS:iO P S ρ w W)(hown:∀x,Touch S.d ρ w x→own x)
 (hx:Ξ a.eval o=Ξ (fx λt=>rv ρ (T t)) o){Q:Γ→Prop}(hrun:∀τ d,∃w',(Ξ (fx T) o).run P (w.re τ d)=.ok .skip w'∧Q w')
 (k:∀w' ρ' W' own',Q w'→iO P S ρ' w' W'→(∀r,r<w.heap.size→ρ' r=ρ r)→w.heap.size≤w'.heap.size→(∀x,Touch S.d ρ' w' x→own' x)→(∀x,own x→own' x)→
   (∀x,ro x→W'.heap[x]?=W.heap[x]?)→py ro own' W'→af P main ro Stop own' (G (b.at (a.put o.dst undef) (.inRegion ops rest::kk)) cs) W')(hro:py ro own W):
 af P main ro Stop own (G (b.at a (.inRegion ops (i::rest)::kk)) cs) W:=by
 refine af.step' rfl λaG hr=>?_;have hS1:=hS.grow hr.size λx hx=>hr.block x (.inl (hown x hx));generalize sW:dT ρ w.heap.size aG.heap.size=ct at hS1;have hlt:∀r,r<w.heap.size→ct r=ρ r:=λr h=>by rw[←sW];exact aV h
 have hf:∀x,ct.f x=ρ.f x:=λx=>by rw[←sW];rfl
 obtain⟨w',hv,hq⟩:=hrun aG.tape aG.drawn;obtain⟨Pd,W',es,r1,r2,r3,r4,r5,r6⟩:=GK hC bM hT hS1 hv;have B2:Pd=.skip:=r2;subst B2;have Ww:(λt=>rv ρ (T t))=λt=>rv ct (T t):=funext λt=>((hT t).agree hlt hf).symm;have Lj:(Ξ a.eval o).run P aG=.ok .skip W':=by
  rw[hx,Ww];have:=zal Prod.fst r1;simpa using this
 have ia:(Ξ a.eval o).events P aG #[]=es:=by
  rw[hx,Ww];have:=zal Prod.snd r1;simpa using this
 have hsz:=r5.size;have EW:=r5.gw;simp only[Γ.re]at hsz EW;have lg:∀x,Touch S.d ct w' x→Grow own aG W' x:=by
  rintro x ⟨r,h1,h2,rfl⟩;rcases zar r w.heap.size with h3|h3
  ·exact .inl (hown _ ⟨r,h1,h3,by rw[hlt r h3]⟩)
  ·right;rw[hS1.wr.next r h3];omega
 have Wx:∀x,x<aG.heap.size→¬own x→W'.heap[x]?=aG.heap[x]?:=λx h1 h2=>r5.frame x h1 λht=>by
  rcases lg x ht with h|⟨h,_⟩
  ·exact h2 h
  ·omega
 refine⟨_,W',_,stepG_none ho hw hk Lj,⟨r5.tape,r5.os,r5.output,by omega,Wx,λe he=>?_⟩,k w' ct W' _ hq r4 hlt EW lg (λx hx=> .inl hx) (λx hx=>?_) (hro.grow hr.size (by omega))⟩
 ·unfold listed at he;rw[ia]at he;have:=oM (ro:=ro) (r6 e (mem_seen he));exact this.mono lg
 ·have h1:=hro.lt x (.inr hx);have h2:=hr.size;rw[Wx x (by omega) (hro.ap x hx),hr.block x (.inr hx)]
end
end Go.Ren
