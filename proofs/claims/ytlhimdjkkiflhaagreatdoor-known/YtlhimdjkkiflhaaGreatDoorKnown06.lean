import Derived.Test.YtlhimdjkkiflhaaGreatDoorKnown05
set_option maxHeartbeats 8000000
set_option maxRecDepth 100000
namespace Go.Ren
open Go Go.Conc
section
variable {P:Program}{F:FuncId→Bool}{S:Sd}
theorem Fe (hC:kO P F S){fr:Frame}{above:List Frame}{w:World}(h:PI P F S fr above w){fn:Func}{v:Value}(hr:(results fn fr.tmps).run P w=.ok v w)(τ:Tp)(d:Nat):(results fn fr.tmps).run P (w.re τ d)=.ok v (w.re τ d):=by
 cases hrun:(results fn fr.tmps).runT P w #[]with
 |mk r es=>
  have q1:=congrArg Prod.fst hrun;simp at q1;rw[hr]at q1;subst q1;have hid:ae P jA (VV jA) (results fn fr.tmps) (results fn fr.tmps):=by
   have:=iM (lB hC) fn fr.tmps (nD undef);rwa[map_id']at this
  have qK:∀n,w.heap.size≤n→ae P (sg S S.d n) (VV (sg S S.d n)) (results fn fr.tmps) (results fn fr.tmps):=λn hn=>by
   have:=iM (lC hC n) fn fr.tmps dG;have e:fr.tmps.map (rv (sg S S.d n))=fr.tmps:=bj.2 (ie hn h.cl);rwa[e]at this
  have hW:WR P S jA w (w.re τ d):=⟨h.wr.live,h.wr.ok,h.wr.dead,h.wr.closed,h.wr.next,h.wr.low,h.wr.big⟩;obtain⟨b,W1,es',r1,r2,_,r4,r5,_⟩:=cS (lB hC) Ml _ _ _ _ w (w.re τ d) #[] #[] _ _ _ hid qK hW (λj hj=>by omega) hrun;have q2:=congrArg Prod.fst r1;simp at q2;have hb:b=v:=by have:=r2;unfold VV at this;rw[nD]at this;exact this
  have hs:=r5.size;have hW1:W1=w.re τ d:=by
   refine oI (Array.ext_getElem? λi=>?_) r5.tape (by have:=r5.drawn;omega) r5.os r5.output;have hsz:W1.heap.size=(w.re τ d).heap.size:=by omega
   rcases zag i (w.re τ d).heap.size with hlt|i6
   ·by_cases ht:Touch S.d jA w i
    ·obtain⟨k,hr1,hr2,rfl⟩:=ht;have B9:=r4.live _ _ hr1 (zaq hr2);have vW:=hW.live _ _ hr1 (zaq hr2);exact B9.trans vW.symm
    ·exact r5.frame i hlt ht
   ·rw[zaY (by omega),zaY i6]
  rw[q2,hb,hW1]
theorem Mq (hC:kO P F S){f:FuncId}{args:Array Value}{w:World}{Q:Value→World→Prop}(hI:PI P F S (Frame.enter P f args .normal) [] w)
 (hc:∀τ:Tp,Calls P f args (w.re τ 0) λe w'=>∃v,e=.returned v∧Q v w')(τ:Tp):
 ∃n fr a w',mj P n (Frame.enter P f args .normal) [] (w.re τ 0) fr a w'∧(a=[]∧fr.fn=f∧∃v,Q v w'∧fr.leaving P w' (.returned v)):=by
 generalize LF:Frame.enter P f args .normal=fr0 at hI;have h:=hc τ [c0 P];rw[LF]at h;generalize hcs:[c0 P]=cs at h;obtain⟨e,w',fr,⟨v,he,hq⟩,hs,hfn,hl⟩:=h;subst he;have hs':Steps P (lone fr0 cs (w.re τ 0)) (lone fr cs w'):=hs;obtain⟨n,hn⟩:=hs';have QE:fr.mode=.returning:=hl.1;subst hcs;obtain⟨m,hm⟩:=Ao hC n fr0 [] (w.re τ 0) fr w' (hI.re τ 0) hn QE;exact⟨m,fr,[],w',hm,rfl,hfn,v,hq,hl⟩
theorem Ap (hC:kO P F S){f:FuncId}{args:Array Value}{w:World}{Q:Value→World→Prop}(hF:F f=true)(ha:∀v∈args,rv (sg S S.d w.heap.size) v=v)(hw:WR P S jA w w)(hQ:∀v w τ d,Q v w→Q v (w.re τ d))
 (hc:∀τ:Tp,Calls P f args (w.re τ 0) λe w'=>∃v,e=.returned v∧Q v w'):
 Mp P (λfr above w'=>above=[]∧fr.fn=f∧∃v,Q v w'∧fr.leaving P w' (.returned v)) (Frame.enter P f args .normal) [] w:=by
 have hI:PI P F S (Frame.enter P f args .normal) [] w:=by
  refine⟨vS hC hF args,by simp,λv hv=>?_,by simp,hw⟩;have e:bV (sg S S.d w.heap.size) (Frame.enter P f args .normal)=Frame.enter P f args .normal:=by
   rw[←gL,bj.2 ha]
  have:=congrArg Frame.tmps e;simp only[bV]at this;exact bj.1 this v hv
 have hT:=Mq hC hI hc;generalize Frame.enter P f args .normal=fr0 at hI hT ⊢;refine tV hC (λfr above w τ d hI hx=>?_) hI hT;obtain⟨e1,e2,v,hq,hl⟩:=hx;refine⟨e1,e2,v,hQ v w τ d hq,?_⟩;have hl':fr.mode=.returning∧fr.defers=[]∧fr.kind=.normal∧∃fn,P.funcs[fr.fn]?=some fn∧(results fn fr.tmps).run P w=.ok v w:=hl;obtain⟨h1,h2,h3,fn,h4,h5⟩:=hl';exact(show fr.mode=.returning∧fr.defers=[]∧fr.kind=.normal∧∃fn,P.funcs[fr.fn]?=some fn∧(results fn fr.tmps).run P (w.re τ d)=.ok v (w.re τ d) from⟨h1,h2,h3,fn,h4,Fe hC hI h5 τ d⟩)
end
structure bN (ro own:Nat→Prop) (w w₁:World):Prop where
 tape:w₁.tape=w.tape
 os:w₁.os=w.os
 output:w₁.output=w.output
 size:w.heap.size≤w₁.heap.size
 block:∀b,own b∨ro b→w₁.heap[b]?=w.heap[b]?
def Grow (own:Nat→Prop)(w w':World):Nat→Prop:=λb=>own b∨(w.heap.size≤b∧b<w'.heap.size)
def BJ (ro own:Nat→Prop)(e:Event):Prop:=
 match e.loc with
 |.cell a=>own a.block∨(ro a.block∧e.write=false)
 |.obj r=>own r∧e.sync=false
 |.mark m=>Xb m∧e.sync=true
 |_=>False
structure Ca (ro own:Nat→Prop) (w w':World) (es:Array Event):Prop where
 tape:w'.tape=w.tape
 os:w'.os=w.os
 output:w'.output=w.output
 size:w.heap.size≤w'.heap.size
 block:∀b,b<w.heap.size→¬own b→w'.heap[b]?=w.heap[b]?
 evs:∀e∈es,BJ ro (Grow own w w') e
inductive ai (P:Program) (main:Bool) (ro:Nat→Prop) (Stop:(Nat→Prop)→Goroutine→World→Prop):(Nat→Prop)→Goroutine→World→Prop
 |stop {own:Nat→Prop} {g:Goroutine} {w:World}:(∀w₁,bN ro own w w₁→Stop own g w₁)→ai P main ro Stop own g w
 |step {own:Nat→Prop} {g:Goroutine} {w:World} (nx:World→Goroutine) (nw:World→World) (ne:World→Array Event):g.status=.running→
   (∀w₁,bN ro own w w₁→stepG P main g w₁=.go (nx w₁) (nw w₁) (ne w₁))→(∀w₁,bN ro own w w₁→Ca ro own w₁ (nw w₁) (ne w₁))→(∀w₁,bN ro own w w₁→ai P main ro Stop (Grow own w₁ (nw w₁)) (nx w₁) (nw w₁))→
   ai P main ro Stop own g w
section
variable {P:Program}{F:FuncId→Bool}{S:Sd}{main:Bool}{ro:Nat→Prop}{Stop Cb:(Nat→Prop)→Goroutine→World→Prop}
theorem bN.refl (ro own:Nat→Prop)(w:World):bN ro own w w:=⟨rfl,rfl,rfl,zaa _,λ_ _=>rfl⟩
theorem bN.trans {own:Nat→Prop}{a b c:World}(h:bN ro own a b)(k:bN ro own b c):bN ro own a c:=
 ⟨k.tape.trans h.tape,k.os.trans h.os,k.output.trans h.output,zad h.size k.size,λx hx=>(k.block x hx).trans (h.block x hx)⟩
theorem ai.step' {own:Nat→Prop}{g:Goroutine}{w:World}(hs:g.status=.running)(h:∀w₁,bN ro own w w₁→∃g' w' es,stepG P main g w₁=.go g' w' es∧Ca ro own w₁ w' es∧ai P main ro Stop (Grow own w₁ w') g' w'):ai P main ro Stop own g w:=by
 classical
 let X:World→Goroutine×World×Array Event:=λw₁=>if hr:bN ro own w w₁ then(Classical.choose (h w₁ hr),Classical.choose (Classical.choose_spec (h w₁ hr)),Classical.choose (Classical.choose_spec (Classical.choose_spec (h w₁ hr))))else default
 have hX:∀w₁,bN ro own w w₁→stepG P main g w₁=.go (X w₁).1 (X w₁).2.1 (X w₁).2.2∧Ca ro own w₁ (X w₁).2.1 (X w₁).2.2∧ai P main ro Stop (Grow own w₁ (X w₁).2.1) (X w₁).1 (X w₁).2.1:=λw₁ hr=>by
  simp only[X,dif_pos hr];exact Classical.choose_spec (Classical.choose_spec (Classical.choose_spec (h w₁ hr)))
 exact .step (λw₁=>(X w₁).1) (λw₁=>(X w₁).2.1) (λw₁=>(X w₁).2.2) hs (λw₁ hr=>(hX w₁ hr).1) (λw₁ hr=>(hX w₁ hr).2.1) (λw₁ hr=>(hX w₁ hr).2.2)
theorem ai.rely {own:Nat→Prop}{g:Goroutine}{w w₁:World}(h:ai P main ro Stop own g w)(hr:bN ro own w w₁):ai P main ro Stop own g w₁:=by
 cases h with
 |stop h=>exact .stop λw₂ h₂=>h w₂ (hr.trans h₂)
 |step nx nw ne hs h1 h2 h3=>exact .step nx nw ne hs (λw₂ h₂=>h1 w₂ (hr.trans h₂)) (λw₂ h₂=>h2 w₂ (hr.trans h₂)) (λw₂ h₂=>h3 w₂ (hr.trans h₂))
theorem ai.bind {own:Nat→Prop}{g:Goroutine}{w:World}(h:ai P main ro Stop own g w)(hq:∀own g w,Stop own g w→ai P main ro Cb own g w)(_keep:∀own g w w₁,(∀w₂,bN ro own w w₂→Stop own g w₂)→bN ro own w w₁→True:=λ_ _ _ _ _ _=>trivial):ai P main ro Cb own g w:=by
 induction h with
 | @stop own g w h=>exact hq own g w (h w (bN.refl ro own w))
 |step nx nw ne hs h1 h2 _ ih=>exact .step nx nw ne hs h1 h2 ih
structure iH (P:Program) (S:Sd) (ρ:Rn) (w W:World):Prop where
 wr:WR P S ρ w W
 inj:∀a b,ρ a=ρ b→a=b
 kH:yc P ρ
 f:∀x,ρ.f x=x
 oX:P.globals.size≤W.heap.size
def dD (ρ:Rn)(n N:Nat):Rn:={ b:=λr=>if r<n then ρ r else N+(r-n),f:=ρ.f,d:=ρ.d }
theorem aT {ρ:Rn}{n N r:Nat}(h:r<n):dD ρ n N r=ρ r:=by simp[dD,h]
theorem dM {ρ:Rn}{n N r:Nat}(h:n≤r):dD ρ n N r=N+(r-n):=by simp[dD];omega
theorem iH.fix {ρ:Rn}{w W:World}(h:iH P S ρ w W):qE S ρ:=⟨λ_ _=>h.f _,h.wr.big.fg,h.wr.big.fl⟩
theorem vO.ext {ρ:Rn}{n N:Nat}(h:vO P S ρ n):vO P S (dD ρ n N) n:=⟨h.d,h.g,h.r,h.p,h.dp,λg h1 h2=>by rw[aT (zaw h2 h.g)];exact h.fg g h1 h2,λg hg=>by rw[aT (zaw hg h.d)];exact h.fl g hg⟩
theorem iH.low {ρ:Rn}{w W:World}(h:iH P S ρ w W){r:Nat}(hr:r<w.heap.size):ρ r<W.heap.size:=by
 rcases zag r P.globals.size with hlt|i6
 ·have:=(h.kH r).2 hlt;have:=h.oX;omega
 ·exact h.wr.low r (zad h.wr.big.dp i6) hr
theorem Jp {ρ:Rn}{n N:Nat}:(∀r,sg S S.d n r=r→ρ r=dD ρ n N r)∧∀x,(sg S S.d n).f x=x→ρ.f x=(dD ρ n N).f x:=
 ⟨λ_r hr=>(aT (bH.1 hr).2).symm,λ_x _=>rfl⟩
theorem ew {ρ ρ':Rn}{n:Nat}{fr:Frame}(hc:fY P S n fr)(hb:∀r,r<n→ρ r=ρ' r)(hf:∀x,ρ.f x=ρ'.f x):bV ρ fr=bV ρ' fr:=by
 unfold bV;rw[dF λv hv=>agree (σ:=sg S S.d n) (λr hr=>hb r (bH.1 hr).2) (λx _=>hf x) v (hc v hv)]
theorem eQ {ρ ρ':Rn}{n:Nat}(hb:∀r,r<n→ρ r=ρ' r)(hf:∀x,ρ.f x=ρ'.f x):∀{above:List Frame},(∀f∈above,fY P S n f)→above.map (bV ρ)=above.map (bV ρ')
 |[],_=>rfl
 |f::l,h=>by rw[zan,zan,ew (h f (by simp)) hb hf,eQ hb hf λg hg=>h g (by simp[hg])]
theorem iH.rely {ρ:Rn}{w W aH:World}(h:iH P S ρ w W)(hr:bN ro (Touch S.d ρ w) W aH):iH P S (dD ρ w.heap.size aH.heap.size) w aH:=by
 have sM:=Jp (S:=S) (ρ:=ρ) (n:=w.heap.size) (N:=aH.heap.size);have hsz:=hr.size;refine⟨⟨λr o i6 ho=>?_,h.wr.ok,h.wr.dead,h.wr.closed,λr i6=>dM i6,λr i6 hlt=>?_,h.wr.big.ext⟩,λa b e=>?_,λr=>?_,h.f,zad h.oX hsz⟩
 ·have hlt:=fG ho;rw[aT hlt,hr.block _ (.inl ⟨r,i6,hlt,rfl⟩),h.wr.live r o i6 ho,sB sM.1 sM.2 (h.wr.closed r o i6 ho)]
 ·rw[aT hlt];have:=h.wr.low r i6 hlt;omega
 ·rcases zag a w.heap.size with ha|ha<;>rcases zag b w.heap.size with hb|hb
  ·rw[aT ha,aT hb]at e;exact h.inj a b e
  ·rw[aT ha,dM hb]at e;have:=h.low ha;omega
  ·rw[dM ha,aT hb]at e;have:=h.low hb;omega
  ·rw[dM ha,dM hb]at e;omega
 ·rcases zag r w.heap.size with ha|ha
  ·rw[aT ha];exact h.kH r
  ·rw[dM ha];have:=h.oX;have:=h.wr.big.p;constructor<;>intro<;>omega
theorem cV {ρ:Rn}{w:World}{N:Nat}:Touch S.d (dD ρ w.heap.size N) w=Touch S.d ρ w:=by
 funext b;refine propext ⟨?_,?_⟩
 ·rintro ⟨r,h1,h2,rfl⟩;exact⟨r,h1,h2,aT h2⟩
 ·rintro ⟨r,h1,h2,rfl⟩;exact⟨r,h1,h2,(aT h2).symm⟩
theorem vX {ρ:Rn}{w w1 W W1:World}(h:iH P S ρ w W)(hD:BH S.d ρ w w1 W W1):Touch S.d ρ w1=Grow (Touch S.d ρ w) W W1:=by
 funext b;have hs:=hD.size;have hg:=hD.fX;have hb:=h.wr.big.d;refine propext ⟨?_,?_⟩
 ·rintro ⟨r,h1,h2,rfl⟩;rcases zag r w.heap.size with hlt|i6
  ·exact .inl ⟨r,h1,hlt,rfl⟩
  ·right;rw[h.wr.next r i6];omega
 ·rintro (⟨r,h1,h2,rfl⟩|⟨h1,h2⟩)
  ·exact⟨r,h1,by omega,rfl⟩
  ·refine⟨w.heap.size+(b-W.heap.size),by omega,by omega,?_⟩;rw[h.wr.next _ (by omega)];omega
def QF (P:Program)(F:FuncId→Bool)(S:Sd)(Q:Frame→List Frame→World→Prop)(cs:List Frame)(jW:Rn)(n₀:Nat)(own:Nat→Prop)(g:Goroutine)(W:World):Prop:=
 ∃fr above w ρ,Q fr above w∧PI P F S fr above w∧iH P S ρ w W∧own=Touch S.d ρ w∧g=G (bV ρ fr) (above.map (bV ρ)++cs)∧n₀≤w.heap.size∧∀r,r<n₀→ρ r=jW r
theorem Aq (hC:kO P F S){Q:Frame→List Frame→World→Prop}{cs:List Frame}{fr:Frame}{above:List Frame}{w:World}(hb:Mp P Q fr above w):PI P F S fr above w→∀(jW:Rn) (n₀:Nat) (ρ:Rn) (W:World),iH P S ρ w W→n₀≤w.heap.size→(∀r,r<n₀→ρ r=jW r)→ai P main ro (QF P F S Q cs jW n₀) (Touch S.d ρ w) (G (bV ρ fr) (above.map (bV ρ)++cs)) W:=by
 induction hb with
 | @stop fr above w hq=>
   intro hI jW n₀ ρ W hS hn uX;refine .stop λaH hr=>⟨fr,above,w,_,hq,hI,hS.rely hr,cV.symm,?_,hn,λr hlt=>by rw[aT (by omega)];exact uX r hlt⟩;rw[ew hI.cl (ρ:=ρ) (ρ':=dD ρ w.heap.size aH.heap.size) (λr hlt=>(aT hlt).symm) (λ_=>rfl),eQ (ρ:=ρ) (ρ':=dD ρ w.heap.size aH.heap.size) (λr hlt=>(aT hlt).symm) (λ_=>rfl) hI.cls]
 | @step fr above w nf na nw ne h1 _ ih=>
   intro hI jW n₀ ρ W hS hn uX;refine ai.step' rfl λaH hr=>?_;have hS1:=hS.rely hr;generalize sN:dD ρ w.heap.size aH.heap.size=cd at hS1;have Ff:∀r,r<w.heap.size→cd r=ρ r:=λr hlt=>by rw[←sN];exact aT hlt
   have Jq:∀x,cd.f x=ρ.f x:=λx=>by rw[←sN];rfl
   have hrun:=h1 aH.tape aH.drawn;have hW:WR P S cd (w.re aH.tape aH.drawn) aH:=⟨hS1.wr.live,hS1.wr.ok,hS1.wr.dead,hS1.wr.closed,hS1.wr.next,hS1.wr.low,hS1.wr.big⟩;obtain⟨W2,es',q1,q2,q3,q4⟩:=Mo hC (ρ:=cd) ⟨λt i v a b=>hC.zero t i v a b _,hS1.inj⟩ hS1.kH hS1.fix (hI.re aH.tape aH.drawn) hW (λj _ q=>rfl) hrun;have hI2:=(dU hC (hI.re aH.tape aH.drawn) hrun).1;have Ui:iH P S cd (w.re aH.tape aH.drawn) aH:=⟨hW,hS1.inj,hS1.kH,hS1.f,hS1.oX⟩;have Mr:iH P S cd (nw aH.tape aH.drawn) W2:=⟨q1,hS1.inj,hS1.kH,hS1.f,by have:=hS1.oX;have h3:=q2.size;have h4:=q2.fX;omega⟩;have hgrow:Touch S.d cd (nw aH.tape aH.drawn)=Grow (Touch S.d ρ w) aH W2:=by
    rw[vX Ui q2];have:Touch S.d cd (w.re aH.tape aH.drawn)=Touch S.d ρ w:=by
     rw[←sN];exact cV
    rw[this]
   have LF:bV ρ fr=bV cd fr:=ew hI.cl (λr hlt=>(Ff r hlt).symm) (λx=>(Jq x).symm);have hab:above.map (bV ρ)=above.map (bV cd):=eQ (λr hlt=>(Ff r hlt).symm) (λx=>(Jq x).symm) hI.cls;refine⟨_,W2,_,by rw[LF,hab];exact q4 main cs,⟨q2.tape,q2.os,q2.output,by have h3:=q2.size;have h4:=q2.fX;simp only[World.re]at h3 h4;omega,λb hb X2=>?_,λe he=>?_⟩,?_⟩
   ·refine q2.frame b hb λht=>?_;rw[hgrow]at ht;rcases ht with h|⟨h,_⟩
    ·exact X2 h
    ·omega
   ·have:=q3 e (mem_seen he);unfold mX at this;unfold BJ;rw[←hgrow];cases hl:e.loc<;>simp only[hl]at this ⊢<;>first|exact .inl this|exact this
   ·rw[←hgrow];refine ih aH.tape aH.drawn hI2 jW n₀ cd W2 Mr ?_ λr hlt=>(Ff r (by omega)).trans (uX r hlt);have h4:=q2.fX;simp only[World.re]at h4;omega
end
section
variable {P:Program}{F:FuncId→Bool}{S:Sd}{main:Bool}{ro own:Nat→Prop}{Stop Cb:(Nat→Prop)→Goroutine→World→Prop}
theorem ai.mono {g:Goroutine}{w:World}(h:ai P main ro Stop own g w)(hs:∀own g w,Stop own g w→Cb own g w):ai P main ro Cb own g w:=by
 induction h with
 |stop h=>exact .stop λw₁ hr=>hs _ _ _ (h w₁ hr)
 |step nx nw ne hr h1 h2 _ ih=>exact .step nx nw ne hr h1 h2 ih
def Beside (ro:Nat→Prop)(Stop:(Nat→Prop)→Goroutine→World→Prop)(extra:Nat→Prop)(w₀:World)(Hj:Nat→Prop)(g:Goroutine)(w:World):Prop:=
 ∃own',(∀b,Hj b↔own' b∨extra b)∧Stop own' g w∧w₀.heap.size≤w.heap.size∧∀b,extra b∨ro b→¬own' b∧w.heap[b]?=w₀.heap[b]?
theorem bN.sub {own own':Nat→Prop}{w w₁:World}(h:bN ro own' w w₁)(hs:∀b,own b→own' b):bN ro own w w₁:=⟨h.tape,h.os,h.output,h.size,λb hb=>h.block b (hb.imp (hs b) id)⟩
theorem BJ.mono {own own':Nat→Prop}{e:Event}(h:BJ ro own e)(hs:∀b,own b→own' b):BJ ro own' e:=by
 unfold BJ at h ⊢;split at h
 ·exact h.imp (hs _) id
 ·exact⟨hs _ h.1,h.2⟩
 ·exact h
 ·exact h.elim
theorem ai.frame {extra:Nat→Prop}{g:Goroutine}{w:World}(h:ai P main ro Stop own g w):(∀b,extra b∨ro b→¬own b∧b<w.heap.size)→ai P main ro (Beside ro Stop extra w) (λb=>own b∨extra b) g w:=by
 induction h with
 | @stop own g w h=>
   intro hd;exact .stop λw₁ hr=>⟨own,λb=>Iff.rfl,h w₁ (hr.sub λb hb=> .inl hb),hr.size,λb hb=>⟨(hd b hb).1,hr.block b (hb.imp .inr id)⟩⟩
 | @step own g w nx nw ne hs h1 h2 h3 ih=>
   intro hd;refine .step nx nw ne hs (λw₁ hr=>h1 w₁ (hr.sub λb hb=> .inl hb)) (λw₁ hr=>?_) (λw₁ hr=>?_)
   ·have hg:=h2 w₁ (hr.sub λb hb=> .inl hb);exact⟨hg.tape,hg.os,hg.output,hg.size,λb hb hn=>hg.block b hb λx=>hn (.inl x),λe he=>(hg.evs e he).mono λb hb=>hb.imp .inl id⟩
   ·have nE:=hr.sub (own:=own) λb hb=> .inl hb;have hg:=h2 w₁ nE;have hsz:=hr.size;have Fg:=hg.size;have:=ih w₁ nE λb hb=>⟨λx=>x.elim (hd b hb).1 λy=>by have:=(hd b hb).2;omega,by have:=(hd b hb).2;omega⟩;have e:(λb=>Grow own w₁ (nw w₁) b∨extra b)=Grow (λb=>own b∨extra b) w₁ (nw w₁):=by
     funext b;unfold Grow;refine propext ⟨?_,?_⟩
     ·rintro ((x|x)|x)
      ·exact .inl (.inl x)
      ·exact .inr x
      ·exact .inl (.inr x)
     ·rintro ((x|x)|x)
      ·exact .inl (.inl x)
      ·exact .inr x
      ·exact .inl (.inr x)
    rw[e]at this;refine this.mono λHj g' w' ⟨own',k1,k2,k0,k3⟩=>⟨own',k1,k2,by omega,λb hb=>⟨(k3 b hb).1,?_⟩⟩;rw[(k3 b hb).2,hg.block b (by have:=(hd b hb).2;omega) (hd b hb).1,hr.block b (hb.imp .inr id)]
end
section
variable {P:Program}{F:FuncId→Bool}{S:Sd}{main:Bool}{ro:Nat→Prop}
class Shut (P:Program) (S:Sd):Prop where
 d:S.d=P.globals.size
 g:S.g≤P.globals.size
def Fh (P:Program)(W:World):World:={ W with heap:=Array.replicate P.globals.size ia }
theorem nH (W:World):(Fh P W).heap.size=P.globals.size:=by simp[Fh]
theorem Ms [Z:Shut P S] (W:World){W':World}{ρ:Rn}(hd:ρ.d≤P.globals.size)(hi:∀r,r<P.globals.size→ρ r=r)(hn:∀r:Nat,P.globals.size≤r→ρ r=W'.heap.size+(r-P.globals.size)):WR P S ρ (Fh P W) W':=by
 have hs:=nH (P:=P) W;have hZ:=Z.d;have hG:=Z.g;refine⟨λr o i6 ho=>?_,λr o ho=>?_,λr hr=>?_,λr o i6 ho=>?_,λr hr=>by rw[hs]at hr ⊢;exact hn r hr,λr h1 h2=>by omega,⟨by omega,by omega,by omega,by omega,by omega,λg h1 h2=>hi g (by omega),λg h1=> .inr (hi g (by omega))⟩⟩
 ·have:=fG ho;omega
 ·have hlt:=fG ho;simp only[Fh,Array.getElem?_replicate]at ho;split at ho
  ·cases ho;trivial
  ·cases ho
 ·simp only[Fh,Array.getElem?_replicate,if_pos (show r<P.globals.size by omega)]
 ·have:=fG ho;omega
theorem Hk [Shut P S] {W:World}(hb:P.globals.size≤W.heap.size):iH P S (dD jA P.globals.size W.heap.size) (Fh P W) W:=by
 refine⟨Ms W (zah _) (λr hr=>aT hr) λr hr=>dM hr,λa b e=>?_,λr=>?_,λ_=>rfl,hb⟩
 ·rcases zag a P.globals.size with ha|ha<;>rcases zag b P.globals.size with hb'|hb'
  ·rw[aT ha,aT hb']at e;exact e
  ·rw[aT ha,dM hb']at e;have:jA.b a=a:=rfl;omega
  ·rw[dM ha,aT hb']at e;have:jA.b b=b:=rfl;omega
  ·rw[dM ha,dM hb']at e;omega
 ·rcases zag r P.globals.size with ha|ha
  ·rw[aT ha];exact Iff.rfl
  ·rw[dM ha];constructor<;>intro<;>omega
theorem Jr (hC:kO P F S){fr:Frame}{w W:World}{ρ:Rn}(hI:PI P F S fr [] w)(hS:iH P S ρ w W){v:Value}(hl:fr.leaving P w (.returned v))(hv:fN v)(c:Frame)(cs:List Frame):∃es,stepG P main (G (bV ρ fr) (c::cs)) W=.go (G (c.finish v) cs) W es∧∀e∈es,mX S.d ρ w e:=by
 have hl':fr.mode=.returning∧fr.defers=[]∧fr.kind=.normal∧∃fn,P.funcs[fr.fn]?=some fn∧(results fn fr.tmps).run P w=.ok v w:=hl;obtain⟨h1,h2,h3,fn,h4,h5⟩:=hl';have hp:Plain P ρ:=⟨λt i v a b=>hC.zero t i v a b _,hS.inj⟩;cases hrun:(results fn fr.tmps).runT P w #[]with
 |mk r es=>
  have q1:=congrArg Prod.fst hrun;simp at q1;rw[h5]at q1;subst q1;have qK:∀n,w.heap.size≤n→ae P (sg S S.d n) (VV (sg S S.d n)) (results fn fr.tmps) (results fn fr.tmps):=λn hn=>by
   have:=iM (lC hC n) fn fr.tmps dG;have e:fr.tmps.map (rv (sg S S.d n))=fr.tmps:=bj.2 (ie hn hI.cl);rwa[e]at this
  obtain⟨b,W1,es',r1,r2,_,r4,r5,r6⟩:=cS hp (λo=> .inl hS.kH) _ _ _ _ w W #[] #[] _ _ _ (iM hp fn fr.tmps dG) qK hS.wr (λj hj=>by omega) hrun;have hb:b=v:=by have:=r2;unfold VV at this;rw[hv ρ]at this;exact this
  have hs:=r5.size;have hW1:W1=W:=by
   refine oI (Array.ext_getElem? λi=>?_) r5.tape (by have:=r5.drawn;omega) r5.os r5.output;rcases zag i W.heap.size with hlt|i6
   ·by_cases ht:Touch S.d ρ w i
    ·obtain⟨k,hr1,hr2,rfl⟩:=ht;have B9:=r4.live _ _ hr1 (zaq hr2);have vW:=hS.wr.live _ _ hr1 (zaq hr2);exact B9.trans vW.symm
    ·exact r5.frame i hlt ht
   ·rw[zaY (by omega),zaY i6]
  subst hb hW1;have bX:jV P F S (bV ρ fr):=⟨hI.ok.defers,hI.ok.mode,hI.ok.kind,hI.ok.round,hI.ok.todo,hI.ok.fn⟩;have hps:(aJ P (bV ρ fr) [c]).runT P W1 #[]=(.ok (c.finish b,[]) W1,es'):=by
   have hm:(bV ρ fr).mode=.returning:=h1;have hf:P.funcs[(bV ρ fr).fn]?=some fn:=h4;unfold aJ;rw[hm];simp only[hf];rw[br];have:(results fn (bV ρ fr).tmps).runT P W1 #[]=(.ok b W1,es'):=r1;rw[this];rfl
  have hst:=mi (main:=main) (cs:=cs) bX hps;refine⟨_,hst,λe he=>?_⟩;rcases r6 e (mem_seen he)with h|h
  ·simp at h
  ·exact h
theorem oJ {ρ:Rn}{w:World}{e:Event}(h:mX S.d ρ w e):BJ ro (Touch S.d ρ w) e:=by
 unfold mX at h;unfold BJ;cases hl:e.loc<;>simp only[hl]at h ⊢<;>first|exact .inl h|exact h
theorem vY [Z:Shut P S] (hC:kO P F S){f:FuncId}{args:Array Value}(hF:F f=true)(ha:∀v∈args,fN v){Qv:Value→Prop}(hv:∀v,Qv v→fN v){W:World}(hb:P.globals.size≤W.heap.size)
 (hc:∀w:World,w.heap=Array.replicate P.globals.size ia→w.os=W.os→w.output=W.output→Calls P f args w λe _=>∃v,e=.returned v∧Qv v)(c:Frame)(cs:List Frame):
 ai P main ro (λ_ g _=>∃v,Qv v∧g=G (c.finish v) cs) (λ_=>False) (G (Frame.enter P f args .normal) (c::cs)) W:=by
 have hw:WR P S jA (Fh P W) (Fh P W):=Ms W (zah _) (λ_ _=>rfl) λr hr=>by rw[nH];show r=_;omega
 have Uj:=Ap (Q:=λv _=>Qv v) hC hF (w:=Fh P W) (args:=args) (λv hv'=>ha v hv' _) hw (λ_ _ _ _ h=>h) λτ=>hc _ rfl rfl rfl;have hI:PI P F S (Frame.enter P f args .normal) [] (Fh P W):=by
  refine⟨vS hC hF args,by simp,λv hv'=>?_,by simp,hw⟩;have e:bV (sg S S.d (Fh P W).heap.size) (Frame.enter P f args .normal)=Frame.enter P f args .normal:=by
   rw[←gL,bj.2 λv hv'=>ha v hv' _]
  have:=congrArg Frame.tmps e;simp only[bV]at this;exact bj.1 this v hv'
 have hS:=Hk (S:=S) hb;have key:=Aq (main:=main) (ro:=ro) (cs:=c::cs) hC Uj hI (dD jA P.globals.size W.heap.size) 0 _ W hS (by omega) (λr hr=>by omega);have e1:bV (dD jA P.globals.size W.heap.size) (Frame.enter P f args .normal)=Frame.enter P f args .normal:=by
  rw[←gL,bj.2 λv hv'=>ha v hv' _]
 have e2:Touch S.d (dD jA P.globals.size W.heap.size) (Fh P W)=λ_=>False:=by
  funext b;refine propext ⟨?_,False.elim⟩;rintro ⟨r,h1,h2,_⟩;rw[nH]at h2;rw[Z.d]at h1;omega
 rw[e1,e2]at key;refine ai.bind key λown g W' hst=>?_;obtain⟨fr,above,w,ρ,⟨rfl,_,v,hq,hl⟩,hI',QH,rfl,rfl,_,_⟩:=hst;refine ai.step' rfl λaH hr=>?_;have hS1:=QH.rely hr;obtain⟨es,hstep,ic⟩:=Jr (main:=main) hC hI' hS1 hl (hv v hq) c cs;have LF:bV ρ fr=bV (dD ρ w.heap.size aH.heap.size) fr:=ew hI'.cl (λr hlt=>(aT hlt).symm) (λ_=>rfl);refine⟨_,aH,es,by rw[LF];exact hstep,⟨rfl,rfl,rfl,zaa _,λ_ _ _=>rfl,λe he=>?_⟩,.stop λ_ _=>⟨v,hq,rfl⟩⟩;have:=oJ (ro:=ro) (ic e he);rw[cV]at this;exact this.mono λb hb=> .inl hb
end
section
variable {P:Program}{main:Bool}{ro own:Nat→Prop}{Stop:(Nat→Prop)→Goroutine→World→Prop}{g:Goroutine}{w:World}
theorem sO (own:Nat→Prop){w w':World}(h:w'.heap.size=w.heap.size):Grow own w w'=own:=by
 funext b;unfold Grow;refine propext ⟨λx=>x.elim id λy=>by omega,.inl⟩
theorem ai.silent {g':Goroutine}(hs:g.status=.running)(h:∀w₁,stepG P main g w₁=.go g' w₁ #[])(k:ai P main ro Stop own g' w):ai P main ro Stop own g w:=
 ai.step' hs λw₁ hr=>⟨g',w₁,#[],h w₁,⟨rfl,rfl,rfl,zaa _,λ_ _ _=>rfl,by simp⟩,by rw[sO own rfl];exact k.rely hr⟩
end
section
variable {P:Program}{F:FuncId→Bool}{S:Sd}{main:Bool}{ro own:Nat→Prop}{Stop:(Nat→Prop)→Goroutine→World→Prop}{w W:World}{ρ:Rn}{b:Frame}{a:Act}{ops:Array Oper}{i:Nat}{rest:List Nat}{o:Oper}{kk:List Item}{cs:List Frame}
structure pP (ro own:Nat→Prop) (W:World):Prop where
 lt:∀b,own b∨ro b→b<W.heap.size
 ap:∀b,ro b→¬own b
theorem pP.grow {aH W':World}(h:pP ro own W)(h1:W.heap.size≤aH.heap.size)(h2:aH.heap.size≤W'.heap.size):pP ro (Grow own aH W') W':=
 ⟨λb hb=>by
   rcases hb with(hb|hb)|hb
   ·have:=h.lt b (.inl hb);omega
   ·exact hb.2
   ·have:=h.lt b (.inr hb);omega,λb hb hg=>by
   rcases hg with hg|hg
   ·exact h.ap b hb hg
   ·have:=h.lt b (.inr hb);omega⟩
theorem ai.bounded {g:Goroutine}(h:ai P main ro Stop own g w):(∀b,own b→b<w.heap.size)→ai P main ro (λown g w=>Stop own g w∧∀b,own b→b<w.heap.size) own g w:=by
 induction h with
 | @stop own g w h=>intro hb;exact .stop λw₁ hr=>⟨h w₁ hr,λb hx=>by have:=hb b hx;have:=hr.size;omega⟩
 | @step own g w nx nw ne hs h1 h2 _ ih=>
   intro hb;refine .step nx nw ne hs h1 h2 λw₁ hr=>ih w₁ hr λb hx=>?_;have h3:=(h2 w₁ hr).size;have h4:=hr.size;rcases hx with hx|hx
   ·have:=hb b hx;omega
   ·exact hx.2
theorem ai.call' [Shut P S] (hC:kO P F S){f:FuncId}{args:Array Value}(hF:F f=true)(ha:∀v∈args,fN v){Qv:Value→Prop}(hv:∀v,Qv v→fN v){c:Frame}{g:Goroutine}
 (hs:g.status=.running)(hst:∀w₁,stepG P main g w₁=.go (G (Frame.enter P f args .normal) (c::cs)) w₁ #[])(hb:P.globals.size≤w.heap.size)(hH:pP ro own w)
 (hc:∀w':World,w'.heap=Array.replicate P.globals.size ia→Calls P f args w' λe _=>∃v,e=.returned v∧Qv v)
 (k:∀v w' own',Qv v→(∀b,own b→own' b)→pP ro own' w'→(∀b,own b∨ro b→w'.heap[b]?=w.heap[b]?)→w.heap.size≤w'.heap.size→ai P main ro Stop own' (G (c.finish v) cs) w'):ai P main ro Stop own g w:=by
 refine ai.silent hs hst ?_;have h1:=((vY (main:=main) (ro:=ro) hC hF ha hv hb (λw' e _ _=>hc w' e) c cs).bounded (λ_ h=>h.elim)).frame (extra:=own) (λb hb=>⟨λh=>h,hH.lt b hb⟩);have e:(λb=>False∨own b)=own:=by funext b;exact propext ⟨λh=>h.elim False.elim id,.inr⟩
 rw[e]at h1;refine ai.bind h1 λHj g' w' ⟨own',k1,⟨⟨v,hq,hg⟩,k4⟩,k2,k3⟩=>?_;subst hg;refine k v w' Hj hq (λb hb=>(k1 b).2 (.inr hb)) ⟨λb hb=>?_,λb hr hb=>?_⟩ (λb hb=>(k3 b hb).2) k2
 ·rcases hb with hb|hb
  ·rcases(k1 b).1 hb with h|h
   ·exact k4 b h
   ·have:=hH.lt b (.inl h);omega
  ·have:=hH.lt b (.inr hb);omega
 ·rcases(k1 b).1 hb with h|h
  ·exact(k3 b (.inr hr)).1 h
  ·exact hH.ap b hr h
theorem iH.grow {aH:World}(h:iH P S ρ w W)(hs:W.heap.size≤aH.heap.size)(hb:∀b,Touch S.d ρ w b→aH.heap[b]?=W.heap[b]?):iH P S (dD ρ w.heap.size aH.heap.size) w aH:=by
 have h':iH P S ρ w { W with tape:=aH.tape,os:=aH.os,output:=aH.output }:=⟨⟨h.wr.live,h.wr.ok,h.wr.dead,h.wr.closed,h.wr.next,h.wr.low,h.wr.big⟩,h.inj,h.kH,h.f,h.oX⟩;exact h'.rely (ro:=λ_=>False) ⟨rfl,rfl,rfl,hs,λb hx=>hx.elim (hb b) False.elim⟩
def Cl (_P:Program)(S:Sd)(w:World)(v:Value):Prop:=rv (sg S S.d w.heap.size) v=v
theorem Cl.agree {ρ':Rn}{v:Value}(h:Cl P S w v)(hb:∀r,r<w.heap.size→ρ' r=ρ r)(hf:∀x,ρ'.f x=ρ.f x):rv ρ' v=rv ρ v:=
 Go.Ren.agree (σ:=sg S S.d w.heap.size) (λr hr=>hb r (bH.1 hr).2) (λx _=>hf x) v h
theorem Cl.mono {w':World}{v:Value}(h:Cl P S w v)(hs:w.heap.size≤w'.heap.size):Cl P S w' v:=eu (dv hs).1 (dv hs).2 v h
def fh (f:Nat→Value):Operand→Value
 |.tmp t=>f t
 |.const v=>v
 |.global g=> .pointer (some ⟨g,0,none⟩)
 |.func f=> .func (.func f) #[] #[]
theorem Mt {T:Nat→Value}{x:Operand}(hx:fV S x=true)(hf:qE S ρ):fh (λt=>rv ρ (T t)) x=rv ρ (fh T x):=by
 cases x with
 |tmp t=>rfl
 |const v=>simp only[fV]at hx;exact(gK hx ρ).symm
 |global g=>
  simp only[fV,zae,decide_eq_true_eq]at hx;simp[fh,rv,ra,hf.g g hx.1 hx.2]
 |func f=>simp[fh,rv,hf.f f hx]
theorem Hl {T:Nat→Value}{n:Nat}(hn:S.g≤n)(hT:∀t,rv (sg S S.d n) (T t)=T t){x:Operand}(hx:fV S x=true):rv (sg S S.d n) (fh T x)=fh T x:=by
 cases x with
 |tmp t=>exact hT t
 |const v=>simp only[fV]at hx;exact gK hx _
 |global g=>
  simp only[fV,zae,decide_eq_true_eq]at hx;have:(sg S S.d n) g=g:=bH.2 ⟨hx.1,by omega⟩;simp[fh,rv,ra,this]
 |func f=>
  simp only[fh,rv];have:(sg S S.d n).f (.func f)=.func f:=gY.2 ⟨f,rfl,hx⟩;simp[this]
theorem Hm (hC:kO P F S)(bX:fw P F S o.op=true){T:Nat→Value}(hT:∀t,Cl P S w (T t))(hS:iH P S ρ w W){nx:Next}{w':World}
 (hrun:(execOp (fh T) o).run P (w.re W.tape W.drawn)=.ok nx w'):
 ∃QA W' es,(execOp (fh λt=>rv ρ (T t)) o).runT P W #[]=(.ok QA W',es)∧NN F ρ nx QA∧NN F (sg S S.d w'.heap.size) nx nx∧iH P S ρ w' W'∧BH S.d ρ (w.re W.tape W.drawn) w' W W'∧∀e∈es,mX S.d ρ w' e:=by
 have hp:Plain P ρ:=⟨λt i v a b=>hC.zero t i v a b _,hS.inj⟩;have hfv:∀x,fV S x=true→FV S ((fh T) x):=λx hx=>iN (Hl (n:=w.heap.size) hS.wr.big.g hT hx);have e1:=nB (P:=P) (F:=F) (S:=S) (ρ:=ρ) (ev:=(fh T)) (ev':=(fh λt=>rv ρ (T t))) hp hS.fix hC.SF hC.fn o bX (λx hx=>Mt hx hS.fix) (λx _=> .inl hS.kH) hfv (λ_=>rfl) (λ_=>rfl) (λ_=>rfl) (λ_=>rfl);have e2:∀n,(w.re W.tape W.drawn).heap.size≤n→ae P (sg S S.d n) (NN F (sg S S.d n)) (execOp (fh T) o) (execOp (fh T) o):=λn hn=>by
  have Y2:∀t,rv (sg S S.d n) (T t)=T t:=λt=>eu (dv hn).1 (dv hn).2 _ (hT t);exact nB (lC hC n) (uT (zad hS.wr.big.g hn)) hC.SF hC.fn o bX (λx hx=>(Hl (zad hS.wr.big.g hn) Y2 hx).symm) (λx hx=> .inr (Hl (zad hS.wr.big.g hn) Y2 hx)) hfv (λ_=>rfl) (λ_=>rfl) (λ_=>rfl) (λ_=>rfl)
 cases hrt:(execOp (fh T) o).runT P (w.re W.tape W.drawn) #[]with
 |mk r es=>
  have q1:=congrArg Prod.fst hrt;simp at q1;rw[hrun]at q1;subst q1;have hW:WR P S ρ (w.re W.tape W.drawn) W:=⟨hS.wr.live,hS.wr.ok,hS.wr.dead,hS.wr.closed,hS.wr.next,hS.wr.low,hS.wr.big⟩;obtain⟨QA,W',es',r1,r2,r3,r4,r5,r6⟩:=cS hp (λo=> .inl hS.kH) _ _ _ (λn=>NN F (sg S S.d n)) (w.re W.tape W.drawn) W #[] #[] _ _ _ e1 e2 hW (λj _ q=>rfl) hrt;exact⟨QA,W',es',r1,r2,r3 _ (zaa _),⟨r4,hS.inj,hS.kH,hS.f,by have h1:=r5.size;have h2:=r5.fX;have:=hS.oX;omega⟩,r5,λe he=>(r6 e he).resolve_left (by simp)⟩
theorem ai.Hn (hC:kO P F S)(bX:fw P F S o.op=true)(ho:ops[i]?=some o)(hw:Region.wanted o (yielded ops a.tmps)=true)(hk:b.kind≠.early){T:Nat→Value}(hT:∀t,Cl P S w (T t))(hS:iH P S ρ w W)(hown:∀x,Touch S.d ρ w x→own x)
 (hx:execOp a.eval o=execOp (fh λt=>rv ρ (T t)) o){Q:Value→World→Prop}(hrun:∀τ d,∃v w',(execOp (fh T) o).run P (w.re τ d)=.ok (.value v) w'∧Q v w')
 (k:∀v w' ρ' W' own',Q v w'→iH P S ρ' w' W'→(∀r,r<w.heap.size→ρ' r=ρ r)→w.heap.size≤w'.heap.size→Cl P S w' v→(∀x,Touch S.d ρ' w' x→own' x)→(∀x,own x→own' x)→
   (∀x,ro x→W'.heap[x]?=W.heap[x]?)→pP ro own' W'→ai P main ro Stop own' (G (b.at (a.put o.dst (rv ρ' v)) (.inRegion ops rest::kk)) cs) W')(hro:pP ro own W):
 ai P main ro Stop own (G (b.at a (.inRegion ops (i::rest)::kk)) cs) W:=by
 refine ai.step' rfl λaH hr=>?_;have hS1:=hS.grow hr.size λx hx=>hr.block x (.inl (hown x hx));generalize sN:dD ρ w.heap.size aH.heap.size=cd at hS1;have hlt:∀r,r<w.heap.size→cd r=ρ r:=λr h=>by rw[←sN];exact aT h
 have hf:∀x,cd.f x=ρ.f x:=λx=>by rw[←sN];rfl
 obtain⟨v,w',hv,hq⟩:=hrun aH.tape aH.drawn;obtain⟨QA,W',es,r1,r2,r3,r4,r5,r6⟩:=Hm hC bX hT hS1 hv;have yh:QA=.value (rv cd v):=r2;subst yh;have fe:Cl P S w' v:=by
  have:Next.value v=.value (rv (sg S S.d w'.heap.size) v):=r3;exact(Next.value.inj this).symm
 have X3:(λt=>rv ρ (T t))=λt=>rv cd (T t):=funext λt=>((hT t).agree hlt hf).symm;have Mu:(execOp a.eval o).run P aH=.ok (.value (rv cd v)) W':=by
  rw[hx,X3];have:=congrArg Prod.fst r1;simpa using this
 have ic:(execOp a.eval o).events P aH #[]=es:=by
  rw[hx,X3];have:=congrArg Prod.snd r1;simpa using this
 have hsz:=r5.size;have Fi:=r5.fX;simp only[World.re]at hsz Fi;have gU:∀x,Touch S.d cd w' x→Grow own aH W' x:=by
  rintro x ⟨r,h1,h2,rfl⟩;rcases zag r w.heap.size with h3|h3
  ·exact .inl (hown _ ⟨r,h1,h3,by rw[hlt r h3]⟩)
  ·right;rw[hS1.wr.next r h3];omega
 have X4:∀x,x<aH.heap.size→¬own x→W'.heap[x]?=aH.heap[x]?:=λx h1 h2=>r5.frame x h1 λht=>by
  rcases gU x ht with h|⟨h,_⟩
  ·exact h2 h
  ·omega
 refine⟨_,W',_,stepG_value ho hw hk Mu,⟨r5.tape,r5.os,r5.output,by omega,X4,λe he=>?_⟩,k v w' cd W' _ hq r4 hlt Fi fe gU (λx hx=> .inl hx) (λx hx=>?_) (hro.grow hr.size (by omega))⟩
 ·unfold listed at he;rw[ic]at he;have:=oJ (ro:=ro) (r6 e (mem_seen he));exact this.mono gU
 ·have h1:=hro.lt x (.inr hx);have h2:=hr.size;rw[X4 x (by omega) (hro.ap x hx),hr.block x (.inr hx)]
theorem ai.opn (hC:kO P F S)(bX:fw P F S o.op=true)(ho:ops[i]?=some o)(hw:Region.wanted o (yielded ops a.tmps)=true)(hk:b.kind≠.early){T:Nat→Value}(hT:∀t,Cl P S w (T t))(hS:iH P S ρ w W)(hown:∀x,Touch S.d ρ w x→own x)
 (hx:execOp a.eval o=execOp (fh λt=>rv ρ (T t)) o){Q:World→Prop}(hrun:∀τ d,∃w',(execOp (fh T) o).run P (w.re τ d)=.ok .skip w'∧Q w')
 (k:∀w' ρ' W' own',Q w'→iH P S ρ' w' W'→(∀r,r<w.heap.size→ρ' r=ρ r)→w.heap.size≤w'.heap.size→(∀x,Touch S.d ρ' w' x→own' x)→(∀x,own x→own' x)→
   (∀x,ro x→W'.heap[x]?=W.heap[x]?)→pP ro own' W'→ai P main ro Stop own' (G (b.at (a.put o.dst undef) (.inRegion ops rest::kk)) cs) W')(hro:pP ro own W):
 ai P main ro Stop own (G (b.at a (.inRegion ops (i::rest)::kk)) cs) W:=by
 refine ai.step' rfl λaH hr=>?_;have hS1:=hS.grow hr.size λx hx=>hr.block x (.inl (hown x hx));generalize sN:dD ρ w.heap.size aH.heap.size=cd at hS1;have hlt:∀r,r<w.heap.size→cd r=ρ r:=λr h=>by rw[←sN];exact aT h
 have hf:∀x,cd.f x=ρ.f x:=λx=>by rw[←sN];rfl
 obtain⟨w',hv,hq⟩:=hrun aH.tape aH.drawn;obtain⟨QA,W',es,r1,r2,r3,r4,r5,r6⟩:=Hm hC bX hT hS1 hv;have yh:QA=.skip:=r2;subst yh;have X3:(λt=>rv ρ (T t))=λt=>rv cd (T t):=funext λt=>((hT t).agree hlt hf).symm;have Mu:(execOp a.eval o).run P aH=.ok .skip W':=by
  rw[hx,X3];have:=congrArg Prod.fst r1;simpa using this
 have ic:(execOp a.eval o).events P aH #[]=es:=by
  rw[hx,X3];have:=congrArg Prod.snd r1;simpa using this
 have hsz:=r5.size;have Fi:=r5.fX;simp only[World.re]at hsz Fi;have gU:∀x,Touch S.d cd w' x→Grow own aH W' x:=by
  rintro x ⟨r,h1,h2,rfl⟩;rcases zag r w.heap.size with h3|h3
  ·exact .inl (hown _ ⟨r,h1,h3,by rw[hlt r h3]⟩)
  ·right;rw[hS1.wr.next r h3];omega
 have X4:∀x,x<aH.heap.size→¬own x→W'.heap[x]?=aH.heap[x]?:=λx h1 h2=>r5.frame x h1 λht=>by
  rcases gU x ht with h|⟨h,_⟩
  ·exact h2 h
  ·omega
 refine⟨_,W',_,stepG_none ho hw hk Mu,⟨r5.tape,r5.os,r5.output,by omega,X4,λe he=>?_⟩,k w' cd W' _ hq r4 hlt Fi gU (λx hx=> .inl hx) (λx hx=>?_) (hro.grow hr.size (by omega))⟩
 ·unfold listed at he;rw[ic]at he;have:=oJ (ro:=ro) (r6 e (mem_seen he));exact this.mono gU
 ·have h1:=hro.lt x (.inr hx);have h2:=hr.size;rw[X4 x (by omega) (hro.ap x hx),hr.block x (.inr hx)]
end
end Go.Ren
