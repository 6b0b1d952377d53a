import Derived.Test.YtlhimdjkkiflhaaGreatReads03
set_option maxHeartbeats 8000000
set_option maxRecDepth 100000
open Go.Sem renaming runT→Γ
open Go renaming World→Δ,Frame→Θ,Program→Λ,Event→Ξ,yielded→Φ,exitTo→Ω,Value→ζ,undef→η,FuncId→θ
namespace Go.Ren
open Go
def ir:Obj:= .cells #[] 0 (0,0)
structure vV (P:Λ) (S:Sd) (ρ:Rn) (n:Nat):Prop where
 d:S.d≤n
 g:S.g≤n
 r:ρ.d≤S.d
 p:P.globals.size≤n
 dp:S.d≤P.globals.size
 fg:∀g,S.d≤g→g<S.g→ρ g=g
 fl:∀g,g<S.d→g<ρ.d∨ρ g=g
theorem vV.mono {P:Λ}{S:Sd}{ρ:Rn}{n m:Nat}(h:vV P S ρ n)(hn:n≤m):vV P S ρ m:=⟨zaj h.d hn,zaj h.g hn,h.r,zaj h.p hn,h.dp,h.fg,h.fl⟩
structure WR (P:Λ) (S:Sd) (ρ:Rn) (w W:Δ):Prop where
 live:∀(r:Nat) (o:Obj),S.d≤r→w.heap[r]?=some o→W.heap[ρ r]?=some (ro ρ o)
 ok:∀(r:Nat) (o:Obj),w.heap[r]?=some o→qC o
 dead:∀(r:Nat),r<S.d→w.heap[r]?=some ir
 closed:∀(r:Nat) (o:Obj),S.d≤r→w.heap[r]?=some o→ro (sg S S.d w.heap.size) o=o
 next:∀r:Nat,w.heap.size≤r→ρ r=W.heap.size+(r-w.heap.size)
 low:∀r:Nat,S.d≤r→r<w.heap.size→ρ r<W.heap.size
 big:vV P S ρ w.heap.size
def Touch (b0:Nat)(ρ:Rn)(w:Δ)(b:Nat):Prop:=∃r,b0≤r∧r<w.heap.size∧b=ρ r
def nh (b0:Nat)(ρ:Rn)(w:Δ)(e:Ξ):Prop:=
 match e.loc with
 |.cell a=>Touch b0 ρ w a.block
 |.obj r=>Touch b0 ρ w r∧e.sync=false
 |.mark m=>MOk m∧e.sync=true
 |_=>False
structure B1 (b0:Nat) (ρ:Rn) (w w1 W W1:Δ):Prop where
 tape:W1.tape=W.tape
 drawn:W1.drawn+w.drawn=W.drawn+w1.drawn
 os:W1.os=W.os
 output:W1.output=W.output
 size:W1.heap.size+w.heap.size=W.heap.size+w1.heap.size
 frame:∀b:Nat,b<W.heap.size→¬Touch b0 ρ w1 b→W1.heap[b]?=W.heap[b]?
 gw:w.heap.size≤w1.heap.size
 Cn:w1.tape=w.tape
 Wk:w1.os=w.os
 K5:w1.output=w.output
 sQ:w.drawn≤w1.drawn
section
variable {P:Λ}{S:Sd}{b0:Nat}{ρ:Rn}{w W:Δ}
theorem B1.refl (w W:Δ):B1 b0 ρ w w W W:=⟨rfl,rfl,rfl,rfl,rfl,λ_ _ _=>rfl,zab _,rfl,rfl,rfl,zab _⟩
theorem Touch.mono {w w1:Δ}{b:Nat}(h:Touch b0 ρ w b)(hg:w.heap.size≤w1.heap.size):Touch b0 ρ w1 b:=by
 obtain⟨r,hl,hr,rfl⟩:=h;exact⟨r,hl,by omega,rfl⟩
theorem nh.mono {w w1:Δ}{e:Ξ}(h:nh b0 ρ w e)(hg:w.heap.size≤w1.heap.size):nh b0 ρ w1 e:=by
 unfold nh at h ⊢;split<;>simp_all
 ·exact h.mono hg
 ·exact h.1.mono hg
theorem B1.trans {w w1 w2 W W1 W2:Δ}(h:B1 b0 ρ w w1 W W1)(h2:B1 b0 ρ w1 w2 W1 W2):B1 b0 ρ w w2 W W2:=by
 refine⟨h2.tape.trans h.tape,by have:=h.drawn;have:=h2.drawn;omega,h2.os.trans h.os,h2.output.trans h.output,by have:=h.size;have:=h2.size;omega,λb hb hn=>?_,zaj h.gw h2.gw,h2.Cn.trans h.Cn,h2.Wk.trans h.Wk,h2.K5.trans h.K5,zaj h.sQ h2.sQ⟩;rw[h2.frame b (by have:=h.size;have:=h.gw;omega) hn];exact h.frame b hb λhx=>hn (hx.mono h2.gw)
def Vg (H:Array Obj)(b:Nat)(f:Obj→Obj)(H':Array Obj):Prop:=H'.size=H.size∧∀j:Nat,H'[j]?=if j=b then(H[j]?).map f else H[j]?
theorem fH (H:Array Obj)(b:Nat)(f:Obj→Obj):Vg H b f (H.modify b f):=by
 refine⟨by simp,λj=>?_⟩;rw[Array.getElem?_modify];by_cases h:b=j
 ·subst h;simp
 ·rw[zaa h,zaa (λe=>h (Eq.symm e))]
theorem gI (H:Array Obj)(b:Nat)(o:Obj):Vg H b (λ_=>o) (H.setIfInBounds b o):=by
 refine⟨by simp,λj=>?_⟩;rw[zct];by_cases h:b=j
 ·subst h;by_cases hb:b<H.size
  ·simp[hb]
  ·simp[hb]
 ·rw[zaa h,zaa (λe=>h (Eq.symm e))]
theorem fI {H:Array Obj}{r:Nat}{o:Obj}(h:H[r]?=some o):r<H.size:=(zag.1 h).1
theorem WR.upd (hi:∀a b,ρ a=ρ b→a=b)(h:WR P S ρ w W){b:Nat}{f g:Obj→Obj}{H H':Array Obj}(hb:S.d≤b)
 (c1:Vg w.heap b f H)(c2:Vg W.heap (ρ b) g H')
 (hfg:∀o,w.heap[b]?=some o→qC (f o)∧g (ro ρ o)=ro ρ (f o)∧(ro (sg S S.d w.heap.size) o=o→ro (sg S S.d w.heap.size) (f o)=f o)):
 WR P S ρ { w with heap:=H } { W with heap:=H' }:=by
 refine⟨λr o hl ho=>?_,λr o ho=>?_,λr hr=>?_,λr o hl ho=>?_,λr hr=>?_,λr hl hr=>?_,?_⟩
 ·have h1:=c1.2 r;have h2:=c2.2 (ρ r);simp only at ho ⊢;rw[h1]at ho;rw[h2];by_cases e:r=b
  ·subst e;simp only[if_true]at ho ⊢;obtain⟨o0,h0,rfl⟩:=zav.1 ho;rw[h.live r o0 hl h0];simp[(hfg o0 h0).2.1]
  ·have:ρ r≠ρ b:=λx=>e (hi _ _ x);simp only[e,this,if_false]at ho ⊢;exact h.live r o hl ho
 ·have h1:=c1.2 r;simp only at ho;rw[h1]at ho;by_cases e:r=b
  ·subst e;simp only[if_true]at ho;obtain⟨o0,h0,rfl⟩:=zav.1 ho;exact(hfg o0 h0).1
  ·simp only[e,if_false]at ho;exact h.ok r o ho
 ·have h1:=c1.2 r;simp only;rw[h1,zaa (by omega)];exact h.dead r hr
 ·have h1:=c1.2 r;simp only[c1.1]at ho ⊢;rw[h1]at ho;by_cases e:r=b
  ·subst e;simp only[if_true]at ho;obtain⟨o0,h0,rfl⟩:=zav.1 ho;exact(hfg o0 h0).2.2 (h.closed r o0 hl h0)
  ·simp only[e,if_false]at ho;exact h.closed r o hl ho
 ·simp only at hr ⊢;rw[c2.1];rw[c1.1]at hr ⊢;exact h.next r hr
 ·simp only at hr ⊢;rw[c2.1];rw[c1.1]at hr;exact h.low r hl hr
 ·simp only[c1.1];exact h.big
theorem WR.push (h:WR P S ρ w W){o:Obj}(ho:qC o)(hs:ro (sg S S.d w.heap.size) o=o):WR P S ρ { w with heap:=w.heap.push o } { W with heap:=W.heap.push (ro ρ o) }:=by
 have vW:ρ w.heap.size=W.heap.size:=by have:=h.next w.heap.size (zab _);omega
 have hm:=dO (S:=S) (b0:=S.d) (Nat.le_succ w.heap.size);have vX:=h.big.d;refine⟨λr o1 hr h1=>?_,λr o1 h1=>?_,λr hr=>?_,λr o1 hr h1=>?_,λr hr=>?_,λr hl hr=>?_,?_⟩
 ·simp only[zbl]at h1 ⊢;by_cases e:r=w.heap.size
  ·subst e;simp only[if_true,zaG]at h1;subst h1;simp[vW]
  ·simp only[e,if_false]at h1;have hlt:=fI h1;have:=h.low r hr hlt;rw[zaa (by omega)];exact h.live r o1 hr h1
 ·simp only[zbl]at h1;by_cases e:r=w.heap.size
  ·subst e;simp only[if_true,zaG]at h1;subst h1;exact ho
  ·simp only[e,if_false]at h1;exact h.ok r o1 h1
 ·simp only[zbl];rw[zaa (by omega)];exact h.dead r hr
 ·simp only[zbl,zcf]at h1 ⊢;by_cases e:r=w.heap.size
  ·subst e;simp only[if_true,zaG]at h1;subst h1;exact oI hm.1 hm.2 hs
  ·simp only[e,if_false]at h1;exact oI hm.1 hm.2 (h.closed r o1 hr h1)
 ·simp only[zcf]at hr ⊢;have:=h.next r (by omega);omega
 ·simp only[zcf]at hr ⊢;by_cases e:r=w.heap.size
  ·subst e;omega
  ·have:=h.low r hl (by omega);omega
 ·simp only[zcf];exact h.big.mono (Nat.le_succ _)
theorem WR.Live (h:WR P S ρ w W):Live S.d ρ w W:=⟨h.live⟩
theorem WR.drew (h:WR P S ρ w W)(d D:Nat):WR P S ρ { w with drawn:=d } { W with drawn:=D }:=⟨h.live,h.ok,h.dead,h.closed,h.next,h.low,h.big⟩
theorem ud (h:WR P S ρ w W){a:Addr}{v:ζ}(hl:S.d≤a.block)(hc:w.cell? a=some v):rv (sg S S.d w.heap.size) v=v:=by
 unfold Δ.cell? at hc;cases hh:w.heap[a.block]? with
 |none=>rw[hh]at hc;cases hc
 |some o=>
  have hs:=h.closed _ o hl hh;rw[hh]at hc;cases o with
  |cells c e f=>
   simp only at hc;split at hc
   ·cases hc
   ·simp only[ro,Obj.cells.injEq,zat]at hs;exact bt.1 hs v (zbG hc)
  |_=>cases hc
theorem zh (h:WR P S ρ w W){a:Addr}(hl:a.block<S.d):w.cell? a=none:=by
 unfold Δ.cell?
 rw[h.dead _ hl];simp[ir]
theorem vY (h:WR P S ρ w W){a:Addr}(hl:S.d≤a.block)(hs:a.block<w.heap.size):W.frozen? (ra ρ a)=w.frozen? a:=by
 unfold Δ.frozen?
 obtain⟨o,ho⟩:∃o,w.heap[a.block]?=some o:=⟨_,zaE hs⟩;have:=h.live _ o hl ho;simp only[ra,ho,this];cases o<;>rfl
theorem IQ (h:WR P S ρ w W){r:Nat}(hl:S.d≤r)(hs:r<w.heap.size):W.shape? (ρ r)=w.shape? r:=by
 unfold Δ.shape?
 obtain⟨o,ho⟩:∃o,w.heap[r]?=some o:=⟨_,zaE hs⟩;have:=h.live _ o hl ho;simp only[ho,this];cases o<;>simp[ro]
theorem WR.setCell (hi:∀a b,ρ a=ρ b→a=b)(h:WR P S ρ w W){a:Addr}{v:ζ}(hl:S.d≤a.block)(hv:rv (sg S S.d w.heap.size) v=v):WR P S ρ (w.setCell a v) (W.setCell (ra ρ a) (rv ρ v)):=by
 refine h.upd hi hl (fH _ _ _) (fH _ _ _) (λo ho=>?_);have bM:=h.ok _ o ho;cases o with
 |cells c e f=>
  refine⟨trivial,?_,λhs=>?_⟩
  ·simp only[ro,ra];by_cases hsp:a.spot.isSome=true<;>simp[hsp,Array.map_setIfInBounds]
  ·simp only[ro,Obj.cells.injEq,zat]at hs ⊢;split
   ·exact hs
   ·rw[zce,hs,hv]
 |view a t=>exact⟨trivial,rfl,λhs=>hs⟩
 |number a t=>exact⟨trivial,rfl,λhs=>hs⟩
 |map a t=>exact⟨trivial,rfl,λhs=>hs⟩
 |_=>exact bM.elim
theorem WR.freeze (hi:∀a b,ρ a=ρ b→a=b)(h:WR P S ρ w W){a:Addr}{n:Nat}(hl:S.d≤a.block):WR P S ρ (w.freeze a n) (W.freeze (ra ρ a) n):=by
 unfold Δ.freeze;by_cases hn:n=0
 ·simp only[hn,if_true];exact h
 ·simp only[hn,if_false];refine h.upd hi hl (fH _ _ _) (fH _ _ _) (λo ho=>?_);have bM:=h.ok _ o ho;cases o with
  |cells c e f=>exact⟨trivial,rfl,λhs=>by simpa[ro]using hs⟩
  |view a t=>exact⟨trivial,rfl,λhs=>hs⟩
  |number a t=>exact⟨trivial,rfl,λhs=>hs⟩
  |map a t=>exact⟨trivial,rfl,λhs=>hs⟩
  |_=>exact bM.elim
theorem ve {H H':Array Obj}{b:Nat}{f g:Obj→Obj}(hb:b0≤b)(hs:b<w.heap.size)(c1:Vg w.heap b f H)(c2:Vg W.heap (ρ b) g H'):B1 b0 ρ w { w with heap:=H } W { W with heap:=H' }:=
 ⟨rfl,rfl,rfl,rfl,by show H'.size+w.heap.size=W.heap.size+H.size;rw[c1.1,c2.1],λx hx hn=>by
   show H'[x]?=_;rw[c2.2 x,zaa];rintro rfl;exact hn ⟨b,hb,by show b<H.size;rw[c1.1];exact hs,rfl⟩,by show w.heap.size≤H.size;rw[c1.1];omega,rfl,rfl,rfl,zab _⟩
theorem sS {α:Type}:∀(x:Ask α) (w:Δ),w.drawn≤(w.ask x).2.drawn
 |.done a,w=>zab _
 |.ask what range k,w=>by
  unfold Δ.ask;dsimp only;split
  ·exact sS (k 0) w
  ·have:=sS (k ((Question.extern what range).cut (w.tape w.drawn (Question.extern what range)))) { w with drawn:=w.drawn+1 };simp only at this;omega
theorem IU (c:Sys)(w:Δ):w.drawn≤(w.sys c).2.drawn:=by
 unfold Δ.sys;have:=sS (Kernel.perform c w.os) w;split<;>rename_i h
 ·exact zab _
 ·rw[h]at this;exact this
theorem vZ {w w2:Δ}{a:Addr}{v:ζ}{b:Bool}{ts:List Addr}(h:w.farStore P a v b=.ok (w2,ts)):w2.drawn=w.drawn:=by
 unfold Δ.farStore at h;split at h
 ·split at h
  ·rename_i r hv;cases h;unfold Δ.viewStore at hv;simp only[bind,Except.bind]at hv;repeat' split at hv
   all_goals first|(cases hv;done)|(simp only[pure,Except.pure,zbE,zah]at hv;obtain⟨rfl,rfl⟩:=hv;rfl)|(simp[throw,throwThe,MonadExceptOf.throw]at hv)
  ·cases h
 ·cases h
theorem cQ {α:Type}:∀(t:Sem α) (w:Δ) (es:Array Ξ) (a:α) (w1:Δ) (di:Array Ξ),t.runT P w es=(.ok a w1,di)→w.drawn≤w1.drawn
 |.pure _,w,es,a,w1,di,h=>by simp only[Γ,zah,zam]at h;rw[h.1.2];exact zab _
 |.load m ad k,w,es,a,w1,di,h=>by
  simp only[Γ]at h;split at h
  ·exact cQ _ _ _ _ _ _ h
  ·split at h
   ·exact cQ _ _ _ _ _ _ h
   ·simp at h
 |.store m ad v k,w,es,a,w1,di,h=>by
  have key:(∃ts,k.runT P (w.setCell ad v) ts=(.ok a w1,di))∨∃w2 ts yn,w.farStore P ad v (m== .atomic)=.ok (w2,yn)∧k.runT P w2 ts=(.ok a w1,di):=by
   cases v<;>simp only[Γ]at h<;>first
    |(simp at h;done)
    |(split at h
      ·split at h
       ·simp at h
       ·exact .inl ⟨_,h⟩
      ·split at h
       ·exact .inr ⟨_,_,_,‹_›,h⟩
       ·simp at h)
  rcases key with⟨ts,h⟩|⟨w2,ts,yn,hf,h⟩
  ·have:=cQ _ _ _ _ _ _ h;exact this
  ·have:=cQ _ _ _ _ _ _ h;rw[vZ hf]at this;exact this
 |.new o k,w,es,a,w1,di,h=>by simp only[Γ]at h;have:=cQ _ _ _ _ _ _ h;exact this
 |.shape r k,w,es,a,w1,di,h=>by simp only[Γ]at h;exact cQ _ _ _ _ _ _ h
 |.freeze ad n k,w,es,a,w1,di,h=>by
  simp only[Γ]at h;have:=cQ _ _ _ _ _ _ h;have e:(w.freeze ad n).drawn=w.drawn:=by unfold Δ.freeze;split<;>rfl
  omega
 |.frozen ad k,w,es,a,w1,di,h=>by simp only[Γ]at h;exact cQ _ _ _ _ _ _ h
 |.getObj r k,w,es,a,w1,di,h=>by
  simp only[Γ]at h;split at h<;>first|(simp at h;done)|exact cQ _ _ _ _ _ _ h
 |.setObj r o k,w,es,a,w1,di,h=>by
  simp only[Γ]at h;split at h
  ·simp at h
  ·have:=cQ _ _ _ _ _ _ h;exact this
  ·simp at h
 |.choose q k,w,es,a,w1,di,h=>by
  simp only[Γ]at h;split at h
  ·exact cQ _ _ _ _ _ _ h
  ·have:=cQ _ _ _ _ _ _ h;simp only at this;omega
 |.sys c k,w,es,a,w1,di,h=>by
  simp only[Γ]at h;exact zaj (IU c w) (cQ _ _ _ _ _ _ h)
 |.program k,w,es,a,w1,di,h=>by simp only[Γ]at h;exact cQ _ _ _ _ _ _ h
 |.mark m k,w,es,a,w1,di,h=>by simp only[Γ]at h;exact cQ _ _ _ _ _ _ h
 |.halt _,w,es,a,w1,di,h=>by simp[Γ]at h
theorem vg {α:Type}{P:Λ}:∀(t:Sem α) (w:Δ) (es:Array Ξ) (a:α) (w1:Δ) (di:Array Ξ),Tm (λ_=>False) t→t.runT P w es=(.ok a w1,di)→False
 |.pure a,_,_,_,_,_,h,_=>h
 |.halt _,_,_,_,_,_,_,h=>by simp[Γ]at h
 |.program k,w,es,a,w1,di,h,hr=>by simp only[Γ]at hr;exact vg _ _ _ _ _ _ (h P) hr
 |.new o k,w,es,a,w1,di,h,hr=>by simp only[Γ]at hr;exact vg _ _ _ _ _ _ (h _) hr
 |.sys c k,w,es,a,w1,di,h,hr=>by simp only[Γ]at hr;exact vg _ _ _ _ _ _ (h _) hr
 |.load ..,_,_,_,_,_,h,_=>h.elim
 |.store ..,_,_,_,_,_,h,_=>h.elim
 |.shape ..,_,_,_,_,_,h,_=>h.elim
 |.freeze ..,_,_,_,_,_,h,_=>h.elim
 |.frozen ..,_,_,_,_,_,h,_=>h.elim
 |.getObj ..,_,_,_,_,_,h,_=>h.elim
 |.setObj ..,_,_,_,_,_,h,_=>h.elim
 |.choose ..,_,_,_,_,_,h,_=>h.elim
 |.mark ..,_,_,_,_,_,h,_=>h.elim
theorem vh {α:Type}{P:Λ}:∀(t:Sem α) (w:Δ) (es:Array Ξ) (x:Halt) (w1:Δ) (di:Array Ξ),Tm (λ_=>False) t→t.runT P w es=(.halt x w1,di)→B8 x
 |.pure a,_,_,_,_,_,h,_=>h.elim
 |.halt _,_,_,_,_,_,h,hr=>by
  simp only[Γ,zah,zbq]at hr;obtain⟨⟨rfl,_⟩,_⟩:=hr;exact h
 |.program k,w,es,a,w1,di,h,hr=>by simp only[Γ]at hr;exact vh _ _ _ _ _ _ (h P) hr
 |.new o k,w,es,a,w1,di,h,hr=>by simp only[Γ]at hr;exact vh _ _ _ _ _ _ (h _) hr
 |.sys c k,w,es,a,w1,di,h,hr=>by simp only[Γ]at hr;exact vh _ _ _ _ _ _ (h _) hr
 |.load ..,_,_,_,_,_,h,_=>h.elim
 |.store ..,_,_,_,_,_,h,_=>h.elim
 |.shape ..,_,_,_,_,_,h,_=>h.elim
 |.freeze ..,_,_,_,_,_,h,_=>h.elim
 |.frozen ..,_,_,_,_,_,h,_=>h.elim
 |.getObj ..,_,_,_,_,_,h,_=>h.elim
 |.setObj ..,_,_,_,_,_,h,_=>h.elim
 |.choose ..,_,_,_,_,_,h,_=>h.elim
 |.mark ..,_,_,_,_,_,h,_=>h.elim
def Vh (w w1 W:Δ):Prop:=∀j,j<w1.drawn-w.drawn→∀q,W.tape (W.drawn+j) q=w.tape (w.drawn+j) q
theorem dn (hp:Plain P ρ)(Gy:∀o,GO P ρ o){α β:Type}:∀(t:Sem α) (t':Sem β) (R:α→β→Prop) (Rs:Nat→α→α→Prop) (w W:Δ) (es es':Array Ξ) (a:α) (w1:Δ) (di:Array Ξ),aa P ρ R t t'→(∀n,w.heap.size≤n→aa P (sg S S.d n) (Rs n) t t)→WR P S ρ w W→Vh w w1 W→t.runT P w es=(.ok a w1,di)→∃b W1 iu,t'.runT P W es'=(.ok b W1,iu)∧R a b∧(∀n,w1.heap.size≤n→Rs n a a)∧WR P S ρ w1 W1∧B1 S.d ρ w w1 W W1∧∀e∈iu,e∈es'∨nh S.d ρ w1 e
 |.pure a0,t',R,Rs,w,W,es,es',a,w1,di,h1,h2,hW,hn,hr=>by
  obtain⟨b,rfl,hR⟩:=h1;simp only[Γ,zah,zam]at hr;obtain⟨⟨rfl,rfl⟩,rfl⟩:=hr;refine⟨b,W,es',rfl,hR,λn hn=>?_,hW,B1.refl _ _,λe he=> .inl he⟩;obtain⟨b',e,hb⟩:=h2 n hn;cases e;exact hb
 |.load m ad k,t',R,Rs,w,W,es,es',a,w1,di,h1,h2,hW,hn,hr=>by
  have hno:¬ad.block<S.d:=λhlt=>by
   simp only[Γ,zh hW hlt,Δ.farLoad,hW.dead _ hlt,ir,zah]at hr;cases hr.1
  have cw:S.d≤ad.block∧ad.block<w.heap.size:=by
   rcases h2 w.heap.size (zab _)with h|⟨k',e,_⟩
   ·exact absurd h hno
   ·simp only[Sem.load.injEq]at e;exact bO.1 (gM.1 e.2.1.symm)
  have jQ:∀v,(∀n,w.heap.size≤n→rv (sg S S.d n) v=v)→∀n,w.heap.size≤n→aa P (sg S S.d n) (Rs n) (k v) (k v):=λv hv n hn=>by
   rcases h2 n hn with h|⟨k',e,hk⟩
   ·exact absurd h hno
   ·simp only[Sem.load.injEq]at e;obtain⟨_,_,rfl⟩:=e;have:=hk v;rwa[hv n hn]at this
  rcases h1 with h|⟨k',rfl,hk⟩
  ·exact absurd (zaH h hW.big.r) hno
  simp only[Γ]at hr ⊢;cases hc:w.cell? ad with
  |some v=>
   rw[hc]at hr;simp only at hr;rw[zg hW.Live cw.1 hc];have gz:=ud hW cw.1 hc;obtain⟨b,W1,iu,r1,r2,r3,r4,r5,r6⟩:=dn hp Gy (k v) _ R Rs w W _ (es'.push ⟨.cell (ra ρ ad),false,m== .atomic⟩) a w1 di (hk v) (jQ v λn zi=>eJ (dO zi).1 (dO zi).2 v gz) hW hn hr;refine⟨b,W1,iu,r1,r2,r3,r4,r5,λe he=>?_⟩;rcases r6 e he with h|h
   ·rcases Array.mem_push.1 h with h|rfl
    ·exact .inl h
    ·exact .inr ⟨ad.block,cw.1,by have:=r5.gw;omega,rfl⟩
   ·exact .inr h
  |none=>
   rw[hc]at hr;simp only at hr;have Wl:W.cell? (ra ρ ad)=none:=by
    unfold Δ.cell? at hc ⊢;obtain⟨o,ho⟩:∃o,w.heap[ad.block]?=some o:=⟨_,zaE cw.2⟩;have hl:=hW.live _ o cw.1 ho;simp only[ra,ho,hl]at hc ⊢;cases o<;>simp only[ro]at hc ⊢;split at hc
    ·rename_i hs;simp[hs]
    ·rename_i hs;simp[hs,hc]
   rw[Wl];simp only;cases hf:w.farLoad P ad (m== .atomic)with
   |error h=>rw[hf]at hr;simp at hr
   |ok x=>
    obtain⟨v,ts⟩:=x;rw[hf]at hr;simp only at hr;unfold Δ.farLoad at hf;cases hh:w.heap[ad.block]? with
    |none=>rw[hh]at hf;cases hf
    |some o=>
     rw[hh]at hf;cases o with
     |view at_ u=>
      simp only at hf;cases hv:w.viewLoad P at_ u ad (m== .atomic)with
      |error e=>rw[hv]at hf;cases hf
      |ok x=>
       rw[hv]at hf;simp only[zbE]at hf;subst hf;have gz:=hW.closed _ _ cw.1 hh;simp only[ro,Obj.view.injEq,zat]at gz;have hat:=bO.1 (gM.1 gz);obtain⟨yn,q1,q2,q3,q4⟩:=qN hW.Live hat.1 hv;have hl:=hW.live _ _ cw.1 hh;simp only[ro]at hl;have:W.farLoad P (ra ρ ad) (m== .atomic)=.ok (v,yn):=by
        unfold Δ.farLoad;simp only[ra]at hl ⊢;rw[hl];simp only[ra]at q1;dsimp only;rw[q1]
       rw[this];simp only;have Vi:=hk v;rw[q3 ρ]at Vi;obtain⟨b,W1,iu,r1,r2,r3,r4,r5,r6⟩:=dn hp Gy (k v) (k' v) R Rs w W _ (es'++yn.toArray.map (⟨.cell ·,false,m== .atomic⟩)) a w1 di Vi (jQ v λn _=>q3 _) hW hn hr;refine⟨b,W1,iu,r1,r2,r3,r4,r5,λe he=>?_⟩;rcases r6 e he with h|h
       ·rcases Array.mem_append.1 h with h|h
        ·exact .inl h
        ·obtain⟨x,hx,rfl⟩:=Array.mem_map.1 h;exact .inr ⟨at_.block,hat.1,by have:=r5.gw;omega,q2 x (by simpa using hx)⟩
       ·exact .inr h
     |_=>cases hf
 |.store m ad v k,t',R,Rs,w,W,es,es',a,w1,di,h1,h2,hW,hn,hr=>by
  obtain⟨k',rfl,hk⟩:=h1;have cw:(S.d≤ad.block∧ad.block<w.heap.size)∧rv (sg S S.d w.heap.size) v=v:=by
   obtain⟨k',e,_⟩:=h2 w.heap.size (zab _);simp only[Sem.store.injEq]at e;exact⟨bO.1 (gM.1 e.2.1.symm),e.2.2.1.symm⟩
  obtain⟨cw,hv⟩:=cw;have jQ:∀n,w.heap.size≤n→aa P (sg S S.d n) (Rs n) k k:=λn hn=>by
   obtain⟨k',e,hk⟩:=h2 n hn;simp only[Sem.store.injEq]at e;obtain⟨_,_,_,rfl⟩:=e;exact hk
  have go:∀w2 W2 ts (yn:Array Ξ),WR P S ρ w2 W2→B1 S.d ρ w w2 W W2→w2.heap.size=w.heap.size→w2.tape=w.tape→w2.drawn=w.drawn→W2.tape=W.tape→W2.drawn=W.drawn→(∀e∈yn,e∈es'∨nh S.d ρ w e)→k.runT P w2 ts=(.ok a w1,di)→
   ∃b W1 iu,k'.runT P W2 yn=(.ok b W1,iu)∧R a b∧(∀n,w1.heap.size≤n→Rs n a a)∧WR P S ρ w1 W1∧B1 S.d ρ w w1 W W1∧∀e∈iu,e∈es'∨nh S.d ρ w1 e:=λw2 W2 ts yn hW2 hD hsz t1 t2 t3 t4 hts hrun=>by
   obtain⟨b,W1,iu,r1,r2,r3,r4,r5,r6⟩:=dn hp Gy k k' R Rs w2 W2 ts yn a w1 di hk (by rw[hsz];exact jQ) hW2 (by unfold Vh;rw[t1,t2,t3,t4];exact hn) hrun;refine⟨b,W1,iu,r1,r2,r3,r4,hD.trans r5,λe he=>?_⟩;rcases r6 e he with h|h
   ·rcases hts e h with h|h
    ·exact .inl h
    ·exact .inr (h.mono (by have:=r5.gw;omega))
   ·exact .inr h
  cases hc:w.cell? ad with
  |some v0=>
   have Wl:=zg hW.Live cw.1 hc;have p6:=vY hW cw.1 cw.2;cases EP:w.frozen? ad with
   |true=>cases v<;>simp[Γ,hc,EP]at hr
   |false=>
    have key:k.runT P (w.setCell ad v) (es.push ⟨.cell ad,true,m== .atomic⟩)=(.ok a w1,di)∧(Sem.store m (ra ρ ad) (rv ρ v) k').runT P W es'=k'.runT P (W.setCell (ra ρ ad) (rv ρ v)) (es'.push ⟨.cell (ra ρ ad),true,m== .atomic⟩):=by
     rw[EP]at p6;cases v<;>simp only[rv,Γ,hc,EP,Wl,p6,zaN,if_false]at hr ⊢<;>first|exact⟨hr,trivial⟩|exact⟨hr,rfl⟩|(simp at hr)|trace_state
    rw[key.2];refine go _ _ _ _ (hW.setCell hp.inj cw.1 hv) (ve cw.1 cw.2 (fH _ _ _) (fH _ _ _)) (by simp[Δ.setCell]) rfl rfl rfl rfl (λe he=>?_) key.1;rcases Array.mem_push.1 he with h|rfl
    ·exact .inl h
    ·exact .inr ⟨ad.block,cw.1,cw.2,rfl⟩
  |none=>
   have Wl:W.cell? (ra ρ ad)=none:=by
    unfold Δ.cell? at hc ⊢;obtain⟨o,ho⟩:∃o,w.heap[ad.block]?=some o:=⟨_,zaE cw.2⟩;have hl:=hW.live _ o cw.1 ho;simp only[ra,ho,hl]at hc ⊢;cases o<;>simp only[ro]at hc ⊢;split at hc
    ·rename_i hs;simp[hs]
    ·rename_i hs;simp[hs,hc]
   cases hf:w.farStore P ad v (m== .atomic)with
   |error h=>cases v<;>simp[Γ,hc,hf]at hr
   |ok x=>
    obtain⟨w2,ts⟩:=x;have hf0:=hf;unfold Δ.farStore at hf;cases hh:w.heap[ad.block]? with
    |none=>rw[hh]at hf;cases hf
    |some o=>
     rw[hh]at hf;cases o with
     |view at_ u=>
      simp only at hf;cases Ok:w.viewStore P at_ u ad v (m== .atomic)with
      |error e=>rw[Ok]at hf;cases hf
      |ok x=>
       rw[Ok]at hf;simp only[zbE]at hf;subst hf;have gz:=hW.closed _ _ cw.1 hh;simp only[ro,Obj.view.injEq,zat]at gz;have hat:=bO.1 (gM.1 gz);obtain⟨c,c',ty,fz,yn,q1,q2,q3,q4,q5⟩:=pL hW.Live hat.1 Ok;have hl:=hW.live _ _ cw.1 hh;simp only[ro]at hl;have hfW:W.farStore P (ra ρ ad) (rv ρ v) (m== .atomic)=.ok ({ W with heap:=W.heap.setIfInBounds (ρ at_.block) (.cells (c'.map (rv ρ)) ty fz) },yn):=by
        unfold Δ.farStore;simp only[ra]at hl ⊢;rw[hl];simp only[ra]at q4;dsimp only;rw[q4]
       have key:k.runT P w2 (es++ts.toArray.map (⟨.cell ·,true,m== .atomic⟩))=(.ok a w1,di)∧(Sem.store m (ra ρ ad) (rv ρ v) k').runT P W es'=k'.runT P { W with heap:=W.heap.setIfInBounds (ρ at_.block) (.cells (c'.map (rv ρ)) ty fz) } (es'++yn.toArray.map (⟨.cell ·,true,m== .atomic⟩)):=by
        cases v<;>simp only[rv,Γ,hc,hf0,Wl]at hr hfW ⊢<;>first|(rw[hfW];exact⟨hr,rfl⟩)|(simp at hr)
       rw[key.2];subst q2;have Az:WR P S ρ { w with heap:=w.heap.setIfInBounds at_.block (.cells c' ty fz) } { W with heap:=W.heap.setIfInBounds (ρ at_.block) (.cells (c'.map (rv ρ)) ty fz) }:=by
        refine hW.upd hp.inj hat.1 (gI _ _ _) (gI _ _ _) (λo ho=>⟨trivial,rfl,λhs=>?_⟩);rw[q1]at ho;cases ho;simp only[ro,Obj.cells.injEq,zat]at hs ⊢;exact q3 _ hs
       refine go _ _ _ _ Az (ve hat.1 hat.2 (gI _ _ _) (gI _ _ _)) (by simp) rfl rfl rfl rfl (λe he=>?_) key.1;rcases Array.mem_append.1 he with h|h
       ·exact .inl h
       ·obtain⟨x,hx,rfl⟩:=Array.mem_map.1 h;exact .inr ⟨at_.block,hat.1,hat.2,q5 x (by simpa using hx)⟩
     |_=>cases hf
 |.new o k,t',R,Rs,w,W,es,es',a,w1,di,h1,h2,hW,hn,hr=>by
  obtain⟨hno,k',rfl,hk⟩:=h1;have vW:ρ w.heap.size=W.heap.size:=by have:=hW.next w.heap.size (zab _);omega
  have hs:ro (sg S S.d w.heap.size) o=o:=by
   obtain⟨_,k',e,_⟩:=h2 w.heap.size (zab _);simp only[Sem.new.injEq]at e;exact e.1.symm
  have jQ:∀n,w.heap.size+1≤n→aa P (sg S S.d n) (Rs n) (k w.heap.size) (k w.heap.size):=λn hn=>by
   obtain⟨_,k',e,hk⟩:=h2 n (by omega);simp only[Sem.new.injEq]at e;obtain⟨_,rfl⟩:=e;have:=hk w.heap.size;rwa[show sg S S.d n w.heap.size=w.heap.size from bO.2 ⟨hW.big.d,by omega⟩]at this
  simp only[Γ]at hr ⊢;have hkn:=hk w.heap.size;rw[vW]at hkn;obtain⟨b,W1,iu,r1,r2,r3,r4,r5,r6⟩:=dn hp Gy (k w.heap.size) (k' W.heap.size) R Rs { w with heap:=w.heap.push o } { W with heap:=W.heap.push (ro ρ o) } es es' a w1 di hkn (by simpa using jQ) (hW.push hno hs) hn hr;refine⟨b,W1,iu,r1,r2,r3,r4,?_,r6⟩;have g:=r5.gw;have sz:=r5.size;simp only[zcf]at g sz;refine⟨r5.tape,r5.drawn,r5.os,r5.output,by omega,λx hx B2=>?_,by omega,r5.Cn,r5.Wk,r5.K5,r5.sQ⟩;rw[r5.frame x (by simp only[zcf];omega) B2];simp only[zbl];rw[zaa (by omega)]
 |.shape r k,t',R,Rs,w,W,es,es',a,w1,di,h1,h2,hW,hn,hr=>by
  obtain⟨k',rfl,hk⟩:=h1;have cw:S.d≤r∧r<w.heap.size:=by
   obtain⟨k',e,_⟩:=h2 w.heap.size (zab _);simp only[Sem.shape.injEq]at e;exact bO.1 e.1.symm
  have jQ:∀x n,w.heap.size≤n→aa P (sg S S.d n) (Rs n) (k x) (k x):=λx n hn=>by
   obtain⟨k',e,hk⟩:=h2 n hn;simp only[Sem.shape.injEq]at e;obtain⟨_,rfl⟩:=e;exact hk x
  simp only[Γ]at hr ⊢;rw[IQ hW cw.1 cw.2];exact dn hp Gy _ _ R Rs w W es es' a w1 di (hk _) (jQ _) hW hn hr
 |.freeze ad n k,t',R,Rs,w,W,es,es',a,w1,di,h1,h2,hW,hn,hr=>by
  obtain⟨k',rfl,hk⟩:=h1;have cw:S.d≤ad.block∧ad.block<w.heap.size:=by
   obtain⟨k',e,_⟩:=h2 w.heap.size (zab _);simp only[Sem.freeze.injEq]at e;exact bO.1 (gM.1 e.1.symm)
  have jQ:∀n,w.heap.size≤n→aa P (sg S S.d n) (Rs n) k k:=λn hn=>by
   obtain⟨k',e,hk⟩:=h2 n hn;simp only[Sem.freeze.injEq]at e;obtain⟨_,_,rfl⟩:=e;exact hk
  simp only[Γ]at hr ⊢;have hsz:(w.freeze ad n).heap.size=w.heap.size:=by unfold Δ.freeze;split<;>simp
  obtain⟨b,W1,iu,r1,r2,r3,r4,r5,r6⟩:=dn hp Gy k k' R Rs (w.freeze ad n) (W.freeze (ra ρ ad) n) es es' a w1 di hk (by rw[hsz];exact jQ) (hW.freeze hp.inj cw.1) (by
   have e1:(w.freeze ad n).tape=w.tape:=by unfold Δ.freeze;split<;>rfl
   have e2:(w.freeze ad n).drawn=w.drawn:=by unfold Δ.freeze;split<;>rfl
   have e3:(W.freeze (ra ρ ad) n).tape=W.tape:=by unfold Δ.freeze;split<;>rfl
   have e4:(W.freeze (ra ρ ad) n).drawn=W.drawn:=by unfold Δ.freeze;split<;>rfl
   unfold Vh;rw[e1,e2,e3,e4];exact hn) hr
  refine⟨b,W1,iu,r1,r2,r3,r4,B1.trans ?_ r5,r6⟩;unfold Δ.freeze;by_cases Ol:n=0
  ·simp only[Ol,if_true];exact B1.refl _ _
  ·simp only[Ol,if_false];exact ve cw.1 cw.2 (fH _ _ _) (fH _ _ _)
 |.frozen ad k,t',R,Rs,w,W,es,es',a,w1,di,h1,h2,hW,hn,hr=>by
  obtain⟨k',rfl,hk⟩:=h1;have cw:S.d≤ad.block∧ad.block<w.heap.size:=by
   obtain⟨k',e,_⟩:=h2 w.heap.size (zab _);simp only[Sem.frozen.injEq]at e;exact bO.1 (gM.1 e.1.symm)
  have jQ:∀x n,w.heap.size≤n→aa P (sg S S.d n) (Rs n) (k x) (k x):=λx n hn=>by
   obtain⟨k',e,hk⟩:=h2 n hn;simp only[Sem.frozen.injEq]at e;obtain⟨_,rfl⟩:=e;exact hk x
  simp only[Γ]at hr ⊢;rw[vY hW cw.1 cw.2];exact dn hp Gy _ _ R Rs w W es es' a w1 di (hk _) (jQ _) hW hn hr
 |.getObj r k,t',R,Rs,w,W,es,es',a,w1,di,h1,h2,hW,hn,hr=>by
  obtain⟨k',rfl,hk⟩:=h1;have cw:S.d≤r∧r<w.heap.size:=by
   obtain⟨k',e,_⟩:=h2 w.heap.size (zab _);simp only[Sem.getObj.injEq]at e;exact bO.1 e.1.symm
  obtain⟨o,ho⟩:∃o,w.heap[r]?=some o:=⟨_,zaE cw.2⟩;have hl:=hW.live _ o cw.1 ho;have gz:=hW.closed _ o cw.1 ho;have bM:=hW.ok _ o ho;have B3:∀n,w.heap.size≤n→ro (sg S S.d n) o=o:=λn hn=>oI (dO hn).1 (dO hn).2 gz;have jQ:∀n,w.heap.size≤n→aa P (sg S S.d n) (Rs n) (k o) (k o):=λn hn=>by
   obtain⟨k',e,hk⟩:=h2 n hn;simp only[Sem.getObj.injEq]at e;obtain⟨_,rfl⟩:=e;have:=hk o (.inr (B3 n hn));rwa[B3 n hn]at this
  have go:∀(ts:Array Ξ) (sy:Bool),sy=false→(k o).runT P w ts=(.ok a w1,di)→∃b W1 iu,(k' (ro ρ o)).runT P W (es'.push ⟨.obj (ρ r),false,sy⟩)=(.ok b W1,iu)∧R a b∧(∀n,w1.heap.size≤n→Rs n a a)∧WR P S ρ w1 W1∧B1 S.d ρ w w1 W W1∧∀e∈iu,e∈es'∨nh S.d ρ w1 e:=λts sy hsy hrun=>by
   subst hsy;obtain⟨b,W1,iu,r1,r2,r3,r4,r5,r6⟩:=dn hp Gy (k o) (k' (ro ρ o)) R Rs w W ts _ a w1 di (hk o (Gy o)) jQ hW hn hrun;refine⟨b,W1,iu,r1,r2,r3,r4,r5,λe he=>?_⟩;rcases r6 e he with h|h
   ·rcases Array.mem_push.1 h with h|rfl
    ·exact .inl h
    ·exact .inr ⟨⟨r,cw.1,by have:=r5.gw;omega,rfl⟩,rfl⟩
   ·exact .inr h
  simp only[Γ,ho,hl]at hr ⊢;cases o with
  |cells c e f=>simp at hr
  |view x t=>exact go _ _ rfl hr
  |number x t=>exact go _ _ rfl hr
  |map x t=>exact go _ _ rfl hr
  |_=>exact bM.elim
 |.setObj r o k,t',R,Rs,w,W,es,es',a,w1,di,h1,h2,hW,hn,hr=>by
  obtain⟨Pb,k',rfl,hk⟩:=h1;have cw:(S.d≤r∧r<w.heap.size)∧ro (sg S S.d w.heap.size) o=o:=by
   obtain⟨_,k',e,_⟩:=h2 w.heap.size (zab _);simp only[Sem.setObj.injEq]at e;exact⟨bO.1 e.1.symm,e.2.1.symm⟩
  obtain⟨cw,gz⟩:=cw;have jQ:∀n,w.heap.size≤n→aa P (sg S S.d n) (Rs n) k k:=λn hn=>by
   obtain⟨_,k',e,hk⟩:=h2 n hn;simp only[Sem.setObj.injEq]at e;obtain⟨_,_,rfl⟩:=e;exact hk
  obtain⟨o0,ho⟩:∃o,w.heap[r]?=some o:=⟨_,zaE cw.2⟩;have hl:=hW.live _ o0 cw.1 ho;have bM:=hW.ok _ o0 ho;have Az:WR P S ρ { w with heap:=w.heap.setIfInBounds r o } { W with heap:=W.heap.setIfInBounds (ρ r) (ro ρ o) }:=by
   refine hW.upd hp.inj cw.1 (gI _ _ _) (gI _ _ _) (λo1 _=>⟨?_,rfl,λ_=>gz⟩);cases o<;>first|exact Pb.elim|trivial
  have go:∀(ts:Array Ξ),k.runT P { w with heap:=w.heap.setIfInBounds r o } ts=(.ok a w1,di)→∃b W1 iu,k'.runT P { W with heap:=W.heap.setIfInBounds (ρ r) (ro ρ o) } (es'.push ⟨.obj (ρ r),true,false⟩)=(.ok b W1,iu)∧R a b∧(∀n,w1.heap.size≤n→Rs n a a)∧WR P S ρ w1 W1∧B1 S.d ρ w w1 W W1∧∀e∈iu,e∈es'∨nh S.d ρ w1 e:=λts hrun=>by
   obtain⟨b,W1,iu,r1,r2,r3,r4,r5,r6⟩:=dn hp Gy k k' R Rs _ _ ts (es'.push ⟨.obj (ρ r),true,false⟩) a w1 di hk (by simpa using jQ) Az hn hrun;refine⟨b,W1,iu,r1,r2,r3,r4,(ve cw.1 cw.2 (gI _ _ _) (gI _ _ _)).trans r5,λe he=>?_⟩;rcases r6 e he with h|h
   ·rcases Array.mem_push.1 h with h|rfl
    ·exact .inl h
    ·exact .inr ⟨⟨r,cw.1,by have:=r5.gw;simp at this;omega,rfl⟩,rfl⟩
   ·exact .inr h
  have hch:o.isChan=false∧(ro ρ o).isChan=false:=by cases o<;>first|exact Pb.elim|exact⟨rfl,rfl⟩
  simp only[Γ,ho,hl,hch.1,hch.2]at hr ⊢;cases o0 with
  |cells c e f=>simp at hr
  |view x t=>exact go _ hr
  |number x t=>exact go _ hr
  |map x t=>exact go _ hr
  |_=>exact bM.elim
 |.choose q k,t',R,Rs,w,W,es,es',a,w1,di,h1,h2,hW,hn,hr=>by
  obtain⟨k',rfl,hk⟩:=h1;have jQ:∀x n,w.heap.size≤n→aa P (sg S S.d n) (Rs n) (k x) (k x):=λx n hn=>by
   obtain⟨k',e,hk⟩:=h2 n hn;simp only[Sem.choose.injEq]at e;obtain⟨_,rfl⟩:=e;exact hk x
  simp only[Γ]at hr ⊢;by_cases hq:q.forced=true
  ·simp only[hq,if_true]at hr ⊢;exact dn hp Gy _ _ R Rs w W es es' a w1 di (hk _) (jQ _) hW hn hr
  ·simp only[hq,if_false,zaN]at hr ⊢;have hd:=cQ _ _ _ _ _ _ hr;simp only at hd;have h0:=hn 0 (by omega) q;simp only[Nat.add_zero]at h0;rw[h0];obtain⟨b,W1,iu,r1,r2,r3,r4,r5,r6⟩:=dn hp Gy (k (q.cut (w.tape w.drawn q))) (k' (q.cut (w.tape w.drawn q))) R Rs { w with drawn:=w.drawn+1 } { W with drawn:=W.drawn+1 } es es' a w1 di (hk _) (jQ _) (hW.drew _ _) (λj hj qq=>by
    have:=hn (j+1) (by simp only at hj;omega) qq;show W.tape (W.drawn+1+j) qq=w.tape (w.drawn+1+j) qq;rw[show W.drawn+1+j=W.drawn+(j+1) by omega,show w.drawn+1+j=w.drawn+(j+1) by omega];exact this) hr
   exact⟨b,W1,iu,r1,r2,r3,r4,⟨r5.tape,by have:=r5.drawn;simp only at this;omega,r5.os,r5.output,r5.size,r5.frame,r5.gw,r5.Cn,r5.Wk,r5.K5,by have:=r5.sQ;simp only at this;omega⟩,r6⟩
 |.sys c k,t',R,Rs,w,W,es,es',a,w1,di,h1,h2,hW,hn,hr=>(vg (.sys c k) _ _ _ _ _ h1 hr).elim
 |.program k,t',R,Rs,w,W,es,es',a,w1,di,h1,h2,hW,hn,hr=>by
  obtain⟨k',rfl,hk⟩:=h1;have jQ:∀n,w.heap.size≤n→aa P (sg S S.d n) (Rs n) (k P) (k P):=λn hn=>by
   obtain⟨k',e,hk⟩:=h2 n hn;simp only[Sem.program.injEq]at e;obtain rfl:=e;exact hk
  simp only[Γ]at hr ⊢;exact dn hp Gy (k P) (k' P) R Rs w W es es' a w1 di hk jQ hW hn hr
 |.mark m k,t',R,Rs,w,W,es,es',a,w1,di,h1,h2,hW,hn,hr=>by
  obtain⟨hm,k',rfl,hk⟩:=h1;have jQ:∀n,w.heap.size≤n→aa P (sg S S.d n) (Rs n) k k:=λn hn=>by
   obtain⟨_,k',e,hk⟩:=h2 n hn;simp only[Sem.mark.injEq]at e;obtain⟨_,rfl⟩:=e;exact hk
  simp only[Γ]at hr ⊢;obtain⟨b,W1,iu,r1,r2,r3,r4,r5,r6⟩:=dn hp Gy k k' R Rs w W _ (es'.push ⟨.mark m,false,true⟩) a w1 di hk jQ hW hn hr;refine⟨b,W1,iu,r1,r2,r3,r4,r5,λe he=>?_⟩;rcases r6 e he with h|h
  ·rcases Array.mem_push.1 h with h|rfl
   ·exact .inl h
   ·exact .inr ⟨hm,rfl⟩
  ·exact .inr h
 |.halt h,t',R,Rs,w,W,es,es',a,w1,di,h1,h2,hW,hn,hr=>by simp[Γ]at hr
end
end Go.Ren
namespace Go.Ren
open Go Go.Conc
section defs
variable (P:Λ)(F:θ→Bool)(S:Sd)
def br:Code→Bool
 |.skip |.ret |.exit _|.refuse _=>true
 |.region _ ops _=>ops.all λo=>jx P F S o.op
 |.seq a b=>br a&&br b
 |.cond c a b=>gN S c&&br a&&br b
 |.block _ a|.loop a=>br a
 |_=>false
def az:Item→Bool
 |.code c=>br P F S c
 |.inBlock _=>true
 |.inLoop c=>br P F S c
 |.inRegion ops l=>l.all λi=>(ops[i]?).all λo=>jx P F S o.op
 |_=>false
structure kD (fr:Θ):Prop where
 defers:fr.defers=[]
 mode:fr.mode=.run∨fr.mode=.returning
 kind:fr.kind=.normal
 round:fr.roundOf=none
 todo:fr.todo.all (az P F S)=true
 fn:∃f,P.funcs[fr.fn]?=some f
structure kZ:Prop where
 SF:∀g,S g=true→F g=true
 fn:∀f,F f=true→Gw P S f
 body:∀f fn c,F f=true→P.funcs[f]?=some fn→fn.body=some c→br P F S c=true
 zero:∀t i v,P.info? t=some i→i.zero=some v→∀ρ:Rn,rv ρ v=v
end defs
def aS (P:Λ)(fr:Θ)(above:List Θ):Sem (Θ×List Θ):=
 match fr.mode with
 |.run=>
  match fr.todo with
  |[]=>pure ({ fr with mode:= .returning },above)
  |.code .ret::_=>pure ({ fr with mode:= .returning },above)
  |.code .skip::k|.inBlock _::k=>pure ({ fr with todo:=k },above)
  |.code (.seq a b)::k=>pure ({ fr with todo:= .code a::.code b::k },above)
  |.code (.cond c a b)::k=>match fr.eval c with
   |.bool t=>pure ({ fr with todo:= .code (if t then a else b)::k },above)
   |_=>stuck ""
  |.code (.block id a)::k=>pure ({ fr with todo:= .code a::.inBlock id::k },above)
  |.code (.loop a)::k|.inLoop a::k=>pure ({ fr with todo:= .code a::.inLoop a::k },above)
  |.code (.exit id)::k=>match Ω id k with
   |some k'=>pure ({ fr with todo:=k' },above)
   |none=>stuck ""
  |.code (.region id ops draw)::k=>
   if draw then do
    let t ←choose (.order fr.fn id)
    pure ({ fr with todo:= .inRegion ops (Region.schedule (P.follows .mixedOrders) ops t)::k },above)
   else pure ({ fr with todo:= .inRegion ops (List.range ops.size)::k },above)
  |.inRegion _ []::k=>pure ({ fr with todo:=k },above)
  |.inRegion ops (i::_)::_=>
   if((ops[i]?).map (Region.wanted · (Φ ops fr.tmps))).getD false then
    match ops[i]? with
    |some o=>do
     match ←execOp fr.eval o with
     |.value v=>pure (fr.finish v,above)
     |.skip=>pure (fr.finish η,above)
     |.enter f args=>pure (Θ.enter P f args .normal,fr::above)
     |_=>stuck ""
    |none=>stuck ""
   else pure (fr.finish η,above)
  |_=>stuck ""
 |_=>match P.funcs[fr.fn]? with
  |some fn=>do
   let v ←results fn fr.tmps
   match above with
   |c::rest=>pure (c.finish v,rest)
   |[]=>stuck ""
  |none=>stuck ""
def b8 (ρ:Rn)(fr:Θ):Θ:={ fr with tmps:=fr.tmps.map (rv ρ) }
section
variable {P:Λ}{F:θ→Bool}{S:Sd}{ρ:Rn}
theorem dY:rv ρ η=η:=by simp[η,rv]
theorem qO {fr:Θ}{x:Operand}(h:gN S x=true)(hf:qJ S ρ):(b8 ρ fr).eval x=rv ρ (fr.eval x):=by
 cases x with
 |tmp t=>
  simp only[Θ.eval,b8,zby,zaw];cases fr.tmps[t]?<;>simp[dY]
 |const v=>exact(gT h ρ).symm
 |global g=>
  simp only[gN,zai,zbj]at h;simp[Θ.eval,rv,ra,hf.g g h.1 h.2]
 |func f=>simp only[Θ.eval,rv,zcd,hf.f f h]
theorem wa (fr:Θ)(v:ζ)(ht:fr.todo.all (az P F S)=true):(b8 ρ fr).finish (rv ρ v)=b8 ρ (fr.finish v):=by
 obtain⟨fn,tmps,todo,defers,mode,kind,ro⟩:=fr
 match todo with
 |[]=>rfl
 |.inRegion ops []::k=>rfl
 |.inRegion ops (i::rest)::k=>
  simp only[Θ.finish,b8];cases (ops[i]?).bind (·.dst)<;>simp[Array.map_setIfInBounds]
 |.code c::k=>rfl
 |.inBlock c::k=>rfl
 |.inLoop c::k=>rfl
 |.inScope c::k=>simp[az]at ht
 |.inRangeFunc c::k=>simp[az]at ht
 |.endRangeFunc c::k=>simp[az]at ht
 |.beginRound::k=>simp[az]at ht
 |.call ..::k=>simp[az]at ht
 |.extern ..::k=>simp[az]at ht
theorem zj {fr:Θ}(h:kD P F S fr)(v:ζ):kD P F S (fr.finish v):=by
 obtain⟨h1,h2,h3,h4,h5,h6⟩:=h;obtain⟨fn,tmps,todo,defers,mode,kind,ro⟩:=fr;simp only at h1 h2 h3 h4 h5 h6
 match todo with
 |[]=>exact⟨h1,h2,h3,h4,h5,h6⟩
 |.inRegion ops []::k=>exact⟨h1,h2,h3,h4,h5,h6⟩
 |.inRegion ops (i::rest)::k=>
  refine⟨h1,h2,h3,h4,?_,h6⟩;simp only[zaq,az,zai]at h5;simp only[Θ.finish,zaq,az,zai];exact⟨h5.1.2,h5.2⟩
 |.code c::k=>exact⟨h1,h2,h3,h4,h5,h6⟩
 |.inBlock c::k=>exact⟨h1,h2,h3,h4,h5,h6⟩
 |.inLoop c::k=>exact⟨h1,h2,h3,h4,h5,h6⟩
 |.inScope c::k=>simp[az]at h5
 |.inRangeFunc c::k=>simp[az]at h5
 |.endRangeFunc c::k=>simp[az]at h5
 |.beginRound::k=>simp[az]at h5
 |.call ..::k=>simp[az]at h5
 |.extern ..::k=>simp[az]at h5
theorem IV {ops:Array Oper}(h:(ops.all λo=>jx P F S o.op)=true)(l:List Nat):(l.all λi=>(ops[i]?).all λo=>jx P F S o.op)=true:=by
 refine zbz.2 λi _=>?_;cases ho:ops[i]? with
 |none=>rfl
 |some o=>exact Array.all_eq_true'.1 h o (zbG ho)
theorem lU {id:Nat}:∀{k k':List Item},Ω id k=some k'→k.all (az P F S)=true→k'.all (az P F S)=true
 |.inBlock id'::k,k',h,hk=>by
  simp only[Ω]at h;simp only[zaq,zai]at hk;split at h
  ·cases h;exact hk.2
  ·exact lU h hk.2
 |.code c::k,k',h,hk=>by
  simp only[Ω]at h;simp only[zaq,zai]at hk;exact lU h hk.2
 |.inLoop c::k,k',h,hk=>by
  simp only[Ω]at h;simp only[zaq,zai]at hk;exact lU h hk.2
 |.inRegion ..::k,k',h,hk=>by
  simp only[Ω]at h;simp only[zaq,zai]at hk;exact lU h hk.2
 |.inScope c::k,k',h,hk=>by simp[az]at hk
 |.inRangeFunc c::k,k',h,hk=>by simp[az]at hk
 |.endRangeFunc c::k,k',h,hk=>by simp[az]at hk
 |.beginRound::k,k',h,hk=>by simp[az]at hk
 |.call ..::k,k',h,hk=>by simp[az]at hk
 |.extern ..::k,k',h,hk=>by simp[az]at hk
 |[],k',h,hk=>by simp[Ω]at h
theorem wj (hC:kZ P F S){f:θ}(hf:F f=true)(args:Array ζ):kD P F S (Θ.enter P f args .normal):=by
 obtain⟨fn,h1,_,_⟩:=hC.fn f hf;refine⟨rfl,.inl rfl,rfl,rfl,?_,⟨fn,h1⟩⟩;simp only[Θ.enter,h1,Option.bind,zaq,List.all_nil,zbO,az];cases hb:fn.body with
 |none=>rfl
 |some c=>exact hC.body f fn c hf h1 hb
theorem gU (f:θ)(args:Array ζ):Θ.enter P f (args.map (rv ρ)) .normal=b8 ρ (Θ.enter P f args .normal):=by
 simp[Θ.enter,b8,dY]
theorem nH (ops:Array Oper)(tmps:Array ζ)(j:Nat):Φ ops (tmps.map (rv ρ)) j=Φ ops tmps j:=by
 unfold Φ;cases (ops[j]?).bind (·.dst)with
 |none=>rfl
 |some d=>
  simp only[Option.bind,zaw];cases tmps[d]? with
  |none=>rfl
  |some v=>cases v<;>simp[rv]
theorem aa.K6 {α β:Type}{R:α→β→Prop}{b b':Bool}(hb:b'=b){s t:Sem α}{s' t':Sem β}(h1:aa P ρ R s s')(h2:aa P ρ R t t'):aa P ρ R (if b then s else t) (if b' then s' else t'):=by
 subst hb;cases b'<;>simp[h1,h2]
def FF (P:Λ)(F:θ→Bool)(S:Sd)(ρ:Rn)(x y:Θ×List Θ):Prop:=y=(b8 ρ x.1,x.2.map (b8 ρ))∧kD P F S x.1∧∀f∈x.2,kD P F S f
theorem Pc {fr:Θ}(h:kD P F S fr){t:List Item}(ht:t.all (az P F S)=true):kD P F S { fr with todo:=t }:=⟨h.defers,h.mode,h.kind,h.round,ht,h.fn⟩
theorem AB (hC:kZ P F S)(hp:Plain P ρ)(hf:qJ S ρ){fr:Θ}{above:List Θ}(h:kD P F S fr)(ha:∀f∈above,kD P F S f)
 (hg:∀v∈fr.tmps,GV P ρ v)(hv:∀v∈fr.tmps,FV S v):aa P ρ (FF P F S ρ) (aS P fr above) (aS P (b8 ρ fr) (above.map (b8 ρ))):=by
 have ia:∀x,gN S x=true→GV P ρ (fr.eval x)∧FV S (fr.eval x):=λx hx=>by
  cases x with
  |tmp t=>
   simp only[Θ.eval,zby];cases hc:fr.tmps[t]? with
   |none=>exact⟨.inr dY,λfn a b e=>by cases e⟩
   |some v=>exact⟨hg v (zbG hc),hv v (zbG hc)⟩
  |const v=>
   refine⟨.inr (gT hx ρ),λfn a b e=>?_⟩;simp only[Θ.eval]at e;subst e;cases hx
  |global g=>
   simp only[gN,zai,zbj]at hx;exact⟨.inr (by simp[Θ.eval,rv,ra,hf.g g hx.1 hx.2]),λfn a b e=>by cases e⟩
  |func f=>
   refine⟨.inr ?_,λfn a b e=>?_⟩
   ·simp only[Θ.eval,rv,zcd,hf.f f hx]
   ·simp only[Θ.eval,ζ.func.injEq]at e;exact⟨f,e.1.symm,hx⟩
 obtain⟨fn0,tmps,todo,defers,mode,kind,np⟩:=fr;have hand:=h.todo;have hm:=h.mode;have RG:=h.fn;simp only at hand hm RG;rcases hm with rfl|rfl
 ·have ctl:∀t:List Item,t.all (az P F S)=true→aa P ρ (FF P F S ρ) (pure (⟨fn0,tmps,t,defers,.run,kind,np⟩,above)) (pure (⟨fn0,tmps.map (rv ρ),t,defers,.run,kind,np⟩,above.map (b8 ρ))):=λt ht=>aa.pure ⟨rfl,Pc h ht,ha⟩;have ret:aa P ρ (FF P F S ρ) (pure (⟨fn0,tmps,todo,defers,.returning,kind,np⟩,above)) (pure (⟨fn0,tmps.map (rv ρ),todo,defers,.returning,kind,np⟩,above.map (b8 ρ))):=aa.pure ⟨rfl,⟨h.defers,.inr rfl,h.kind,h.round,h.todo,h.fn⟩,ha⟩
  match todo,h,ia,hand,ret with
  |[],h,ia,hand,ret=>exact ret
  |.code .ret::_,h,ia,hand,ret=>exact ret
  |.code .skip::k,h,ia,hand,ret=>exact ctl k (by simpa[az,br]using hand)
  |.inBlock _::k,h,ia,hand,ret=>exact ctl k (by simpa[az]using hand)
  |.code (.seq a b)::k,h,ia,hand,ret=>exact ctl _ (by simpa[az,br,and_assoc]using hand)
  |.code (.block id a)::k,h,ia,hand,ret=>exact ctl _ (by simpa[az,br]using hand)
  |.code (.loop a)::k,h,ia,hand,ret=>exact ctl _ (by simpa[az,br]using hand)
  |.inLoop a::k,h,ia,hand,ret=>exact ctl _ (by simpa[az,br]using hand)
  |.inRegion _ []::k,h,ia,hand,ret=>exact ctl k (by simp[az]at hand ⊢;exact hand)
  |.code (.cond c a b)::k,h,ia,hand,ret=>
   simp only[zaq,az,br,zai]at hand;have e:=qO (fr:=⟨fn0,tmps,.code (.cond c a b)::k,defers,.run,kind,np⟩) hand.1.1.1 hf;simp only[aS,b8]at e ⊢;rw[e];generalize Θ.eval _ c=q;cases q with
   |bool t=>simp only[rv];refine ctl _ ?_;simp only[zaq,az,zai];cases t;exact⟨hand.1.2,hand.2⟩;exact⟨hand.1.1.2,hand.2⟩
   |_=>simp only[rv];exact aa.stuck _
  |.code (.exit id)::k,h,ia,hand,ret=>
   simp only[aS,b8];cases he:Ω id k with
   |none=>exact aa.stuck _
   |some k'=>exact ctl k' (lU he (by simp[az,br]at hand ⊢;exact hand))
  |.code (.region id ops draw)::k,h,ia,hand,ret=>
   simp only[aS,b8];have hr:∀l,((Item.inRegion ops l)::k).all (az P F S)=true:=λl=>by
    simp only[zaq,az,br,zai]at hand ⊢;exact⟨IV hand.1 l,hand.2⟩
   refine aa.aj (λ_=>?_) (λ_=>ctl _ (hr _));refine aa.bind (im _) ?_;rintro t _ rfl;exact ctl _ (hr _)
  |.inRegion ops (i::rest)::k,h,ia,hand,ret=>
   simp only[aS];have hw:((ops[i]?).map (Region.wanted · (Φ ops (tmps.map (rv ρ))))).getD false=((ops[i]?).map (Region.wanted · (Φ ops tmps))).getD false:=by
    have:Φ ops (tmps.map (rv ρ))=Φ ops tmps:=funext λj=>nH ops tmps j;rw[this]
   have lD:∀v,aa P ρ (FF P F S ρ) (pure ((⟨fn0,tmps,.inRegion ops (i::rest)::k,defers,.run,kind,np⟩:Θ).finish v,above)) (pure ((b8 ρ (⟨fn0,tmps,.inRegion ops (i::rest)::k,defers,.run,kind,np⟩:Θ)).finish (rv ρ v),above.map (b8 ρ))):=λv=>by
    rw[wa (P:=P) (F:=F) (S:=S) _ v h.todo];exact aa.pure ⟨rfl,zj h v,ha⟩
   refine aa.K6 hw ?_ ?_
   ·cases ho:ops[i]? with
    |none=>exact aa.stuck _
    |some o=>
     dsimp only;have bM:jx P F S o.op=true:=by
      simp only[zaq,az,zai]at hand;have:=hand.1.1;rw[ho]at this;simpa using this
     refine aa.bind (nE (F:=F) hp hf hC.SF hC.fn o bM (ev:=(⟨fn0,tmps,.inRegion ops (i::rest)::k,defers,.run,kind,np⟩:Θ).eval) (ev':=(b8 ρ (⟨fn0,tmps,.inRegion ops (i::rest)::k,defers,.run,kind,np⟩:Θ)).eval) (λx hx=>qO hx hf) (λx hx=>(ia x hx).1) (λx hx=>(ia x hx).2) (λ_=>rfl) (λ_=>rfl) (λ_=>rfl) (λ_=>rfl)) ?_;intro nx Pd hn;cases nx<;>simp only[NN]at hn
     ·subst hn;exact lD _
     ·subst hn;have:=lD η;rwa[dY]at this
     ·obtain⟨hF,rfl⟩:=hn;dsimp only;rw[gU];exact aa.pure ⟨rfl,wj hC hF _,λf hx=>by
       rcases zaI.1 hx with rfl|hx
       ·exact h
       ·exact ha f hx⟩
   ·have:=lD η;rwa[dY]at this
  |.code (.rangeFunc ..)::k,h,ia,hand,ret=>simp[az,br]at hand
  |.code (.scope ..)::k,h,ia,hand,ret=>simp[az,br]at hand
  |.code (.label ..)::k,h,ia,hand,ret=>simp[az,br]at hand
  |.code (.goto ..)::k,h,ia,hand,ret=>simp[az,br]at hand
  |.code (.refuse ..)::k,h,ia,hand,ret=>exact aa.stuck _
  |.inScope c::k,h,ia,hand,ret=>simp[az]at hand
  |.inRangeFunc c::k,h,ia,hand,ret=>simp[az]at hand
  |.endRangeFunc c::k,h,ia,hand,ret=>simp[az]at hand
  |.beginRound::k,h,ia,hand,ret=>simp[az]at hand
  |.call ..::k,h,ia,hand,ret=>simp[az]at hand
  |.extern ..::k,h,ia,hand,ret=>simp[az]at hand
 ·simp only[aS,b8];obtain⟨fn,h1⟩:=RG;rw[h1];dsimp only;refine aa.bind (ja hp fn tmps dY) ?_;rintro v _ rfl;cases above with
  |nil=>exact aa.stuck _
  |cons c rest=>
   simp only[zaC];have hc:=ha c (by simp);have e:=wa (ρ:=ρ) (P:=P) (F:=F) (S:=S) c v hc.todo;rw[e];exact aa.pure ⟨rfl,zj hc v,λf hx=>ha f (by simp[hx])⟩
end
end Go.Ren
