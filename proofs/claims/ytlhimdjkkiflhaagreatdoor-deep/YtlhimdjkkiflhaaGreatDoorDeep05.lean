import Derived.Test.YtlhimdjkkiflhaaGreatDoorDeep04
namespace Go.Ren
open Go
def deadObj:Obj:= .cells #[] 0 (0,0)
structure GBase (P:Program) (S:Sd) (ρ:Rn) (n:Nat):Prop where
 d:S.d≤n
 g:S.g≤n
 r:ρ.d≤S.d
 p:P.globals.size≤n
 dp:S.d≤P.globals.size
 fg:∀ g,S.d≤g→g<S.g→ρ g=g
 fl:∀ g,g<S.d→g<ρ.d∨ρ g=g
theorem GBase.mono {P:Program}{S:Sd}{ρ:Rn}{n m:Nat}(h:GBase P S ρ n)(hn:n≤m):GBase P S ρ m:=⟨Nat.le_trans h.d hn,Nat.le_trans h.g hn,h.r,Nat.le_trans h.p hn,h.dp,h.fg,h.fl⟩
structure WR (P:Program) (S:Sd) (ρ:Rn) (w W:World):Prop where
 live:∀ (r:Nat) (o:Obj),S.d≤r→w.heap[r]? =some o→W.heap[ρ r]? =some (ro ρ o)
 ok:∀ (r:Nat) (o:Obj),w.heap[r]? =some o→NewOk o
 dead:∀ (r:Nat),r<S.d→w.heap[r]? =some deadObj
 closed:∀ (r:Nat) (o:Obj),S.d≤r→w.heap[r]? =some o→ro (sg S S.d w.heap.size) o=o
 next:∀ r:Nat,w.heap.size≤r→ρ r=W.heap.size+(r-w.heap.size)
 low:∀ r:Nat,S.d≤r→r<w.heap.size→ρ r<W.heap.size
 big:GBase P S ρ w.heap.size
def Touch (b0:Nat)(ρ:Rn)(w:World)(b:Nat):Prop:=∃ r,b0≤r∧r<w.heap.size∧b=ρ r
def EvOk (b0:Nat)(ρ:Rn)(w:World)(e:Event):Prop:=
 match e.loc with
 | .cell a=>Touch b0 ρ w a.block
 | .obj r=>Touch b0 ρ w r∧e.sync=false
 | .mark m=>MOk m∧e.sync=true
 |_=>False
structure Did (b0:Nat) (ρ:Rn) (w w1 W W1:World):Prop where
 tape:W1.tape=W.tape
 drawn:W1.drawn+w.drawn=W.drawn+w1.drawn
 os:W1.os=W.os
 output:W1.output=W.output
 size:W1.heap.size+w.heap.size=W.heap.size+w1.heap.size
 frame:∀ b:Nat,b<W.heap.size→¬ Touch b0 ρ w1 b→W1.heap[b]? =W.heap[b]?
 wgrow:w.heap.size≤w1.heap.size
 wtape:w1.tape=w.tape
 wos:w1.os=w.os
 wout:w1.output=w.output
 wdrawn:w.drawn≤w1.drawn
section
variable {P:Program} {S:Sd} {b0:Nat} {ρ:Rn} {w W:World}
theorem Did.refl (w W:World):Did b0 ρ w w W W:=⟨rfl,rfl,rfl,rfl,rfl,fun _ _ _=>rfl,Nat.le_refl _,rfl,rfl,rfl,Nat.le_refl _⟩
theorem Touch.mono {w w1:World}{b:Nat}(h:Touch b0 ρ w b)(hg:w.heap.size≤w1.heap.size):Touch b0 ρ w1 b:=by
 obtain⟨r,hl,hr,rfl⟩:=h
 exact⟨r,hl,by omega,rfl⟩
theorem EvOk.mono {w w1:World}{e:Event}(h:EvOk b0 ρ w e)(hg:w.heap.size≤w1.heap.size):EvOk b0 ρ w1 e:=by
 unfold EvOk at h ⊢
 split<;>simp_all
 ·exact h.mono hg
 ·exact h.1.mono hg
theorem Did.trans {w w1 w2 W W1 W2:World}(h:Did b0 ρ w w1 W W1)(h2:Did b0 ρ w1 w2 W1 W2):Did b0 ρ w w2 W W2:=by
 refine⟨h2.tape.trans h.tape,by have:=h.drawn;have:=h2.drawn;omega,h2.os.trans h.os,h2.output.trans h.output,by have:=h.size;have:=h2.size;omega,fun b hb hn=>?_,Nat.le_trans h.wgrow h2.wgrow,h2.wtape.trans h.wtape,h2.wos.trans h.wos,h2.wout.trans h.wout,Nat.le_trans h.wdrawn h2.wdrawn⟩
 rw[h2.frame b (by have:=h.size;have:=h.wgrow;omega) hn]
 exact h.frame b hb fun hx=>hn (hx.mono h2.wgrow)
def chg (H:Array Obj)(b:Nat)(f:Obj→Obj)(H':Array Obj):Prop:=H'.size=H.size∧∀ j:Nat,H'[j]? =if j=b then(H[j]?).map f else H[j]?
theorem chg_modify (H:Array Obj)(b:Nat)(f:Obj→Obj):chg H b f (H.modify b f):=by
 refine⟨by simp,fun j=>?_⟩
 rw[Array.getElem?_modify]
 by_cases h:b=j
 ·subst h;simp
 ·rw[if_neg h,if_neg (fun e=>h (Eq.symm e))]
theorem chg_set (H:Array Obj)(b:Nat)(o:Obj):chg H b (fun _=>o) (H.setIfInBounds b o):=by
 refine⟨by simp,fun j=>?_⟩
 rw[Array.getElem?_setIfInBounds]
 by_cases h:b=j
 ·subst h
  by_cases hb:b<H.size
  ·simp[hb]
  ·simp[hb]
 ·rw[if_neg h,if_neg (fun e=>h (Eq.symm e))]
theorem lt_of_some {H:Array Obj}{r:Nat}{o:Obj}(h:H[r]? =some o):r<H.size:=(Array.getElem?_eq_some_iff.1 h).1
theorem WR.upd (hi:∀ a b,ρ a=ρ b→a=b)(h:WR P S ρ w W){b:Nat}{f g:Obj→Obj}{H H':Array Obj}(hb:S.d≤b)
 (c1:chg w.heap b f H)(c2:chg W.heap (ρ b) g H')
 (hfg:∀ o,w.heap[b]? =some o→NewOk (f o)∧g (ro ρ o)=ro ρ (f o)∧(ro (sg S S.d w.heap.size) o=o→ro (sg S S.d w.heap.size) (f o)=f o)):
 WR P S ρ { w with heap:=H } { W with heap:=H' }:=by
 refine⟨fun r o hl ho=>?_,fun r o ho=>?_,fun r hr=>?_,fun r o hl ho=>?_,fun r hr=>?_,fun r hl hr=>?_,?_⟩
 ·have h1:=c1.2 r
  have h2:=c2.2 (ρ r)
  simp only at ho ⊢
  rw[h1] at ho
  rw[h2]
  by_cases e:r=b
  ·subst e
   simp only[if_true] at ho ⊢
   obtain⟨o0,h0,rfl⟩:=Option.map_eq_some_iff.1 ho
   rw[h.live r o0 hl h0]
   simp[(hfg o0 h0).2.1]
  ·have:ρ r≠ρ b:=fun x=>e (hi _ _ x)
   simp only[e,this,if_false] at ho ⊢
   exact h.live r o hl ho
 ·have h1:=c1.2 r
  simp only at ho
  rw[h1] at ho
  by_cases e:r=b
  ·subst e
   simp only[if_true] at ho
   obtain⟨o0,h0,rfl⟩:=Option.map_eq_some_iff.1 ho
   exact(hfg o0 h0).1
  ·simp only[e,if_false] at ho
   exact h.ok r o ho
 ·have h1:=c1.2 r
  simp only
  rw[h1,if_neg (by omega)]
  exact h.dead r hr
 ·have h1:=c1.2 r
  simp only[c1.1] at ho ⊢
  rw[h1] at ho
  by_cases e:r=b
  ·subst e
   simp only[if_true] at ho
   obtain⟨o0,h0,rfl⟩:=Option.map_eq_some_iff.1 ho
   exact(hfg o0 h0).2.2 (h.closed r o0 hl h0)
  ·simp only[e,if_false] at ho
   exact h.closed r o hl ho
 ·simp only at hr ⊢
  rw[c2.1];rw[c1.1] at hr ⊢;exact h.next r hr
 ·simp only at hr ⊢
  rw[c2.1];rw[c1.1] at hr;exact h.low r hl hr
 ·simp only[c1.1];exact h.big
theorem WR.push (h:WR P S ρ w W){o:Obj}(ho:NewOk o)(hs:ro (sg S S.d w.heap.size) o=o):
 WR P S ρ { w with heap:=w.heap.push o } { W with heap:=W.heap.push (ro ρ o) }:=by
 have hnew:ρ w.heap.size=W.heap.size:=by have:=h.next w.heap.size (Nat.le_refl _);omega
 have hm:=sg_mono (S:=S) (b0:=S.d) (Nat.le_succ w.heap.size)
 have hbig:=h.big.d
 refine⟨fun r o1 hr h1=>?_,fun r o1 h1=>?_,fun r hr=>?_,fun r o1 hr h1=>?_,fun r hr=>?_,fun r hl hr=>?_,?_⟩
 ·simp only[Array.getElem?_push] at h1 ⊢
  by_cases e:r=w.heap.size
  ·subst e
   simp only[if_true,Option.some.injEq] at h1
   subst h1
   simp[hnew]
  ·simp only[e,if_false] at h1
   have hlt:=lt_of_some h1
   have:=h.low r hr hlt
   rw[if_neg (by omega)]
   exact h.live r o1 hr h1
 ·simp only[Array.getElem?_push] at h1
  by_cases e:r=w.heap.size
  ·subst e
   simp only[if_true,Option.some.injEq] at h1
   subst h1;exact ho
  ·simp only[e,if_false] at h1
   exact h.ok r o1 h1
 ·simp only[Array.getElem?_push]
  rw[if_neg (by omega)];exact h.dead r hr
 ·simp only[Array.getElem?_push,Array.size_push] at h1 ⊢
  by_cases e:r=w.heap.size
  ·subst e
   simp only[if_true,Option.some.injEq] at h1
   subst h1
   exact fixO_mono hm.1 hm.2 hs
  ·simp only[e,if_false] at h1
   exact fixO_mono hm.1 hm.2 (h.closed r o1 hr h1)
 ·simp only[Array.size_push] at hr ⊢
  have:=h.next r (by omega);omega
 ·simp only[Array.size_push] at hr ⊢
  by_cases e:r=w.heap.size
  ·subst e;omega
  ·have:=h.low r hl (by omega);omega
 ·simp only[Array.size_push];exact h.big.mono (Nat.le_succ _)
theorem WR.Live (h:WR P S ρ w W):Live S.d ρ w W:=⟨h.live⟩
theorem WR.drew (h:WR P S ρ w W)(d D:Nat):WR P S ρ { w with drawn:=d } { W with drawn:=D }:=⟨h.live,h.ok,h.dead,h.closed,h.next,h.low,h.big⟩
theorem cell_closed (h:WR P S ρ w W){a:Addr}{v:Value}(hl:S.d≤a.block)(hc:w.cell? a=some v):rv (sg S S.d w.heap.size) v=v:=by
 unfold World.cell? at hc
 cases hh:w.heap[a.block]? with
 |none=>rw[hh] at hc;cases hc
 |some o=>
  have hs:=h.closed _ o hl hh
  rw[hh] at hc
  cases o with
  |cells c e f=>
   simp only at hc
   split at hc
   ·cases hc
   ·simp only[ro,Obj.cells.injEq,and_true] at hs
    exact map_fix.1 hs v (Array.mem_of_getElem? hc)
  |_=>cases hc
theorem cell_dead (h:WR P S ρ w W){a:Addr}(hl:a.block<S.d):w.cell? a=none:=by
 unfold World.cell?
 rw[h.dead _ hl]
 simp[deadObj]
theorem frozen_ren (h:WR P S ρ w W){a:Addr}(hl:S.d≤a.block)(hs:a.block<w.heap.size):W.frozen? (ra ρ a)=w.frozen? a:=by
 unfold World.frozen?
 obtain⟨o,ho⟩:∃ o,w.heap[a.block]? =some o:=⟨_,Array.getElem?_eq_getElem hs⟩
 have:=h.live _ o hl ho
 simp only[ra,ho,this]
 cases o<;>rfl
theorem shape_ren (h:WR P S ρ w W){r:Nat}(hl:S.d≤r)(hs:r<w.heap.size):W.shape? (ρ r)=w.shape? r:=by
 unfold World.shape?
 obtain⟨o,ho⟩:∃ o,w.heap[r]? =some o:=⟨_,Array.getElem?_eq_getElem hs⟩
 have:=h.live _ o hl ho
 simp only[ho,this]
 cases o<;>simp[ro]
theorem WR.setCell (hi:∀ a b,ρ a=ρ b→a=b)(h:WR P S ρ w W){a:Addr}{v:Value}(hl:S.d≤a.block)(hv:rv (sg S S.d w.heap.size) v=v):
 WR P S ρ (w.setCell a v) (W.setCell (ra ρ a) (rv ρ v)):=by
 refine h.upd hi hl (chg_modify _ _ _) (chg_modify _ _ _) (fun o ho=>?_)
 have hok:=h.ok _ o ho
 cases o with
 |cells c e f=>
  refine⟨trivial,?_,fun hs=>?_⟩
  ·simp only[ro,ra]
   by_cases hsp:a.spot.isSome=true<;>simp[hsp,Array.map_setIfInBounds]
  ·simp only[ro,Obj.cells.injEq,and_true] at hs ⊢
   split
   ·exact hs
   ·rw[Array.map_setIfInBounds,hs,hv]
 |view a t=>exact⟨trivial,rfl,fun hs=>hs⟩
 |number a t=>exact⟨trivial,rfl,fun hs=>hs⟩
 |map a t=>exact⟨trivial,rfl,fun hs=>hs⟩
 |_=>exact hok.elim
theorem WR.freeze (hi:∀ a b,ρ a=ρ b→a=b)(h:WR P S ρ w W){a:Addr}{n:Nat}(hl:S.d≤a.block):
 WR P S ρ (w.freeze a n) (W.freeze (ra ρ a) n):=by
 unfold World.freeze
 by_cases hn:n=0
 ·simp only[hn,if_true];exact h
 ·simp only[hn,if_false]
  refine h.upd hi hl (chg_modify _ _ _) (chg_modify _ _ _) (fun o ho=>?_)
  have hok:=h.ok _ o ho
  cases o with
  |cells c e f=>exact⟨trivial,rfl,fun hs=>by simpa[ro] using hs⟩
  |view a t=>exact⟨trivial,rfl,fun hs=>hs⟩
  |number a t=>exact⟨trivial,rfl,fun hs=>hs⟩
  |map a t=>exact⟨trivial,rfl,fun hs=>hs⟩
  |_=>exact hok.elim
theorem did_chg {H H':Array Obj}{b:Nat}{f g:Obj→Obj}(hb:b0≤b)(hs:b<w.heap.size)(c1:chg w.heap b f H)(c2:chg W.heap (ρ b) g H'):Did b0 ρ w { w with heap:=H } W { W with heap:=H' }:=
 ⟨rfl,rfl,rfl,rfl,by show H'.size+w.heap.size=W.heap.size+H.size;rw[c1.1,c2.1],fun x hx hn=>by
   show H'[x]? =_
   rw[c2.2 x,if_neg]
   rintro rfl
   exact hn ⟨b,hb,by show b<H.size;rw[c1.1];exact hs,rfl⟩,by show w.heap.size≤H.size;rw[c1.1];omega,rfl,rfl,rfl,Nat.le_refl _⟩
theorem ask_drawn {α:Type}:∀ (x:Ask α) (w:World),w.drawn≤(w.ask x).2.drawn
 | .done a,w=>Nat.le_refl _
 | .ask what range k,w=>by
   unfold World.ask
   dsimp only
   split
   ·exact ask_drawn (k 0) w
   ·have:=ask_drawn (k ((Question.extern what range).cut (w.tape w.drawn (Question.extern what range)))) { w with drawn:=w.drawn+1 }
    simp only at this
    omega
theorem sys_drawn (c:Sys)(w:World):w.drawn≤(w.sys c).2.drawn:=by
 unfold World.sys
 have:=ask_drawn (Kernel.perform c w.os) w
 split<;>rename_i h
 ·exact Nat.le_refl _
 ·rw[h] at this;exact this
theorem farStore_drawn {w w2:World}{a:Addr}{v:Value}{b:Bool}{ts:List Addr}(h:w.farStore P a v b= .ok (w2,ts)):w2.drawn=w.drawn:=by
 unfold World.farStore at h
 split at h
 ·split at h
  ·rename_i r hv
   cases h
   unfold World.viewStore at hv
   simp only[bind,Except.bind] at hv
   repeat' split at hv
   all_goals first|(cases hv;done)|(simp only[pure,Except.pure,Except.ok.injEq,Prod.mk.injEq] at hv;obtain⟨rfl,rfl⟩:=hv;rfl)|(simp[throw,throwThe,MonadExceptOf.throw] at hv)
  ·cases h
 ·cases h
theorem run_drawn {α:Type}:∀ (t:Sem α) (w:World) (es:Array Event) (a:α) (w1:World) (es1:Array Event),t.runT P w es=(.ok a w1,es1)→w.drawn≤w1.drawn
 | .pure _,w,es,a,w1,es1,h=>by simp only[Sem.runT,Prod.mk.injEq,Result.ok.injEq] at h;rw[h.1.2];exact Nat.le_refl _
 | .load m ad k,w,es,a,w1,es1,h=>by
   simp only[Sem.runT] at h
   split at h
   ·exact run_drawn _ _ _ _ _ _ h
   ·split at h
    ·exact run_drawn _ _ _ _ _ _ h
    ·simp at h
 | .store m ad v k,w,es,a,w1,es1,h=>by
   have key:(∃ ts,k.runT P (w.setCell ad v) ts=(.ok a w1,es1))∨∃ w2 ts ts',w.farStore P ad v (m== .atomic)= .ok (w2,ts')∧k.runT P w2 ts=(.ok a w1,es1):=by
    cases v<;>simp only[Sem.runT] at h<;>first
     |(simp at h;done)
     |(split at h
       ·split at h
        ·simp at h
        ·exact .inl ⟨_,h⟩
       ·split at h
        ·exact .inr ⟨_,_,_,‹_›,h⟩
        ·simp at h)
   rcases key with⟨ts,h⟩|⟨w2,ts,ts',hf,h⟩
   ·have:=run_drawn _ _ _ _ _ _ h;exact this
   ·have:=run_drawn _ _ _ _ _ _ h
    rw[farStore_drawn hf] at this;exact this
 | .new o k,w,es,a,w1,es1,h=>by simp only[Sem.runT] at h;have:=run_drawn _ _ _ _ _ _ h;exact this
 | .shape r k,w,es,a,w1,es1,h=>by simp only[Sem.runT] at h;exact run_drawn _ _ _ _ _ _ h
 | .freeze ad n k,w,es,a,w1,es1,h=>by
   simp only[Sem.runT] at h
   have:=run_drawn _ _ _ _ _ _ h
   have e:(w.freeze ad n).drawn=w.drawn:=by unfold World.freeze;split<;>rfl
   omega
 | .frozen ad k,w,es,a,w1,es1,h=>by simp only[Sem.runT] at h;exact run_drawn _ _ _ _ _ _ h
 | .getObj r k,w,es,a,w1,es1,h=>by
   simp only[Sem.runT] at h
   split at h<;>first|(simp at h;done)|exact run_drawn _ _ _ _ _ _ h
 | .setObj r o k,w,es,a,w1,es1,h=>by
   simp only[Sem.runT] at h
   split at h
   ·simp at h
   ·have:=run_drawn _ _ _ _ _ _ h;exact this
   ·simp at h
 | .choose q k,w,es,a,w1,es1,h=>by
   simp only[Sem.runT] at h
   split at h
   ·exact run_drawn _ _ _ _ _ _ h
   ·have:=run_drawn _ _ _ _ _ _ h
    simp only at this
    omega
 | .sys c k,w,es,a,w1,es1,h=>by
   simp only[Sem.runT] at h
   exact Nat.le_trans (sys_drawn c w) (run_drawn _ _ _ _ _ _ h)
 | .program k,w,es,a,w1,es1,h=>by simp only[Sem.runT] at h;exact run_drawn _ _ _ _ _ _ h
 | .mark m k,w,es,a,w1,es1,h=>by simp only[Sem.runT] at h;exact run_drawn _ _ _ _ _ _ h
 | .halt _,w,es,a,w1,es1,h=>by simp[Sem.runT] at h
theorem tm_dead {α:Type}{P:Program}:∀ (t:Sem α) (w:World) (es:Array Event) (a:α) (w1:World) (es1:Array Event),Tm (fun _=>False) t→t.runT P w es=(.ok a w1,es1)→False
 | .pure a,_,_,_,_,_,h,_=>h
 | .halt _,_,_,_,_,_,_,h=>by simp[Sem.runT] at h
 | .program k,w,es,a,w1,es1,h,hr=>by simp only[Sem.runT] at hr;exact tm_dead _ _ _ _ _ _ (h P) hr
 | .new o k,w,es,a,w1,es1,h,hr=>by simp only[Sem.runT] at hr;exact tm_dead _ _ _ _ _ _ (h _) hr
 | .sys c k,w,es,a,w1,es1,h,hr=>by simp only[Sem.runT] at hr;exact tm_dead _ _ _ _ _ _ (h _) hr
 | .load ..,_,_,_,_,_,h,_=>h.elim
 | .store ..,_,_,_,_,_,h,_=>h.elim
 | .shape ..,_,_,_,_,_,h,_=>h.elim
 | .freeze ..,_,_,_,_,_,h,_=>h.elim
 | .frozen ..,_,_,_,_,_,h,_=>h.elim
 | .getObj ..,_,_,_,_,_,h,_=>h.elim
 | .setObj ..,_,_,_,_,_,h,_=>h.elim
 | .choose ..,_,_,_,_,_,h,_=>h.elim
 | .mark ..,_,_,_,_,_,h,_=>h.elim
theorem tm_soft {α:Type}{P:Program}:∀ (t:Sem α) (w:World) (es:Array Event) (x:Halt) (w1:World) (es1:Array Event),Tm (fun _=>False) t→t.runT P w es=(.halt x w1,es1)→Soft x
 | .pure a,_,_,_,_,_,h,_=>h.elim
 | .halt _,_,_,_,_,_,h,hr=>by
   simp only[Sem.runT,Prod.mk.injEq,Result.halt.injEq] at hr
   obtain⟨⟨rfl,_⟩,_⟩:=hr
   exact h
 | .program k,w,es,a,w1,es1,h,hr=>by simp only[Sem.runT] at hr;exact tm_soft _ _ _ _ _ _ (h P) hr
 | .new o k,w,es,a,w1,es1,h,hr=>by simp only[Sem.runT] at hr;exact tm_soft _ _ _ _ _ _ (h _) hr
 | .sys c k,w,es,a,w1,es1,h,hr=>by simp only[Sem.runT] at hr;exact tm_soft _ _ _ _ _ _ (h _) hr
 | .load ..,_,_,_,_,_,h,_=>h.elim
 | .store ..,_,_,_,_,_,h,_=>h.elim
 | .shape ..,_,_,_,_,_,h,_=>h.elim
 | .freeze ..,_,_,_,_,_,h,_=>h.elim
 | .frozen ..,_,_,_,_,_,h,_=>h.elim
 | .getObj ..,_,_,_,_,_,h,_=>h.elim
 | .setObj ..,_,_,_,_,_,h,_=>h.elim
 | .choose ..,_,_,_,_,_,h,_=>h.elim
 | .mark ..,_,_,_,_,_,h,_=>h.elim
def Win (w w1 W:World):Prop:=∀ j,j<w1.drawn-w.drawn→∀ q,W.tape (W.drawn+j) q=w.tape (w.drawn+j) q
set_option maxHeartbeats 1000000 in
theorem run_ren (hp:Plain P ρ)(hGO:∀ o,GO P ρ o){α β:Type}:∀ (t:Sem α) (t':Sem β) (R:α→β→Prop) (Rs:Nat→α→α→Prop) (w W:World) (es es':Array Event) (a:α) (w1:World) (es1:Array Event),
 Eqv P ρ R t t'→(∀ n,w.heap.size≤n→Eqv P (sg S S.d n) (Rs n) t t)→WR P S ρ w W→Win w w1 W→t.runT P w es=(.ok a w1,es1)→
 ∃ b W1 es1',t'.runT P W es'=(.ok b W1,es1')∧R a b∧(∀ n,w1.heap.size≤n→Rs n a a)∧WR P S ρ w1 W1∧Did S.d ρ w w1 W W1∧∀ e∈es1',e∈es'∨EvOk S.d ρ w1 e
 | .pure a0,t',R,Rs,w,W,es,es',a,w1,es1,h1,h2,hW,hn,hr=>by
   obtain⟨b,rfl,hR⟩:=h1
   simp only[Sem.runT,Prod.mk.injEq,Result.ok.injEq] at hr
   obtain⟨⟨rfl,rfl⟩,rfl⟩:=hr
   refine⟨b,W,es',rfl,hR,fun n hn=>?_,hW,Did.refl _ _,fun e he=> .inl he⟩
   obtain⟨b',e,hb⟩:=h2 n hn
   cases e;exact hb
 | .load m ad k,t',R,Rs,w,W,es,es',a,w1,es1,h1,h2,hW,hn,hr=>by
   have hno:¬ ad.block<S.d:=fun hlt=>by
    simp only[Sem.runT,cell_dead hW hlt,World.farLoad,hW.dead _ hlt,deadObj,Prod.mk.injEq] at hr
    cases hr.1
   have hfix:S.d≤ad.block∧ad.block<w.heap.size:=by
    rcases h2 w.heap.size (Nat.le_refl _) with h|⟨k',e,_⟩
    ·exact absurd h hno
    ·simp only[Sem.load.injEq] at e
     exact sg_fix.1 (ra_fix.1 e.2.1.symm)
   have h2':∀ v,(∀ n,w.heap.size≤n→rv (sg S S.d n) v=v)→∀ n,w.heap.size≤n→Eqv P (sg S S.d n) (Rs n) (k v) (k v):=fun v hv n hn=>by
    rcases h2 n hn with h|⟨k',e,hk⟩
    ·exact absurd h hno
    ·simp only[Sem.load.injEq] at e
     obtain⟨_,_,rfl⟩:=e
     have:=hk v
     rwa[hv n hn] at this
   rcases h1 with h|⟨k',rfl,hk⟩
   ·exact absurd (Nat.lt_of_lt_of_le h hW.big.r) hno
   simp only[Sem.runT] at hr ⊢
   cases hc:w.cell? ad with
   |some v=>
    rw[hc] at hr
    simp only at hr
    rw[cell_some hW.Live hfix.1 hc]
    have hcl:=cell_closed hW hfix.1 hc
    obtain⟨b,W1,es1',r1,r2,r3,r4,r5,r6⟩:=run_ren hp hGO (k v) _ R Rs w W _ (es'.push ⟨.cell (ra ρ ad),false,m== .atomic⟩) a w1 es1 (hk v) (h2' v fun n hnn=>fix_mono (sg_mono hnn).1 (sg_mono hnn).2 v hcl) hW hn hr
    refine⟨b,W1,es1',r1,r2,r3,r4,r5,fun e he=>?_⟩
    rcases r6 e he with h|h
    ·rcases Array.mem_push.1 h with h|rfl
     ·exact .inl h
     ·exact .inr ⟨ad.block,hfix.1,by have:=r5.wgrow;omega,rfl⟩
    ·exact .inr h
   |none=>
    rw[hc] at hr
    simp only at hr
    have hcW:W.cell? (ra ρ ad)=none:=by
     unfold World.cell? at hc ⊢
     obtain⟨o,ho⟩:∃ o,w.heap[ad.block]? =some o:=⟨_,Array.getElem?_eq_getElem hfix.2⟩
     have hl:=hW.live _ o hfix.1 ho
     simp only[ra,ho,hl] at hc ⊢
     cases o<;>simp only[ro] at hc ⊢
     split at hc
     ·rename_i hs;simp[hs]
     ·rename_i hs;simp[hs,hc]
    rw[hcW]
    simp only
    cases hf:w.farLoad P ad (m== .atomic) with
    |error h=>rw[hf] at hr;simp at hr
    |ok x=>
     obtain⟨v,ts⟩:=x
     rw[hf] at hr
     simp only at hr
     unfold World.farLoad at hf
     cases hh:w.heap[ad.block]? with
     |none=>rw[hh] at hf;cases hf
     |some o=>
      rw[hh] at hf
      cases o with
      |view at_ u=>
       simp only at hf
       cases hv:w.viewLoad P at_ u ad (m== .atomic) with
       |error e=>rw[hv] at hf;cases hf
       |ok x=>
        rw[hv] at hf
        simp only[Except.ok.injEq] at hf
        subst hf
        have hcl:=hW.closed _ _ hfix.1 hh
        simp only[ro,Obj.view.injEq,and_true] at hcl
        have hat:=sg_fix.1 (ra_fix.1 hcl)
        obtain⟨ts',q1,q2,q3,q4⟩:=viewLoad_ren hW.Live hat.1 hv
        have hl:=hW.live _ _ hfix.1 hh
        simp only[ro] at hl
        have:W.farLoad P (ra ρ ad) (m== .atomic)= .ok (v,ts'):=by
         unfold World.farLoad
         simp only[ra] at hl ⊢
         rw[hl]
         simp only[ra] at q1
         dsimp only
         rw[q1]
        rw[this]
        simp only
        have hkv:=hk v
        rw[q3 ρ] at hkv
        obtain⟨b,W1,es1',r1,r2,r3,r4,r5,r6⟩:=run_ren hp hGO (k v) (k' v) R Rs w W _ (es'++ts'.toArray.map (⟨.cell ·,false,m== .atomic⟩)) a w1 es1 hkv (h2' v fun n _=>q3 _) hW hn hr
        refine⟨b,W1,es1',r1,r2,r3,r4,r5,fun e he=>?_⟩
        rcases r6 e he with h|h
        ·rcases Array.mem_append.1 h with h|h
         ·exact .inl h
         ·obtain⟨x,hx,rfl⟩:=Array.mem_map.1 h
          exact .inr ⟨at_.block,hat.1,by have:=r5.wgrow;omega,q2 x (by simpa using hx)⟩
        ·exact .inr h
      |_=>cases hf
 | .store m ad v k,t',R,Rs,w,W,es,es',a,w1,es1,h1,h2,hW,hn,hr=>by
   obtain⟨k',rfl,hk⟩:=h1
   have hfix:(S.d≤ad.block∧ad.block<w.heap.size)∧rv (sg S S.d w.heap.size) v=v:=by
    obtain⟨k',e,_⟩:=h2 w.heap.size (Nat.le_refl _)
    simp only[Sem.store.injEq] at e
    exact⟨sg_fix.1 (ra_fix.1 e.2.1.symm),e.2.2.1.symm⟩
   obtain⟨hfix,hv⟩:=hfix
   have h2':∀ n,w.heap.size≤n→Eqv P (sg S S.d n) (Rs n) k k:=fun n hn=>by
    obtain⟨k',e,hk⟩:=h2 n hn
    simp only[Sem.store.injEq] at e
    obtain⟨_,_,_,rfl⟩:=e
    exact hk
   have go:∀ w2 W2 ts (ts':Array Event),WR P S ρ w2 W2→Did S.d ρ w w2 W W2→w2.heap.size=w.heap.size→w2.tape=w.tape→w2.drawn=w.drawn→W2.tape=W.tape→W2.drawn=W.drawn→(∀ e∈ts',e∈es'∨EvOk S.d ρ w e)→k.runT P w2 ts=(.ok a w1,es1)→
    ∃ b W1 es1',k'.runT P W2 ts'=(.ok b W1,es1')∧R a b∧(∀ n,w1.heap.size≤n→Rs n a a)∧WR P S ρ w1 W1∧Did S.d ρ w w1 W W1∧∀ e∈es1',e∈es'∨EvOk S.d ρ w1 e:=fun w2 W2 ts ts' hW2 hD hsz t1 t2 t3 t4 hts hrun=>by
    obtain⟨b,W1,es1',r1,r2,r3,r4,r5,r6⟩:=run_ren hp hGO k k' R Rs w2 W2 ts ts' a w1 es1 hk (by rw[hsz];exact h2') hW2 (by unfold Win;rw[t1,t2,t3,t4];exact hn) hrun
    refine⟨b,W1,es1',r1,r2,r3,r4,hD.trans r5,fun e he=>?_⟩
    rcases r6 e he with h|h
    ·rcases hts e h with h|h
     ·exact .inl h
     ·exact .inr (h.mono (by have:=r5.wgrow;omega))
    ·exact .inr h
   cases hc:w.cell? ad with
   |some v0=>
    have hcW:=cell_some hW.Live hfix.1 hc
    have hfr:=frozen_ren hW hfix.1 hfix.2
    cases hfz:w.frozen? ad with
    |true=>cases v<;>simp[Sem.runT,hc,hfz] at hr
    |false=>
     have key:k.runT P (w.setCell ad v) (es.push ⟨.cell ad,true,m== .atomic⟩)=(.ok a w1,es1)∧(Sem.store m (ra ρ ad) (rv ρ v) k').runT P W es'=k'.runT P (W.setCell (ra ρ ad) (rv ρ v)) (es'.push ⟨.cell (ra ρ ad),true,m== .atomic⟩):=by
      rw[hfz] at hfr
      cases v<;>simp only[rv,Sem.runT,hc,hfz,hcW,hfr,Bool.false_eq_true,if_false] at hr ⊢<;>first|exact⟨hr,trivial⟩|exact⟨hr,rfl⟩|(simp at hr)|trace_state
     rw[key.2]
     refine go _ _ _ _ (hW.setCell hp.inj hfix.1 hv) (did_chg hfix.1 hfix.2 (chg_modify _ _ _) (chg_modify _ _ _)) (by simp[World.setCell]) rfl rfl rfl rfl (fun e he=>?_) key.1
     rcases Array.mem_push.1 he with h|rfl
     ·exact .inl h
     ·exact .inr ⟨ad.block,hfix.1,hfix.2,rfl⟩
   |none=>
    have hcW:W.cell? (ra ρ ad)=none:=by
     unfold World.cell? at hc ⊢
     obtain⟨o,ho⟩:∃ o,w.heap[ad.block]? =some o:=⟨_,Array.getElem?_eq_getElem hfix.2⟩
     have hl:=hW.live _ o hfix.1 ho
     simp only[ra,ho,hl] at hc ⊢
     cases o<;>simp only[ro] at hc ⊢
     split at hc
     ·rename_i hs;simp[hs]
     ·rename_i hs;simp[hs,hc]
    cases hf:w.farStore P ad v (m== .atomic) with
    |error h=>cases v<;>simp[Sem.runT,hc,hf] at hr
    |ok x=>
     obtain⟨w2,ts⟩:=x
     have hf0:=hf
     unfold World.farStore at hf
     cases hh:w.heap[ad.block]? with
     |none=>rw[hh] at hf;cases hf
     |some o=>
      rw[hh] at hf
      cases o with
      |view at_ u=>
       simp only at hf
       cases hvs:w.viewStore P at_ u ad v (m== .atomic) with
       |error e=>rw[hvs] at hf;cases hf
       |ok x=>
        rw[hvs] at hf
        simp only[Except.ok.injEq] at hf
        subst hf
        have hcl:=hW.closed _ _ hfix.1 hh
        simp only[ro,Obj.view.injEq,and_true] at hcl
        have hat:=sg_fix.1 (ra_fix.1 hcl)
        obtain⟨c,c',ty,fz,ts',q1,q2,q3,q4,q5⟩:=viewStore_ren hW.Live hat.1 hvs
        have hl:=hW.live _ _ hfix.1 hh
        simp only[ro] at hl
        have hfW:W.farStore P (ra ρ ad) (rv ρ v) (m== .atomic)= .ok ({ W with heap:=W.heap.setIfInBounds (ρ at_.block) (.cells (c'.map (rv ρ)) ty fz) },ts'):=by
         unfold World.farStore
         simp only[ra] at hl ⊢
         rw[hl]
         simp only[ra] at q4
         dsimp only
         rw[q4]
        have key:k.runT P w2 (es++ts.toArray.map (⟨.cell ·,true,m== .atomic⟩))=(.ok a w1,es1)∧(Sem.store m (ra ρ ad) (rv ρ v) k').runT P W es'=k'.runT P { W with heap:=W.heap.setIfInBounds (ρ at_.block) (.cells (c'.map (rv ρ)) ty fz) } (es'++ts'.toArray.map (⟨.cell ·,true,m== .atomic⟩)):=by
         cases v<;>simp only[rv,Sem.runT,hc,hf0,hcW] at hr hfW ⊢<;>first|(rw[hfW];exact⟨hr,rfl⟩)|(simp at hr)
        rw[key.2]
        subst q2
        have hupd:WR P S ρ { w with heap:=w.heap.setIfInBounds at_.block (.cells c' ty fz) } { W with heap:=W.heap.setIfInBounds (ρ at_.block) (.cells (c'.map (rv ρ)) ty fz) }:=by
         refine hW.upd hp.inj hat.1 (chg_set _ _ _) (chg_set _ _ _) (fun o ho=>⟨trivial,rfl,fun hs=>?_⟩)
         rw[q1] at ho
         cases ho
         simp only[ro,Obj.cells.injEq,and_true] at hs ⊢
         exact q3 _ hs
        refine go _ _ _ _ hupd (did_chg hat.1 hat.2 (chg_set _ _ _) (chg_set _ _ _)) (by simp) rfl rfl rfl rfl (fun e he=>?_) key.1
        rcases Array.mem_append.1 he with h|h
        ·exact .inl h
        ·obtain⟨x,hx,rfl⟩:=Array.mem_map.1 h
         exact .inr ⟨at_.block,hat.1,hat.2,q5 x (by simpa using hx)⟩
      |_=>cases hf
 | .new o k,t',R,Rs,w,W,es,es',a,w1,es1,h1,h2,hW,hn,hr=>by
   obtain⟨hno,k',rfl,hk⟩:=h1
   have hnew:ρ w.heap.size=W.heap.size:=by have:=hW.next w.heap.size (Nat.le_refl _);omega
   have hs:ro (sg S S.d w.heap.size) o=o:=by
    obtain⟨_,k',e,_⟩:=h2 w.heap.size (Nat.le_refl _)
    simp only[Sem.new.injEq] at e
    exact e.1.symm
   have h2':∀ n,w.heap.size+1≤n→Eqv P (sg S S.d n) (Rs n) (k w.heap.size) (k w.heap.size):=fun n hn=>by
    obtain⟨_,k',e,hk⟩:=h2 n (by omega)
    simp only[Sem.new.injEq] at e
    obtain⟨_,rfl⟩:=e
    have:=hk w.heap.size
    rwa[show sg S S.d n w.heap.size=w.heap.size from sg_fix.2 ⟨hW.big.d,by omega⟩] at this
   simp only[Sem.runT] at hr ⊢
   have hkn:=hk w.heap.size
   rw[hnew] at hkn
   obtain⟨b,W1,es1',r1,r2,r3,r4,r5,r6⟩:=run_ren hp hGO (k w.heap.size) (k' W.heap.size) R Rs { w with heap:=w.heap.push o } { W with heap:=W.heap.push (ro ρ o) } es es' a w1 es1 hkn (by simpa using h2') (hW.push hno hs) hn hr
   refine⟨b,W1,es1',r1,r2,r3,r4,?_,r6⟩
   have g:=r5.wgrow
   have sz:=r5.size
   simp only[Array.size_push] at g sz
   refine⟨r5.tape,r5.drawn,r5.os,r5.output,by omega,fun x hx hnx=>?_,by omega,r5.wtape,r5.wos,r5.wout,r5.wdrawn⟩
   rw[r5.frame x (by simp only[Array.size_push];omega) hnx]
   simp only[Array.getElem?_push]
   rw[if_neg (by omega)]
 | .shape r k,t',R,Rs,w,W,es,es',a,w1,es1,h1,h2,hW,hn,hr=>by
   obtain⟨k',rfl,hk⟩:=h1
   have hfix:S.d≤r∧r<w.heap.size:=by
    obtain⟨k',e,_⟩:=h2 w.heap.size (Nat.le_refl _)
    simp only[Sem.shape.injEq] at e
    exact sg_fix.1 e.1.symm
   have h2':∀ x n,w.heap.size≤n→Eqv P (sg S S.d n) (Rs n) (k x) (k x):=fun x n hn=>by
    obtain⟨k',e,hk⟩:=h2 n hn
    simp only[Sem.shape.injEq] at e
    obtain⟨_,rfl⟩:=e
    exact hk x
   simp only[Sem.runT] at hr ⊢
   rw[shape_ren hW hfix.1 hfix.2]
   exact run_ren hp hGO _ _ R Rs w W es es' a w1 es1 (hk _) (h2' _) hW hn hr
 | .freeze ad n k,t',R,Rs,w,W,es,es',a,w1,es1,h1,h2,hW,hn,hr=>by
   obtain⟨k',rfl,hk⟩:=h1
   have hfix:S.d≤ad.block∧ad.block<w.heap.size:=by
    obtain⟨k',e,_⟩:=h2 w.heap.size (Nat.le_refl _)
    simp only[Sem.freeze.injEq] at e
    exact sg_fix.1 (ra_fix.1 e.1.symm)
   have h2':∀ n,w.heap.size≤n→Eqv P (sg S S.d n) (Rs n) k k:=fun n hn=>by
    obtain⟨k',e,hk⟩:=h2 n hn
    simp only[Sem.freeze.injEq] at e
    obtain⟨_,_,rfl⟩:=e
    exact hk
   simp only[Sem.runT] at hr ⊢
   have hsz:(w.freeze ad n).heap.size=w.heap.size:=by unfold World.freeze;split<;>simp
   obtain⟨b,W1,es1',r1,r2,r3,r4,r5,r6⟩:=run_ren hp hGO k k' R Rs (w.freeze ad n) (W.freeze (ra ρ ad) n) es es' a w1 es1 hk (by rw[hsz];exact h2') (hW.freeze hp.inj hfix.1) (by
    have e1:(w.freeze ad n).tape=w.tape:=by unfold World.freeze;split<;>rfl
    have e2:(w.freeze ad n).drawn=w.drawn:=by unfold World.freeze;split<;>rfl
    have e3:(W.freeze (ra ρ ad) n).tape=W.tape:=by unfold World.freeze;split<;>rfl
    have e4:(W.freeze (ra ρ ad) n).drawn=W.drawn:=by unfold World.freeze;split<;>rfl
    unfold Win;rw[e1,e2,e3,e4];exact hn) hr
   refine⟨b,W1,es1',r1,r2,r3,r4,Did.trans ?_ r5,r6⟩
   unfold World.freeze
   by_cases hn0:n=0
   ·simp only[hn0,if_true];exact Did.refl _ _
   ·simp only[hn0,if_false];exact did_chg hfix.1 hfix.2 (chg_modify _ _ _) (chg_modify _ _ _)
 | .frozen ad k,t',R,Rs,w,W,es,es',a,w1,es1,h1,h2,hW,hn,hr=>by
   obtain⟨k',rfl,hk⟩:=h1
   have hfix:S.d≤ad.block∧ad.block<w.heap.size:=by
    obtain⟨k',e,_⟩:=h2 w.heap.size (Nat.le_refl _)
    simp only[Sem.frozen.injEq] at e
    exact sg_fix.1 (ra_fix.1 e.1.symm)
   have h2':∀ x n,w.heap.size≤n→Eqv P (sg S S.d n) (Rs n) (k x) (k x):=fun x n hn=>by
    obtain⟨k',e,hk⟩:=h2 n hn
    simp only[Sem.frozen.injEq] at e
    obtain⟨_,rfl⟩:=e
    exact hk x
   simp only[Sem.runT] at hr ⊢
   rw[frozen_ren hW hfix.1 hfix.2]
   exact run_ren hp hGO _ _ R Rs w W es es' a w1 es1 (hk _) (h2' _) hW hn hr
 | .getObj r k,t',R,Rs,w,W,es,es',a,w1,es1,h1,h2,hW,hn,hr=>by
   obtain⟨k',rfl,hk⟩:=h1
   have hfix:S.d≤r∧r<w.heap.size:=by
    obtain⟨k',e,_⟩:=h2 w.heap.size (Nat.le_refl _)
    simp only[Sem.getObj.injEq] at e
    exact sg_fix.1 e.1.symm
   obtain⟨o,ho⟩:∃ o,w.heap[r]? =some o:=⟨_,Array.getElem?_eq_getElem hfix.2⟩
   have hl:=hW.live _ o hfix.1 ho
   have hcl:=hW.closed _ o hfix.1 ho
   have hok:=hW.ok _ o ho
   have hcn:∀ n,w.heap.size≤n→ro (sg S S.d n) o=o:=fun n hn=>fixO_mono (sg_mono hn).1 (sg_mono hn).2 hcl
   have h2':∀ n,w.heap.size≤n→Eqv P (sg S S.d n) (Rs n) (k o) (k o):=fun n hn=>by
    obtain⟨k',e,hk⟩:=h2 n hn
    simp only[Sem.getObj.injEq] at e
    obtain⟨_,rfl⟩:=e
    have:=hk o (.inr (hcn n hn))
    rwa[hcn n hn] at this
   have go:∀ (ts:Array Event) (sy:Bool),sy=false→(k o).runT P w ts=(.ok a w1,es1)→∃ b W1 es1',(k' (ro ρ o)).runT P W (es'.push ⟨.obj (ρ r),false,sy⟩)=(.ok b W1,es1')∧R a b∧(∀ n,w1.heap.size≤n→Rs n a a)∧WR P S ρ w1 W1∧Did S.d ρ w w1 W W1∧∀ e∈es1',e∈es'∨EvOk S.d ρ w1 e:=fun ts sy hsy hrun=>by
    subst hsy
    obtain⟨b,W1,es1',r1,r2,r3,r4,r5,r6⟩:=run_ren hp hGO (k o) (k' (ro ρ o)) R Rs w W ts _ a w1 es1 (hk o (hGO o)) h2' hW hn hrun
    refine⟨b,W1,es1',r1,r2,r3,r4,r5,fun e he=>?_⟩
    rcases r6 e he with h|h
    ·rcases Array.mem_push.1 h with h|rfl
     ·exact .inl h
     ·exact .inr ⟨⟨r,hfix.1,by have:=r5.wgrow;omega,rfl⟩,rfl⟩
    ·exact .inr h
   simp only[Sem.runT,ho,hl] at hr ⊢
   cases o with
   |cells c e f=>simp at hr
   |view x t=>exact go _ _ rfl hr
   |number x t=>exact go _ _ rfl hr
   |map x t=>exact go _ _ rfl hr
   |_=>exact hok.elim
 | .setObj r o k,t',R,Rs,w,W,es,es',a,w1,es1,h1,h2,hW,hn,hr=>by
   obtain⟨hso,k',rfl,hk⟩:=h1
   have hfix:(S.d≤r∧r<w.heap.size)∧ro (sg S S.d w.heap.size) o=o:=by
    obtain⟨_,k',e,_⟩:=h2 w.heap.size (Nat.le_refl _)
    simp only[Sem.setObj.injEq] at e
    exact⟨sg_fix.1 e.1.symm,e.2.1.symm⟩
   obtain⟨hfix,hcl⟩:=hfix
   have h2':∀ n,w.heap.size≤n→Eqv P (sg S S.d n) (Rs n) k k:=fun n hn=>by
    obtain⟨_,k',e,hk⟩:=h2 n hn
    simp only[Sem.setObj.injEq] at e
    obtain⟨_,_,rfl⟩:=e
    exact hk
   obtain⟨o0,ho⟩:∃ o,w.heap[r]? =some o:=⟨_,Array.getElem?_eq_getElem hfix.2⟩
   have hl:=hW.live _ o0 hfix.1 ho
   have hok:=hW.ok _ o0 ho
   have hupd:WR P S ρ { w with heap:=w.heap.setIfInBounds r o } { W with heap:=W.heap.setIfInBounds (ρ r) (ro ρ o) }:=by
    refine hW.upd hp.inj hfix.1 (chg_set _ _ _) (chg_set _ _ _) (fun o1 _=>⟨?_,rfl,fun _=>hcl⟩)
    cases o<;>first|exact hso.elim|trivial
   have go:∀ (ts:Array Event),k.runT P { w with heap:=w.heap.setIfInBounds r o } ts=(.ok a w1,es1)→∃ b W1 es1',k'.runT P { W with heap:=W.heap.setIfInBounds (ρ r) (ro ρ o) } (es'.push ⟨.obj (ρ r),true,false⟩)=(.ok b W1,es1')∧R a b∧(∀ n,w1.heap.size≤n→Rs n a a)∧WR P S ρ w1 W1∧Did S.d ρ w w1 W W1∧∀ e∈es1',e∈es'∨EvOk S.d ρ w1 e:=fun ts hrun=>by
    obtain⟨b,W1,es1',r1,r2,r3,r4,r5,r6⟩:=run_ren hp hGO k k' R Rs _ _ ts (es'.push ⟨.obj (ρ r),true,false⟩) a w1 es1 hk (by simpa using h2') hupd hn hrun
    refine⟨b,W1,es1',r1,r2,r3,r4,(did_chg hfix.1 hfix.2 (chg_set _ _ _) (chg_set _ _ _)).trans r5,fun e he=>?_⟩
    rcases r6 e he with h|h
    ·rcases Array.mem_push.1 h with h|rfl
     ·exact .inl h
     ·exact .inr ⟨⟨r,hfix.1,by have:=r5.wgrow;simp at this;omega,rfl⟩,rfl⟩
    ·exact .inr h
   have hch:o.isChan=false∧(ro ρ o).isChan=false:=by cases o<;>first|exact hso.elim|exact⟨rfl,rfl⟩
   simp only[Sem.runT,ho,hl,hch.1,hch.2] at hr ⊢
   cases o0 with
   |cells c e f=>simp at hr
   |view x t=>exact go _ hr
   |number x t=>exact go _ hr
   |map x t=>exact go _ hr
   |_=>exact hok.elim
 | .choose q k,t',R,Rs,w,W,es,es',a,w1,es1,h1,h2,hW,hn,hr=>by
   obtain⟨k',rfl,hk⟩:=h1
   have h2':∀ x n,w.heap.size≤n→Eqv P (sg S S.d n) (Rs n) (k x) (k x):=fun x n hn=>by
    obtain⟨k',e,hk⟩:=h2 n hn
    simp only[Sem.choose.injEq] at e
    obtain⟨_,rfl⟩:=e
    exact hk x
   simp only[Sem.runT] at hr ⊢
   by_cases hq:q.forced=true
   ·simp only[hq,if_true] at hr ⊢
    exact run_ren hp hGO _ _ R Rs w W es es' a w1 es1 (hk _) (h2' _) hW hn hr
   ·simp only[hq,if_false,Bool.false_eq_true] at hr ⊢
    have hd:=run_drawn _ _ _ _ _ _ hr
    simp only at hd
    have h0:=hn 0 (by omega) q
    simp only[Nat.add_zero] at h0
    rw[h0]
    obtain⟨b,W1,es1',r1,r2,r3,r4,r5,r6⟩:=run_ren hp hGO (k (q.cut (w.tape w.drawn q))) (k' (q.cut (w.tape w.drawn q))) R Rs { w with drawn:=w.drawn+1 } { W with drawn:=W.drawn+1 } es es' a w1 es1 (hk _) (h2' _) (hW.drew _ _) (fun j hj qq=>by
     have:=hn (j+1) (by simp only at hj;omega) qq
     show W.tape (W.drawn+1+j) qq=w.tape (w.drawn+1+j) qq
     rw[show W.drawn+1+j=W.drawn+(j+1) by omega,show w.drawn+1+j=w.drawn+(j+1) by omega]
     exact this) hr
    exact⟨b,W1,es1',r1,r2,r3,r4,⟨r5.tape,by have:=r5.drawn;simp only at this;omega,r5.os,r5.output,r5.size,r5.frame,r5.wgrow,r5.wtape,r5.wos,r5.wout,by have:=r5.wdrawn;simp only at this;omega⟩,r6⟩
 | .sys c k,t',R,Rs,w,W,es,es',a,w1,es1,h1,h2,hW,hn,hr=>(tm_dead (.sys c k) _ _ _ _ _ h1 hr).elim
 | .program k,t',R,Rs,w,W,es,es',a,w1,es1,h1,h2,hW,hn,hr=>by
   obtain⟨k',rfl,hk⟩:=h1
   have h2':∀ n,w.heap.size≤n→Eqv P (sg S S.d n) (Rs n) (k P) (k P):=fun n hn=>by
    obtain⟨k',e,hk⟩:=h2 n hn
    simp only[Sem.program.injEq] at e
    obtain rfl:=e
    exact hk
   simp only[Sem.runT] at hr ⊢
   exact run_ren hp hGO (k P) (k' P) R Rs w W es es' a w1 es1 hk h2' hW hn hr
 | .mark m k,t',R,Rs,w,W,es,es',a,w1,es1,h1,h2,hW,hn,hr=>by
   obtain⟨hm,k',rfl,hk⟩:=h1
   have h2':∀ n,w.heap.size≤n→Eqv P (sg S S.d n) (Rs n) k k:=fun n hn=>by
    obtain⟨_,k',e,hk⟩:=h2 n hn
    simp only[Sem.mark.injEq] at e
    obtain⟨_,rfl⟩:=e
    exact hk
   simp only[Sem.runT] at hr ⊢
   obtain⟨b,W1,es1',r1,r2,r3,r4,r5,r6⟩:=run_ren hp hGO k k' R Rs w W _ (es'.push ⟨.mark m,false,true⟩) a w1 es1 hk h2' hW hn hr
   refine⟨b,W1,es1',r1,r2,r3,r4,r5,fun e he=>?_⟩
   rcases r6 e he with h|h
   ·rcases Array.mem_push.1 h with h|rfl
    ·exact .inl h
    ·exact .inr ⟨hm,rfl⟩
   ·exact .inr h
 | .halt h,t',R,Rs,w,W,es,es',a,w1,es1,h1,h2,hW,hn,hr=>by simp[Sem.runT] at hr
end
end Go.Ren
