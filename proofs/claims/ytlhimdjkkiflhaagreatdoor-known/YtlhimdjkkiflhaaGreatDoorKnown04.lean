import Derived.Conc.Own
import Derived.Test.YtlhimdjkkiflhaaGreatDoorKnown03
set_option maxHeartbeats 8000000
set_option maxRecDepth 100000
namespace Go.Ren
open Go
def ia:Obj:= .cells #[] 0 (0,0)
structure vO (P:Program) (S:Sd) (ρ:Rn) (n:Nat):Prop where
 d:S.d≤n
 g:S.g≤n
 r:ρ.d≤S.d
 p:P.globals.size≤n
 dp:S.d≤P.globals.size
 fg:∀g,S.d≤g→g<S.g→ρ g=g
 fl:∀g,g<S.d→g<ρ.d∨ρ g=g
theorem vO.mono {P:Program}{S:Sd}{ρ:Rn}{n m:Nat}(h:vO P S ρ n)(hn:n≤m):vO P S ρ m:=⟨zad h.d hn,zad h.g hn,h.r,zad h.p hn,h.dp,h.fg,h.fl⟩
structure WR (P:Program) (S:Sd) (ρ:Rn) (w W:World):Prop where
 live:∀(r:Nat) (o:Obj),S.d≤r→w.heap[r]?=some o→W.heap[ρ r]?=some (ro ρ o)
 ok:∀(r:Nat) (o:Obj),w.heap[r]?=some o→lr o
 dead:∀(r:Nat),r<S.d→w.heap[r]?=some ia
 closed:∀(r:Nat) (o:Obj),S.d≤r→w.heap[r]?=some o→ro (sg S S.d w.heap.size) o=o
 next:∀r:Nat,w.heap.size≤r→ρ r=W.heap.size+(r-w.heap.size)
 low:∀r:Nat,S.d≤r→r<w.heap.size→ρ r<W.heap.size
 big:vO P S ρ w.heap.size
def Touch (b0:Nat)(ρ:Rn)(w:World)(b:Nat):Prop:=∃r,b0≤r∧r<w.heap.size∧b=ρ r
def mX (b0:Nat)(ρ:Rn)(w:World)(e:Event):Prop:=
 match e.loc with
 |.cell a=>Touch b0 ρ w a.block
 |.obj r=>Touch b0 ρ w r∧e.sync=false
 |.mark m=>Xb m∧e.sync=true
 |_=>False
structure BH (b0:Nat) (ρ:Rn) (w w1 W W1:World):Prop where
 tape:W1.tape=W.tape
 drawn:W1.drawn+w.drawn=W.drawn+w1.drawn
 os:W1.os=W.os
 output:W1.output=W.output
 size:W1.heap.size+w.heap.size=W.heap.size+w1.heap.size
 frame:∀b:Nat,b<W.heap.size→¬Touch b0 ρ w1 b→W1.heap[b]?=W.heap[b]?
 fX:w.heap.size≤w1.heap.size
 B5:w1.tape=w.tape
 XU:w1.os=w.os
 Me:w1.output=w.output
 sH:w.drawn≤w1.drawn
section
variable {P:Program}{S:Sd}{b0:Nat}{ρ:Rn}{w W:World}
theorem BH.refl (w W:World):BH b0 ρ w w W W:=⟨rfl,rfl,rfl,rfl,rfl,λ_ _ _=>rfl,zaa _,rfl,rfl,rfl,zaa _⟩
theorem Touch.mono {w w1:World}{b:Nat}(h:Touch b0 ρ w b)(hg:w.heap.size≤w1.heap.size):Touch b0 ρ w1 b:=by
 obtain⟨r,hl,hr,rfl⟩:=h;exact⟨r,hl,by omega,rfl⟩
theorem mX.mono {w w1:World}{e:Event}(h:mX b0 ρ w e)(hg:w.heap.size≤w1.heap.size):mX b0 ρ w1 e:=by
 unfold mX at h ⊢;split<;>simp_all
 ·exact h.mono hg
 ·exact h.1.mono hg
theorem BH.trans {w w1 w2 W W1 W2:World}(h:BH b0 ρ w w1 W W1)(h2:BH b0 ρ w1 w2 W1 W2):BH b0 ρ w w2 W W2:=by
 refine⟨h2.tape.trans h.tape,by have:=h.drawn;have:=h2.drawn;omega,h2.os.trans h.os,h2.output.trans h.output,by have:=h.size;have:=h2.size;omega,λb hb hn=>?_,zad h.fX h2.fX,h2.B5.trans h.B5,h2.XU.trans h.XU,h2.Me.trans h.Me,zad h.sH h2.sH⟩;rw[h2.frame b (by have:=h.size;have:=h.fX;omega) hn];exact h.frame b hb λhx=>hn (hx.mono h2.fX)
def WB (H:Array Obj)(b:Nat)(f:Obj→Obj)(H':Array Obj):Prop:=H'.size=H.size∧∀j:Nat,H'[j]?=if j=b then(H[j]?).map f else H[j]?
theorem fF (H:Array Obj)(b:Nat)(f:Obj→Obj):WB H b f (H.modify b f):=by
 refine⟨by simp,λj=>?_⟩;rw[zbs];by_cases h:b=j
 ·subst h;simp
 ·rw[if_neg h,if_neg (λe=>h (Eq.symm e))]
theorem gq (H:Array Obj)(b:Nat)(o:Obj):WB H b (λ_=>o) (H.setIfInBounds b o):=by
 refine⟨by simp,λj=>?_⟩;rw[zbJ];by_cases h:b=j
 ·subst h;by_cases hb:b<H.size
  ·simp[hb]
  ·simp[hb]
 ·rw[if_neg h,if_neg (λe=>h (Eq.symm e))]
theorem fG {H:Array Obj}{r:Nat}{o:Obj}(h:H[r]?=some o):r<H.size:=(zac.1 h).1
theorem WR.upd (hi:∀a b,ρ a=ρ b→a=b)(h:WR P S ρ w W){b:Nat}{f g:Obj→Obj}{H H':Array Obj}(hb:S.d≤b)
 (c1:WB w.heap b f H)(c2:WB W.heap (ρ b) g H')
 (hfg:∀o,w.heap[b]?=some o→lr (f o)∧g (ro ρ o)=ro ρ (f o)∧(ro (sg S S.d w.heap.size) o=o→ro (sg S S.d w.heap.size) (f o)=f o)):
 WR P S ρ { w with heap:=H } { W with heap:=H' }:=by
 refine⟨λr o hl ho=>?_,λr o ho=>?_,λr hr=>?_,λr o hl ho=>?_,λr hr=>?_,λr hl hr=>?_,?_⟩
 ·have h1:=c1.2 r;have h2:=c2.2 (ρ r);simp only at ho ⊢;rw[h1]at ho;rw[h2];by_cases e:r=b
  ·subst e;simp only[if_true]at ho ⊢;obtain⟨o0,h0,rfl⟩:=zai.1 ho;rw[h.live r o0 hl h0];simp[(hfg o0 h0).2.1]
  ·have:ρ r≠ρ b:=λx=>e (hi _ _ x);simp only[e,this,if_false]at ho ⊢;exact h.live r o hl ho
 ·have h1:=c1.2 r;simp only at ho;rw[h1]at ho;by_cases e:r=b
  ·subst e;simp only[if_true]at ho;obtain⟨o0,h0,rfl⟩:=zai.1 ho;exact(hfg o0 h0).1
  ·simp only[e,if_false]at ho;exact h.ok r o ho
 ·have h1:=c1.2 r;simp only;rw[h1,if_neg (by omega)];exact h.dead r hr
 ·have h1:=c1.2 r;simp only[c1.1]at ho ⊢;rw[h1]at ho;by_cases e:r=b
  ·subst e;simp only[if_true]at ho;obtain⟨o0,h0,rfl⟩:=zai.1 ho;exact(hfg o0 h0).2.2 (h.closed r o0 hl h0)
  ·simp only[e,if_false]at ho;exact h.closed r o hl ho
 ·simp only at hr ⊢;rw[c2.1];rw[c1.1]at hr ⊢;exact h.next r hr
 ·simp only at hr ⊢;rw[c2.1];rw[c1.1]at hr;exact h.low r hl hr
 ·simp only[c1.1];exact h.big
theorem WR.push (h:WR P S ρ w W){o:Obj}(ho:lr o)(hs:ro (sg S S.d w.heap.size) o=o):WR P S ρ { w with heap:=w.heap.push o } { W with heap:=W.heap.push (ro ρ o) }:=by
 have B6:ρ w.heap.size=W.heap.size:=by have:=h.next w.heap.size (zaa _);omega
 have hm:=dv (S:=S) (b0:=S.d) (Nat.le_succ w.heap.size);have af4:=h.big.d;refine⟨λr o1 hr h1=>?_,λr o1 h1=>?_,λr hr=>?_,λr o1 hr h1=>?_,λr hr=>?_,λr hl hr=>?_,?_⟩
 ·simp only[zbe]at h1 ⊢;by_cases e:r=w.heap.size
  ·subst e;simp only[if_true,zam]at h1;subst h1;simp[B6]
  ·simp only[e,if_false]at h1;have hlt:=fG h1;have:=h.low r hr hlt;rw[if_neg (by omega)];exact h.live r o1 hr h1
 ·simp only[zbe]at h1;by_cases e:r=w.heap.size
  ·subst e;simp only[if_true,zam]at h1;subst h1;exact ho
  ·simp only[e,if_false]at h1;exact h.ok r o1 h1
 ·simp only[zbe];rw[if_neg (by omega)];exact h.dead r hr
 ·simp only[zbe,zbt]at h1 ⊢;by_cases e:r=w.heap.size
  ·subst e;simp only[if_true,zam]at h1;subst h1;exact oF hm.1 hm.2 hs
  ·simp only[e,if_false]at h1;exact oF hm.1 hm.2 (h.closed r o1 hr h1)
 ·simp only[zbt]at hr ⊢;have:=h.next r (by omega);omega
 ·simp only[zbt]at hr ⊢;by_cases e:r=w.heap.size
  ·subst e;omega
  ·have:=h.low r hl (by omega);omega
 ·simp only[zbt];exact h.big.mono (Nat.le_succ _)
theorem WR.Live (h:WR P S ρ w W):Live S.d ρ w W:=⟨h.live⟩
theorem WR.drew (h:WR P S ρ w W)(d D:Nat):WR P S ρ { w with drawn:=d } { W with drawn:=D }:=⟨h.live,h.ok,h.dead,h.closed,h.next,h.low,h.big⟩
theorem tU (h:WR P S ρ w W){a:Addr}{v:Value}(hl:S.d≤a.block)(hc:w.cell? a=some v):rv (sg S S.d w.heap.size) v=v:=by
 unfold World.cell? at hc;cases hh:w.heap[a.block]? with
 |none=>rw[hh]at hc;cases hc
 |some o=>
  have hs:=h.closed _ o hl hh;rw[hh]at hc;cases o with
  |cells c e f=>
   simp only at hc;split at hc
   ·cases hc
   ·simp only[ro,Obj.cells.injEq,and_true]at hs;exact bj.1 hs v (zaX hc)
  |_=>cases hc
theorem yU (h:WR P S ρ w W){a:Addr}(hl:a.block<S.d):w.cell? a=none:=by
 unfold World.cell?
 rw[h.dead _ hl];simp[ia]
theorem vP (h:WR P S ρ w W){a:Addr}(hl:S.d≤a.block)(hs:a.block<w.heap.size):W.frozen? (ra ρ a)=w.frozen? a:=by
 unfold World.frozen?
 obtain⟨o,ho⟩:∃o,w.heap[a.block]?=some o:=⟨_,zaq hs⟩;have:=h.live _ o hl ho;simp only[ra,ho,this];cases o<;>rfl
theorem Jm (h:WR P S ρ w W){r:Nat}(hl:S.d≤r)(hs:r<w.heap.size):W.shape? (ρ r)=w.shape? r:=by
 unfold World.shape?
 obtain⟨o,ho⟩:∃o,w.heap[r]?=some o:=⟨_,zaq hs⟩;have:=h.live _ o hl ho;simp only[ho,this];cases o<;>simp[ro]
theorem WR.setCell (hi:∀a b,ρ a=ρ b→a=b)(h:WR P S ρ w W){a:Addr}{v:Value}(hl:S.d≤a.block)(hv:rv (sg S S.d w.heap.size) v=v):WR P S ρ (w.setCell a v) (W.setCell (ra ρ a) (rv ρ v)):=by
 refine h.upd hi hl (fF _ _ _) (fF _ _ _) (λo ho=>?_);have bX:=h.ok _ o ho;cases o with
 |cells c e f=>
  refine⟨trivial,?_,λhs=>?_⟩
  ·simp only[ro,ra];by_cases hsp:a.spot.isSome=true<;>simp[hsp,Array.map_setIfInBounds]
  ·simp only[ro,Obj.cells.injEq,and_true]at hs ⊢;split
   ·exact hs
   ·rw[zbr,hs,hv]
 |view a t=>exact⟨trivial,rfl,λhs=>hs⟩
 |number a t=>exact⟨trivial,rfl,λhs=>hs⟩
 |map a t=>exact⟨trivial,rfl,λhs=>hs⟩
 |_=>exact bX.elim
theorem WR.freeze (hi:∀a b,ρ a=ρ b→a=b)(h:WR P S ρ w W){a:Addr}{n:Nat}(hl:S.d≤a.block):WR P S ρ (w.freeze a n) (W.freeze (ra ρ a) n):=by
 unfold World.freeze;by_cases hn:n=0
 ·simp only[hn,if_true];exact h
 ·simp only[hn,if_false];refine h.upd hi hl (fF _ _ _) (fF _ _ _) (λo ho=>?_);have bX:=h.ok _ o ho;cases o with
  |cells c e f=>exact⟨trivial,rfl,λhs=>by simpa[ro]using hs⟩
  |view a t=>exact⟨trivial,rfl,λhs=>hs⟩
  |number a t=>exact⟨trivial,rfl,λhs=>hs⟩
  |map a t=>exact⟨trivial,rfl,λhs=>hs⟩
  |_=>exact bX.elim
theorem uU {H H':Array Obj}{b:Nat}{f g:Obj→Obj}(hb:b0≤b)(hs:b<w.heap.size)(c1:WB w.heap b f H)(c2:WB W.heap (ρ b) g H'):BH b0 ρ w { w with heap:=H } W { W with heap:=H' }:=
 ⟨rfl,rfl,rfl,rfl,by show H'.size+w.heap.size=W.heap.size+H.size;rw[c1.1,c2.1],λx hx hn=>by
   show H'[x]?=_;rw[c2.2 x,if_neg];rintro rfl;exact hn ⟨b,hb,by show b<H.size;rw[c1.1];exact hs,rfl⟩,by show w.heap.size≤H.size;rw[c1.1];omega,rfl,rfl,rfl,zaa _⟩
theorem sI {α:Type}:∀(x:Ask α) (w:World),w.drawn≤(w.ask x).2.drawn
 |.done a,w=>zaa _
 |.ask what range k,w=>by
  unfold World.ask;dsimp only;split
  ·exact sI (k 0) w
  ·have:=sI (k ((Question.extern what range).cut (w.tape w.drawn (Question.extern what range)))) { w with drawn:=w.drawn+1 };simp only at this;omega
theorem Jn (c:Sys)(w:World):w.drawn≤(w.sys c).2.drawn:=by
 unfold World.sys;have:=sI (Kernel.perform c w.os) w;split<;>rename_i h
 ·exact zaa _
 ·rw[h]at this;exact this
theorem vQ {w w2:World}{a:Addr}{v:Value}{b:Bool}{ts:List Addr}(h:w.farStore P a v b=.ok (w2,ts)):w2.drawn=w.drawn:=by
 unfold World.farStore at h;split at h
 ·split at h
  ·rename_i r hv;cases h;unfold World.viewStore at hv;simp only[bind,Except.bind]at hv;repeat' split at hv
   all_goals first|(cases hv;done)|(simp only[pure,Except.pure,Except.ok.injEq,zab]at hv;obtain⟨rfl,rfl⟩:=hv;rfl)|(simp[throw,throwThe,MonadExceptOf.throw]at hv)
  ·cases h
 ·cases h
theorem cG {α:Type}:∀(t:Sem α) (w:World) (es:Array Event) (a:α) (w1:World) (cM:Array Event),t.runT P w es=(.ok a w1,cM)→w.drawn≤w1.drawn
 |.pure _,w,es,a,w1,cM,h=>by simp only[Sem.runT,zab,Result.ok.injEq]at h;rw[h.1.2];exact zaa _
 |.load m ad k,w,es,a,w1,cM,h=>by
  simp only[Sem.runT]at h;split at h
  ·exact cG _ _ _ _ _ _ h
  ·split at h
   ·exact cG _ _ _ _ _ _ h
   ·simp at h
 |.store m ad v k,w,es,a,w1,cM,h=>by
  have key:(∃ts,k.runT P (w.setCell ad v) ts=(.ok a w1,cM))∨∃w2 ts yg,w.farStore P ad v (m== .atomic)=.ok (w2,yg)∧k.runT P w2 ts=(.ok a w1,cM):=by
   cases v<;>simp only[Sem.runT]at h<;>first
    |(simp at h;done)
    |(split at h
      ·split at h
       ·simp at h
       ·exact .inl ⟨_,h⟩
      ·split at h
       ·exact .inr ⟨_,_,_,‹_›,h⟩
       ·simp at h)
  rcases key with⟨ts,h⟩|⟨w2,ts,yg,hf,h⟩
  ·have:=cG _ _ _ _ _ _ h;exact this
  ·have:=cG _ _ _ _ _ _ h;rw[vQ hf]at this;exact this
 |.new o k,w,es,a,w1,cM,h=>by simp only[Sem.runT]at h;have:=cG _ _ _ _ _ _ h;exact this
 |.shape r k,w,es,a,w1,cM,h=>by simp only[Sem.runT]at h;exact cG _ _ _ _ _ _ h
 |.freeze ad n k,w,es,a,w1,cM,h=>by
  simp only[Sem.runT]at h;have:=cG _ _ _ _ _ _ h;have e:(w.freeze ad n).drawn=w.drawn:=by unfold World.freeze;split<;>rfl
  omega
 |.frozen ad k,w,es,a,w1,cM,h=>by simp only[Sem.runT]at h;exact cG _ _ _ _ _ _ h
 |.getObj r k,w,es,a,w1,cM,h=>by
  simp only[Sem.runT]at h;split at h<;>first|(simp at h;done)|exact cG _ _ _ _ _ _ h
 |.setObj r o k,w,es,a,w1,cM,h=>by
  simp only[Sem.runT]at h;split at h
  ·simp at h
  ·have:=cG _ _ _ _ _ _ h;exact this
  ·simp at h
 |.choose q k,w,es,a,w1,cM,h=>by
  simp only[Sem.runT]at h;split at h
  ·exact cG _ _ _ _ _ _ h
  ·have:=cG _ _ _ _ _ _ h;simp only at this;omega
 |.sys c k,w,es,a,w1,cM,h=>by
  simp only[Sem.runT]at h;exact zad (Jn c w) (cG _ _ _ _ _ _ h)
 |.program k,w,es,a,w1,cM,h=>by simp only[Sem.runT]at h;exact cG _ _ _ _ _ _ h
 |.mark m k,w,es,a,w1,cM,h=>by simp only[Sem.runT]at h;exact cG _ _ _ _ _ _ h
 |.halt _,w,es,a,w1,cM,h=>by simp[Sem.runT]at h
theorem uV {α:Type}{P:Program}:∀(t:Sem α) (w:World) (es:Array Event) (a:α) (w1:World) (cM:Array Event),Tm (λ_=>False) t→t.runT P w es=(.ok a w1,cM)→False
 |.pure a,_,_,_,_,_,h,_=>h
 |.halt _,_,_,_,_,_,_,h=>by simp[Sem.runT]at h
 |.program k,w,es,a,w1,cM,h,hr=>by simp only[Sem.runT]at hr;exact uV _ _ _ _ _ _ (h P) hr
 |.new o k,w,es,a,w1,cM,h,hr=>by simp only[Sem.runT]at hr;exact uV _ _ _ _ _ _ (h _) hr
 |.sys c k,w,es,a,w1,cM,h,hr=>by simp only[Sem.runT]at hr;exact uV _ _ _ _ _ _ (h _) hr
 |.load ..,_,_,_,_,_,h,_=>h.elim
 |.store ..,_,_,_,_,_,h,_=>h.elim
 |.shape ..,_,_,_,_,_,h,_=>h.elim
 |.freeze ..,_,_,_,_,_,h,_=>h.elim
 |.frozen ..,_,_,_,_,_,h,_=>h.elim
 |.getObj ..,_,_,_,_,_,h,_=>h.elim
 |.setObj ..,_,_,_,_,_,h,_=>h.elim
 |.choose ..,_,_,_,_,_,h,_=>h.elim
 |.mark ..,_,_,_,_,_,h,_=>h.elim
theorem uW {α:Type}{P:Program}:∀(t:Sem α) (w:World) (es:Array Event) (x:Halt) (w1:World) (cM:Array Event),Tm (λ_=>False) t→t.runT P w es=(.halt x w1,cM)→BR x
 |.pure a,_,_,_,_,_,h,_=>h.elim
 |.halt _,_,_,_,_,_,h,hr=>by
  simp only[Sem.runT,zab,Result.halt.injEq]at hr;obtain⟨⟨rfl,_⟩,_⟩:=hr;exact h
 |.program k,w,es,a,w1,cM,h,hr=>by simp only[Sem.runT]at hr;exact uW _ _ _ _ _ _ (h P) hr
 |.new o k,w,es,a,w1,cM,h,hr=>by simp only[Sem.runT]at hr;exact uW _ _ _ _ _ _ (h _) hr
 |.sys c k,w,es,a,w1,cM,h,hr=>by simp only[Sem.runT]at hr;exact uW _ _ _ _ _ _ (h _) hr
 |.load ..,_,_,_,_,_,h,_=>h.elim
 |.store ..,_,_,_,_,_,h,_=>h.elim
 |.shape ..,_,_,_,_,_,h,_=>h.elim
 |.freeze ..,_,_,_,_,_,h,_=>h.elim
 |.frozen ..,_,_,_,_,_,h,_=>h.elim
 |.getObj ..,_,_,_,_,_,h,_=>h.elim
 |.setObj ..,_,_,_,_,_,h,_=>h.elim
 |.choose ..,_,_,_,_,_,h,_=>h.elim
 |.mark ..,_,_,_,_,_,h,_=>h.elim
def WC (w w1 W:World):Prop:=∀j,j<w1.drawn-w.drawn→∀q,W.tape (W.drawn+j) q=w.tape (w.drawn+j) q
theorem cS (hp:Plain P ρ)(He:∀o,GO P ρ o){α β:Type}:∀(t:Sem α) (t':Sem β) (R:α→β→Prop) (Rs:Nat→α→α→Prop) (w W:World) (es es':Array Event) (a:α) (w1:World) (cM:Array Event),ae P ρ R t t'→(∀n,w.heap.size≤n→ae P (sg S S.d n) (Rs n) t t)→WR P S ρ w W→WC w w1 W→t.runT P w es=(.ok a w1,cM)→∃b W1 ib,t'.runT P W es'=(.ok b W1,ib)∧R a b∧(∀n,w1.heap.size≤n→Rs n a a)∧WR P S ρ w1 W1∧BH S.d ρ w w1 W W1∧∀e∈ib,e∈es'∨mX S.d ρ w1 e
 |.pure a0,t',R,Rs,w,W,es,es',a,w1,cM,h1,h2,hW,hn,hr=>by
  obtain⟨b,rfl,hR⟩:=h1;simp only[Sem.runT,zab,Result.ok.injEq]at hr;obtain⟨⟨rfl,rfl⟩,rfl⟩:=hr;refine⟨b,W,es',rfl,hR,λn hn=>?_,hW,BH.refl _ _,λe he=> .inl he⟩;obtain⟨b',e,hb⟩:=h2 n hn;cases e;exact hb
 |.load m ad k,t',R,Rs,w,W,es,es',a,w1,cM,h1,h2,hW,hn,hr=>by
  have hno:¬ad.block<S.d:=λhlt=>by
   simp only[Sem.runT,yU hW hlt,World.farLoad,hW.dead _ hlt,ia,zab]at hr;cases hr.1
  have cj:S.d≤ad.block∧ad.block<w.heap.size:=by
   rcases h2 w.heap.size (zaa _)with h|⟨k',e,_⟩
   ·exact absurd h hno
   ·simp only[Sem.load.injEq]at e;exact bH.1 (gF.1 e.2.1.symm)
  have iZ:∀v,(∀n,w.heap.size≤n→rv (sg S S.d n) v=v)→∀n,w.heap.size≤n→ae P (sg S S.d n) (Rs n) (k v) (k v):=λv hv n hn=>by
   rcases h2 n hn with h|⟨k',e,hk⟩
   ·exact absurd h hno
   ·simp only[Sem.load.injEq]at e;obtain⟨_,_,rfl⟩:=e;have:=hk v;rwa[hv n hn]at this
  rcases h1 with h|⟨k',rfl,hk⟩
  ·exact absurd (zaw h hW.big.r) hno
  simp only[Sem.runT]at hr ⊢;cases hc:w.cell? ad with
  |some v=>
   rw[hc]at hr;simp only at hr;rw[yT hW.Live cj.1 hc];have fe:=tU hW cj.1 hc;obtain⟨b,W1,ib,r1,r2,r3,r4,r5,r6⟩:=cS hp He (k v) _ R Rs w W _ (es'.push ⟨.cell (ra ρ ad),false,m== .atomic⟩) a w1 cM (hk v) (iZ v λn Xd=>eu (dv Xd).1 (dv Xd).2 v fe) hW hn hr;refine⟨b,W1,ib,r1,r2,r3,r4,r5,λe he=>?_⟩;rcases r6 e he with h|h
   ·rcases Array.mem_push.1 h with h|rfl
    ·exact .inl h
    ·exact .inr ⟨ad.block,cj.1,by have:=r5.fX;omega,rfl⟩
   ·exact .inr h
  |none=>
   rw[hc]at hr;simp only at hr;have XV:W.cell? (ra ρ ad)=none:=by
    unfold World.cell? at hc ⊢;obtain⟨o,ho⟩:∃o,w.heap[ad.block]?=some o:=⟨_,zaq cj.2⟩;have hl:=hW.live _ o cj.1 ho;simp only[ra,ho,hl]at hc ⊢;cases o<;>simp only[ro]at hc ⊢;split at hc
    ·rename_i hs;simp[hs]
    ·rename_i hs;simp[hs,hc]
   rw[XV];simp only;cases hf:w.farLoad P ad (m== .atomic)with
   |error h=>rw[hf]at hr;simp at hr
   |ok x=>
    obtain⟨v,ts⟩:=x;rw[hf]at hr;simp only at hr;unfold World.farLoad at hf;cases hh:w.heap[ad.block]? with
    |none=>rw[hh]at hf;cases hf
    |some o=>
     rw[hh]at hf;cases o with
     |view at_ u=>
      simp only at hf;cases hv:w.viewLoad P at_ u ad (m== .atomic)with
      |error e=>rw[hv]at hf;cases hf
      |ok x=>
       rw[hv]at hf;simp only[Except.ok.injEq]at hf;subst hf;have fe:=hW.closed _ _ cj.1 hh;simp only[ro,Obj.view.injEq,and_true]at fe;have hat:=bH.1 (gF.1 fe);obtain⟨yg,q1,q2,q3,q4⟩:=qI hW.Live hat.1 hv;have hl:=hW.live _ _ cj.1 hh;simp only[ro]at hl;have:W.farLoad P (ra ρ ad) (m== .atomic)=.ok (v,yg):=by
        unfold World.farLoad;simp only[ra]at hl ⊢;rw[hl];simp only[ra]at q1;dsimp only;rw[q1]
       rw[this];simp only;have Mf:=hk v;rw[q3 ρ]at Mf;obtain⟨b,W1,ib,r1,r2,r3,r4,r5,r6⟩:=cS hp He (k v) (k' v) R Rs w W _ (es'++yg.toArray.map (⟨.cell ·,false,m== .atomic⟩)) a w1 cM Mf (iZ v λn _=>q3 _) hW hn hr;refine⟨b,W1,ib,r1,r2,r3,r4,r5,λe he=>?_⟩;rcases r6 e he with h|h
       ·rcases Array.mem_append.1 h with h|h
        ·exact .inl h
        ·obtain⟨x,hx,rfl⟩:=Array.mem_map.1 h;exact .inr ⟨at_.block,hat.1,by have:=r5.fX;omega,q2 x (by simpa using hx)⟩
       ·exact .inr h
     |_=>cases hf
 |.store m ad v k,t',R,Rs,w,W,es,es',a,w1,cM,h1,h2,hW,hn,hr=>by
  obtain⟨k',rfl,hk⟩:=h1;have cj:(S.d≤ad.block∧ad.block<w.heap.size)∧rv (sg S S.d w.heap.size) v=v:=by
   obtain⟨k',e,_⟩:=h2 w.heap.size (zaa _);simp only[Sem.store.injEq]at e;exact⟨bH.1 (gF.1 e.2.1.symm),e.2.2.1.symm⟩
  obtain⟨cj,hv⟩:=cj;have iZ:∀n,w.heap.size≤n→ae P (sg S S.d n) (Rs n) k k:=λn hn=>by
   obtain⟨k',e,hk⟩:=h2 n hn;simp only[Sem.store.injEq]at e;obtain⟨_,_,_,rfl⟩:=e;exact hk
  have go:∀w2 W2 ts (yg:Array Event),WR P S ρ w2 W2→BH S.d ρ w w2 W W2→w2.heap.size=w.heap.size→w2.tape=w.tape→w2.drawn=w.drawn→W2.tape=W.tape→W2.drawn=W.drawn→(∀e∈yg,e∈es'∨mX S.d ρ w e)→k.runT P w2 ts=(.ok a w1,cM)→
   ∃b W1 ib,k'.runT P W2 yg=(.ok b W1,ib)∧R a b∧(∀n,w1.heap.size≤n→Rs n a a)∧WR P S ρ w1 W1∧BH S.d ρ w w1 W W1∧∀e∈ib,e∈es'∨mX S.d ρ w1 e:=λw2 W2 ts yg hW2 hD hsz t1 t2 t3 t4 hts hrun=>by
   obtain⟨b,W1,ib,r1,r2,r3,r4,r5,r6⟩:=cS hp He k k' R Rs w2 W2 ts yg a w1 cM hk (by rw[hsz];exact iZ) hW2 (by unfold WC;rw[t1,t2,t3,t4];exact hn) hrun;refine⟨b,W1,ib,r1,r2,r3,r4,hD.trans r5,λe he=>?_⟩;rcases r6 e he with h|h
   ·rcases hts e h with h|h
    ·exact .inl h
    ·exact .inr (h.mono (by have:=r5.fX;omega))
   ·exact .inr h
  cases hc:w.cell? ad with
  |some v0=>
   have XV:=yT hW.Live cj.1 hc;have LF:=vP hW cj.1 cj.2;cases Mh:w.frozen? ad with
   |true=>cases v<;>simp[Sem.runT,hc,Mh]at hr
   |false=>
    have key:k.runT P (w.setCell ad v) (es.push ⟨.cell ad,true,m== .atomic⟩)=(.ok a w1,cM)∧(Sem.store m (ra ρ ad) (rv ρ v) k').runT P W es'=k'.runT P (W.setCell (ra ρ ad) (rv ρ v)) (es'.push ⟨.cell (ra ρ ad),true,m== .atomic⟩):=by
     rw[Mh]at LF;cases v<;>simp only[rv,Sem.runT,hc,Mh,XV,LF,zau,if_false]at hr ⊢<;>first|exact⟨hr,trivial⟩|exact⟨hr,rfl⟩|(simp at hr)|trace_state
    rw[key.2];refine go _ _ _ _ (hW.setCell hp.inj cj.1 hv) (uU cj.1 cj.2 (fF _ _ _) (fF _ _ _)) (by simp[World.setCell]) rfl rfl rfl rfl (λe he=>?_) key.1;rcases Array.mem_push.1 he with h|rfl
    ·exact .inl h
    ·exact .inr ⟨ad.block,cj.1,cj.2,rfl⟩
  |none=>
   have XV:W.cell? (ra ρ ad)=none:=by
    unfold World.cell? at hc ⊢;obtain⟨o,ho⟩:∃o,w.heap[ad.block]?=some o:=⟨_,zaq cj.2⟩;have hl:=hW.live _ o cj.1 ho;simp only[ra,ho,hl]at hc ⊢;cases o<;>simp only[ro]at hc ⊢;split at hc
    ·rename_i hs;simp[hs]
    ·rename_i hs;simp[hs,hc]
   cases hf:w.farStore P ad v (m== .atomic)with
   |error h=>cases v<;>simp[Sem.runT,hc,hf]at hr
   |ok x=>
    obtain⟨w2,ts⟩:=x;have Y0:=hf;unfold World.farStore at hf;cases hh:w.heap[ad.block]? with
    |none=>rw[hh]at hf;cases hf
    |some o=>
     rw[hh]at hf;cases o with
     |view at_ u=>
      simp only at hf;cases PC:w.viewStore P at_ u ad v (m== .atomic)with
      |error e=>rw[PC]at hf;cases hf
      |ok x=>
       rw[PC]at hf;simp only[Except.ok.injEq]at hf;subst hf;have fe:=hW.closed _ _ cj.1 hh;simp only[ro,Obj.view.injEq,and_true]at fe;have hat:=bH.1 (gF.1 fe);obtain⟨c,c',ty,fz,yg,q1,q2,q3,q4,q5⟩:=py hW.Live hat.1 PC;have hl:=hW.live _ _ cj.1 hh;simp only[ro]at hl;have hfW:W.farStore P (ra ρ ad) (rv ρ v) (m== .atomic)=.ok ({ W with heap:=W.heap.setIfInBounds (ρ at_.block) (.cells (c'.map (rv ρ)) ty fz) },yg):=by
        unfold World.farStore;simp only[ra]at hl ⊢;rw[hl];simp only[ra]at q4;dsimp only;rw[q4]
       have key:k.runT P w2 (es++ts.toArray.map (⟨.cell ·,true,m== .atomic⟩))=(.ok a w1,cM)∧(Sem.store m (ra ρ ad) (rv ρ v) k').runT P W es'=k'.runT P { W with heap:=W.heap.setIfInBounds (ρ at_.block) (.cells (c'.map (rv ρ)) ty fz) } (es'++yg.toArray.map (⟨.cell ·,true,m== .atomic⟩)):=by
        cases v<;>simp only[rv,Sem.runT,hc,Y0,XV]at hr hfW ⊢<;>first|(rw[hfW];exact⟨hr,rfl⟩)|(simp at hr)
       rw[key.2];subst q2;have Ai:WR P S ρ { w with heap:=w.heap.setIfInBounds at_.block (.cells c' ty fz) } { W with heap:=W.heap.setIfInBounds (ρ at_.block) (.cells (c'.map (rv ρ)) ty fz) }:=by
        refine hW.upd hp.inj hat.1 (gq _ _ _) (gq _ _ _) (λo ho=>⟨trivial,rfl,λhs=>?_⟩);rw[q1]at ho;cases ho;simp only[ro,Obj.cells.injEq,and_true]at hs ⊢;exact q3 _ hs
       refine go _ _ _ _ Ai (uU hat.1 hat.2 (gq _ _ _) (gq _ _ _)) (by simp) rfl rfl rfl rfl (λe he=>?_) key.1;rcases Array.mem_append.1 he with h|h
       ·exact .inl h
       ·obtain⟨x,hx,rfl⟩:=Array.mem_map.1 h;exact .inr ⟨at_.block,hat.1,hat.2,q5 x (by simpa using hx)⟩
     |_=>cases hf
 |.new o k,t',R,Rs,w,W,es,es',a,w1,cM,h1,h2,hW,hn,hr=>by
  obtain⟨hno,k',rfl,hk⟩:=h1;have B6:ρ w.heap.size=W.heap.size:=by have:=hW.next w.heap.size (zaa _);omega
  have hs:ro (sg S S.d w.heap.size) o=o:=by
   obtain⟨_,k',e,_⟩:=h2 w.heap.size (zaa _);simp only[Sem.new.injEq]at e;exact e.1.symm
  have iZ:∀n,w.heap.size+1≤n→ae P (sg S S.d n) (Rs n) (k w.heap.size) (k w.heap.size):=λn hn=>by
   obtain⟨_,k',e,hk⟩:=h2 n (by omega);simp only[Sem.new.injEq]at e;obtain⟨_,rfl⟩:=e;have:=hk w.heap.size;rwa[show sg S S.d n w.heap.size=w.heap.size from bH.2 ⟨hW.big.d,by omega⟩]at this
  simp only[Sem.runT]at hr ⊢;have hkn:=hk w.heap.size;rw[B6]at hkn;obtain⟨b,W1,ib,r1,r2,r3,r4,r5,r6⟩:=cS hp He (k w.heap.size) (k' W.heap.size) R Rs { w with heap:=w.heap.push o } { W with heap:=W.heap.push (ro ρ o) } es es' a w1 cM hkn (by simpa using iZ) (hW.push hno hs) hn hr;refine⟨b,W1,ib,r1,r2,r3,r4,?_,r6⟩;have g:=r5.fX;have sz:=r5.size;simp only[zbt]at g sz;refine⟨r5.tape,r5.drawn,r5.os,r5.output,by omega,λx hx yh=>?_,by omega,r5.B5,r5.XU,r5.Me,r5.sH⟩;rw[r5.frame x (by simp only[zbt];omega) yh];simp only[zbe];rw[if_neg (by omega)]
 |.shape r k,t',R,Rs,w,W,es,es',a,w1,cM,h1,h2,hW,hn,hr=>by
  obtain⟨k',rfl,hk⟩:=h1;have cj:S.d≤r∧r<w.heap.size:=by
   obtain⟨k',e,_⟩:=h2 w.heap.size (zaa _);simp only[Sem.shape.injEq]at e;exact bH.1 e.1.symm
  have iZ:∀x n,w.heap.size≤n→ae P (sg S S.d n) (Rs n) (k x) (k x):=λx n hn=>by
   obtain⟨k',e,hk⟩:=h2 n hn;simp only[Sem.shape.injEq]at e;obtain⟨_,rfl⟩:=e;exact hk x
  simp only[Sem.runT]at hr ⊢;rw[Jm hW cj.1 cj.2];exact cS hp He _ _ R Rs w W es es' a w1 cM (hk _) (iZ _) hW hn hr
 |.freeze ad n k,t',R,Rs,w,W,es,es',a,w1,cM,h1,h2,hW,hn,hr=>by
  obtain⟨k',rfl,hk⟩:=h1;have cj:S.d≤ad.block∧ad.block<w.heap.size:=by
   obtain⟨k',e,_⟩:=h2 w.heap.size (zaa _);simp only[Sem.freeze.injEq]at e;exact bH.1 (gF.1 e.1.symm)
  have iZ:∀n,w.heap.size≤n→ae P (sg S S.d n) (Rs n) k k:=λn hn=>by
   obtain⟨k',e,hk⟩:=h2 n hn;simp only[Sem.freeze.injEq]at e;obtain⟨_,_,rfl⟩:=e;exact hk
  simp only[Sem.runT]at hr ⊢;have hsz:(w.freeze ad n).heap.size=w.heap.size:=by unfold World.freeze;split<;>simp
  obtain⟨b,W1,ib,r1,r2,r3,r4,r5,r6⟩:=cS hp He k k' R Rs (w.freeze ad n) (W.freeze (ra ρ ad) n) es es' a w1 cM hk (by rw[hsz];exact iZ) (hW.freeze hp.inj cj.1) (by
   have e1:(w.freeze ad n).tape=w.tape:=by unfold World.freeze;split<;>rfl
   have e2:(w.freeze ad n).drawn=w.drawn:=by unfold World.freeze;split<;>rfl
   have e3:(W.freeze (ra ρ ad) n).tape=W.tape:=by unfold World.freeze;split<;>rfl
   have e4:(W.freeze (ra ρ ad) n).drawn=W.drawn:=by unfold World.freeze;split<;>rfl
   unfold WC;rw[e1,e2,e3,e4];exact hn) hr
  refine⟨b,W1,ib,r1,r2,r3,r4,BH.trans ?_ r5,r6⟩;unfold World.freeze;by_cases Mi:n=0
  ·simp only[Mi,if_true];exact BH.refl _ _
  ·simp only[Mi,if_false];exact uU cj.1 cj.2 (fF _ _ _) (fF _ _ _)
 |.frozen ad k,t',R,Rs,w,W,es,es',a,w1,cM,h1,h2,hW,hn,hr=>by
  obtain⟨k',rfl,hk⟩:=h1;have cj:S.d≤ad.block∧ad.block<w.heap.size:=by
   obtain⟨k',e,_⟩:=h2 w.heap.size (zaa _);simp only[Sem.frozen.injEq]at e;exact bH.1 (gF.1 e.1.symm)
  have iZ:∀x n,w.heap.size≤n→ae P (sg S S.d n) (Rs n) (k x) (k x):=λx n hn=>by
   obtain⟨k',e,hk⟩:=h2 n hn;simp only[Sem.frozen.injEq]at e;obtain⟨_,rfl⟩:=e;exact hk x
  simp only[Sem.runT]at hr ⊢;rw[vP hW cj.1 cj.2];exact cS hp He _ _ R Rs w W es es' a w1 cM (hk _) (iZ _) hW hn hr
 |.getObj r k,t',R,Rs,w,W,es,es',a,w1,cM,h1,h2,hW,hn,hr=>by
  obtain⟨k',rfl,hk⟩:=h1;have cj:S.d≤r∧r<w.heap.size:=by
   obtain⟨k',e,_⟩:=h2 w.heap.size (zaa _);simp only[Sem.getObj.injEq]at e;exact bH.1 e.1.symm
  obtain⟨o,ho⟩:∃o,w.heap[r]?=some o:=⟨_,zaq cj.2⟩;have hl:=hW.live _ o cj.1 ho;have fe:=hW.closed _ o cj.1 ho;have bX:=hW.ok _ o ho;have BI:∀n,w.heap.size≤n→ro (sg S S.d n) o=o:=λn hn=>oF (dv hn).1 (dv hn).2 fe;have iZ:∀n,w.heap.size≤n→ae P (sg S S.d n) (Rs n) (k o) (k o):=λn hn=>by
   obtain⟨k',e,hk⟩:=h2 n hn;simp only[Sem.getObj.injEq]at e;obtain⟨_,rfl⟩:=e;have:=hk o (.inr (BI n hn));rwa[BI n hn]at this
  have go:∀(ts:Array Event) (sy:Bool),sy=false→(k o).runT P w ts=(.ok a w1,cM)→∃b W1 ib,(k' (ro ρ o)).runT P W (es'.push ⟨.obj (ρ r),false,sy⟩)=(.ok b W1,ib)∧R a b∧(∀n,w1.heap.size≤n→Rs n a a)∧WR P S ρ w1 W1∧BH S.d ρ w w1 W W1∧∀e∈ib,e∈es'∨mX S.d ρ w1 e:=λts sy Y1 hrun=>by
   subst Y1;obtain⟨b,W1,ib,r1,r2,r3,r4,r5,r6⟩:=cS hp He (k o) (k' (ro ρ o)) R Rs w W ts _ a w1 cM (hk o (He o)) iZ hW hn hrun;refine⟨b,W1,ib,r1,r2,r3,r4,r5,λe he=>?_⟩;rcases r6 e he with h|h
   ·rcases Array.mem_push.1 h with h|rfl
    ·exact .inl h
    ·exact .inr ⟨⟨r,cj.1,by have:=r5.fX;omega,rfl⟩,rfl⟩
   ·exact .inr h
  simp only[Sem.runT,ho,hl]at hr ⊢;cases o with
  |cells c e f=>simp at hr
  |view x t=>exact go _ _ rfl hr
  |number x t=>exact go _ _ rfl hr
  |map x t=>exact go _ _ rfl hr
  |_=>exact bX.elim
 |.setObj r o k,t',R,Rs,w,W,es,es',a,w1,cM,h1,h2,hW,hn,hr=>by
  obtain⟨Hf,k',rfl,hk⟩:=h1;have cj:(S.d≤r∧r<w.heap.size)∧ro (sg S S.d w.heap.size) o=o:=by
   obtain⟨_,k',e,_⟩:=h2 w.heap.size (zaa _);simp only[Sem.setObj.injEq]at e;exact⟨bH.1 e.1.symm,e.2.1.symm⟩
  obtain⟨cj,fe⟩:=cj;have iZ:∀n,w.heap.size≤n→ae P (sg S S.d n) (Rs n) k k:=λn hn=>by
   obtain⟨_,k',e,hk⟩:=h2 n hn;simp only[Sem.setObj.injEq]at e;obtain⟨_,_,rfl⟩:=e;exact hk
  obtain⟨o0,ho⟩:∃o,w.heap[r]?=some o:=⟨_,zaq cj.2⟩;have hl:=hW.live _ o0 cj.1 ho;have bX:=hW.ok _ o0 ho;have Ai:WR P S ρ { w with heap:=w.heap.setIfInBounds r o } { W with heap:=W.heap.setIfInBounds (ρ r) (ro ρ o) }:=by
   refine hW.upd hp.inj cj.1 (gq _ _ _) (gq _ _ _) (λo1 _=>⟨?_,rfl,λ_=>fe⟩);cases o<;>first|exact Hf.elim|trivial
  have go:∀(ts:Array Event),k.runT P { w with heap:=w.heap.setIfInBounds r o } ts=(.ok a w1,cM)→∃b W1 ib,k'.runT P { W with heap:=W.heap.setIfInBounds (ρ r) (ro ρ o) } (es'.push ⟨.obj (ρ r),true,false⟩)=(.ok b W1,ib)∧R a b∧(∀n,w1.heap.size≤n→Rs n a a)∧WR P S ρ w1 W1∧BH S.d ρ w w1 W W1∧∀e∈ib,e∈es'∨mX S.d ρ w1 e:=λts hrun=>by
   obtain⟨b,W1,ib,r1,r2,r3,r4,r5,r6⟩:=cS hp He k k' R Rs _ _ ts (es'.push ⟨.obj (ρ r),true,false⟩) a w1 cM hk (by simpa using iZ) Ai hn hrun;refine⟨b,W1,ib,r1,r2,r3,r4,(uU cj.1 cj.2 (gq _ _ _) (gq _ _ _)).trans r5,λe he=>?_⟩;rcases r6 e he with h|h
   ·rcases Array.mem_push.1 h with h|rfl
    ·exact .inl h
    ·exact .inr ⟨⟨r,cj.1,by have:=r5.fX;simp at this;omega,rfl⟩,rfl⟩
   ·exact .inr h
  have hch:o.isChan=false∧(ro ρ o).isChan=false:=by cases o<;>first|exact Hf.elim|exact⟨rfl,rfl⟩
  simp only[Sem.runT,ho,hl,hch.1,hch.2]at hr ⊢;cases o0 with
  |cells c e f=>simp at hr
  |view x t=>exact go _ hr
  |number x t=>exact go _ hr
  |map x t=>exact go _ hr
  |_=>exact bX.elim
 |.choose q k,t',R,Rs,w,W,es,es',a,w1,cM,h1,h2,hW,hn,hr=>by
  obtain⟨k',rfl,hk⟩:=h1;have iZ:∀x n,w.heap.size≤n→ae P (sg S S.d n) (Rs n) (k x) (k x):=λx n hn=>by
   obtain⟨k',e,hk⟩:=h2 n hn;simp only[Sem.choose.injEq]at e;obtain⟨_,rfl⟩:=e;exact hk x
  simp only[Sem.runT]at hr ⊢;by_cases hq:q.forced=true
  ·simp only[hq,if_true]at hr ⊢;exact cS hp He _ _ R Rs w W es es' a w1 cM (hk _) (iZ _) hW hn hr
  ·simp only[hq,if_false,zau]at hr ⊢;have hd:=cG _ _ _ _ _ _ hr;simp only at hd;have h0:=hn 0 (by omega) q;simp only[Nat.add_zero]at h0;rw[h0];obtain⟨b,W1,ib,r1,r2,r3,r4,r5,r6⟩:=cS hp He (k (q.cut (w.tape w.drawn q))) (k' (q.cut (w.tape w.drawn q))) R Rs { w with drawn:=w.drawn+1 } { W with drawn:=W.drawn+1 } es es' a w1 cM (hk _) (iZ _) (hW.drew _ _) (λj hj qq=>by
    have:=hn (j+1) (by simp only at hj;omega) qq;show W.tape (W.drawn+1+j) qq=w.tape (w.drawn+1+j) qq;rw[show W.drawn+1+j=W.drawn+(j+1) by omega,show w.drawn+1+j=w.drawn+(j+1) by omega];exact this) hr
   exact⟨b,W1,ib,r1,r2,r3,r4,⟨r5.tape,by have:=r5.drawn;simp only at this;omega,r5.os,r5.output,r5.size,r5.frame,r5.fX,r5.B5,r5.XU,r5.Me,by have:=r5.sH;simp only at this;omega⟩,r6⟩
 |.sys c k,t',R,Rs,w,W,es,es',a,w1,cM,h1,h2,hW,hn,hr=>(uV (.sys c k) _ _ _ _ _ h1 hr).elim
 |.program k,t',R,Rs,w,W,es,es',a,w1,cM,h1,h2,hW,hn,hr=>by
  obtain⟨k',rfl,hk⟩:=h1;have iZ:∀n,w.heap.size≤n→ae P (sg S S.d n) (Rs n) (k P) (k P):=λn hn=>by
   obtain⟨k',e,hk⟩:=h2 n hn;simp only[Sem.program.injEq]at e;obtain rfl:=e;exact hk
  simp only[Sem.runT]at hr ⊢;exact cS hp He (k P) (k' P) R Rs w W es es' a w1 cM hk iZ hW hn hr
 |.mark m k,t',R,Rs,w,W,es,es',a,w1,cM,h1,h2,hW,hn,hr=>by
  obtain⟨hm,k',rfl,hk⟩:=h1;have iZ:∀n,w.heap.size≤n→ae P (sg S S.d n) (Rs n) k k:=λn hn=>by
   obtain⟨_,k',e,hk⟩:=h2 n hn;simp only[Sem.mark.injEq]at e;obtain⟨_,rfl⟩:=e;exact hk
  simp only[Sem.runT]at hr ⊢;obtain⟨b,W1,ib,r1,r2,r3,r4,r5,r6⟩:=cS hp He k k' R Rs w W _ (es'.push ⟨.mark m,false,true⟩) a w1 cM hk iZ hW hn hr;refine⟨b,W1,ib,r1,r2,r3,r4,r5,λe he=>?_⟩;rcases r6 e he with h|h
  ·rcases Array.mem_push.1 h with h|rfl
   ·exact .inl h
   ·exact .inr ⟨hm,rfl⟩
  ·exact .inr h
 |.halt h,t',R,Rs,w,W,es,es',a,w1,cM,h1,h2,hW,hn,hr=>by simp[Sem.runT]at hr
end
end Go.Ren
namespace Go.Ren
open Go Go.Conc
section defs
variable (P:Program)(F:FuncId→Bool)(S:Sd)
def aG:Code→Bool
 |.skip |.ret |.exit _|.refuse _=>true
 |.region _ ops _=>ops.all λo=>fw P F S o.op
 |.seq a b=>aG a&&aG b
 |.cond c a b=>fV S c&&aG a&&aG b
 |.block _ a|.loop a=>aG a
 |_=>false
def aB:Item→Bool
 |.code c=>aG P F S c
 |.inBlock _=>true
 |.inLoop c=>aG P F S c
 |.inRegion ops l=>l.all λi=>(ops[i]?).all λo=>fw P F S o.op
 |_=>false
structure jV (fr:Frame):Prop where
 defers:fr.defers=[]
 mode:fr.mode=.run∨fr.mode=.returning
 kind:fr.kind=.normal
 round:fr.roundOf=none
 todo:fr.todo.all (aB P F S)=true
 fn:∃f,P.funcs[fr.fn]?=some f
structure kO:Prop where
 SF:∀g,S g=true→F g=true
 fn:∀f,F f=true→Hc P S f
 body:∀f fn c,F f=true→P.funcs[f]?=some fn→fn.body=some c→aG P F S c=true
 zero:∀t i v,P.info? t=some i→i.zero=some v→∀ρ:Rn,rv ρ v=v
end defs
def aJ (P:Program)(fr:Frame)(above:List Frame):Sem (Frame×List Frame):=
 match fr.mode with
 |.run=>
  match fr.todo with
  |[]=>pure ({ fr with mode:= .returning },above)
  |.code .ret::_=>pure ({ fr with mode:= .returning },above)
  |.code .skip::k|.inBlock _::k=>pure ({ fr with todo:=k },above)
  |.code (.seq a b)::k=>pure ({ fr with todo:= .code a::.code b::k },above)
  |.code (.cond c a b)::k=>match fr.eval c with
   |.bool t=>pure ({ fr with todo:= .code (if t then a else b)::k },above)
   |_=>stuck ""
  |.code (.block id a)::k=>pure ({ fr with todo:= .code a::.inBlock id::k },above)
  |.code (.loop a)::k|.inLoop a::k=>pure ({ fr with todo:= .code a::.inLoop a::k },above)
  |.code (.exit id)::k=>match exitTo id k with
   |some k'=>pure ({ fr with todo:=k' },above)
   |none=>stuck ""
  |.code (.region id ops draw)::k=>
   if draw then do
    let t ←choose (.order fr.fn id)
    pure ({ fr with todo:= .inRegion ops (Region.schedule (P.follows .mixedOrders) ops t)::k },above)
   else pure ({ fr with todo:= .inRegion ops (List.range ops.size)::k },above)
  |.inRegion _ []::k=>pure ({ fr with todo:=k },above)
  |.inRegion ops (i::_)::_=>
   if((ops[i]?).map (Region.wanted · (yielded ops fr.tmps))).getD false then
    match ops[i]? with
    |some o=>do
     match ←execOp fr.eval o with
     |.value v=>pure (fr.finish v,above)
     |.skip=>pure (fr.finish undef,above)
     |.enter f args=>pure (Frame.enter P f args .normal,fr::above)
     |_=>stuck ""
    |none=>stuck ""
   else pure (fr.finish undef,above)
  |_=>stuck ""
 |_=>match P.funcs[fr.fn]? with
  |some fn=>do
   let v ←results fn fr.tmps
   match above with
   |c::rest=>pure (c.finish v,rest)
   |[]=>stuck ""
  |none=>stuck ""
def bV (ρ:Rn)(fr:Frame):Frame:={ fr with tmps:=fr.tmps.map (rv ρ) }
section
variable {P:Program}{F:FuncId→Bool}{S:Sd}{ρ:Rn}
theorem dG:rv ρ undef=undef:=by simp[undef,rv]
theorem qJ {fr:Frame}{x:Operand}(h:fV S x=true)(hf:qE S ρ):(bV ρ fr).eval x=rv ρ (fr.eval x):=by
 cases x with
 |tmp t=>
  simp only[Frame.eval,bV,zaV,zal];cases fr.tmps[t]?<;>simp[dG]
 |const v=>exact(gK h ρ).symm
 |global g=>
  simp only[fV,zae,decide_eq_true_eq]at h;simp[Frame.eval,rv,ra,hf.g g h.1 h.2]
 |func f=>simp only[Frame.eval,rv,zbq,hf.f f h]
theorem vR (fr:Frame)(v:Value)(ht:fr.todo.all (aB P F S)=true):(bV ρ fr).finish (rv ρ v)=bV ρ (fr.finish v):=by
 obtain⟨fn,tmps,todo,defers,mode,kind,ro⟩:=fr
 match todo with
 |[]=>rfl
 |.inRegion ops []::k=>rfl
 |.inRegion ops (i::rest)::k=>
  simp only[Frame.finish,bV];cases (ops[i]?).bind (·.dst)<;>simp[Array.map_setIfInBounds]
 |.code c::k=>rfl
 |.inBlock c::k=>rfl
 |.inLoop c::k=>rfl
 |.inScope c::k=>simp[aB]at ht
 |.inRangeFunc c::k=>simp[aB]at ht
 |.endRangeFunc c::k=>simp[aB]at ht
 |.beginRound::k=>simp[aB]at ht
 |.call ..::k=>simp[aB]at ht
 |.extern ..::k=>simp[aB]at ht
theorem yV {fr:Frame}(h:jV P F S fr)(v:Value):jV P F S (fr.finish v):=by
 obtain⟨h1,h2,h3,h4,h5,h6⟩:=h;obtain⟨fn,tmps,todo,defers,mode,kind,ro⟩:=fr;simp only at h1 h2 h3 h4 h5 h6
 match todo with
 |[]=>exact⟨h1,h2,h3,h4,h5,h6⟩
 |.inRegion ops []::k=>exact⟨h1,h2,h3,h4,h5,h6⟩
 |.inRegion ops (i::rest)::k=>
  refine⟨h1,h2,h3,h4,?_,h6⟩;simp only[zax,aB,zae]at h5;simp only[Frame.finish,zax,aB,zae];exact⟨h5.1.2,h5.2⟩
 |.code c::k=>exact⟨h1,h2,h3,h4,h5,h6⟩
 |.inBlock c::k=>exact⟨h1,h2,h3,h4,h5,h6⟩
 |.inLoop c::k=>exact⟨h1,h2,h3,h4,h5,h6⟩
 |.inScope c::k=>simp[aB]at h5
 |.inRangeFunc c::k=>simp[aB]at h5
 |.endRangeFunc c::k=>simp[aB]at h5
 |.beginRound::k=>simp[aB]at h5
 |.call ..::k=>simp[aB]at h5
 |.extern ..::k=>simp[aB]at h5
theorem Jo {ops:Array Oper}(h:(ops.all λo=>fw P F S o.op)=true)(l:List Nat):(l.all λi=>(ops[i]?).all λo=>fw P F S o.op)=true:=by
 refine zav.2 λi _=>?_;cases ho:ops[i]? with
 |none=>rfl
 |some o=>exact Array.all_eq_true'.1 h o (zaX ho)
theorem lA {id:Nat}:∀{k k':List Item},exitTo id k=some k'→k.all (aB P F S)=true→k'.all (aB P F S)=true
 |.inBlock id'::k,k',h,hk=>by
  simp only[exitTo]at h;simp only[zax,zae]at hk;split at h
  ·cases h;exact hk.2
  ·exact lA h hk.2
 |.code c::k,k',h,hk=>by
  simp only[exitTo]at h;simp only[zax,zae]at hk;exact lA h hk.2
 |.inLoop c::k,k',h,hk=>by
  simp only[exitTo]at h;simp only[zax,zae]at hk;exact lA h hk.2
 |.inRegion ..::k,k',h,hk=>by
  simp only[exitTo]at h;simp only[zax,zae]at hk;exact lA h hk.2
 |.inScope c::k,k',h,hk=>by simp[aB]at hk
 |.inRangeFunc c::k,k',h,hk=>by simp[aB]at hk
 |.endRangeFunc c::k,k',h,hk=>by simp[aB]at hk
 |.beginRound::k,k',h,hk=>by simp[aB]at hk
 |.call ..::k,k',h,hk=>by simp[aB]at hk
 |.extern ..::k,k',h,hk=>by simp[aB]at hk
 |[],k',h,hk=>by simp[exitTo]at h
theorem vS (hC:kO P F S){f:FuncId}(hf:F f=true)(args:Array Value):jV P F S (Frame.enter P f args .normal):=by
 obtain⟨fn,h1,_,_⟩:=hC.fn f hf;refine⟨rfl,.inl rfl,rfl,rfl,?_,⟨fn,h1⟩⟩;simp only[Frame.enter,h1,Option.bind,zax,List.all_nil,Bool.and_true,aB];cases hb:fn.body with
 |none=>rfl
 |some c=>exact hC.body f fn c hf h1 hb
theorem gL (f:FuncId)(args:Array Value):Frame.enter P f (args.map (rv ρ)) .normal=bV ρ (Frame.enter P f args .normal):=by
 simp[Frame.enter,bV,dG]
theorem nC (ops:Array Oper)(tmps:Array Value)(j:Nat):yielded ops (tmps.map (rv ρ)) j=yielded ops tmps j:=by
 unfold yielded;cases (ops[j]?).bind (·.dst)with
 |none=>rfl
 |some d=>
  simp only[Option.bind,zal];cases tmps[d]? with
  |none=>rfl
  |some v=>cases v<;>simp[rv]
theorem ae.Mj {α β:Type}{R:α→β→Prop}{b b':Bool}(hb:b'=b){s t:Sem α}{s' t':Sem β}(h1:ae P ρ R s s')(h2:ae P ρ R t t'):ae P ρ R (if b then s else t) (if b' then s' else t'):=by
 subst hb;cases b'<;>simp[h1,h2]
def FF (P:Program)(F:FuncId→Bool)(S:Sd)(ρ:Rn)(x y:Frame×List Frame):Prop:=y=(bV ρ x.1,x.2.map (bV ρ))∧jV P F S x.1∧∀f∈x.2,jV P F S f
theorem Qy {fr:Frame}(h:jV P F S fr){t:List Item}(ht:t.all (aB P F S)=true):jV P F S { fr with todo:=t }:=⟨h.defers,h.mode,h.kind,h.round,ht,h.fn⟩
theorem Aj (hC:kO P F S)(hp:Plain P ρ)(hf:qE S ρ){fr:Frame}{above:List Frame}(h:jV P F S fr)(ha:∀f∈above,jV P F S f)
 (hg:∀v∈fr.tmps,GV P ρ v)(hv:∀v∈fr.tmps,FV S v):ae P ρ (FF P F S ρ) (aJ P fr above) (aJ P (bV ρ fr) (above.map (bV ρ))):=by
 have ic:∀x,fV S x=true→GV P ρ (fr.eval x)∧FV S (fr.eval x):=λx hx=>by
  cases x with
  |tmp t=>
   simp only[Frame.eval,zaV];cases hc:fr.tmps[t]? with
   |none=>exact⟨.inr dG,λfn a b e=>by cases e⟩
   |some v=>exact⟨hg v (zaX hc),hv v (zaX hc)⟩
  |const v=>
   refine⟨.inr (gK hx ρ),λfn a b e=>?_⟩;simp only[Frame.eval]at e;subst e;cases hx
  |global g=>
   simp only[fV,zae,decide_eq_true_eq]at hx;exact⟨.inr (by simp[Frame.eval,rv,ra,hf.g g hx.1 hx.2]),λfn a b e=>by cases e⟩
  |func f=>
   refine⟨.inr ?_,λfn a b e=>?_⟩
   ·simp only[Frame.eval,rv,zbq,hf.f f hx]
   ·simp only[Frame.eval,Value.func.injEq]at e;exact⟨f,e.1.symm,hx⟩
 obtain⟨fn0,tmps,todo,defers,mode,kind,oH⟩:=fr;have hand:=h.todo;have hm:=h.mode;have Mk:=h.fn;simp only at hand hm Mk;rcases hm with rfl|rfl
 ·have ctl:∀t:List Item,t.all (aB P F S)=true→ae P ρ (FF P F S ρ) (pure (⟨fn0,tmps,t,defers,.run,kind,oH⟩,above)) (pure (⟨fn0,tmps.map (rv ρ),t,defers,.run,kind,oH⟩,above.map (bV ρ))):=λt ht=>ae.pure ⟨rfl,Qy h ht,ha⟩;have ret:ae P ρ (FF P F S ρ) (pure (⟨fn0,tmps,todo,defers,.returning,kind,oH⟩,above)) (pure (⟨fn0,tmps.map (rv ρ),todo,defers,.returning,kind,oH⟩,above.map (bV ρ))):=ae.pure ⟨rfl,⟨h.defers,.inr rfl,h.kind,h.round,h.todo,h.fn⟩,ha⟩
  match todo,h,ic,hand,ret with
  |[],h,ic,hand,ret=>exact ret
  |.code .ret::_,h,ic,hand,ret=>exact ret
  |.code .skip::k,h,ic,hand,ret=>exact ctl k (by simpa[aB,aG]using hand)
  |.inBlock _::k,h,ic,hand,ret=>exact ctl k (by simpa[aB]using hand)
  |.code (.seq a b)::k,h,ic,hand,ret=>exact ctl _ (by simpa[aB,aG,and_assoc]using hand)
  |.code (.block id a)::k,h,ic,hand,ret=>exact ctl _ (by simpa[aB,aG]using hand)
  |.code (.loop a)::k,h,ic,hand,ret=>exact ctl _ (by simpa[aB,aG]using hand)
  |.inLoop a::k,h,ic,hand,ret=>exact ctl _ (by simpa[aB,aG]using hand)
  |.inRegion _ []::k,h,ic,hand,ret=>exact ctl k (by simp[aB]at hand ⊢;exact hand)
  |.code (.cond c a b)::k,h,ic,hand,ret=>
   simp only[zax,aB,aG,zae]at hand;have e:=qJ (fr:=⟨fn0,tmps,.code (.cond c a b)::k,defers,.run,kind,oH⟩) hand.1.1.1 hf;simp only[aJ,bV]at e ⊢;rw[e];generalize Frame.eval _ c=q;cases q with
   |bool t=>simp only[rv];refine ctl _ ?_;simp only[zax,aB,zae];cases t;exact⟨hand.1.2,hand.2⟩;exact⟨hand.1.1.2,hand.2⟩
   |_=>simp only[rv];exact ae.stuck _
  |.code (.exit id)::k,h,ic,hand,ret=>
   simp only[aJ,bV];cases he:exitTo id k with
   |none=>exact ae.stuck _
   |some k'=>exact ctl k' (lA he (by simp[aB,aG]at hand ⊢;exact hand))
  |.code (.region id ops draw)::k,h,ic,hand,ret=>
   simp only[aJ,bV];have hr:∀l,((Item.inRegion ops l)::k).all (aB P F S)=true:=λl=>by
    simp only[zax,aB,aG,zae]at hand ⊢;exact⟨Jo hand.1 l,hand.2⟩
   refine ae.ar (λ_=>?_) (λ_=>ctl _ (hr _));refine ae.bind (gX _) ?_;rintro t _ rfl;exact ctl _ (hr _)
  |.inRegion ops (i::rest)::k,h,ic,hand,ret=>
   simp only[aJ];have hw:((ops[i]?).map (Region.wanted · (yielded ops (tmps.map (rv ρ))))).getD false=((ops[i]?).map (Region.wanted · (yielded ops tmps))).getD false:=by
    have:yielded ops (tmps.map (rv ρ))=yielded ops tmps:=funext λj=>nC ops tmps j;rw[this]
   have sJ:∀v,ae P ρ (FF P F S ρ) (pure ((⟨fn0,tmps,.inRegion ops (i::rest)::k,defers,.run,kind,oH⟩:Frame).finish v,above)) (pure ((bV ρ (⟨fn0,tmps,.inRegion ops (i::rest)::k,defers,.run,kind,oH⟩:Frame)).finish (rv ρ v),above.map (bV ρ))):=λv=>by
    rw[vR (P:=P) (F:=F) (S:=S) _ v h.todo];exact ae.pure ⟨rfl,yV h v,ha⟩
   refine ae.Mj hw ?_ ?_
   ·cases ho:ops[i]? with
    |none=>exact ae.stuck _
    |some o=>
     dsimp only;have bX:fw P F S o.op=true:=by
      simp only[zax,aB,zae]at hand;have:=hand.1.1;rw[ho]at this;simpa using this
     refine ae.bind (nB (F:=F) hp hf hC.SF hC.fn o bX (ev:=(⟨fn0,tmps,.inRegion ops (i::rest)::k,defers,.run,kind,oH⟩:Frame).eval) (ev':=(bV ρ (⟨fn0,tmps,.inRegion ops (i::rest)::k,defers,.run,kind,oH⟩:Frame)).eval) (λx hx=>qJ hx hf) (λx hx=>(ic x hx).1) (λx hx=>(ic x hx).2) (λ_=>rfl) (λ_=>rfl) (λ_=>rfl) (λ_=>rfl)) ?_;intro nx QA hn;cases nx<;>simp only[NN]at hn
     ·subst hn;exact sJ _
     ·subst hn;have:=sJ undef;rwa[dG]at this
     ·obtain⟨hF,rfl⟩:=hn;dsimp only;rw[gL];exact ae.pure ⟨rfl,vS hC hF _,λf hx=>by
       rcases zao.1 hx with rfl|hx
       ·exact h
       ·exact ha f hx⟩
   ·have:=sJ undef;rwa[dG]at this
  |.code (.rangeFunc ..)::k,h,ic,hand,ret=>simp[aB,aG]at hand
  |.code (.scope ..)::k,h,ic,hand,ret=>simp[aB,aG]at hand
  |.code (.label ..)::k,h,ic,hand,ret=>simp[aB,aG]at hand
  |.code (.goto ..)::k,h,ic,hand,ret=>simp[aB,aG]at hand
  |.code (.refuse ..)::k,h,ic,hand,ret=>exact ae.stuck _
  |.inScope c::k,h,ic,hand,ret=>simp[aB]at hand
  |.inRangeFunc c::k,h,ic,hand,ret=>simp[aB]at hand
  |.endRangeFunc c::k,h,ic,hand,ret=>simp[aB]at hand
  |.beginRound::k,h,ic,hand,ret=>simp[aB]at hand
  |.call ..::k,h,ic,hand,ret=>simp[aB]at hand
  |.extern ..::k,h,ic,hand,ret=>simp[aB]at hand
 ·simp only[aJ,bV];obtain⟨fn,h1⟩:=Mk;rw[h1];dsimp only;refine ae.bind (iM hp fn tmps dG) ?_;rintro v _ rfl;cases above with
  |nil=>exact ae.stuck _
  |cons c rest=>
   simp only[zan];have hc:=ha c (by simp);have e:=vR (ρ:=ρ) (P:=P) (F:=F) (S:=S) c v hc.todo;rw[e];exact ae.pure ⟨rfl,yV hc v,λf hx=>ha f (by simp[hx])⟩
end
end Go.Ren
