import Derived.Conc.Own
import Derived.Test.YtlhimdjkkiflhaaGreatDoorCut03
set_option maxHeartbeats 8000000
set_option maxRecDepth 100000
namespace Go.Ren
open Go
def iG:Obj:= .cells #[] 0 (0,0)
structure vG (P:Program) (S:Sd) (ρ:Rn) (n:Nat):Prop where
 d:S.d≤n
 g:S.g≤n
 r:ρ.d≤S.d
 p:P.globals.size≤n
 dp:S.d≤P.globals.size
 fg:∀g,S.d≤g→g<S.g→ρ g=g
 fl:∀g,g<S.d→g<ρ.d∨ρ g=g
theorem vG.mono {P:Program}{S:Sd}{ρ:Rn}{n m:Nat}(h:vG P S ρ n)(hn:n≤m):vG P S ρ m:=⟨zad h.d hn,zad h.g hn,h.r,zad h.p hn,h.dp,h.fg,h.fl⟩
structure WR (P:Program) (S:Sd) (ρ:Rn) (w W:World):Prop where
 live:∀(r:Nat) (o:Obj),S.d≤r→w.heap[r]?=some o→W.heap[ρ r]?=some (ro ρ o)
 ok:∀(r:Nat) (o:Obj),w.heap[r]?=some o→lO o
 dead:∀(r:Nat),r<S.d→w.heap[r]?=some iG
 closed:∀(r:Nat) (o:Obj),S.d≤r→w.heap[r]?=some o→ro (sg S S.d w.heap.size) o=o
 next:∀r:Nat,w.heap.size≤r→ρ r=W.heap.size+(r-w.heap.size)
 low:∀r:Nat,S.d≤r→r<w.heap.size→ρ r<W.heap.size
 big:vG P S ρ w.heap.size
def Touch (b0:Nat)(ρ:Rn)(w:World)(b:Nat):Prop:=∃r,b0≤r∧r<w.heap.size∧b=ρ r
def lU (b0:Nat)(ρ:Rn)(w:World)(e:Event):Prop:=
 match e.loc with
 |.cell a=>Touch b0 ρ w a.block
 |.obj r=>Touch b0 ρ w r∧e.sync=false
 |.mark m=>MOk m∧e.sync=true
 |_=>False
structure Bl (b0:Nat) (ρ:Rn) (w w1 W W1:World):Prop where
 tape:W1.tape=W.tape
 drawn:W1.drawn+w.drawn=W.drawn+w1.drawn
 os:W1.os=W.os
 output:W1.output=W.output
 size:W1.heap.size+w.heap.size=W.heap.size+w1.heap.size
 frame:∀b:Nat,b<W.heap.size→¬Touch b0 ρ w1 b→W1.heap[b]?=W.heap[b]?
 fZ:w.heap.size≤w1.heap.size
 BJ:w1.tape=w.tape
 Xv:w1.os=w.os
 KI:w1.output=w.output
 sB:w.drawn≤w1.drawn
section
variable {P:Program}{S:Sd}{b0:Nat}{ρ:Rn}{w W:World}
theorem Bl.refl (w W:World):Bl b0 ρ w w W W:=⟨rfl,rfl,rfl,rfl,rfl,λ_ _ _=>rfl,zaa _,rfl,rfl,rfl,zaa _⟩
theorem Touch.mono {w w1:World}{b:Nat}(h:Touch b0 ρ w b)(hg:w.heap.size≤w1.heap.size):Touch b0 ρ w1 b:=by
 obtain⟨r,hl,hr,rfl⟩:=h;exact⟨r,hl,by omega,rfl⟩
theorem lU.mono {w w1:World}{e:Event}(h:lU b0 ρ w e)(hg:w.heap.size≤w1.heap.size):lU b0 ρ w1 e:=by
 unfold lU at h ⊢;split<;>simp_all
 ·exact h.mono hg
 ·exact h.1.mono hg
theorem Bl.trans {w w1 w2 W W1 W2:World}(h:Bl b0 ρ w w1 W W1)(h2:Bl b0 ρ w1 w2 W1 W2):Bl b0 ρ w w2 W W2:=by
 refine⟨h2.tape.trans h.tape,by have:=h.drawn;have:=h2.drawn;omega,h2.os.trans h.os,h2.output.trans h.output,by have:=h.size;have:=h2.size;omega,λb hb hn=>?_,zad h.fZ h2.fZ,h2.BJ.trans h.BJ,h2.Xv.trans h.Xv,h2.KI.trans h.KI,zad h.sB h2.sB⟩;rw[h2.frame b (by have:=h.size;have:=h.fZ;omega) hn];exact h.frame b hb λhx=>hn (hx.mono h2.fZ)
def Wn (H:Array Obj)(b:Nat)(f:Obj→Obj)(H':Array Obj):Prop:=H'.size=H.size∧∀j:Nat,H'[j]?=if j=b then(H[j]?).map f else H[j]?
theorem gg (H:Array Obj)(b:Nat)(f:Obj→Obj):Wn H b f (H.modify b f):=by
 refine⟨by simp,λj=>?_⟩;rw[Array.getElem?_modify];by_cases h:b=j
 ·subst h;simp
 ·rw[if_neg h,if_neg (λe=>h (Eq.symm e))]
theorem gT (H:Array Obj)(b:Nat)(o:Obj):Wn H b (λ_=>o) (H.setIfInBounds b o):=by
 refine⟨by simp,λj=>?_⟩;rw[zbI];by_cases h:b=j
 ·subst h;by_cases hb:b<H.size
  ·simp[hb]
  ·simp[hb]
 ·rw[if_neg h,if_neg (λe=>h (Eq.symm e))]
theorem gh {H:Array Obj}{r:Nat}{o:Obj}(h:H[r]?=some o):r<H.size:=(zae.1 h).1
theorem WR.upd (hi:∀a b,ρ a=ρ b→a=b)(h:WR P S ρ w W){b:Nat}{f g:Obj→Obj}{H H':Array Obj}(hb:S.d≤b)
 (c1:Wn w.heap b f H)(c2:Wn W.heap (ρ b) g H')
 (hfg:∀o,w.heap[b]?=some o→lO (f o)∧g (ro ρ o)=ro ρ (f o)∧(ro (sg S S.d w.heap.size) o=o→ro (sg S S.d w.heap.size) (f o)=f o)):
 WR P S ρ { w with heap:=H } { W with heap:=H' }:=by
 refine⟨λr o hl ho=>?_,λr o ho=>?_,λr hr=>?_,λr o hl ho=>?_,λr hr=>?_,λr hl hr=>?_,?_⟩
 ·have h1:=c1.2 r;have h2:=c2.2 (ρ r);simp only at ho ⊢;rw[h1]at ho;rw[h2];by_cases e:r=b
  ·subst e;simp only[if_true]at ho ⊢;obtain⟨o0,h0,rfl⟩:=zam.1 ho;rw[h.live r o0 hl h0];simp[(hfg o0 h0).2.1]
  ·have:ρ r≠ρ b:=λx=>e (hi _ _ x);simp only[e,this,if_false]at ho ⊢;exact h.live r o hl ho
 ·have h1:=c1.2 r;simp only at ho;rw[h1]at ho;by_cases e:r=b
  ·subst e;simp only[if_true]at ho;obtain⟨o0,h0,rfl⟩:=zam.1 ho;exact(hfg o0 h0).1
  ·simp only[e,if_false]at ho;exact h.ok r o ho
 ·have h1:=c1.2 r;simp only;rw[h1,if_neg (by omega)];exact h.dead r hr
 ·have h1:=c1.2 r;simp only[c1.1]at ho ⊢;rw[h1]at ho;by_cases e:r=b
  ·subst e;simp only[if_true]at ho;obtain⟨o0,h0,rfl⟩:=zam.1 ho;exact(hfg o0 h0).2.2 (h.closed r o0 hl h0)
  ·simp only[e,if_false]at ho;exact h.closed r o hl ho
 ·simp only at hr ⊢;rw[c2.1];rw[c1.1]at hr ⊢;exact h.next r hr
 ·simp only at hr ⊢;rw[c2.1];rw[c1.1]at hr;exact h.low r hl hr
 ·simp only[c1.1];exact h.big
theorem WR.push (h:WR P S ρ w W){o:Obj}(ho:lO o)(hs:ro (sg S S.d w.heap.size) o=o):WR P S ρ { w with heap:=w.heap.push o } { W with heap:=W.heap.push (ro ρ o) }:=by
 have pz:ρ w.heap.size=W.heap.size:=by have:=h.next w.heap.size (zaa _);omega
 have hm:=cR (S:=S) (b0:=S.d) (Nat.le_succ w.heap.size);have acB:=h.big.d;refine⟨λr o1 hr h1=>?_,λr o1 h1=>?_,λr hr=>?_,λr o1 hr h1=>?_,λr hr=>?_,λr hl hr=>?_,?_⟩
 ·simp only[zbj]at h1 ⊢;by_cases e:r=w.heap.size
  ·subst e;simp only[if_true,zap]at h1;subst h1;simp[pz]
  ·simp only[e,if_false]at h1;have hlt:=gh h1;have:=h.low r hr hlt;rw[if_neg (by omega)];exact h.live r o1 hr h1
 ·simp only[zbj]at h1;by_cases e:r=w.heap.size
  ·subst e;simp only[if_true,zap]at h1;subst h1;exact ho
  ·simp only[e,if_false]at h1;exact h.ok r o1 h1
 ·simp only[zbj];rw[if_neg (by omega)];exact h.dead r hr
 ·simp only[zbj,zbw]at h1 ⊢;by_cases e:r=w.heap.size
  ·subst e;simp only[if_true,zap]at h1;subst h1;exact oO hm.1 hm.2 hs
  ·simp only[e,if_false]at h1;exact oO hm.1 hm.2 (h.closed r o1 hr h1)
 ·simp only[zbw]at hr ⊢;have:=h.next r (by omega);omega
 ·simp only[zbw]at hr ⊢;by_cases e:r=w.heap.size
  ·subst e;omega
  ·have:=h.low r hl (by omega);omega
 ·simp only[zbw];exact h.big.mono (Nat.le_succ _)
theorem WR.Live (h:WR P S ρ w W):Live S.d ρ w W:=⟨h.live⟩
theorem WR.drew (h:WR P S ρ w W)(d D:Nat):WR P S ρ { w with drawn:=d } { W with drawn:=D }:=⟨h.live,h.ok,h.dead,h.closed,h.next,h.low,h.big⟩
theorem tJ (h:WR P S ρ w W){a:Addr}{v:Value}(hl:S.d≤a.block)(hc:w.cell? a=some v):rv (sg S S.d w.heap.size) v=v:=by
 unfold World.cell? at hc;cases hh:w.heap[a.block]? with
 |none=>rw[hh]at hc;cases hc
 |some o=>
  have hs:=h.closed _ o hl hh;rw[hh]at hc;cases o with
  |cells c e f=>
   simp only at hc;split at hc
   ·cases hc
   ·simp only[ro,Obj.cells.injEq,and_true]at hs;exact bz.1 hs v (zaT hc)
  |_=>cases hc
theorem yK (h:WR P S ρ w W){a:Addr}(hl:a.block<S.d):w.cell? a=none:=by
 unfold World.cell?
 rw[h.dead _ hl];simp[iG]
theorem vH (h:WR P S ρ w W){a:Addr}(hl:S.d≤a.block)(hs:a.block<w.heap.size):W.frozen? (ra ρ a)=w.frozen? a:=by
 unfold World.frozen?
 obtain⟨o,ho⟩:∃o,w.heap[a.block]?=some o:=⟨_,zar hs⟩;have:=h.live _ o hl ho;simp only[ra,ho,this];cases o<;>rfl
theorem Ic (h:WR P S ρ w W){r:Nat}(hl:S.d≤r)(hs:r<w.heap.size):W.shape? (ρ r)=w.shape? r:=by
 unfold World.shape?
 obtain⟨o,ho⟩:∃o,w.heap[r]?=some o:=⟨_,zar hs⟩;have:=h.live _ o hl ho;simp only[ho,this];cases o<;>simp[ro]
theorem WR.setCell (hi:∀a b,ρ a=ρ b→a=b)(h:WR P S ρ w W){a:Addr}{v:Value}(hl:S.d≤a.block)(hv:rv (sg S S.d w.heap.size) v=v):WR P S ρ (w.setCell a v) (W.setCell (ra ρ a) (rv ρ v)):=by
 refine h.upd hi hl (gg _ _ _) (gg _ _ _) (λo ho=>?_);have cC:=h.ok _ o ho;cases o with
 |cells c e f=>
  refine⟨trivial,?_,λhs=>?_⟩
  ·simp only[ro,ra];by_cases hsp:a.spot.isSome=true<;>simp[hsp,Array.map_setIfInBounds]
  ·simp only[ro,Obj.cells.injEq,and_true]at hs ⊢;split
   ·exact hs
   ·rw[zbv,hs,hv]
 |view a t=>exact⟨trivial,rfl,λhs=>hs⟩
 |number a t=>exact⟨trivial,rfl,λhs=>hs⟩
 |map a t=>exact⟨trivial,rfl,λhs=>hs⟩
 |_=>exact cC.elim
theorem WR.freeze (hi:∀a b,ρ a=ρ b→a=b)(h:WR P S ρ w W){a:Addr}{n:Nat}(hl:S.d≤a.block):WR P S ρ (w.freeze a n) (W.freeze (ra ρ a) n):=by
 unfold World.freeze;by_cases hn:n=0
 ·simp only[hn,if_true];exact h
 ·simp only[hn,if_false];refine h.upd hi hl (gg _ _ _) (gg _ _ _) (λo ho=>?_);have cC:=h.ok _ o ho;cases o with
  |cells c e f=>exact⟨trivial,rfl,λhs=>by simpa[ro]using hs⟩
  |view a t=>exact⟨trivial,rfl,λhs=>hs⟩
  |number a t=>exact⟨trivial,rfl,λhs=>hs⟩
  |map a t=>exact⟨trivial,rfl,λhs=>hs⟩
  |_=>exact cC.elim
theorem uN {H H':Array Obj}{b:Nat}{f g:Obj→Obj}(hb:b0≤b)(hs:b<w.heap.size)(c1:Wn w.heap b f H)(c2:Wn W.heap (ρ b) g H'):Bl b0 ρ w { w with heap:=H } W { W with heap:=H' }:=
 ⟨rfl,rfl,rfl,rfl,by show H'.size+w.heap.size=W.heap.size+H.size;rw[c1.1,c2.1],λx hx hn=>by
   show H'[x]?=_;rw[c2.2 x,if_neg];rintro rfl;exact hn ⟨b,hb,by show b<H.size;rw[c1.1];exact hs,rfl⟩,by show w.heap.size≤H.size;rw[c1.1];omega,rfl,rfl,rfl,zaa _⟩
theorem sD {α:Type}:∀(x:Ask α) (w:World),w.drawn≤(w.ask x).2.drawn
 |.done a,w=>zaa _
 |.ask what range k,w=>by
  unfold World.ask;dsimp only;split
  ·exact sD (k 0) w
  ·have:=sD (k ((Question.extern what range).cut (w.tape w.drawn (Question.extern what range)))) { w with drawn:=w.drawn+1 };simp only at this;omega
theorem Ie (c:Sys)(w:World):w.drawn≤(w.sys c).2.drawn:=by
 unfold World.sys;have:=sD (Kernel.perform c w.os) w;split<;>rename_i h
 ·exact zaa _
 ·rw[h]at this;exact this
theorem vI {w w2:World}{a:Addr}{v:Value}{b:Bool}{ts:List Addr}(h:w.farStore P a v b=.ok (w2,ts)):w2.drawn=w.drawn:=by
 unfold World.farStore at h;split at h
 ·split at h
  ·rename_i r hv;cases h;unfold World.viewStore at hv;simp only[bind,Except.bind]at hv;repeat' split at hv
   all_goals first|(cases hv;done)|(simp only[pure,Except.pure,Except.ok.injEq,zab]at hv;obtain⟨rfl,rfl⟩:=hv;rfl)|(simp[throw,throwThe,MonadExceptOf.throw]at hv)
  ·cases h
 ·cases h
theorem cZ {α:Type}:∀(t:Sem α) (w:World) (es:Array Event) (a:α) (w1:World) (dt:Array Event),t.runT P w es=(.ok a w1,dt)→w.drawn≤w1.drawn
 |.pure _,w,es,a,w1,dt,h=>by simp only[Sem.runT,zab,Result.ok.injEq]at h;rw[h.1.2];exact zaa _
 |.load m ad k,w,es,a,w1,dt,h=>by
  simp only[Sem.runT]at h;split at h
  ·exact cZ _ _ _ _ _ _ h
  ·split at h
   ·exact cZ _ _ _ _ _ _ h
   ·simp at h
 |.store m ad v k,w,es,a,w1,dt,h=>by
  have key:(∃ts,k.runT P (w.setCell ad v) ts=(.ok a w1,dt))∨∃w2 ts xX,w.farStore P ad v (m== .atomic)=.ok (w2,xX)∧k.runT P w2 ts=(.ok a w1,dt):=by
   cases v<;>simp only[Sem.runT]at h<;>first
    |(simp at h;done)
    |(split at h
      ·split at h
       ·simp at h
       ·exact .inl ⟨_,h⟩
      ·split at h
       ·exact .inr ⟨_,_,_,‹_›,h⟩
       ·simp at h)
  rcases key with⟨ts,h⟩|⟨w2,ts,xX,hf,h⟩
  ·have:=cZ _ _ _ _ _ _ h;exact this
  ·have:=cZ _ _ _ _ _ _ h;rw[vI hf]at this;exact this
 |.new o k,w,es,a,w1,dt,h=>by simp only[Sem.runT]at h;have:=cZ _ _ _ _ _ _ h;exact this
 |.shape r k,w,es,a,w1,dt,h=>by simp only[Sem.runT]at h;exact cZ _ _ _ _ _ _ h
 |.freeze ad n k,w,es,a,w1,dt,h=>by
  simp only[Sem.runT]at h;have:=cZ _ _ _ _ _ _ h;have e:(w.freeze ad n).drawn=w.drawn:=by unfold World.freeze;split<;>rfl
  omega
 |.frozen ad k,w,es,a,w1,dt,h=>by simp only[Sem.runT]at h;exact cZ _ _ _ _ _ _ h
 |.getObj r k,w,es,a,w1,dt,h=>by
  simp only[Sem.runT]at h;split at h<;>first|(simp at h;done)|exact cZ _ _ _ _ _ _ h
 |.setObj r o k,w,es,a,w1,dt,h=>by
  simp only[Sem.runT]at h;split at h
  ·simp at h
  ·have:=cZ _ _ _ _ _ _ h;exact this
  ·simp at h
 |.choose q k,w,es,a,w1,dt,h=>by
  simp only[Sem.runT]at h;split at h
  ·exact cZ _ _ _ _ _ _ h
  ·have:=cZ _ _ _ _ _ _ h;simp only at this;omega
 |.sys c k,w,es,a,w1,dt,h=>by
  simp only[Sem.runT]at h;exact zad (Ie c w) (cZ _ _ _ _ _ _ h)
 |.program k,w,es,a,w1,dt,h=>by simp only[Sem.runT]at h;exact cZ _ _ _ _ _ _ h
 |.mark m k,w,es,a,w1,dt,h=>by simp only[Sem.runT]at h;exact cZ _ _ _ _ _ _ h
 |.halt _,w,es,a,w1,dt,h=>by simp[Sem.runT]at h
theorem uO {α:Type}{P:Program}:∀(t:Sem α) (w:World) (es:Array Event) (a:α) (w1:World) (dt:Array Event),Tm (λ_=>False) t→t.runT P w es=(.ok a w1,dt)→False
 |.pure a,_,_,_,_,_,h,_=>h
 |.halt _,_,_,_,_,_,_,h=>by simp[Sem.runT]at h
 |.program k,w,es,a,w1,dt,h,hr=>by simp only[Sem.runT]at hr;exact uO _ _ _ _ _ _ (h P) hr
 |.new o k,w,es,a,w1,dt,h,hr=>by simp only[Sem.runT]at hr;exact uO _ _ _ _ _ _ (h _) hr
 |.sys c k,w,es,a,w1,dt,h,hr=>by simp only[Sem.runT]at hr;exact uO _ _ _ _ _ _ (h _) hr
 |.load ..,_,_,_,_,_,h,_=>h.elim
 |.store ..,_,_,_,_,_,h,_=>h.elim
 |.shape ..,_,_,_,_,_,h,_=>h.elim
 |.freeze ..,_,_,_,_,_,h,_=>h.elim
 |.frozen ..,_,_,_,_,_,h,_=>h.elim
 |.getObj ..,_,_,_,_,_,h,_=>h.elim
 |.setObj ..,_,_,_,_,_,h,_=>h.elim
 |.choose ..,_,_,_,_,_,h,_=>h.elim
 |.mark ..,_,_,_,_,_,h,_=>h.elim
theorem uP {α:Type}{P:Program}:∀(t:Sem α) (w:World) (es:Array Event) (x:Halt) (w1:World) (dt:Array Event),Tm (λ_=>False) t→t.runT P w es=(.halt x w1,dt)→Bu x
 |.pure a,_,_,_,_,_,h,_=>h.elim
 |.halt _,_,_,_,_,_,h,hr=>by
  simp only[Sem.runT,zab,Result.halt.injEq]at hr;obtain⟨⟨rfl,_⟩,_⟩:=hr;exact h
 |.program k,w,es,a,w1,dt,h,hr=>by simp only[Sem.runT]at hr;exact uP _ _ _ _ _ _ (h P) hr
 |.new o k,w,es,a,w1,dt,h,hr=>by simp only[Sem.runT]at hr;exact uP _ _ _ _ _ _ (h _) hr
 |.sys c k,w,es,a,w1,dt,h,hr=>by simp only[Sem.runT]at hr;exact uP _ _ _ _ _ _ (h _) hr
 |.load ..,_,_,_,_,_,h,_=>h.elim
 |.store ..,_,_,_,_,_,h,_=>h.elim
 |.shape ..,_,_,_,_,_,h,_=>h.elim
 |.freeze ..,_,_,_,_,_,h,_=>h.elim
 |.frozen ..,_,_,_,_,_,h,_=>h.elim
 |.getObj ..,_,_,_,_,_,h,_=>h.elim
 |.setObj ..,_,_,_,_,_,h,_=>h.elim
 |.choose ..,_,_,_,_,_,h,_=>h.elim
 |.mark ..,_,_,_,_,_,h,_=>h.elim
def Wo (w w1 W:World):Prop:=∀j,j<w1.drawn-w.drawn→∀q,W.tape (W.drawn+j) q=w.tape (w.drawn+j) q
theorem dm (hp:Plain P ρ)(Gh:∀o,GO P ρ o){α β:Type}:∀(t:Sem α) (t':Sem β) (R:α→β→Prop) (Rs:Nat→α→α→Prop) (w W:World) (es es':Array Event) (a:α) (w1:World) (dt:Array Event),aa P ρ R t t'→(∀n,w.heap.size≤n→aa P (sg S S.d n) (Rs n) t t)→WR P S ρ w W→Wo w w1 W→t.runT P w es=(.ok a w1,dt)→∃b W1 iH,t'.runT P W es'=(.ok b W1,iH)∧R a b∧(∀n,w1.heap.size≤n→Rs n a a)∧WR P S ρ w1 W1∧Bl S.d ρ w w1 W W1∧∀e∈iH,e∈es'∨lU S.d ρ w1 e
 |.pure a0,t',R,Rs,w,W,es,es',a,w1,dt,h1,h2,hW,hn,hr=>by
  obtain⟨b,rfl,hR⟩:=h1;simp only[Sem.runT,zab,Result.ok.injEq]at hr;obtain⟨⟨rfl,rfl⟩,rfl⟩:=hr;refine⟨b,W,es',rfl,hR,λn hn=>?_,hW,Bl.refl _ _,λe he=> .inl he⟩;obtain⟨b',e,hb⟩:=h2 n hn;cases e;exact hb
 |.load m ad k,t',R,Rs,w,W,es,es',a,w1,dt,h1,h2,hW,hn,hr=>by
  have hno:¬ad.block<S.d:=λhlt=>by
   simp only[Sem.runT,yK hW hlt,World.farLoad,hW.dead _ hlt,iG,zab]at hr;cases hr.1
  have cF:S.d≤ad.block∧ad.block<w.heap.size:=by
   rcases h2 w.heap.size (zaa _)with h|⟨k',e,_⟩
   ·exact absurd h hno
   ·simp only[Sem.load.injEq]at e;exact bW.1 (ia.1 e.2.1.symm)
  have jr:∀v,(∀n,w.heap.size≤n→rv (sg S S.d n) v=v)→∀n,w.heap.size≤n→aa P (sg S S.d n) (Rs n) (k v) (k v):=λv hv n hn=>by
   rcases h2 n hn with h|⟨k',e,hk⟩
   ·exact absurd h hno
   ·simp only[Sem.load.injEq]at e;obtain⟨_,_,rfl⟩:=e;have:=hk v;rwa[hv n hn]at this
  rcases h1 with h|⟨k',rfl,hk⟩
  ·exact absurd (zaq h hW.big.r) hno
  simp only[Sem.runT]at hr ⊢;cases hc:w.cell? ad with
  |some v=>
   rw[hc]at hr;simp only at hr;rw[yJ hW.Live cF.1 hc];have eG:=tJ hW cF.1 hc;obtain⟨b,W1,iH,r1,r2,r3,r4,r5,r6⟩:=dm hp Gh (k v) _ R Rs w W _ (es'.push ⟨.cell (ra ρ ad),false,m== .atomic⟩) a w1 dt (hk v) (jr v λn hnn=>ek (cR hnn).1 (cR hnn).2 v eG) hW hn hr;refine⟨b,W1,iH,r1,r2,r3,r4,r5,λe he=>?_⟩;rcases r6 e he with h|h
   ·rcases Array.mem_push.1 h with h|rfl
    ·exact .inl h
    ·exact .inr ⟨ad.block,cF.1,by have:=r5.fZ;omega,rfl⟩
   ·exact .inr h
  |none=>
   rw[hc]at hr;simp only at hr;have Xw:W.cell? (ra ρ ad)=none:=by
    unfold World.cell? at hc ⊢;obtain⟨o,ho⟩:∃o,w.heap[ad.block]?=some o:=⟨_,zar cF.2⟩;have hl:=hW.live _ o cF.1 ho;simp only[ra,ho,hl]at hc ⊢;cases o<;>simp only[ro]at hc ⊢;split at hc
    ·rename_i hs;simp[hs]
    ·rename_i hs;simp[hs,hc]
   rw[Xw];simp only;cases hf:w.farLoad P ad (m== .atomic)with
   |error h=>rw[hf]at hr;simp at hr
   |ok x=>
    obtain⟨v,ts⟩:=x;rw[hf]at hr;simp only at hr;unfold World.farLoad at hf;cases hh:w.heap[ad.block]? with
    |none=>rw[hh]at hf;cases hf
    |some o=>
     rw[hh]at hf;cases o with
     |view at_ u=>
      simp only at hf;cases hv:w.viewLoad P at_ u ad (m== .atomic)with
      |error e=>rw[hv]at hf;cases hf
      |ok x=>
       rw[hv]at hf;simp only[Except.ok.injEq]at hf;subst hf;have eG:=hW.closed _ _ cF.1 hh;simp only[ro,Obj.view.injEq,and_true]at eG;have hat:=bW.1 (ia.1 eG);obtain⟨xX,q1,q2,q3,q4⟩:=qR hW.Live hat.1 hv;have hl:=hW.live _ _ cF.1 hh;simp only[ro]at hl;have:W.farLoad P (ra ρ ad) (m== .atomic)=.ok (v,xX):=by
        unfold World.farLoad;simp only[ra]at hl ⊢;rw[hl];simp only[ra]at q1;dsimp only;rw[q1]
       rw[this];simp only;have Wp:=hk v;rw[q3 ρ]at Wp;obtain⟨b,W1,iH,r1,r2,r3,r4,r5,r6⟩:=dm hp Gh (k v) (k' v) R Rs w W _ (es'++xX.toArray.map (⟨.cell ·,false,m== .atomic⟩)) a w1 dt Wp (jr v λn _=>q3 _) hW hn hr;refine⟨b,W1,iH,r1,r2,r3,r4,r5,λe he=>?_⟩;rcases r6 e he with h|h
       ·rcases Array.mem_append.1 h with h|h
        ·exact .inl h
        ·obtain⟨x,hx,rfl⟩:=Array.mem_map.1 h;exact .inr ⟨at_.block,hat.1,by have:=r5.fZ;omega,q2 x (by simpa using hx)⟩
       ·exact .inr h
     |_=>cases hf
 |.store m ad v k,t',R,Rs,w,W,es,es',a,w1,dt,h1,h2,hW,hn,hr=>by
  obtain⟨k',rfl,hk⟩:=h1;have cF:(S.d≤ad.block∧ad.block<w.heap.size)∧rv (sg S S.d w.heap.size) v=v:=by
   obtain⟨k',e,_⟩:=h2 w.heap.size (zaa _);simp only[Sem.store.injEq]at e;exact⟨bW.1 (ia.1 e.2.1.symm),e.2.2.1.symm⟩
  obtain⟨cF,hv⟩:=cF;have jr:∀n,w.heap.size≤n→aa P (sg S S.d n) (Rs n) k k:=λn hn=>by
   obtain⟨k',e,hk⟩:=h2 n hn;simp only[Sem.store.injEq]at e;obtain⟨_,_,_,rfl⟩:=e;exact hk
  have go:∀w2 W2 ts (xX:Array Event),WR P S ρ w2 W2→Bl S.d ρ w w2 W W2→w2.heap.size=w.heap.size→w2.tape=w.tape→w2.drawn=w.drawn→W2.tape=W.tape→W2.drawn=W.drawn→(∀e∈xX,e∈es'∨lU S.d ρ w e)→k.runT P w2 ts=(.ok a w1,dt)→
   ∃b W1 iH,k'.runT P W2 xX=(.ok b W1,iH)∧R a b∧(∀n,w1.heap.size≤n→Rs n a a)∧WR P S ρ w1 W1∧Bl S.d ρ w w1 W W1∧∀e∈iH,e∈es'∨lU S.d ρ w1 e:=λw2 W2 ts xX hW2 hD hsz t1 t2 t3 t4 hts hrun=>by
   obtain⟨b,W1,iH,r1,r2,r3,r4,r5,r6⟩:=dm hp Gh k k' R Rs w2 W2 ts xX a w1 dt hk (by rw[hsz];exact jr) hW2 (by unfold Wo;rw[t1,t2,t3,t4];exact hn) hrun;refine⟨b,W1,iH,r1,r2,r3,r4,hD.trans r5,λe he=>?_⟩;rcases r6 e he with h|h
   ·rcases hts e h with h|h
    ·exact .inl h
    ·exact .inr (h.mono (by have:=r5.fZ;omega))
   ·exact .inr h
  cases hc:w.cell? ad with
  |some v0=>
   have Xw:=yJ hW.Live cF.1 hc;have DR:=vH hW cF.1 cF.2;cases KJ:w.frozen? ad with
   |true=>cases v<;>simp[Sem.runT,hc,KJ]at hr
   |false=>
    have key:k.runT P (w.setCell ad v) (es.push ⟨.cell ad,true,m== .atomic⟩)=(.ok a w1,dt)∧(Sem.store m (ra ρ ad) (rv ρ v) k').runT P W es'=k'.runT P (W.setCell (ra ρ ad) (rv ρ v)) (es'.push ⟨.cell (ra ρ ad),true,m== .atomic⟩):=by
     rw[KJ]at DR;cases v<;>simp only[rv,Sem.runT,hc,KJ,Xw,DR,zav,if_false]at hr ⊢<;>first|exact⟨hr,trivial⟩|exact⟨hr,rfl⟩|(simp at hr)|trace_state
    rw[key.2];refine go _ _ _ _ (hW.setCell hp.inj cF.1 hv) (uN cF.1 cF.2 (gg _ _ _) (gg _ _ _)) (by simp[World.setCell]) rfl rfl rfl rfl (λe he=>?_) key.1;rcases Array.mem_push.1 he with h|rfl
    ·exact .inl h
    ·exact .inr ⟨ad.block,cF.1,cF.2,rfl⟩
  |none=>
   have Xw:W.cell? (ra ρ ad)=none:=by
    unfold World.cell? at hc ⊢;obtain⟨o,ho⟩:∃o,w.heap[ad.block]?=some o:=⟨_,zar cF.2⟩;have hl:=hW.live _ o cF.1 ho;simp only[ra,ho,hl]at hc ⊢;cases o<;>simp only[ro]at hc ⊢;split at hc
    ·rename_i hs;simp[hs]
    ·rename_i hs;simp[hs,hc]
   cases hf:w.farStore P ad v (m== .atomic)with
   |error h=>cases v<;>simp[Sem.runT,hc,hf]at hr
   |ok x=>
    obtain⟨w2,ts⟩:=x;have hf0:=hf;unfold World.farStore at hf;cases hh:w.heap[ad.block]? with
    |none=>rw[hh]at hf;cases hf
    |some o=>
     rw[hh]at hf;cases o with
     |view at_ u=>
      simp only at hf;cases NM:w.viewStore P at_ u ad v (m== .atomic)with
      |error e=>rw[NM]at hf;cases hf
      |ok x=>
       rw[NM]at hf;simp only[Except.ok.injEq]at hf;subst hf;have eG:=hW.closed _ _ cF.1 hh;simp only[ro,Obj.view.injEq,and_true]at eG;have hat:=bW.1 (ia.1 eG);obtain⟨c,c',ty,fz,xX,q1,q2,q3,q4,q5⟩:=pH hW.Live hat.1 NM;have hl:=hW.live _ _ cF.1 hh;simp only[ro]at hl;have hfW:W.farStore P (ra ρ ad) (rv ρ v) (m== .atomic)=.ok ({ W with heap:=W.heap.setIfInBounds (ρ at_.block) (.cells (c'.map (rv ρ)) ty fz) },xX):=by
        unfold World.farStore;simp only[ra]at hl ⊢;rw[hl];simp only[ra]at q4;dsimp only;rw[q4]
       have key:k.runT P w2 (es++ts.toArray.map (⟨.cell ·,true,m== .atomic⟩))=(.ok a w1,dt)∧(Sem.store m (ra ρ ad) (rv ρ v) k').runT P W es'=k'.runT P { W with heap:=W.heap.setIfInBounds (ρ at_.block) (.cells (c'.map (rv ρ)) ty fz) } (es'++xX.toArray.map (⟨.cell ·,true,m== .atomic⟩)):=by
        cases v<;>simp only[rv,Sem.runT,hc,hf0,Xw]at hr hfW ⊢<;>first|(rw[hfW];exact⟨hr,rfl⟩)|(simp at hr)
       rw[key.2];subst q2;have zU:WR P S ρ { w with heap:=w.heap.setIfInBounds at_.block (.cells c' ty fz) } { W with heap:=W.heap.setIfInBounds (ρ at_.block) (.cells (c'.map (rv ρ)) ty fz) }:=by
        refine hW.upd hp.inj hat.1 (gT _ _ _) (gT _ _ _) (λo ho=>⟨trivial,rfl,λhs=>?_⟩);rw[q1]at ho;cases ho;simp only[ro,Obj.cells.injEq,and_true]at hs ⊢;exact q3 _ hs
       refine go _ _ _ _ zU (uN hat.1 hat.2 (gT _ _ _) (gT _ _ _)) (by simp) rfl rfl rfl rfl (λe he=>?_) key.1;rcases Array.mem_append.1 he with h|h
       ·exact .inl h
       ·obtain⟨x,hx,rfl⟩:=Array.mem_map.1 h;exact .inr ⟨at_.block,hat.1,hat.2,q5 x (by simpa using hx)⟩
     |_=>cases hf
 |.new o k,t',R,Rs,w,W,es,es',a,w1,dt,h1,h2,hW,hn,hr=>by
  obtain⟨hno,k',rfl,hk⟩:=h1;have pz:ρ w.heap.size=W.heap.size:=by have:=hW.next w.heap.size (zaa _);omega
  have hs:ro (sg S S.d w.heap.size) o=o:=by
   obtain⟨_,k',e,_⟩:=h2 w.heap.size (zaa _);simp only[Sem.new.injEq]at e;exact e.1.symm
  have jr:∀n,w.heap.size+1≤n→aa P (sg S S.d n) (Rs n) (k w.heap.size) (k w.heap.size):=λn hn=>by
   obtain⟨_,k',e,hk⟩:=h2 n (by omega);simp only[Sem.new.injEq]at e;obtain⟨_,rfl⟩:=e;have:=hk w.heap.size;rwa[show sg S S.d n w.heap.size=w.heap.size from bW.2 ⟨hW.big.d,by omega⟩]at this
  simp only[Sem.runT]at hr ⊢;have hkn:=hk w.heap.size;rw[pz]at hkn;obtain⟨b,W1,iH,r1,r2,r3,r4,r5,r6⟩:=dm hp Gh (k w.heap.size) (k' W.heap.size) R Rs { w with heap:=w.heap.push o } { W with heap:=W.heap.push (ro ρ o) } es es' a w1 dt hkn (by simpa using jr) (hW.push hno hs) hn hr;refine⟨b,W1,iH,r1,r2,r3,r4,?_,r6⟩;have g:=r5.fZ;have sz:=r5.size;simp only[zbw]at g sz;refine⟨r5.tape,r5.drawn,r5.os,r5.output,by omega,λx hx xY=>?_,by omega,r5.BJ,r5.Xv,r5.KI,r5.sB⟩;rw[r5.frame x (by simp only[zbw];omega) xY];simp only[zbj];rw[if_neg (by omega)]
 |.shape r k,t',R,Rs,w,W,es,es',a,w1,dt,h1,h2,hW,hn,hr=>by
  obtain⟨k',rfl,hk⟩:=h1;have cF:S.d≤r∧r<w.heap.size:=by
   obtain⟨k',e,_⟩:=h2 w.heap.size (zaa _);simp only[Sem.shape.injEq]at e;exact bW.1 e.1.symm
  have jr:∀x n,w.heap.size≤n→aa P (sg S S.d n) (Rs n) (k x) (k x):=λx n hn=>by
   obtain⟨k',e,hk⟩:=h2 n hn;simp only[Sem.shape.injEq]at e;obtain⟨_,rfl⟩:=e;exact hk x
  simp only[Sem.runT]at hr ⊢;rw[Ic hW cF.1 cF.2];exact dm hp Gh _ _ R Rs w W es es' a w1 dt (hk _) (jr _) hW hn hr
 |.freeze ad n k,t',R,Rs,w,W,es,es',a,w1,dt,h1,h2,hW,hn,hr=>by
  obtain⟨k',rfl,hk⟩:=h1;have cF:S.d≤ad.block∧ad.block<w.heap.size:=by
   obtain⟨k',e,_⟩:=h2 w.heap.size (zaa _);simp only[Sem.freeze.injEq]at e;exact bW.1 (ia.1 e.1.symm)
  have jr:∀n,w.heap.size≤n→aa P (sg S S.d n) (Rs n) k k:=λn hn=>by
   obtain⟨k',e,hk⟩:=h2 n hn;simp only[Sem.freeze.injEq]at e;obtain⟨_,_,rfl⟩:=e;exact hk
  simp only[Sem.runT]at hr ⊢;have hsz:(w.freeze ad n).heap.size=w.heap.size:=by unfold World.freeze;split<;>simp
  obtain⟨b,W1,iH,r1,r2,r3,r4,r5,r6⟩:=dm hp Gh k k' R Rs (w.freeze ad n) (W.freeze (ra ρ ad) n) es es' a w1 dt hk (by rw[hsz];exact jr) (hW.freeze hp.inj cF.1) (by
   have e1:(w.freeze ad n).tape=w.tape:=by unfold World.freeze;split<;>rfl
   have e2:(w.freeze ad n).drawn=w.drawn:=by unfold World.freeze;split<;>rfl
   have e3:(W.freeze (ra ρ ad) n).tape=W.tape:=by unfold World.freeze;split<;>rfl
   have e4:(W.freeze (ra ρ ad) n).drawn=W.drawn:=by unfold World.freeze;split<;>rfl
   unfold Wo;rw[e1,e2,e3,e4];exact hn) hr
  refine⟨b,W1,iH,r1,r2,r3,r4,Bl.trans ?_ r5,r6⟩;unfold World.freeze;by_cases KL:n=0
  ·simp only[KL,if_true];exact Bl.refl _ _
  ·simp only[KL,if_false];exact uN cF.1 cF.2 (gg _ _ _) (gg _ _ _)
 |.frozen ad k,t',R,Rs,w,W,es,es',a,w1,dt,h1,h2,hW,hn,hr=>by
  obtain⟨k',rfl,hk⟩:=h1;have cF:S.d≤ad.block∧ad.block<w.heap.size:=by
   obtain⟨k',e,_⟩:=h2 w.heap.size (zaa _);simp only[Sem.frozen.injEq]at e;exact bW.1 (ia.1 e.1.symm)
  have jr:∀x n,w.heap.size≤n→aa P (sg S S.d n) (Rs n) (k x) (k x):=λx n hn=>by
   obtain⟨k',e,hk⟩:=h2 n hn;simp only[Sem.frozen.injEq]at e;obtain⟨_,rfl⟩:=e;exact hk x
  simp only[Sem.runT]at hr ⊢;rw[vH hW cF.1 cF.2];exact dm hp Gh _ _ R Rs w W es es' a w1 dt (hk _) (jr _) hW hn hr
 |.getObj r k,t',R,Rs,w,W,es,es',a,w1,dt,h1,h2,hW,hn,hr=>by
  obtain⟨k',rfl,hk⟩:=h1;have cF:S.d≤r∧r<w.heap.size:=by
   obtain⟨k',e,_⟩:=h2 w.heap.size (zaa _);simp only[Sem.getObj.injEq]at e;exact bW.1 e.1.symm
  obtain⟨o,ho⟩:∃o,w.heap[r]?=some o:=⟨_,zar cF.2⟩;have hl:=hW.live _ o cF.1 ho;have eG:=hW.closed _ o cF.1 ho;have cC:=hW.ok _ o ho;have Bn:∀n,w.heap.size≤n→ro (sg S S.d n) o=o:=λn hn=>oO (cR hn).1 (cR hn).2 eG;have jr:∀n,w.heap.size≤n→aa P (sg S S.d n) (Rs n) (k o) (k o):=λn hn=>by
   obtain⟨k',e,hk⟩:=h2 n hn;simp only[Sem.getObj.injEq]at e;obtain⟨_,rfl⟩:=e;have:=hk o (.inr (Bn n hn));rwa[Bn n hn]at this
  have go:∀(ts:Array Event) (sy:Bool),sy=false→(k o).runT P w ts=(.ok a w1,dt)→∃b W1 iH,(k' (ro ρ o)).runT P W (es'.push ⟨.obj (ρ r),false,sy⟩)=(.ok b W1,iH)∧R a b∧(∀n,w1.heap.size≤n→Rs n a a)∧WR P S ρ w1 W1∧Bl S.d ρ w w1 W W1∧∀e∈iH,e∈es'∨lU S.d ρ w1 e:=λts sy hsy hrun=>by
   subst hsy;obtain⟨b,W1,iH,r1,r2,r3,r4,r5,r6⟩:=dm hp Gh (k o) (k' (ro ρ o)) R Rs w W ts _ a w1 dt (hk o (Gh o)) jr hW hn hrun;refine⟨b,W1,iH,r1,r2,r3,r4,r5,λe he=>?_⟩;rcases r6 e he with h|h
   ·rcases Array.mem_push.1 h with h|rfl
    ·exact .inl h
    ·exact .inr ⟨⟨r,cF.1,by have:=r5.fZ;omega,rfl⟩,rfl⟩
   ·exact .inr h
  simp only[Sem.runT,ho,hl]at hr ⊢;cases o with
  |cells c e f=>simp at hr
  |view x t=>exact go _ _ rfl hr
  |number x t=>exact go _ _ rfl hr
  |map x t=>exact go _ _ rfl hr
  |_=>exact cC.elim
 |.setObj r o k,t',R,Rs,w,W,es,es',a,w1,dt,h1,h2,hW,hn,hr=>by
  obtain⟨Oz,k',rfl,hk⟩:=h1;have cF:(S.d≤r∧r<w.heap.size)∧ro (sg S S.d w.heap.size) o=o:=by
   obtain⟨_,k',e,_⟩:=h2 w.heap.size (zaa _);simp only[Sem.setObj.injEq]at e;exact⟨bW.1 e.1.symm,e.2.1.symm⟩
  obtain⟨cF,eG⟩:=cF;have jr:∀n,w.heap.size≤n→aa P (sg S S.d n) (Rs n) k k:=λn hn=>by
   obtain⟨_,k',e,hk⟩:=h2 n hn;simp only[Sem.setObj.injEq]at e;obtain⟨_,_,rfl⟩:=e;exact hk
  obtain⟨o0,ho⟩:∃o,w.heap[r]?=some o:=⟨_,zar cF.2⟩;have hl:=hW.live _ o0 cF.1 ho;have cC:=hW.ok _ o0 ho;have zU:WR P S ρ { w with heap:=w.heap.setIfInBounds r o } { W with heap:=W.heap.setIfInBounds (ρ r) (ro ρ o) }:=by
   refine hW.upd hp.inj cF.1 (gT _ _ _) (gT _ _ _) (λo1 _=>⟨?_,rfl,λ_=>eG⟩);cases o<;>first|exact Oz.elim|trivial
  have go:∀(ts:Array Event),k.runT P { w with heap:=w.heap.setIfInBounds r o } ts=(.ok a w1,dt)→∃b W1 iH,k'.runT P { W with heap:=W.heap.setIfInBounds (ρ r) (ro ρ o) } (es'.push ⟨.obj (ρ r),true,false⟩)=(.ok b W1,iH)∧R a b∧(∀n,w1.heap.size≤n→Rs n a a)∧WR P S ρ w1 W1∧Bl S.d ρ w w1 W W1∧∀e∈iH,e∈es'∨lU S.d ρ w1 e:=λts hrun=>by
   obtain⟨b,W1,iH,r1,r2,r3,r4,r5,r6⟩:=dm hp Gh k k' R Rs _ _ ts (es'.push ⟨.obj (ρ r),true,false⟩) a w1 dt hk (by simpa using jr) zU hn hrun;refine⟨b,W1,iH,r1,r2,r3,r4,(uN cF.1 cF.2 (gT _ _ _) (gT _ _ _)).trans r5,λe he=>?_⟩;rcases r6 e he with h|h
   ·rcases Array.mem_push.1 h with h|rfl
    ·exact .inl h
    ·exact .inr ⟨⟨r,cF.1,by have:=r5.fZ;simp at this;omega,rfl⟩,rfl⟩
   ·exact .inr h
  have hch:o.isChan=false∧(ro ρ o).isChan=false:=by cases o<;>first|exact Oz.elim|exact⟨rfl,rfl⟩
  simp only[Sem.runT,ho,hl,hch.1,hch.2]at hr ⊢;cases o0 with
  |cells c e f=>simp at hr
  |view x t=>exact go _ hr
  |number x t=>exact go _ hr
  |map x t=>exact go _ hr
  |_=>exact cC.elim
 |.choose q k,t',R,Rs,w,W,es,es',a,w1,dt,h1,h2,hW,hn,hr=>by
  obtain⟨k',rfl,hk⟩:=h1;have jr:∀x n,w.heap.size≤n→aa P (sg S S.d n) (Rs n) (k x) (k x):=λx n hn=>by
   obtain⟨k',e,hk⟩:=h2 n hn;simp only[Sem.choose.injEq]at e;obtain⟨_,rfl⟩:=e;exact hk x
  simp only[Sem.runT]at hr ⊢;by_cases hq:q.forced=true
  ·simp only[hq,if_true]at hr ⊢;exact dm hp Gh _ _ R Rs w W es es' a w1 dt (hk _) (jr _) hW hn hr
  ·simp only[hq,if_false,zav]at hr ⊢;have hd:=cZ _ _ _ _ _ _ hr;simp only at hd;have h0:=hn 0 (by omega) q;simp only[Nat.add_zero]at h0;rw[h0];obtain⟨b,W1,iH,r1,r2,r3,r4,r5,r6⟩:=dm hp Gh (k (q.cut (w.tape w.drawn q))) (k' (q.cut (w.tape w.drawn q))) R Rs { w with drawn:=w.drawn+1 } { W with drawn:=W.drawn+1 } es es' a w1 dt (hk _) (jr _) (hW.drew _ _) (λj hj qq=>by
    have:=hn (j+1) (by simp only at hj;omega) qq;show W.tape (W.drawn+1+j) qq=w.tape (w.drawn+1+j) qq;rw[show W.drawn+1+j=W.drawn+(j+1) by omega,show w.drawn+1+j=w.drawn+(j+1) by omega];exact this) hr
   exact⟨b,W1,iH,r1,r2,r3,r4,⟨r5.tape,by have:=r5.drawn;simp only at this;omega,r5.os,r5.output,r5.size,r5.frame,r5.fZ,r5.BJ,r5.Xv,r5.KI,by have:=r5.sB;simp only at this;omega⟩,r6⟩
 |.sys c k,t',R,Rs,w,W,es,es',a,w1,dt,h1,h2,hW,hn,hr=>(uO (.sys c k) _ _ _ _ _ h1 hr).elim
 |.program k,t',R,Rs,w,W,es,es',a,w1,dt,h1,h2,hW,hn,hr=>by
  obtain⟨k',rfl,hk⟩:=h1;have jr:∀n,w.heap.size≤n→aa P (sg S S.d n) (Rs n) (k P) (k P):=λn hn=>by
   obtain⟨k',e,hk⟩:=h2 n hn;simp only[Sem.program.injEq]at e;obtain rfl:=e;exact hk
  simp only[Sem.runT]at hr ⊢;exact dm hp Gh (k P) (k' P) R Rs w W es es' a w1 dt hk jr hW hn hr
 |.mark m k,t',R,Rs,w,W,es,es',a,w1,dt,h1,h2,hW,hn,hr=>by
  obtain⟨hm,k',rfl,hk⟩:=h1;have jr:∀n,w.heap.size≤n→aa P (sg S S.d n) (Rs n) k k:=λn hn=>by
   obtain⟨_,k',e,hk⟩:=h2 n hn;simp only[Sem.mark.injEq]at e;obtain⟨_,rfl⟩:=e;exact hk
  simp only[Sem.runT]at hr ⊢;obtain⟨b,W1,iH,r1,r2,r3,r4,r5,r6⟩:=dm hp Gh k k' R Rs w W _ (es'.push ⟨.mark m,false,true⟩) a w1 dt hk jr hW hn hr;refine⟨b,W1,iH,r1,r2,r3,r4,r5,λe he=>?_⟩;rcases r6 e he with h|h
  ·rcases Array.mem_push.1 h with h|rfl
   ·exact .inl h
   ·exact .inr ⟨hm,rfl⟩
  ·exact .inr h
 |.halt h,t',R,Rs,w,W,es,es',a,w1,dt,h1,h2,hW,hn,hr=>by simp[Sem.runT]at hr
end
end Go.Ren
namespace Go.Ren
open Go Go.Conc
section defs
variable (P:Program)(F:FuncId→Bool)(S:Sd)
def bh:Code→Bool
 |.skip |.ret |.exit _|.refuse _=>true
 |.region _ ops _=>ops.all λo=>eN P F S o.op
 |.seq a b=>bh a&&bh b
 |.cond c a b=>gL S c&&bh a&&bh b
 |.block _ a|.loop a=>bh a
 |_=>false
def aB:Item→Bool
 |.code c=>bh P F S c
 |.inBlock _=>true
 |.inLoop c=>bh P F S c
 |.inRegion ops l=>l.all λi=>(ops[i]?).all λo=>eN P F S o.op
 |_=>false
structure jA (fr:Frame):Prop where
 defers:fr.defers=[]
 mode:fr.mode=.run∨fr.mode=.returning
 kind:fr.kind=.normal
 round:fr.roundOf=none
 todo:fr.todo.all (aB P F S)=true
 fn:∃f,P.funcs[fr.fn]?=some f
structure jB:Prop where
 SF:∀g,S g=true→F g=true
 fn:∀f,F f=true→Gf P S f
 body:∀f fn c,F f=true→P.funcs[f]?=some fn→fn.body=some c→bh P F S c=true
 zero:∀t i v,P.info? t=some i→i.zero=some v→∀ρ:Rn,rv ρ v=v
end defs
def aL (P:Program)(fr:Frame)(above:List Frame):Sem (Frame×List Frame):=
 match fr.mode with
 |.run=>
  match fr.todo with
  |[]=>pure ({ fr with mode:= .returning },above)
  |.code .ret::_=>pure ({ fr with mode:= .returning },above)
  |.code .skip::k|.inBlock _::k=>pure ({ fr with todo:=k },above)
  |.code (.seq a b)::k=>pure ({ fr with todo:= .code a::.code b::k },above)
  |.code (.cond c a b)::k=>match fr.eval c with
   |.bool t=>pure ({ fr with todo:= .code (if t then a else b)::k },above)
   |_=>stuck ""
  |.code (.block id a)::k=>pure ({ fr with todo:= .code a::.inBlock id::k },above)
  |.code (.loop a)::k|.inLoop a::k=>pure ({ fr with todo:= .code a::.inLoop a::k },above)
  |.code (.exit id)::k=>match exitTo id k with
   |some k'=>pure ({ fr with todo:=k' },above)
   |none=>stuck ""
  |.code (.region id ops draw)::k=>
   if draw then do
    let t ←choose (.order fr.fn id)
    pure ({ fr with todo:= .inRegion ops (Region.schedule (P.follows .mixedOrders) ops t)::k },above)
   else pure ({ fr with todo:= .inRegion ops (List.range ops.size)::k },above)
  |.inRegion _ []::k=>pure ({ fr with todo:=k },above)
  |.inRegion ops (i::_)::_=>
   if((ops[i]?).map (Region.wanted · (yielded ops fr.tmps))).getD false then
    match ops[i]? with
    |some o=>do
     match ←execOp fr.eval o with
     |.value v=>pure (fr.finish v,above)
     |.skip=>pure (fr.finish undef,above)
     |.enter f args=>pure (Frame.enter P f args .normal,fr::above)
     |_=>stuck ""
    |none=>stuck ""
   else pure (fr.finish undef,above)
  |_=>stuck ""
 |_=>match P.funcs[fr.fn]? with
  |some fn=>do
   let v ←results fn fr.tmps
   match above with
   |c::rest=>pure (c.finish v,rest)
   |[]=>stuck ""
  |none=>stuck ""
def bP (ρ:Rn)(fr:Frame):Frame:={ fr with tmps:=fr.tmps.map (rv ρ) }
section
variable {P:Program}{F:FuncId→Bool}{S:Sd}{ρ:Rn}
theorem dG:rv ρ undef=undef:=by simp[undef,rv]
theorem qT {fr:Frame}{x:Operand}(h:gL S x=true)(hf:qO S ρ):(bP ρ fr).eval x=rv ρ (fr.eval x):=by
 cases x with
 |tmp t=>
  simp only[Frame.eval,bP,zaL,zal];cases fr.tmps[t]?<;>simp[dG]
 |const v=>exact(ir h ρ).symm
 |global g=>
  simp only[gL,zac,decide_eq_true_eq]at h;simp[Frame.eval,rv,ra,hf.g g h.1 h.2]
 |func f=>simp only[Frame.eval,rv,zbu,hf.f f h]
theorem vJ (fr:Frame)(v:Value)(ht:fr.todo.all (aB P F S)=true):(bP ρ fr).finish (rv ρ v)=bP ρ (fr.finish v):=by
 obtain⟨fn,tmps,todo,defers,mode,kind,ro⟩:=fr
 match todo with
 |[]=>rfl
 |.inRegion ops []::k=>rfl
 |.inRegion ops (i::rest)::k=>
  simp only[Frame.finish,bP];cases (ops[i]?).bind (·.dst)<;>simp[Array.map_setIfInBounds]
 |.code c::k=>rfl
 |.inBlock c::k=>rfl
 |.inLoop c::k=>rfl
 |.inScope c::k=>simp[aB]at ht
 |.inRangeFunc c::k=>simp[aB]at ht
 |.endRangeFunc c::k=>simp[aB]at ht
 |.beginRound::k=>simp[aB]at ht
 |.call ..::k=>simp[aB]at ht
 |.extern ..::k=>simp[aB]at ht
theorem yL {fr:Frame}(h:jA P F S fr)(v:Value):jA P F S (fr.finish v):=by
 obtain⟨h1,h2,h3,h4,h5,h6⟩:=h;obtain⟨fn,tmps,todo,defers,mode,kind,ro⟩:=fr;simp only at h1 h2 h3 h4 h5 h6
 match todo with
 |[]=>exact⟨h1,h2,h3,h4,h5,h6⟩
 |.inRegion ops []::k=>exact⟨h1,h2,h3,h4,h5,h6⟩
 |.inRegion ops (i::rest)::k=>
  refine⟨h1,h2,h3,h4,?_,h6⟩;simp only[zaf,aB,zac]at h5;simp only[Frame.finish,zaf,aB,zac];exact⟨h5.1.2,h5.2⟩
 |.code c::k=>exact⟨h1,h2,h3,h4,h5,h6⟩
 |.inBlock c::k=>exact⟨h1,h2,h3,h4,h5,h6⟩
 |.inLoop c::k=>exact⟨h1,h2,h3,h4,h5,h6⟩
 |.inScope c::k=>simp[aB]at h5
 |.inRangeFunc c::k=>simp[aB]at h5
 |.endRangeFunc c::k=>simp[aB]at h5
 |.beginRound::k=>simp[aB]at h5
 |.call ..::k=>simp[aB]at h5
 |.extern ..::k=>simp[aB]at h5
theorem Ig {ops:Array Oper}(h:(ops.all λo=>eN P F S o.op)=true)(l:List Nat):(l.all λi=>(ops[i]?).all λo=>eN P F S o.op)=true:=by
 refine zaE.2 λi _=>?_;cases ho:ops[i]? with
 |none=>rfl
 |some o=>exact Array.all_eq_true'.1 h o (zaT ho)
theorem lV {id:Nat}:∀{k k':List Item},exitTo id k=some k'→k.all (aB P F S)=true→k'.all (aB P F S)=true
 |.inBlock id'::k,k',h,hk=>by
  simp only[exitTo]at h;simp only[zaf,zac]at hk;split at h
  ·cases h;exact hk.2
  ·exact lV h hk.2
 |.code c::k,k',h,hk=>by
  simp only[exitTo]at h;simp only[zaf,zac]at hk;exact lV h hk.2
 |.inLoop c::k,k',h,hk=>by
  simp only[exitTo]at h;simp only[zaf,zac]at hk;exact lV h hk.2
 |.inRegion ..::k,k',h,hk=>by
  simp only[exitTo]at h;simp only[zaf,zac]at hk;exact lV h hk.2
 |.inScope c::k,k',h,hk=>by simp[aB]at hk
 |.inRangeFunc c::k,k',h,hk=>by simp[aB]at hk
 |.endRangeFunc c::k,k',h,hk=>by simp[aB]at hk
 |.beginRound::k,k',h,hk=>by simp[aB]at hk
 |.call ..::k,k',h,hk=>by simp[aB]at hk
 |.extern ..::k,k',h,hk=>by simp[aB]at hk
 |[],k',h,hk=>by simp[exitTo]at h
theorem vK (hC:jB P F S){f:FuncId}(hf:F f=true)(args:Array Value):jA P F S (Frame.enter P f args .normal):=by
 obtain⟨fn,h1,_,_⟩:=hC.fn f hf;refine⟨rfl,.inl rfl,rfl,rfl,?_,⟨fn,h1⟩⟩;simp only[Frame.enter,h1,Option.bind,zaf,List.all_nil,zba,aB];cases hb:fn.body with
 |none=>rfl
 |some c=>exact hC.body f fn c hf h1 hb
theorem iu (f:FuncId)(args:Array Value):Frame.enter P f (args.map (rv ρ)) .normal=bP ρ (Frame.enter P f args .normal):=by
 simp[Frame.enter,bP,dG]
theorem nR (ops:Array Oper)(tmps:Array Value)(j:Nat):yielded ops (tmps.map (rv ρ)) j=yielded ops tmps j:=by
 unfold yielded;cases (ops[j]?).bind (·.dst)with
 |none=>rfl
 |some d=>
  simp only[Option.bind,zal];cases tmps[d]? with
  |none=>rfl
  |some v=>cases v<;>simp[rv]
theorem aa.KM {α β:Type}{R:α→β→Prop}{b b':Bool}(hb:b'=b){s t:Sem α}{s' t':Sem β}(h1:aa P ρ R s s')(h2:aa P ρ R t t'):aa P ρ R (if b then s else t) (if b' then s' else t'):=by
 subst hb;cases b'<;>simp[h1,h2]
def FF (P:Program)(F:FuncId→Bool)(S:Sd)(ρ:Rn)(x y:Frame×List Frame):Prop:=y=(bP ρ x.1,x.2.map (bP ρ))∧jA P F S x.1∧∀f∈x.2,jA P F S f
theorem OA {fr:Frame}(h:jA P F S fr){t:List Item}(ht:t.all (aB P F S)=true):jA P F S { fr with todo:=t }:=⟨h.defers,h.mode,h.kind,h.round,ht,h.fn⟩
theorem vL (hC:jB P F S)(hp:Plain P ρ)(hf:qO S ρ){fr:Frame}{above:List Frame}(h:jA P F S fr)(ha:∀f∈above,jA P F S f)
 (hg:∀v∈fr.tmps,GV P ρ v)(hv:∀v∈fr.tmps,FV S v):aa P ρ (FF P F S ρ) (aL P fr above) (aL P (bP ρ fr) (above.map (bP ρ))):=by
 have gi:∀x,gL S x=true→GV P ρ (fr.eval x)∧FV S (fr.eval x):=λx hx=>by
  cases x with
  |tmp t=>
   simp only[Frame.eval,zaL];cases hc:fr.tmps[t]? with
   |none=>exact⟨.inr dG,λfn a b e=>by cases e⟩
   |some v=>exact⟨hg v (zaT hc),hv v (zaT hc)⟩
  |const v=>
   refine⟨.inr (ir hx ρ),λfn a b e=>?_⟩;simp only[Frame.eval]at e;subst e;cases hx
  |global g=>
   simp only[gL,zac,decide_eq_true_eq]at hx;exact⟨.inr (by simp[Frame.eval,rv,ra,hf.g g hx.1 hx.2]),λfn a b e=>by cases e⟩
  |func f=>
   refine⟨.inr ?_,λfn a b e=>?_⟩
   ·simp only[Frame.eval,rv,zbu,hf.f f hx]
   ·simp only[Frame.eval,Value.func.injEq]at e;exact⟨f,e.1.symm,hx⟩
 obtain⟨fn0,tmps,todo,defers,mode,kind,jC⟩:=fr;have hand:=h.todo;have hm:=h.mode;have KN:=h.fn;simp only at hand hm KN;rcases hm with rfl|rfl
 ·have ctl:∀t:List Item,t.all (aB P F S)=true→aa P ρ (FF P F S ρ) (pure (⟨fn0,tmps,t,defers,.run,kind,jC⟩,above)) (pure (⟨fn0,tmps.map (rv ρ),t,defers,.run,kind,jC⟩,above.map (bP ρ))):=λt ht=>aa.pure ⟨rfl,OA h ht,ha⟩;have ret:aa P ρ (FF P F S ρ) (pure (⟨fn0,tmps,todo,defers,.returning,kind,jC⟩,above)) (pure (⟨fn0,tmps.map (rv ρ),todo,defers,.returning,kind,jC⟩,above.map (bP ρ))):=aa.pure ⟨rfl,⟨h.defers,.inr rfl,h.kind,h.round,h.todo,h.fn⟩,ha⟩
  match todo,h,gi,hand,ret with
  |[],h,gi,hand,ret=>exact ret
  |.code .ret::_,h,gi,hand,ret=>exact ret
  |.code .skip::k,h,gi,hand,ret=>exact ctl k (by simpa[aB,bh]using hand)
  |.inBlock _::k,h,gi,hand,ret=>exact ctl k (by simpa[aB]using hand)
  |.code (.seq a b)::k,h,gi,hand,ret=>exact ctl _ (by simpa[aB,bh,and_assoc]using hand)
  |.code (.block id a)::k,h,gi,hand,ret=>exact ctl _ (by simpa[aB,bh]using hand)
  |.code (.loop a)::k,h,gi,hand,ret=>exact ctl _ (by simpa[aB,bh]using hand)
  |.inLoop a::k,h,gi,hand,ret=>exact ctl _ (by simpa[aB,bh]using hand)
  |.inRegion _ []::k,h,gi,hand,ret=>exact ctl k (by simp[aB]at hand ⊢;exact hand)
  |.code (.cond c a b)::k,h,gi,hand,ret=>
   simp only[zaf,aB,bh,zac]at hand;have e:=qT (fr:=⟨fn0,tmps,.code (.cond c a b)::k,defers,.run,kind,jC⟩) hand.1.1.1 hf;simp only[aL,bP]at e ⊢;rw[e];generalize Frame.eval _ c=q;cases q with
   |bool t=>simp only[rv];refine ctl _ ?_;simp only[zaf,aB,zac];cases t;exact⟨hand.1.2,hand.2⟩;exact⟨hand.1.1.2,hand.2⟩
   |_=>simp only[rv];exact aa.stuck _
  |.code (.exit id)::k,h,gi,hand,ret=>
   simp only[aL,bP];cases he:exitTo id k with
   |none=>exact aa.stuck _
   |some k'=>exact ctl k' (lV he (by simp[aB,bh]at hand ⊢;exact hand))
  |.code (.region id ops draw)::k,h,gi,hand,ret=>
   simp only[aL,bP];have hr:∀l,((Item.inRegion ops l)::k).all (aB P F S)=true:=λl=>by
    simp only[zaf,aB,bh,zac]at hand ⊢;exact⟨Ig hand.1 l,hand.2⟩
   refine aa.ay (λ_=>?_) (λ_=>ctl _ (hr _));refine aa.bind (iE _) ?_;rintro t _ rfl;exact ctl _ (hr _)
  |.inRegion ops (i::rest)::k,h,gi,hand,ret=>
   simp only[aL];have hw:((ops[i]?).map (Region.wanted · (yielded ops (tmps.map (rv ρ))))).getD false=((ops[i]?).map (Region.wanted · (yielded ops tmps))).getD false:=by
    have:yielded ops (tmps.map (rv ρ))=yielded ops tmps:=funext λj=>nR ops tmps j;rw[this]
   have nS:∀v,aa P ρ (FF P F S ρ) (pure ((⟨fn0,tmps,.inRegion ops (i::rest)::k,defers,.run,kind,jC⟩:Frame).finish v,above)) (pure ((bP ρ (⟨fn0,tmps,.inRegion ops (i::rest)::k,defers,.run,kind,jC⟩:Frame)).finish (rv ρ v),above.map (bP ρ))):=λv=>by
    rw[vJ (P:=P) (F:=F) (S:=S) _ v h.todo];exact aa.pure ⟨rfl,yL h v,ha⟩
   refine aa.KM hw ?_ ?_
   ·cases ho:ops[i]? with
    |none=>exact aa.stuck _
    |some o=>
     dsimp only;have cC:eN P F S o.op=true:=by
      simp only[zaf,aB,zac]at hand;have:=hand.1.1;rw[ho]at this;simpa using this
     refine aa.bind (nQ (F:=F) hp hf hC.SF hC.fn o cC (ev:=(⟨fn0,tmps,.inRegion ops (i::rest)::k,defers,.run,kind,jC⟩:Frame).eval) (ev':=(bP ρ (⟨fn0,tmps,.inRegion ops (i::rest)::k,defers,.run,kind,jC⟩:Frame)).eval) (λx hx=>qT hx hf) (λx hx=>(gi x hx).1) (λx hx=>(gi x hx).2) (λ_=>rfl) (λ_=>rfl) (λ_=>rfl) (λ_=>rfl)) ?_;intro nx OB hn;cases nx<;>simp only[NN]at hn
     ·subst hn;exact nS _
     ·subst hn;have:=nS undef;rwa[dG]at this
     ·obtain⟨hF,rfl⟩:=hn;dsimp only;rw[iu];exact aa.pure ⟨rfl,vK hC hF _,λf hx=>by
       rcases zas.1 hx with rfl|hx
       ·exact h
       ·exact ha f hx⟩
   ·have:=nS undef;rwa[dG]at this
  |.code (.rangeFunc ..)::k,h,gi,hand,ret=>simp[aB,bh]at hand
  |.code (.scope ..)::k,h,gi,hand,ret=>simp[aB,bh]at hand
  |.code (.label ..)::k,h,gi,hand,ret=>simp[aB,bh]at hand
  |.code (.goto ..)::k,h,gi,hand,ret=>simp[aB,bh]at hand
  |.code (.refuse ..)::k,h,gi,hand,ret=>exact aa.stuck _
  |.inScope c::k,h,gi,hand,ret=>simp[aB]at hand
  |.inRangeFunc c::k,h,gi,hand,ret=>simp[aB]at hand
  |.endRangeFunc c::k,h,gi,hand,ret=>simp[aB]at hand
  |.beginRound::k,h,gi,hand,ret=>simp[aB]at hand
  |.call ..::k,h,gi,hand,ret=>simp[aB]at hand
  |.extern ..::k,h,gi,hand,ret=>simp[aB]at hand
 ·simp only[aL,bP];obtain⟨fn,h1⟩:=KN;rw[h1];dsimp only;refine aa.bind (jd hp fn tmps dG) ?_;rintro v _ rfl;cases above with
  |nil=>exact aa.stuck _
  |cons c rest=>
   simp only[zao];have hc:=ha c (by simp);have e:=vJ (ρ:=ρ) (P:=P) (F:=F) (S:=S) c v hc.todo;rw[e];exact aa.pure ⟨rfl,yL hc v,λf hx=>ha f (by simp[hx])⟩
end
end Go.Ren
