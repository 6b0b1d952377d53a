import Derived.Conc.Listed
import Derived.Conc.TokenWalk
import Derived.Deep.MidRow
import Derived.Deep.WholeRow
import Derived.Test.YtlhimdjkkiflhaaGreatDoorMade01
set_option maxHeartbeats 8000000
set_option maxRecDepth 100000
open Go renaming World→Γ,Frame→Δ,execOp→Ξ,Program→Φ,Goroutine→Ω,Value→η,stepG→θ,yielded→ξ,Event→π,FuncId→υ,exitTo→ψ,undef→ω,Operand→ϊ,TypeId→ό,Calls→ύ
open Go.Sem renaming runT→Θ
open Classical renaming choose→Λ
open Go.Region renaming wanted→ζ
open Go.stepG renaming exec→ι
open Go.MemAct renaming ofEvent→φ
open Go.GStep renaming after→χ
open Go.Act renaming put→ϋ
namespace Go.Ren
open Go
variable {w1 w w' W W':Γ}{H:Array Obj}{r n N off:Nat}{v:η}{fr fr':Δ}{x:ϊ}{f:υ}{es:Array π}{ρ ρ':Rn}{cs:List Δ}{args c:Array η}{g:Ω}{own':Nat→Prop}{e:ό}{T:Nat→η}{dd:Option Tmp}{s:Tmp}
def iE:Obj:= .cells #[] 0 (0,0)
structure xw (P:Φ) (S:Sd) (ρ:Rn) (n:Nat):Prop where
 d:S.d≤n
 g:S.g≤n
 r:ρ.d≤S.d
 p:P.globals.size≤n
 dp:S.d≤P.globals.size
 fg:∀g,S.d≤g→g<S.g→ρ g=g
 fl:∀g,g<S.d→g<ρ.d∨ρ g=g
theorem xw.mono {P:Φ}{S:Sd}{ρ:Rn}{n m:Nat}(h:xw P S ρ n)(hn:n≤m):xw P S ρ m:=⟨zag h.d hn,zag h.g hn,h.r,zag h.p hn,h.dp,h.fg,h.fl⟩
structure WR (P:Φ) (S:Sd) (ρ:Rn) (w W:Γ):Prop where
 live:∀(r:Nat) (o:Obj),S.d≤r→w.heap[r]?=some o→W.heap[ρ r]?=some (ro ρ o)
 ok:∀(r:Nat) (o:Obj),w.heap[r]?=some o→l6 o
 dead:∀(r:Nat),r<S.d→w.heap[r]?=some iE
 closed:∀(r:Nat) (o:Obj),S.d≤r→w.heap[r]?=some o→ro (sg S S.d w.heap.size) o=o
 next:∀r:Nat,w.heap.size≤r→ρ r=W.heap.size+(r-w.heap.size)
 low:∀r:Nat,S.d≤r→r<w.heap.size→ρ r<W.heap.size
 big:xw P S ρ w.heap.size
def Touch (b0:Nat)(ρ:Rn)(w:Γ)(b:Nat):Prop:=∃r,b0≤r∧r<w.heap.size∧b=ρ r
def nU (b0:Nat)(ρ:Rn)(w:Γ)(e:π):Prop:=
 match e.loc with
 |.cell a=>Touch b0 ρ w a.block
 |.obj r=>Touch b0 ρ w r∧e.sync=false
 |.mark m=>MOk m∧e.sync=true
 |_=>False
structure DM (b0:Nat) (ρ:Rn) (w w1 W W1:Γ):Prop where
 tape:W1.tape=W.tape
 drawn:W1.drawn+w.drawn=W.drawn+w1.drawn
 os:W1.os=W.os
 output:W1.output=W.output
 size:W1.heap.size+w.heap.size=W.heap.size+w1.heap.size
 frame:∀b:Nat,b<W.heap.size→¬Touch b0 ρ w1 b→W1.heap[b]?=W.heap[b]?
 gK:w.heap.size≤w1.heap.size
 Ei:w1.tape=w.tape
 wos:w1.os=w.os
 Od:w1.output=w.output
 tS:w.drawn≤w1.drawn
section
variable {P:Φ}{S:Sd}{b0:Nat}{ρ:Rn}{w W:Γ}
theorem DM.refl (w W:Γ):DM b0 ρ w w W W:=⟨rfl,rfl,rfl,rfl,rfl,λ_ _ _=>rfl,zac _,rfl,rfl,rfl,zac _⟩
theorem Touch.mono {w w1:Γ}{b:Nat}(h:Touch b0 ρ w b)(hg:w.heap.size≤w1.heap.size):Touch b0 ρ w1 b:=by
 obtain⟨r,hl,hr,rfl⟩:=h;exact⟨r,hl,by omega,rfl⟩
theorem nU.mono {w w1:Γ}{e:π}(h:nU b0 ρ w e)(hg:w.heap.size≤w1.heap.size):nU b0 ρ w1 e:=by
 unfold nU at h ⊢;split<;>simp_all
 ·exact h.mono hg
 ·exact h.1.mono hg
theorem DM.trans {w w2 W W1 W2:Γ}(h:DM b0 ρ w w1 W W1)(h2:DM b0 ρ w1 w2 W1 W2):DM b0 ρ w w2 W W2:=by
 refine⟨h2.tape.trans h.tape,by have:=h.drawn;have:=h2.drawn;omega,h2.os.trans h.os,h2.output.trans h.output,by have:=h.size;have:=h2.size;omega,λb hb hn=>?_,zag h.gK h2.gK,h2.Ei.trans h.Ei,h2.wos.trans h.wos,h2.Od.trans h.Od,zag h.tS h2.tS⟩;rw[h2.frame b (by have:=h.size;have:=h.gK;omega) hn];exact h.frame b hb λhx=>hn (hx.mono h2.gK)
def Z9 (H:Array Obj)(b:Nat)(f:Obj→Obj)(H':Array Obj):Prop:=H'.size=H.size∧∀j:Nat,H'[j]?=if j=b then(H[j]?).map f else H[j]?
theorem gf (H:Array Obj)(b:Nat)(f:Obj→Obj):Z9 H b f (H.modify b f):=by
 refine⟨by simp,λj=>?_⟩;rw[Array.getElem?_modify];by_cases h:b=j
 ·subst h;simp
 ·rw[zaa h,zaa (λe=>h (Eq.symm e))]
theorem gU (H:Array Obj)(b:Nat)(o:Obj):Z9 H b (λ_=>o) (H.setIfInBounds b o):=by
 refine⟨by simp,λj=>?_⟩;rw[zcK];by_cases h:b=j
 ·subst h;by_cases hb:b<H.size
  ·simp[hb]
  ·simp[hb]
 ·rw[zaa h,zaa (λe=>h (Eq.symm e))]
theorem gg {o:Obj}(h:H[r]?=some o):r<H.size:=(zaj.1 h).1
theorem WR.upd (hi:∀a b,ρ a=ρ b→a=b)(h:WR P S ρ w W){b:Nat}{f g:Obj→Obj}{H':Array Obj}(hb:S.d≤b)
 (c1:Z9 w.heap b f H)(c2:Z9 W.heap (ρ b) g H')
 (hfg:∀o,w.heap[b]?=some o→l6 (f o)∧g (ro ρ o)=ro ρ (f o)∧(ro (sg S S.d w.heap.size) o=o→ro (sg S S.d w.heap.size) (f o)=f o)):
 WR P S ρ { w with heap:=H } { W with heap:=H' }:=by
 refine⟨λr o hl ho=>?_,λr o ho=>?_,λr hr=>?_,λr o hl ho=>?_,λr hr=>?_,λr hl hr=>?_,?_⟩
 ·have h1:=c1.2 r;have h2:=c2.2 (ρ r);simp only at ho ⊢;rw[h1]at ho;rw[h2];by_cases e:r=b
  ·subst e;simp only[if_true]at ho ⊢;obtain⟨o0,h0,rfl⟩:=zas.1 ho;rw[h.live r o0 hl h0];simp[(hfg o0 h0).2.1]
  ·have:ρ r≠ρ b:=λx=>e (hi _ _ x);simp only[e,this,if_false]at ho ⊢;exact h.live r o hl ho
 ·have h1:=c1.2 r;simp only at ho;rw[h1]at ho;by_cases e:r=b
  ·subst e;simp only[if_true]at ho;obtain⟨o0,h0,rfl⟩:=zas.1 ho;exact(hfg o0 h0).1
  ·simp only[e,if_false]at ho;exact h.ok r o ho
 ·have h1:=c1.2 r;simp only;rw[h1,zaa (by omega)];exact h.dead r hr
 ·have h1:=c1.2 r;simp only[c1.1]at ho ⊢;rw[h1]at ho;by_cases e:r=b
  ·subst e;simp only[if_true]at ho;obtain⟨o0,h0,rfl⟩:=zas.1 ho;exact(hfg o0 h0).2.2 (h.closed r o0 hl h0)
  ·simp only[e,if_false]at ho;exact h.closed r o hl ho
 ·simp only at hr ⊢;rw[c2.1];rw[c1.1]at hr ⊢;exact h.next r hr
 ·simp only at hr ⊢;rw[c2.1];rw[c1.1]at hr;exact h.low r hl hr
 ·simp only[c1.1];exact h.big
theorem WR.push (h:WR P S ρ w W){o:Obj}(ho:l6 o)(hs:ro (sg S S.d w.heap.size) o=o):WR P S ρ { w with heap:=w.heap.push o } { W with heap:=W.heap.push (ro ρ o) }:=by
 have Ej:ρ w.heap.size=W.heap.size:=by have:=h.next w.heap.size (zac _);omega
 have hm:=dY (S:=S) (b0:=S.d) (Nat.le_succ w.heap.size);have afk:=h.big.d;refine⟨λr o1 hr h1=>?_,λr o1 h1=>?_,λr hr=>?_,λr o1 hr h1=>?_,λr hr=>?_,λr hl hr=>?_,?_⟩
 ·simp only[zbY]at h1 ⊢;by_cases e:r=w.heap.size
  ·subst e;simp only[if_true,zaE]at h1;subst h1;simp[Ej]
  ·simp only[e,if_false]at h1;have hlt:=gg h1;have:=h.low r hr hlt;rw[zaa (by omega)];exact h.live r o1 hr h1
 ·simp only[zbY]at h1;by_cases e:r=w.heap.size
  ·subst e;simp only[if_true,zaE]at h1;subst h1;exact ho
  ·simp only[e,if_false]at h1;exact h.ok r o1 h1
 ·simp only[zbY];rw[zaa (by omega)];exact h.dead r hr
 ·simp only[zbY,zcu]at h1 ⊢;by_cases e:r=w.heap.size
  ·subst e;simp only[if_true,zaE]at h1;subst h1;exact pB hm.1 hm.2 hs
  ·simp only[e,if_false]at h1;exact pB hm.1 hm.2 (h.closed r o1 hr h1)
 ·simp only[zcu]at hr ⊢;have:=h.next r (by omega);omega
 ·simp only[zcu]at hr ⊢;by_cases e:r=w.heap.size
  ·subst e;omega
  ·have:=h.low r hl (by omega);omega
 ·simp only[zcu];exact h.big.mono (Nat.le_succ _)
theorem WR.Live (h:WR P S ρ w W):Live S.d ρ w W:=⟨h.live⟩
theorem WR.drew (h:WR P S ρ w W)(d D:Nat):WR P S ρ { w with drawn:=d } { W with drawn:=D }:=⟨h.live,h.ok,h.dead,h.closed,h.next,h.low,h.big⟩
theorem uR (h:WR P S ρ w W){a:Addr}(hl:S.d≤a.block)(hc:w.cell? a=some v):rv (sg S S.d w.heap.size) v=v:=by
 unfold Γ.cell? at hc;cases hh:w.heap[a.block]? with
 |none=>rw[hh]at hc;cases hc
 |some o=>
  have hs:=h.closed _ o hl hh;rw[hh]at hc;cases o with
  |cells c e f=>
   simp only at hc;split at hc
   ·cases hc
   ·simp only[ro,Obj.cells.injEq,zay]at hs;exact bF.1 hs v (zbF hc)
  |_=>cases hc
theorem A7 (h:WR P S ρ w W){a:Addr}(hl:a.block<S.d):w.cell? a=none:=by
 unfold Γ.cell?
 rw[h.dead _ hl];simp[iE]
theorem xy (h:WR P S ρ w W){a:Addr}(hl:S.d≤a.block)(hs:a.block<w.heap.size):W.frozen? (ra ρ a)=w.frozen? a:=by
 unfold Γ.frozen?
 obtain⟨o,ho⟩:∃o,w.heap[a.block]?=some o:=⟨_,zaL hs⟩;have:=h.live _ o hl ho;simp only[ra,ho,this];cases o<;>rfl
theorem Ll (h:WR P S ρ w W)(hl:S.d≤r)(hs:r<w.heap.size):W.shape? (ρ r)=w.shape? r:=by
 unfold Γ.shape?
 obtain⟨o,ho⟩:∃o,w.heap[r]?=some o:=⟨_,zaL hs⟩;have:=h.live _ o hl ho;simp only[ho,this];cases o<;>simp[ro]
theorem WR.setCell (hi:∀a b,ρ a=ρ b→a=b)(h:WR P S ρ w W){a:Addr}{v:η}(hl:S.d≤a.block)(hv:rv (sg S S.d w.heap.size) v=v):WR P S ρ (w.setCell a v) (W.setCell (ra ρ a) (rv ρ v)):=by
 refine h.upd hi hl (gf _ _ _) (gf _ _ _) (λo ho=>?_);have cG:=h.ok _ o ho;cases o with
 |cells c e f=>
  refine⟨trivial,?_,λhs=>?_⟩
  ·simp only[ro,ra];by_cases hsp:a.spot.isSome=true<;>simp[hsp,Array.map_setIfInBounds]
  ·simp only[ro,Obj.cells.injEq,zay]at hs ⊢;split
   ·exact hs
   ·rw[zct,hs,hv]
 |view a t=>exact⟨trivial,rfl,λhs=>hs⟩
 |number a t=>exact⟨trivial,rfl,λhs=>hs⟩
 |map a t=>exact⟨trivial,rfl,λhs=>hs⟩
 |_=>exact cG.elim
theorem WR.freeze (hi:∀a b,ρ a=ρ b→a=b)(h:WR P S ρ w W){a:Addr}(hl:S.d≤a.block):WR P S ρ (w.freeze a n) (W.freeze (ra ρ a) n):=by
 unfold Γ.freeze;by_cases hn:n=0
 ·simp only[hn,if_true];exact h
 ·simp only[hn,if_false];refine h.upd hi hl (gf _ _ _) (gf _ _ _) (λo ho=>?_);have cG:=h.ok _ o ho;cases o with
  |cells c e f=>exact⟨trivial,rfl,λhs=>by simpa[ro]using hs⟩
  |view a t=>exact⟨trivial,rfl,λhs=>hs⟩
  |number a t=>exact⟨trivial,rfl,λhs=>hs⟩
  |map a t=>exact⟨trivial,rfl,λhs=>hs⟩
  |_=>exact cG.elim
theorem wD {H':Array Obj}{b:Nat}{f g:Obj→Obj}(hb:b0≤b)(hs:b<w.heap.size)(c1:Z9 w.heap b f H)(c2:Z9 W.heap (ρ b) g H'):DM b0 ρ w { w with heap:=H } W { W with heap:=H' }:=
 ⟨rfl,rfl,rfl,rfl,by show H'.size+w.heap.size=W.heap.size+H.size;rw[c1.1,c2.1],λx hx hn=>by
   show H'[x]?=_;rw[c2.2 x,zaa];rintro rfl;exact hn ⟨b,hb,by show b<H.size;rw[c1.1];exact hs,rfl⟩,by show w.heap.size≤H.size;rw[c1.1];omega,rfl,rfl,rfl,zac _⟩
theorem tT {α:Type}:∀(x:Ask α) (w:Γ),w.drawn≤(w.ask x).2.drawn
 |.done a,w=>zac _
 |.ask what range k,w=>by
  unfold Γ.ask;dsimp only;split
  ·exact tT (k 0) w
  ·have:=tT (k ((Question.extern what range).cut (w.tape w.drawn (Question.extern what range)))) { w with drawn:=w.drawn+1 };simp only at this;omega
theorem Lm (c:Sys)(w:Γ):w.drawn≤(w.sys c).2.drawn:=by
 unfold Γ.sys;have:=tT (Kernel.perform c w.os) w;split<;>rename_i h
 ·exact zac _
 ·rw[h]at this;exact this
theorem xz {w w2:Γ}{a:Addr}{b:Bool}{ts:List Addr}(h:w.farStore P a v b=.ok (w2,ts)):w2.drawn=w.drawn:=by
 unfold Γ.farStore at h;split at h
 ·split at h
  ·rename_i r hv;cases h;unfold Γ.viewStore at hv;simp only[bind,Except.bind]at hv;repeat' split at hv
   all_goals first|(cases hv;done)|(simp only[pure,Except.pure,zbO,zaf]at hv;obtain⟨rfl,rfl⟩:=hv;rfl)|(simp[throw,throwThe,MonadExceptOf.throw]at hv)
  ·cases h
 ·cases h
theorem cY {α:Type}:∀(t:Sem α) (w:Γ) (es:Array π) (a:α) (w1:Γ) (dA:Array π),t.runT P w es=(.ok a w1,dA)→w.drawn≤w1.drawn
 |.pure _,w,es,a,w1,dA,h=>by simp only[Θ,zaf,zan]at h;rw[h.1.2];exact zac _
 |.load m ad k,w,es,a,w1,dA,h=>by
  simp only[Θ]at h;split at h
  ·exact cY _ _ _ _ _ _ h
  ·split at h
   ·exact cY _ _ _ _ _ _ h
   ·simp at h
 |.store m ad v k,w,es,a,w1,dA,h=>by
  have key:(∃ts,k.runT P (w.setCell ad v) ts=(.ok a w1,dA))∨∃w2 ts Aq,w.farStore P ad v (m== .atomic)=.ok (w2,Aq)∧k.runT P w2 ts=(.ok a w1,dA):=by
   cases v<;>simp only[Θ]at h<;>first
    |(simp at h;done)
    |(split at h
      ·split at h
       ·simp at h
       ·exact .inl ⟨_,h⟩
      ·split at h
       ·exact .inr ⟨_,_,_,‹_›,h⟩
       ·simp at h)
  rcases key with⟨ts,h⟩|⟨w2,ts,Aq,hf,h⟩
  ·have:=cY _ _ _ _ _ _ h;exact this
  ·have:=cY _ _ _ _ _ _ h;rw[xz hf]at this;exact this
 |.new o k,w,es,a,w1,dA,h=>by simp only[Θ]at h;have:=cY _ _ _ _ _ _ h;exact this
 |.shape r k,w,es,a,w1,dA,h=>by simp only[Θ]at h;exact cY _ _ _ _ _ _ h
 |.freeze ad n k,w,es,a,w1,dA,h=>by
  simp only[Θ]at h;have:=cY _ _ _ _ _ _ h;have e:(w.freeze ad n).drawn=w.drawn:=by unfold Γ.freeze;split<;>rfl
  omega
 |.frozen ad k,w,es,a,w1,dA,h=>by simp only[Θ]at h;exact cY _ _ _ _ _ _ h
 |.getObj r k,w,es,a,w1,dA,h=>by
  simp only[Θ]at h;split at h<;>first|(simp at h;done)|exact cY _ _ _ _ _ _ h
 |.setObj r o k,w,es,a,w1,dA,h=>by
  simp only[Θ]at h;split at h
  ·simp at h
  ·have:=cY _ _ _ _ _ _ h;exact this
  ·simp at h
 |.choose q k,w,es,a,w1,dA,h=>by
  simp only[Θ]at h;split at h
  ·exact cY _ _ _ _ _ _ h
  ·have:=cY _ _ _ _ _ _ h;simp only at this;omega
 |.sys c k,w,es,a,w1,dA,h=>by
  simp only[Θ]at h;exact zag (Lm c w) (cY _ _ _ _ _ _ h)
 |.program k,w,es,a,w1,dA,h=>by simp only[Θ]at h;exact cY _ _ _ _ _ _ h
 |.mark m k,w,es,a,w1,dA,h=>by simp only[Θ]at h;exact cY _ _ _ _ _ _ h
 |.halt _,w,es,a,w1,dA,h=>by simp[Θ]at h
theorem wE {α:Type}{P:Φ}:∀(t:Sem α) (w:Γ) (es:Array π) (a:α) (w1:Γ) (dA:Array π),Tm (λ_=>False) t→t.runT P w es=(.ok a w1,dA)→False
 |.pure a,_,_,_,_,_,h,_=>h
 |.halt _,_,_,_,_,_,_,h=>by simp[Θ]at h
 |.program k,w,es,a,w1,dA,h,hr=>by simp only[Θ]at hr;exact wE _ _ _ _ _ _ (h P) hr
 |.new o k,w,es,a,w1,dA,h,hr=>by simp only[Θ]at hr;exact wE _ _ _ _ _ _ (h _) hr
 |.sys c k,w,es,a,w1,dA,h,hr=>by simp only[Θ]at hr;exact wE _ _ _ _ _ _ (h _) hr
 |.load ..,_,_,_,_,_,h,_=>h.elim
 |.store ..,_,_,_,_,_,h,_=>h.elim
 |.shape ..,_,_,_,_,_,h,_=>h.elim
 |.freeze ..,_,_,_,_,_,h,_=>h.elim
 |.frozen ..,_,_,_,_,_,h,_=>h.elim
 |.getObj ..,_,_,_,_,_,h,_=>h.elim
 |.setObj ..,_,_,_,_,_,h,_=>h.elim
 |.choose ..,_,_,_,_,_,h,_=>h.elim
 |.mark ..,_,_,_,_,_,h,_=>h.elim
theorem wF {α:Type}{P:Φ}:∀(t:Sem α) (w:Γ) (es:Array π) (x:Halt) (w1:Γ) (dA:Array π),Tm (λ_=>False) t→t.runT P w es=(.halt x w1,dA)→DW x
 |.pure a,_,_,_,_,_,h,_=>h.elim
 |.halt _,_,_,_,_,_,h,hr=>by
  simp only[Θ,zaf,zbs]at hr;obtain⟨⟨rfl,_⟩,_⟩:=hr;exact h
 |.program k,w,es,a,w1,dA,h,hr=>by simp only[Θ]at hr;exact wF _ _ _ _ _ _ (h P) hr
 |.new o k,w,es,a,w1,dA,h,hr=>by simp only[Θ]at hr;exact wF _ _ _ _ _ _ (h _) hr
 |.sys c k,w,es,a,w1,dA,h,hr=>by simp only[Θ]at hr;exact wF _ _ _ _ _ _ (h _) hr
 |.load ..,_,_,_,_,_,h,_=>h.elim
 |.store ..,_,_,_,_,_,h,_=>h.elim
 |.shape ..,_,_,_,_,_,h,_=>h.elim
 |.freeze ..,_,_,_,_,_,h,_=>h.elim
 |.frozen ..,_,_,_,_,_,h,_=>h.elim
 |.getObj ..,_,_,_,_,_,h,_=>h.elim
 |.setObj ..,_,_,_,_,_,h,_=>h.elim
 |.choose ..,_,_,_,_,_,h,_=>h.elim
 |.mark ..,_,_,_,_,_,h,_=>h.elim
def Win (w w1 W:Γ):Prop:=∀j,j<w1.drawn-w.drawn→∀q,W.tape (W.drawn+j) q=w.tape (w.drawn+j) q
theorem dG (hp:Plain P ρ)(JK:∀o,GO P ρ o){α β:Type}:∀(t:Sem α) (t':Sem β) (R:α→β→Prop) (Rs:Nat→α→α→Prop) (w W:Γ) (es es':Array π) (a:α) (w1:Γ) (dA:Array π),ae P ρ R t t'→(∀n,w.heap.size≤n→ae P (sg S S.d n) (Rs n) t t)→WR P S ρ w W→Win w w1 W→t.runT P w es=(.ok a w1,dA)→∃b W1 iF,t'.runT P W es'=(.ok b W1,iF)∧R a b∧(∀n,w1.heap.size≤n→Rs n a a)∧WR P S ρ w1 W1∧DM S.d ρ w w1 W W1∧∀e∈iF,e∈es'∨nU S.d ρ w1 e
 |.pure a0,t',R,Rs,w,W,es,es',a,w1,dA,h1,h2,hW,hn,hr=>by
  obtain⟨b,rfl,hR⟩:=h1;simp only[Θ,zaf,zan]at hr;obtain⟨⟨rfl,rfl⟩,rfl⟩:=hr;refine⟨b,W,es',rfl,hR,λn hn=>?_,hW,DM.refl _ _,λe he=> .inl he⟩;obtain⟨b',e,hb⟩:=h2 n hn;cases e;exact hb
 |.load m ad k,t',R,Rs,w,W,es,es',a,w1,dA,h1,h2,hW,hn,hr=>by
  have hno:¬ad.block<S.d:=λhlt=>by
   simp only[Θ,A7 hW hlt,Γ.farLoad,hW.dead _ hlt,iE,zaf]at hr;cases hr.1
  have cJ:S.d≤ad.block∧ad.block<w.heap.size:=by
   rcases h2 w.heap.size (zac _)with h|⟨k',e,_⟩
   ·exact absurd h hno
   ·simp only[Sem.load.injEq]at e;exact bY.1 (gZ.1 e.2.1.symm)
  have jA:∀v,(∀n,w.heap.size≤n→rv (sg S S.d n) v=v)→∀n,w.heap.size≤n→ae P (sg S S.d n) (Rs n) (k v) (k v):=λv hv n hn=>by
   rcases h2 n hn with h|⟨k',e,hk⟩
   ·exact absurd h hno
   ·simp only[Sem.load.injEq]at e;obtain⟨_,_,rfl⟩:=e;have:=hk v;rwa[hv n hn]at this
  rcases h1 with h|⟨k',rfl,hk⟩
  ·exact absurd (zaI h hW.big.r) hno
  simp only[Θ]at hr ⊢;cases hc:w.cell? ad with
  |some v=>
   rw[hc]at hr;simp only at hr;rw[A6 hW.Live cJ.1 hc];have fK:=uR hW cJ.1 hc;obtain⟨b,W1,iF,r1,r2,r3,r4,r5,r6⟩:=dG hp JK (k v) _ R Rs w W _ (es'.push ⟨.cell (ra ρ ad),false,m== .atomic⟩) a w1 dA (hk v) (jA v λn hnn=>eY (dY hnn).1 (dY hnn).2 v fK) hW hn hr;refine⟨b,W1,iF,r1,r2,r3,r4,r5,λe he=>?_⟩;rcases r6 e he with h|h
   ·rcases Array.mem_push.1 h with h|rfl
    ·exact .inl h
    ·exact .inr ⟨ad.block,cJ.1,by have:=r5.gK;omega,rfl⟩
   ·exact .inr h
  |none=>
   rw[hc]at hr;simp only at hr;have hcW:W.cell? (ra ρ ad)=none:=by
    unfold Γ.cell? at hc ⊢;obtain⟨o,ho⟩:∃o,w.heap[ad.block]?=some o:=⟨_,zaL cJ.2⟩;have hl:=hW.live _ o cJ.1 ho;simp only[ra,ho,hl]at hc ⊢;cases o<;>simp only[ro]at hc ⊢;split at hc
    ·rename_i hs;simp[hs]
    ·rename_i hs;simp[hs,hc]
   rw[hcW];simp only;cases hf:w.farLoad P ad (m== .atomic)with
   |error h=>rw[hf]at hr;simp at hr
   |ok x=>
    obtain⟨v,ts⟩:=x;rw[hf]at hr;simp only at hr;unfold Γ.farLoad at hf;cases hh:w.heap[ad.block]? with
    |none=>rw[hh]at hf;cases hf
    |some o=>
     rw[hh]at hf;cases o with
     |view at_ u=>
      simp only at hf;cases hv:w.viewLoad P at_ u ad (m== .atomic)with
      |error e=>rw[hv]at hf;cases hf
      |ok x=>
       rw[hv]at hf;simp only[zbO]at hf;subst hf;have fK:=hW.closed _ _ cJ.1 hh;simp only[ro,Obj.view.injEq,zay]at fK;have hat:=bY.1 (gZ.1 fK);obtain⟨Aq,q1,q2,q3,q4⟩:=rY hW.Live hat.1 hv;have hl:=hW.live _ _ cJ.1 hh;simp only[ro]at hl;have:W.farLoad P (ra ρ ad) (m== .atomic)=.ok (v,Aq):=by
        unfold Γ.farLoad;simp only[ra]at hl ⊢;rw[hl];simp only[ra]at q1;dsimp only;rw[q1]
       rw[this];simp only;have hkv:=hk v;rw[q3 ρ]at hkv;obtain⟨b,W1,iF,r1,r2,r3,r4,r5,r6⟩:=dG hp JK (k v) (k' v) R Rs w W _ (es'++Aq.toArray.map (⟨.cell ·,false,m== .atomic⟩)) a w1 dA hkv (jA v λn _=>q3 _) hW hn hr;refine⟨b,W1,iF,r1,r2,r3,r4,r5,λe he=>?_⟩;rcases r6 e he with h|h
       ·rcases Array.mem_append.1 h with h|h
        ·exact .inl h
        ·obtain⟨x,hx,rfl⟩:=Array.mem_map.1 h;exact .inr ⟨at_.block,hat.1,by have:=r5.gK;omega,q2 x (by simpa using hx)⟩
       ·exact .inr h
     |_=>cases hf
 |.store m ad v k,t',R,Rs,w,W,es,es',a,w1,dA,h1,h2,hW,hn,hr=>by
  obtain⟨k',rfl,hk⟩:=h1;have cJ:(S.d≤ad.block∧ad.block<w.heap.size)∧rv (sg S S.d w.heap.size) v=v:=by
   obtain⟨k',e,_⟩:=h2 w.heap.size (zac _);simp only[Sem.store.injEq]at e;exact⟨bY.1 (gZ.1 e.2.1.symm),e.2.2.1.symm⟩
  obtain⟨cJ,hv⟩:=cJ;have jA:∀n,w.heap.size≤n→ae P (sg S S.d n) (Rs n) k k:=λn hn=>by
   obtain⟨k',e,hk⟩:=h2 n hn;simp only[Sem.store.injEq]at e;obtain⟨_,_,_,rfl⟩:=e;exact hk
  have go:∀w2 W2 ts (Aq:Array π),WR P S ρ w2 W2→DM S.d ρ w w2 W W2→w2.heap.size=w.heap.size→w2.tape=w.tape→w2.drawn=w.drawn→W2.tape=W.tape→W2.drawn=W.drawn→(∀e∈Aq,e∈es'∨nU S.d ρ w e)→k.runT P w2 ts=(.ok a w1,dA)→
   ∃b W1 iF,k'.runT P W2 Aq=(.ok b W1,iF)∧R a b∧(∀n,w1.heap.size≤n→Rs n a a)∧WR P S ρ w1 W1∧DM S.d ρ w w1 W W1∧∀e∈iF,e∈es'∨nU S.d ρ w1 e:=λw2 W2 ts Aq hW2 hD hsz t1 t2 t3 t4 hts hrun=>by
   obtain⟨b,W1,iF,r1,r2,r3,r4,r5,r6⟩:=dG hp JK k k' R Rs w2 W2 ts Aq a w1 dA hk (by rw[hsz];exact jA) hW2 (by unfold Win;rw[t1,t2,t3,t4];exact hn) hrun;refine⟨b,W1,iF,r1,r2,r3,r4,hD.trans r5,λe he=>?_⟩;rcases r6 e he with h|h
   ·rcases hts e h with h|h
    ·exact .inl h
    ·exact .inr (h.mono (by have:=r5.gK;omega))
   ·exact .inr h
  cases hc:w.cell? ad with
  |some v0=>
   have hcW:=A6 hW.Live cJ.1 hc;have Nv:=xy hW cJ.1 cJ.2;cases Oe:w.frozen? ad with
   |true=>cases v<;>simp[Θ,hc,Oe]at hr
   |false=>
    have key:k.runT P (w.setCell ad v) (es.push ⟨.cell ad,true,m== .atomic⟩)=(.ok a w1,dA)∧(Sem.store m (ra ρ ad) (rv ρ v) k').runT P W es'=k'.runT P (W.setCell (ra ρ ad) (rv ρ v)) (es'.push ⟨.cell (ra ρ ad),true,m== .atomic⟩):=by
     rw[Oe]at Nv;cases v<;>simp only[rv,Θ,hc,Oe,hcW,Nv,zaU,if_false]at hr ⊢<;>first|exact⟨hr,trivial⟩|exact⟨hr,rfl⟩|(simp at hr)|trace_state
    rw[key.2];refine go _ _ _ _ (hW.setCell hp.inj cJ.1 hv) (wD cJ.1 cJ.2 (gf _ _ _) (gf _ _ _)) (by simp[Γ.setCell]) rfl rfl rfl rfl (λe he=>?_) key.1;rcases Array.mem_push.1 he with h|rfl
    ·exact .inl h
    ·exact .inr ⟨ad.block,cJ.1,cJ.2,rfl⟩
  |none=>
   have hcW:W.cell? (ra ρ ad)=none:=by
    unfold Γ.cell? at hc ⊢;obtain⟨o,ho⟩:∃o,w.heap[ad.block]?=some o:=⟨_,zaL cJ.2⟩;have hl:=hW.live _ o cJ.1 ho;simp only[ra,ho,hl]at hc ⊢;cases o<;>simp only[ro]at hc ⊢;split at hc
    ·rename_i hs;simp[hs]
    ·rename_i hs;simp[hs,hc]
   cases hf:w.farStore P ad v (m== .atomic)with
   |error h=>cases v<;>simp[Θ,hc,hf]at hr
   |ok x=>
    obtain⟨w2,ts⟩:=x;have hf0:=hf;unfold Γ.farStore at hf;cases hh:w.heap[ad.block]? with
    |none=>rw[hh]at hf;cases hf
    |some o=>
     rw[hh]at hf;cases o with
     |view at_ u=>
      simp only at hf;cases SI:w.viewStore P at_ u ad v (m== .atomic)with
      |error e=>rw[SI]at hf;cases hf
      |ok x=>
       rw[SI]at hf;simp only[zbO]at hf;subst hf;have fK:=hW.closed _ _ cJ.1 hh;simp only[ro,Obj.view.injEq,zay]at fK;have hat:=bY.1 (gZ.1 fK);obtain⟨c,c',ty,fz,Aq,q1,q2,q3,q4,q5⟩:=qx hW.Live hat.1 SI;have hl:=hW.live _ _ cJ.1 hh;simp only[ro]at hl;have hfW:W.farStore P (ra ρ ad) (rv ρ v) (m== .atomic)=.ok ({ W with heap:=W.heap.setIfInBounds (ρ at_.block) (.cells (c'.map (rv ρ)) ty fz) },Aq):=by
        unfold Γ.farStore;simp only[ra]at hl ⊢;rw[hl];simp only[ra]at q4;dsimp only;rw[q4]
       have key:k.runT P w2 (es++ts.toArray.map (⟨.cell ·,true,m== .atomic⟩))=(.ok a w1,dA)∧(Sem.store m (ra ρ ad) (rv ρ v) k').runT P W es'=k'.runT P { W with heap:=W.heap.setIfInBounds (ρ at_.block) (.cells (c'.map (rv ρ)) ty fz) } (es'++Aq.toArray.map (⟨.cell ·,true,m== .atomic⟩)):=by
        cases v<;>simp only[rv,Θ,hc,hf0,hcW]at hr hfW ⊢<;>first|(rw[hfW];exact⟨hr,rfl⟩)|(simp at hr)
       rw[key.2];subst q2;have Cy:WR P S ρ { w with heap:=w.heap.setIfInBounds at_.block (.cells c' ty fz) } { W with heap:=W.heap.setIfInBounds (ρ at_.block) (.cells (c'.map (rv ρ)) ty fz) }:=by
        refine hW.upd hp.inj hat.1 (gU _ _ _) (gU _ _ _) (λo ho=>⟨trivial,rfl,λhs=>?_⟩);rw[q1]at ho;cases ho;simp only[ro,Obj.cells.injEq,zay]at hs ⊢;exact q3 _ hs
       refine go _ _ _ _ Cy (wD hat.1 hat.2 (gU _ _ _) (gU _ _ _)) (by simp) rfl rfl rfl rfl (λe he=>?_) key.1;rcases Array.mem_append.1 he with h|h
       ·exact .inl h
       ·obtain⟨x,hx,rfl⟩:=Array.mem_map.1 h;exact .inr ⟨at_.block,hat.1,hat.2,q5 x (by simpa using hx)⟩
     |_=>cases hf
 |.new o k,t',R,Rs,w,W,es,es',a,w1,dA,h1,h2,hW,hn,hr=>by
  obtain⟨hno,k',rfl,hk⟩:=h1;have Ej:ρ w.heap.size=W.heap.size:=by have:=hW.next w.heap.size (zac _);omega
  have hs:ro (sg S S.d w.heap.size) o=o:=by
   obtain⟨_,k',e,_⟩:=h2 w.heap.size (zac _);simp only[Sem.new.injEq]at e;exact e.1.symm
  have jA:∀n,w.heap.size+1≤n→ae P (sg S S.d n) (Rs n) (k w.heap.size) (k w.heap.size):=λn hn=>by
   obtain⟨_,k',e,hk⟩:=h2 n (by omega);simp only[Sem.new.injEq]at e;obtain⟨_,rfl⟩:=e;have:=hk w.heap.size;rwa[show sg S S.d n w.heap.size=w.heap.size from bY.2 ⟨hW.big.d,by omega⟩]at this
  simp only[Θ]at hr ⊢;have hkn:=hk w.heap.size;rw[Ej]at hkn;obtain⟨b,W1,iF,r1,r2,r3,r4,r5,r6⟩:=dG hp JK (k w.heap.size) (k' W.heap.size) R Rs { w with heap:=w.heap.push o } { W with heap:=W.heap.push (ro ρ o) } es es' a w1 dA hkn (by simpa using jA) (hW.push hno hs) hn hr;refine⟨b,W1,iF,r1,r2,r3,r4,?_,r6⟩;have g:=r5.gK;have sz:=r5.size;simp only[zcu]at g sz;refine⟨r5.tape,r5.drawn,r5.os,r5.output,by omega,λx hx qa=>?_,by omega,r5.Ei,r5.wos,r5.Od,r5.tS⟩;rw[r5.frame x (by simp only[zcu];omega) qa];simp only[zbY];rw[zaa (by omega)]
 |.shape r k,t',R,Rs,w,W,es,es',a,w1,dA,h1,h2,hW,hn,hr=>by
  obtain⟨k',rfl,hk⟩:=h1;have cJ:S.d≤r∧r<w.heap.size:=by
   obtain⟨k',e,_⟩:=h2 w.heap.size (zac _);simp only[Sem.shape.injEq]at e;exact bY.1 e.1.symm
  have jA:∀x n,w.heap.size≤n→ae P (sg S S.d n) (Rs n) (k x) (k x):=λx n hn=>by
   obtain⟨k',e,hk⟩:=h2 n hn;simp only[Sem.shape.injEq]at e;obtain⟨_,rfl⟩:=e;exact hk x
  simp only[Θ]at hr ⊢;rw[Ll hW cJ.1 cJ.2];exact dG hp JK _ _ R Rs w W es es' a w1 dA (hk _) (jA _) hW hn hr
 |.freeze ad n k,t',R,Rs,w,W,es,es',a,w1,dA,h1,h2,hW,hn,hr=>by
  obtain⟨k',rfl,hk⟩:=h1;have cJ:S.d≤ad.block∧ad.block<w.heap.size:=by
   obtain⟨k',e,_⟩:=h2 w.heap.size (zac _);simp only[Sem.freeze.injEq]at e;exact bY.1 (gZ.1 e.1.symm)
  have jA:∀n,w.heap.size≤n→ae P (sg S S.d n) (Rs n) k k:=λn hn=>by
   obtain⟨k',e,hk⟩:=h2 n hn;simp only[Sem.freeze.injEq]at e;obtain⟨_,_,rfl⟩:=e;exact hk
  simp only[Θ]at hr ⊢;have hsz:(w.freeze ad n).heap.size=w.heap.size:=by unfold Γ.freeze;split<;>simp
  obtain⟨b,W1,iF,r1,r2,r3,r4,r5,r6⟩:=dG hp JK k k' R Rs (w.freeze ad n) (W.freeze (ra ρ ad) n) es es' a w1 dA hk (by rw[hsz];exact jA) (hW.freeze hp.inj cJ.1) (by
   have e1:(w.freeze ad n).tape=w.tape:=by unfold Γ.freeze;split<;>rfl
   have e2:(w.freeze ad n).drawn=w.drawn:=by unfold Γ.freeze;split<;>rfl
   have e3:(W.freeze (ra ρ ad) n).tape=W.tape:=by unfold Γ.freeze;split<;>rfl
   have e4:(W.freeze (ra ρ ad) n).drawn=W.drawn:=by unfold Γ.freeze;split<;>rfl
   unfold Win;rw[e1,e2,e3,e4];exact hn) hr
  refine⟨b,W1,iF,r1,r2,r3,r4,DM.trans ?_ r5,r6⟩;unfold Γ.freeze;by_cases Ln:n=0
  ·simp only[Ln,if_true];exact DM.refl _ _
  ·simp only[Ln,if_false];exact wD cJ.1 cJ.2 (gf _ _ _) (gf _ _ _)
 |.frozen ad k,t',R,Rs,w,W,es,es',a,w1,dA,h1,h2,hW,hn,hr=>by
  obtain⟨k',rfl,hk⟩:=h1;have cJ:S.d≤ad.block∧ad.block<w.heap.size:=by
   obtain⟨k',e,_⟩:=h2 w.heap.size (zac _);simp only[Sem.frozen.injEq]at e;exact bY.1 (gZ.1 e.1.symm)
  have jA:∀x n,w.heap.size≤n→ae P (sg S S.d n) (Rs n) (k x) (k x):=λx n hn=>by
   obtain⟨k',e,hk⟩:=h2 n hn;simp only[Sem.frozen.injEq]at e;obtain⟨_,rfl⟩:=e;exact hk x
  simp only[Θ]at hr ⊢;rw[xy hW cJ.1 cJ.2];exact dG hp JK _ _ R Rs w W es es' a w1 dA (hk _) (jA _) hW hn hr
 |.getObj r k,t',R,Rs,w,W,es,es',a,w1,dA,h1,h2,hW,hn,hr=>by
  obtain⟨k',rfl,hk⟩:=h1;have cJ:S.d≤r∧r<w.heap.size:=by
   obtain⟨k',e,_⟩:=h2 w.heap.size (zac _);simp only[Sem.getObj.injEq]at e;exact bY.1 e.1.symm
  obtain⟨o,ho⟩:∃o,w.heap[r]?=some o:=⟨_,zaL cJ.2⟩;have hl:=hW.live _ o cJ.1 ho;have fK:=hW.closed _ o cJ.1 ho;have cG:=hW.ok _ o ho;have uS:∀n,w.heap.size≤n→ro (sg S S.d n) o=o:=λn hn=>pB (dY hn).1 (dY hn).2 fK;have jA:∀n,w.heap.size≤n→ae P (sg S S.d n) (Rs n) (k o) (k o):=λn hn=>by
   obtain⟨k',e,hk⟩:=h2 n hn;simp only[Sem.getObj.injEq]at e;obtain⟨_,rfl⟩:=e;have:=hk o (.inr (uS n hn));rwa[uS n hn]at this
  have go:∀(ts:Array π) (sy:Bool),sy=false→(k o).runT P w ts=(.ok a w1,dA)→∃b W1 iF,(k' (ro ρ o)).runT P W (es'.push ⟨.obj (ρ r),false,sy⟩)=(.ok b W1,iF)∧R a b∧(∀n,w1.heap.size≤n→Rs n a a)∧WR P S ρ w1 W1∧DM S.d ρ w w1 W W1∧∀e∈iF,e∈es'∨nU S.d ρ w1 e:=λts sy hsy hrun=>by
   subst hsy;obtain⟨b,W1,iF,r1,r2,r3,r4,r5,r6⟩:=dG hp JK (k o) (k' (ro ρ o)) R Rs w W ts _ a w1 dA (hk o (JK o)) jA hW hn hrun;refine⟨b,W1,iF,r1,r2,r3,r4,r5,λe he=>?_⟩;rcases r6 e he with h|h
   ·rcases Array.mem_push.1 h with h|rfl
    ·exact .inl h
    ·exact .inr ⟨⟨r,cJ.1,by have:=r5.gK;omega,rfl⟩,rfl⟩
   ·exact .inr h
  simp only[Θ,ho,hl]at hr ⊢;cases o with
  |cells c e f=>simp at hr
  |view x t=>exact go _ _ rfl hr
  |number x t=>exact go _ _ rfl hr
  |map x t=>exact go _ _ rfl hr
  |_=>exact cG.elim
 |.setObj r o k,t',R,Rs,w,W,es,es',a,w1,dA,h1,h2,hW,hn,hr=>by
  obtain⟨Tv,k',rfl,hk⟩:=h1;have cJ:(S.d≤r∧r<w.heap.size)∧ro (sg S S.d w.heap.size) o=o:=by
   obtain⟨_,k',e,_⟩:=h2 w.heap.size (zac _);simp only[Sem.setObj.injEq]at e;exact⟨bY.1 e.1.symm,e.2.1.symm⟩
  obtain⟨cJ,fK⟩:=cJ;have jA:∀n,w.heap.size≤n→ae P (sg S S.d n) (Rs n) k k:=λn hn=>by
   obtain⟨_,k',e,hk⟩:=h2 n hn;simp only[Sem.setObj.injEq]at e;obtain⟨_,_,rfl⟩:=e;exact hk
  obtain⟨o0,ho⟩:∃o,w.heap[r]?=some o:=⟨_,zaL cJ.2⟩;have hl:=hW.live _ o0 cJ.1 ho;have cG:=hW.ok _ o0 ho;have Cy:WR P S ρ { w with heap:=w.heap.setIfInBounds r o } { W with heap:=W.heap.setIfInBounds (ρ r) (ro ρ o) }:=by
   refine hW.upd hp.inj cJ.1 (gU _ _ _) (gU _ _ _) (λo1 _=>⟨?_,rfl,λ_=>fK⟩);cases o<;>first|exact Tv.elim|trivial
  have go:∀(ts:Array π),k.runT P { w with heap:=w.heap.setIfInBounds r o } ts=(.ok a w1,dA)→∃b W1 iF,k'.runT P { W with heap:=W.heap.setIfInBounds (ρ r) (ro ρ o) } (es'.push ⟨.obj (ρ r),true,false⟩)=(.ok b W1,iF)∧R a b∧(∀n,w1.heap.size≤n→Rs n a a)∧WR P S ρ w1 W1∧DM S.d ρ w w1 W W1∧∀e∈iF,e∈es'∨nU S.d ρ w1 e:=λts hrun=>by
   obtain⟨b,W1,iF,r1,r2,r3,r4,r5,r6⟩:=dG hp JK k k' R Rs _ _ ts (es'.push ⟨.obj (ρ r),true,false⟩) a w1 dA hk (by simpa using jA) Cy hn hrun;refine⟨b,W1,iF,r1,r2,r3,r4,(wD cJ.1 cJ.2 (gU _ _ _) (gU _ _ _)).trans r5,λe he=>?_⟩;rcases r6 e he with h|h
   ·rcases Array.mem_push.1 h with h|rfl
    ·exact .inl h
    ·exact .inr ⟨⟨r,cJ.1,by have:=r5.gK;simp at this;omega,rfl⟩,rfl⟩
   ·exact .inr h
  have hch:o.isChan=false∧(ro ρ o).isChan=false:=by cases o<;>first|exact Tv.elim|exact⟨rfl,rfl⟩
  simp only[Θ,ho,hl,hch.1,hch.2]at hr ⊢;cases o0 with
  |cells c e f=>simp at hr
  |view x t=>exact go _ hr
  |number x t=>exact go _ hr
  |map x t=>exact go _ hr
  |_=>exact cG.elim
 |.choose q k,t',R,Rs,w,W,es,es',a,w1,dA,h1,h2,hW,hn,hr=>by
  obtain⟨k',rfl,hk⟩:=h1;have jA:∀x n,w.heap.size≤n→ae P (sg S S.d n) (Rs n) (k x) (k x):=λx n hn=>by
   obtain⟨k',e,hk⟩:=h2 n hn;simp only[Sem.choose.injEq]at e;obtain⟨_,rfl⟩:=e;exact hk x
  simp only[Θ]at hr ⊢;by_cases hq:q.forced=true
  ·simp only[hq,if_true]at hr ⊢;exact dG hp JK _ _ R Rs w W es es' a w1 dA (hk _) (jA _) hW hn hr
  ·simp only[hq,if_false,zaU]at hr ⊢;have hd:=cY _ _ _ _ _ _ hr;simp only at hd;have h0:=hn 0 (by omega) q;simp only[Nat.add_zero]at h0;rw[h0];obtain⟨b,W1,iF,r1,r2,r3,r4,r5,r6⟩:=dG hp JK (k (q.cut (w.tape w.drawn q))) (k' (q.cut (w.tape w.drawn q))) R Rs { w with drawn:=w.drawn+1 } { W with drawn:=W.drawn+1 } es es' a w1 dA (hk _) (jA _) (hW.drew _ _) (λj hj qq=>by
    have:=hn (j+1) (by simp only at hj;omega) qq;show W.tape (W.drawn+1+j) qq=w.tape (w.drawn+1+j) qq;rw[show W.drawn+1+j=W.drawn+(j+1) by omega,show w.drawn+1+j=w.drawn+(j+1) by omega];exact this) hr
   exact⟨b,W1,iF,r1,r2,r3,r4,⟨r5.tape,by have:=r5.drawn;simp only at this;omega,r5.os,r5.output,r5.size,r5.frame,r5.gK,r5.Ei,r5.wos,r5.Od,by have:=r5.tS;simp only at this;omega⟩,r6⟩
 |.sys c k,t',R,Rs,w,W,es,es',a,w1,dA,h1,h2,hW,hn,hr=>(wE (.sys c k) _ _ _ _ _ h1 hr).elim
 |.program k,t',R,Rs,w,W,es,es',a,w1,dA,h1,h2,hW,hn,hr=>by
  obtain⟨k',rfl,hk⟩:=h1;have jA:∀n,w.heap.size≤n→ae P (sg S S.d n) (Rs n) (k P) (k P):=λn hn=>by
   obtain⟨k',e,hk⟩:=h2 n hn;simp only[Sem.program.injEq]at e;obtain rfl:=e;exact hk
  simp only[Θ]at hr ⊢;exact dG hp JK (k P) (k' P) R Rs w W es es' a w1 dA hk jA hW hn hr
 |.mark m k,t',R,Rs,w,W,es,es',a,w1,dA,h1,h2,hW,hn,hr=>by
  obtain⟨hm,k',rfl,hk⟩:=h1;have jA:∀n,w.heap.size≤n→ae P (sg S S.d n) (Rs n) k k:=λn hn=>by
   obtain⟨_,k',e,hk⟩:=h2 n hn;simp only[Sem.mark.injEq]at e;obtain⟨_,rfl⟩:=e;exact hk
  simp only[Θ]at hr ⊢;obtain⟨b,W1,iF,r1,r2,r3,r4,r5,r6⟩:=dG hp JK k k' R Rs w W _ (es'.push ⟨.mark m,false,true⟩) a w1 dA hk jA hW hn hr;refine⟨b,W1,iF,r1,r2,r3,r4,r5,λe he=>?_⟩;rcases r6 e he with h|h
  ·rcases Array.mem_push.1 h with h|rfl
   ·exact .inl h
   ·exact .inr ⟨hm,rfl⟩
  ·exact .inr h
 |.halt h,t',R,Rs,w,W,es,es',a,w1,dA,h1,h2,hW,hn,hr=>by simp[Θ]at hr
end
open Go Go.Conc
section defs
variable (P:Φ)(F:υ→Bool)(S:Sd)
def bB:Code→Bool
 |.skip |.ret |.exit _|.refuse _=>true
 |.region _ ops _=>ops.all λo=>fo P F S o.op
 |.seq a b=>bB a&&bB b
 |.cond c a b=>gD S c&&bB a&&bB b
 |.block _ a|.loop a=>bB a
 |_=>false
def aF:Item→Bool
 |.code c=>bB P F S c
 |.inBlock _=>true
 |.inLoop c=>bB P F S c
 |.inRegion ops l=>l.all λi=>(ops[i]?).all λo=>fo P F S o.op
 |_=>false
structure kJ (fr:Δ):Prop where
 defers:fr.defers=[]
 mode:fr.mode=.run∨fr.mode=.returning
 kind:fr.kind=.normal
 round:fr.roundOf=none
 todo:fr.todo.all (aF P F S)=true
 fn:∃f,P.funcs[fr.fn]?=some f
structure lp:Prop where
 SF:∀g,S g=true→F g=true
 fn:∀f,F f=true→JI P S f
 body:∀f fn c,F f=true→P.funcs[f]?=some fn→fn.body=some c→bB P F S c=true
 zero:∀t i v,P.info? t=some i→i.zero=some v→∀ρ:Rn,rv ρ v=v
end defs
def ba (P:Φ)(fr:Δ)(above:List Δ):Sem (Δ×List Δ):=
 match fr.mode with
 |.run=>
  match fr.todo with
  |[]=>pure ({ fr with mode:= .returning },above)
  |.code .ret::_=>pure ({ fr with mode:= .returning },above)
  |.code .skip::k|.inBlock _::k=>pure ({ fr with todo:=k },above)
  |.code (.seq a b)::k=>pure ({ fr with todo:= .code a::.code b::k },above)
  |.code (.cond c a b)::k=>match fr.eval c with
   |.bool t=>pure ({ fr with todo:= .code (if t then a else b)::k },above)
   |_=>stuck ""
  |.code (.block id a)::k=>pure ({ fr with todo:= .code a::.inBlock id::k },above)
  |.code (.loop a)::k|.inLoop a::k=>pure ({ fr with todo:= .code a::.inLoop a::k },above)
  |.code (.exit id)::k=>match ψ id k with
   |some k'=>pure ({ fr with todo:=k' },above)
   |none=>stuck ""
  |.code (.region id ops draw)::k=>
   if draw then do
    let t ←choose (.order fr.fn id)
    pure ({ fr with todo:= .inRegion ops (Region.schedule (P.follows .mixedOrders) ops t)::k },above)
   else pure ({ fr with todo:= .inRegion ops (List.range ops.size)::k },above)
  |.inRegion _ []::k=>pure ({ fr with todo:=k },above)
  |.inRegion ops (i::_)::_=>
   if((ops[i]?).map (ζ · (ξ ops fr.tmps))).getD false then
    match ops[i]? with
    |some o=>do
     match ←Ξ fr.eval o with
     |.value v=>pure (fr.finish v,above)
     |.skip=>pure (fr.finish ω,above)
     |.enter f args=>pure (Δ.enter P f args .normal,fr::above)
     |_=>stuck ""
    |none=>stuck ""
   else pure (fr.finish ω,above)
  |_=>stuck ""
 |_=>match P.funcs[fr.fn]? with
  |some fn=>do
   let v ←results fn fr.tmps
   match above with
   |c::rest=>pure (c.finish v,rest)
   |[]=>stuck ""
  |none=>stuck ""
def cv (ρ:Rn)(fr:Δ):Δ:={ fr with tmps:=fr.tmps.map (rv ρ) }
section
variable {P:Φ}{F:υ→Bool}{S:Sd}{ρ:Rn}
theorem eu:rv ρ ω=ω:=by simp[ω,rv]
theorem rZ (h:gD S x=true)(hf:rV S ρ):(cv ρ fr).eval x=rv ρ (fr.eval x):=by
 cases x with
 |tmp t=>
  simp only[Δ.eval,cv,zbE,zaz];cases fr.tmps[t]?<;>simp[eu]
 |const v=>exact(ik h ρ).symm
 |global g=>
  simp only[gD,zae,zaK]at h;simp[Δ.eval,rv,ra,hf.g g h.1 h.2]
 |func f=>simp only[Δ.eval,rv,zcs,hf.f f h]
theorem xA (fr:Δ)(v:η)(ht:fr.todo.all (aF P F S)=true):(cv ρ fr).finish (rv ρ v)=cv ρ (fr.finish v):=by
 obtain⟨fn,tmps,todo,defers,mode,kind,ro⟩:=fr
 match todo with
 |[]=>rfl
 |.inRegion ops []::k=>rfl
 |.inRegion ops (i::rest)::k=>
  simp only[Δ.finish,cv];cases (ops[i]?).bind (·.dst)<;>simp[Array.map_setIfInBounds]
 |.code c::k=>rfl
 |.inBlock c::k=>rfl
 |.inLoop c::k=>rfl
 |.inScope c::k=>simp[aF]at ht
 |.inRangeFunc c::k=>simp[aF]at ht
 |.endRangeFunc c::k=>simp[aF]at ht
 |.beginRound::k=>simp[aF]at ht
 |.call ..::k=>simp[aF]at ht
 |.extern ..::k=>simp[aF]at ht
theorem A8 (h:kJ P F S fr)(v:η):kJ P F S (fr.finish v):=by
 obtain⟨h1,h2,h3,h4,h5,h6⟩:=h;obtain⟨fn,tmps,todo,defers,mode,kind,ro⟩:=fr;simp only at h1 h2 h3 h4 h5 h6
 match todo with
 |[]=>exact⟨h1,h2,h3,h4,h5,h6⟩
 |.inRegion ops []::k=>exact⟨h1,h2,h3,h4,h5,h6⟩
 |.inRegion ops (i::rest)::k=>
  refine⟨h1,h2,h3,h4,?_,h6⟩;simp only[zap,aF,zae]at h5;simp only[Δ.finish,zap,aF,zae];exact⟨h5.1.2,h5.2⟩
 |.code c::k=>exact⟨h1,h2,h3,h4,h5,h6⟩
 |.inBlock c::k=>exact⟨h1,h2,h3,h4,h5,h6⟩
 |.inLoop c::k=>exact⟨h1,h2,h3,h4,h5,h6⟩
 |.inScope c::k=>simp[aF]at h5
 |.inRangeFunc c::k=>simp[aF]at h5
 |.endRangeFunc c::k=>simp[aF]at h5
 |.beginRound::k=>simp[aF]at h5
 |.call ..::k=>simp[aF]at h5
 |.extern ..::k=>simp[aF]at h5
theorem Lp {ops:Array Oper}(h:(ops.all λo=>fo P F S o.op)=true)(l:List Nat):(l.all λi=>(ops[i]?).all λo=>fo P F S o.op)=true:=by
 refine zaC.2 λi _=>?_;cases ho:ops[i]? with
 |none=>rfl
 |some o=>exact Array.all_eq_true'.1 h o (zbF ho)
theorem mb {id:Nat}:∀{k k':List Item},ψ id k=some k'→k.all (aF P F S)=true→k'.all (aF P F S)=true
 |.inBlock id'::k,k',h,hk=>by
  simp only[ψ]at h;simp only[zap,zae]at hk;split at h
  ·cases h;exact hk.2
  ·exact mb h hk.2
 |.code c::k,k',h,hk=>by
  simp only[ψ]at h;simp only[zap,zae]at hk;exact mb h hk.2
 |.inLoop c::k,k',h,hk=>by
  simp only[ψ]at h;simp only[zap,zae]at hk;exact mb h hk.2
 |.inRegion ..::k,k',h,hk=>by
  simp only[ψ]at h;simp only[zap,zae]at hk;exact mb h hk.2
 |.inScope c::k,k',h,hk=>by simp[aF]at hk
 |.inRangeFunc c::k,k',h,hk=>by simp[aF]at hk
 |.endRangeFunc c::k,k',h,hk=>by simp[aF]at hk
 |.beginRound::k,k',h,hk=>by simp[aF]at hk
 |.call ..::k,k',h,hk=>by simp[aF]at hk
 |.extern ..::k,k',h,hk=>by simp[aF]at hk
 |[],k',h,hk=>by simp[ψ]at h
theorem xB (hC:lp P F S)(hf:F f=true)(args:Array η):kJ P F S (Δ.enter P f args .normal):=by
 obtain⟨fn,h1,_,_⟩:=hC.fn f hf;refine⟨rfl,.inl rfl,rfl,rfl,?_,⟨fn,h1⟩⟩;simp only[Δ.enter,h1,Option.bind,zap,List.all_nil,zbZ,aF];cases hb:fn.body with
 |none=>rfl
 |some c=>exact hC.body f fn c hf h1 hb
theorem il (f:υ)(args:Array η):Δ.enter P f (args.map (rv ρ)) .normal=cv ρ (Δ.enter P f args .normal):=by
 simp[Δ.enter,cv,eu]
theorem ov (ops:Array Oper)(tmps:Array η)(j:Nat):ξ ops (tmps.map (rv ρ)) j=ξ ops tmps j:=by
 unfold ξ;cases (ops[j]?).bind (·.dst)with
 |none=>rfl
 |some d=>
  simp only[Option.bind,zaz];cases tmps[d]? with
  |none=>rfl
  |some v=>cases v<;>simp[rv]
theorem ae.Og {α β:Type}{R:α→β→Prop}{b b':Bool}(hb:b'=b){s t:Sem α}{s' t':Sem β}(h1:ae P ρ R s s')(h2:ae P ρ R t t'):ae P ρ R (if b then s else t) (if b' then s' else t'):=by
 subst hb;cases b'<;>simp[h1,h2]
def FF (P:Φ)(F:υ→Bool)(S:Sd)(ρ:Rn)(x y:Δ×List Δ):Prop:=y=(cv ρ x.1,x.2.map (cv ρ))∧kJ P F S x.1∧∀f∈x.2,kJ P F S f
theorem Tx (h:kJ P F S fr){t:List Item}(ht:t.all (aF P F S)=true):kJ P F S { fr with todo:=t }:=⟨h.defers,h.mode,h.kind,h.round,ht,h.fn⟩
theorem Cz (hC:lp P F S)(hp:Plain P ρ)(hf:rV S ρ){above:List Δ}(h:kJ P F S fr)(ha:∀f∈above,kJ P F S f)
 (hg:∀v∈fr.tmps,GV P ρ v)(hv:∀v∈fr.tmps,FV S v):ae P ρ (FF P F S ρ) (ba P fr above) (ba P (cv ρ fr) (above.map (cv ρ))):=by
 have iG:∀x,gD S x=true→GV P ρ (fr.eval x)∧FV S (fr.eval x):=λx hx=>by
  cases x with
  |tmp t=>
   simp only[Δ.eval,zbE];cases hc:fr.tmps[t]? with
   |none=>exact⟨.inr eu,λfn a b e=>by cases e⟩
   |some v=>exact⟨hg v (zbF hc),hv v (zbF hc)⟩
  |const v=>
   refine⟨.inr (ik hx ρ),λfn a b e=>?_⟩;simp only[Δ.eval]at e;subst e;cases hx
  |global g=>
   simp only[gD,zae,zaK]at hx;exact⟨.inr (by simp[Δ.eval,rv,ra,hf.g g hx.1 hx.2]),λfn a b e=>by cases e⟩
  |func f=>
   refine⟨.inr ?_,λfn a b e=>?_⟩
   ·simp only[Δ.eval,rv,zcs,hf.f f hx]
   ·simp only[Δ.eval,η.func.injEq]at e;exact⟨f,e.1.symm,hx⟩
 obtain⟨fn0,tmps,todo,defers,mode,kind,oc⟩:=fr;have hand:=h.todo;have hm:=h.mode;have Wt:=h.fn;simp only at hand hm Wt;rcases hm with rfl|rfl
 ·have ctl:∀t:List Item,t.all (aF P F S)=true→ae P ρ (FF P F S ρ) (pure (⟨fn0,tmps,t,defers,.run,kind,oc⟩,above)) (pure (⟨fn0,tmps.map (rv ρ),t,defers,.run,kind,oc⟩,above.map (cv ρ))):=λt ht=>ae.pure ⟨rfl,Tx h ht,ha⟩;have ret:ae P ρ (FF P F S ρ) (pure (⟨fn0,tmps,todo,defers,.returning,kind,oc⟩,above)) (pure (⟨fn0,tmps.map (rv ρ),todo,defers,.returning,kind,oc⟩,above.map (cv ρ))):=ae.pure ⟨rfl,⟨h.defers,.inr rfl,h.kind,h.round,h.todo,h.fn⟩,ha⟩
  match todo,h,iG,hand,ret with
  |[],h,iG,hand,ret=>exact ret
  |.code .ret::_,h,iG,hand,ret=>exact ret
  |.code .skip::k,h,iG,hand,ret=>exact ctl k (by simpa[aF,bB]using hand)
  |.inBlock _::k,h,iG,hand,ret=>exact ctl k (by simpa[aF]using hand)
  |.code (.seq a b)::k,h,iG,hand,ret=>exact ctl _ (by simpa[aF,bB,and_assoc]using hand)
  |.code (.block id a)::k,h,iG,hand,ret=>exact ctl _ (by simpa[aF,bB]using hand)
  |.code (.loop a)::k,h,iG,hand,ret=>exact ctl _ (by simpa[aF,bB]using hand)
  |.inLoop a::k,h,iG,hand,ret=>exact ctl _ (by simpa[aF,bB]using hand)
  |.inRegion _ []::k,h,iG,hand,ret=>exact ctl k (by simp[aF]at hand ⊢;exact hand)
  |.code (.cond c a b)::k,h,iG,hand,ret=>
   simp only[zap,aF,bB,zae]at hand;have e:=rZ (fr:=⟨fn0,tmps,.code (.cond c a b)::k,defers,.run,kind,oc⟩) hand.1.1.1 hf;simp only[ba,cv]at e ⊢;rw[e];generalize Δ.eval _ c=q;cases q with
   |bool t=>simp only[rv];refine ctl _ ?_;simp only[zap,aF,zae];cases t;exact⟨hand.1.2,hand.2⟩;exact⟨hand.1.1.2,hand.2⟩
   |_=>simp only[rv];exact ae.stuck _
  |.code (.exit id)::k,h,iG,hand,ret=>
   simp only[ba,cv];cases he:ψ id k with
   |none=>exact ae.stuck _
   |some k'=>exact ctl k' (mb he (by simp[aF,bB]at hand ⊢;exact hand))
  |.code (.region id ops draw)::k,h,iG,hand,ret=>
   simp only[ba,cv];have hr:∀l,((Item.inRegion ops l)::k).all (aF P F S)=true:=λl=>by
    simp only[zap,aF,bB,zae]at hand ⊢;exact⟨Lp hand.1 l,hand.2⟩
   refine ae.aj (λ_=>?_) (λ_=>ctl _ (hr _));refine ae.bind (iC _) ?_;rintro t _ rfl;exact ctl _ (hr _)
  |.inRegion ops (i::rest)::k,h,iG,hand,ret=>
   simp only[ba];have hw:((ops[i]?).map (ζ · (ξ ops (tmps.map (rv ρ))))).getD false=((ops[i]?).map (ζ · (ξ ops tmps))).getD false:=by
    have:ξ ops (tmps.map (rv ρ))=ξ ops tmps:=funext λj=>ov ops tmps j;rw[this]
   have fU:∀v,ae P ρ (FF P F S ρ) (pure ((⟨fn0,tmps,.inRegion ops (i::rest)::k,defers,.run,kind,oc⟩:Δ).finish v,above)) (pure ((cv ρ (⟨fn0,tmps,.inRegion ops (i::rest)::k,defers,.run,kind,oc⟩:Δ)).finish (rv ρ v),above.map (cv ρ))):=λv=>by
    rw[xA (P:=P) (F:=F) (S:=S) _ v h.todo];exact ae.pure ⟨rfl,A8 h v,ha⟩
   refine ae.Og hw ?_ ?_
   ·cases ho:ops[i]? with
    |none=>exact ae.stuck _
    |some o=>
     dsimp only;have cG:fo P F S o.op=true:=by
      simp only[zap,aF,zae]at hand;have:=hand.1.1;rw[ho]at this;simpa using this
     refine ae.bind (ou (F:=F) hp hf hC.SF hC.fn o cG (ev:=(⟨fn0,tmps,.inRegion ops (i::rest)::k,defers,.run,kind,oc⟩:Δ).eval) (ev':=(cv ρ (⟨fn0,tmps,.inRegion ops (i::rest)::k,defers,.run,kind,oc⟩:Δ)).eval) (λx hx=>rZ hx hf) (λx hx=>(iG x hx).1) (λx hx=>(iG x hx).2) (λ_=>rfl) (λ_=>rfl) (λ_=>rfl) (λ_=>rfl)) ?_;intro nx Ty hn;cases nx<;>simp only[NN]at hn
     ·subst hn;exact fU _
     ·subst hn;have:=fU ω;rwa[eu]at this
     ·obtain⟨hF,rfl⟩:=hn;dsimp only;rw[il];exact ae.pure ⟨rfl,xB hC hF _,λf hx=>by
       rcases zal.1 hx with rfl|hx
       ·exact h
       ·exact ha f hx⟩
   ·have:=fU ω;rwa[eu]at this
  |.code (.rangeFunc ..)::k,h,iG,hand,ret=>simp[aF,bB]at hand
  |.code (.scope ..)::k,h,iG,hand,ret=>simp[aF,bB]at hand
  |.code (.label ..)::k,h,iG,hand,ret=>simp[aF,bB]at hand
  |.code (.goto ..)::k,h,iG,hand,ret=>simp[aF,bB]at hand
  |.code (.refuse ..)::k,h,iG,hand,ret=>exact ae.stuck _
  |.inScope c::k,h,iG,hand,ret=>simp[aF]at hand
  |.inRangeFunc c::k,h,iG,hand,ret=>simp[aF]at hand
  |.endRangeFunc c::k,h,iG,hand,ret=>simp[aF]at hand
  |.beginRound::k,h,iG,hand,ret=>simp[aF]at hand
  |.call ..::k,h,iG,hand,ret=>simp[aF]at hand
  |.extern ..::k,h,iG,hand,ret=>simp[aF]at hand
 ·simp only[ba,cv];obtain⟨fn,h1⟩:=Wt;rw[h1];dsimp only;refine ae.bind (jm hp fn tmps eu) ?_;rintro v _ rfl;cases above with
  |nil=>exact ae.stuck _
  |cons c rest=>
   simp only[zaB];have hc:=ha c (by simp);have e:=xA (ρ:=ρ) (P:=P) (F:=F) (S:=S) c v hc.todo;rw[e];exact ae.pure ⟨rfl,A8 hc v,λf hx=>ha f (by simp[hx])⟩
end
theorem bO (P:Φ){α β:Type}:∀(s:Sem α) (f:α→Sem β) (w:Γ) (es0:Array π),(s>>=f).runT P w es0=match s.runT P w es0 with|(.ok a w1,dA)=>(f a).runT P w1 dA|(.halt h w1,dA)=>(.halt h w1,dA)
 |.pure a,f,w,es=>rfl
 |.load m a k,f,w,es=>by
  show(Sem.load m a λv=>(k v>>=f)).runT P w es=_;simp only[Θ];split
  ·exact bO P _ f _ _
  ·split
   ·exact bO P _ f _ _
   ·rfl
 |.store m a v k,f,w,es=>by
  show(Sem.store m a v (k>>=f)).runT P w es=_;cases v<;>simp only[Θ]<;>(try rfl)<;>(split<;>(try split)<;>first|exact bO P _ f _ _|rfl)
 |.new o k,f,w,es=>by show(Sem.new o λv=>(k v>>=f)).runT P w es=_;simp only[Θ];exact bO P _ f _ _
 |.shape r k,f,w,es=>by show(Sem.shape r λv=>(k v>>=f)).runT P w es=_;simp only[Θ];exact bO P _ f _ _
 |.freeze a n k,f,w,es=>by show(Sem.freeze a n (k>>=f)).runT P w es=_;simp only[Θ];exact bO P _ f _ _
 |.frozen a k,f,w,es=>by show(Sem.frozen a λv=>(k v>>=f)).runT P w es=_;simp only[Θ];exact bO P _ f _ _
 |.getObj r k,f,w,es=>by
  show(Sem.getObj r λv=>(k v>>=f)).runT P w es=_;simp only[Θ];split<;>first|exact bO P _ f _ _|rfl
 |.setObj r o k,f,w,es=>by
  show(Sem.setObj r o (k>>=f)).runT P w es=_;simp only[Θ];split<;>first|exact bO P _ f _ _|rfl
 |.choose q k,f,w,es=>by
  show(Sem.choose q λv=>(k v>>=f)).runT P w es=_;simp only[Θ];split<;>exact bO P _ f _ _
 |.sys c k,f,w,es=>by show(Sem.sys c λv=>(k v>>=f)).runT P w es=_;simp only[Θ];exact bO P _ f _ _
 |.program k,f,w,es=>by show(Sem.program λv=>(k v>>=f)).runT P w es=_;simp only[Θ];exact bO P _ f _ _
 |.mark m k,f,w,es=>by show(Sem.mark m (k>>=f)).runT P w es=_;simp only[Θ];exact bO P _ f _ _
 |.halt h,f,w,es=>rfl
structure Ek (P:Φ) (F:υ→Bool) (S:Sd) (fr:Δ):Prop where
 defers:fr.defers=[]
 mode:fr.mode=.run∨fr.mode=.returning
 kind:fr.kind=.normal
 round:fr.roundOf=none
 todo:(fr.todo.take 1).all (aF P F S)=true
 fn:∃f,P.funcs[fr.fn]?=some f
section
variable {P:Φ}{F:υ→Bool}{S:Sd}{main:Bool}{cs:List Δ}
theorem fq {above xC:List Δ}(h:Ek P F S fr)(hr:(ba P fr above).runT P w #[]=(.ok (fr',xC) w',es)):θ P main (G fr (above++cs)) w=.go (G fr' (xC++cs)) w' (seen P fr.fn es):=by
 obtain⟨fn0,tmps,todo,defers,mode,kind,oc⟩:=fr;obtain⟨hd,hm,hk,eK,hand,Wt⟩:=h;simp only at hd hm hk eK hand Wt;subst hd hk eK;have none_:seen P fn0 #[]=#[]:=by simp[seen]
 rcases hm with rfl|rfl
 ·match todo,hand,hr with
  |[],hand,hr=>
   simp only[ba,pure,Θ,zaf,zan]at hr;obtain⟨⟨⟨rfl,rfl⟩,rfl⟩,rfl⟩:=hr;simp[G,θ,ι,none_]
  |.code .ret::k,hand,hr=>
   simp only[ba,pure,Θ,zaf,zan]at hr;obtain⟨⟨⟨rfl,rfl⟩,rfl⟩,rfl⟩:=hr;simp[G,θ,ι,none_]
  |.code .skip::k,hand,hr=>
   simp only[ba,pure,Θ,zaf,zan]at hr;obtain⟨⟨⟨rfl,rfl⟩,rfl⟩,rfl⟩:=hr;simp[G,θ,ι,none_]
  |.inBlock _::k,hand,hr=>
   simp only[ba,pure,Θ,zaf,zan]at hr;obtain⟨⟨⟨rfl,rfl⟩,rfl⟩,rfl⟩:=hr;simp[G,θ,ι,none_]
  |.code (.seq a b)::k,hand,hr=>
   simp only[ba,pure,Θ,zaf,zan]at hr;obtain⟨⟨⟨rfl,rfl⟩,rfl⟩,rfl⟩:=hr;simp[G,θ,ι,none_]
  |.code (.block id a)::k,hand,hr=>
   simp only[ba,pure,Θ,zaf,zan]at hr;obtain⟨⟨⟨rfl,rfl⟩,rfl⟩,rfl⟩:=hr;simp[G,θ,ι,none_]
  |.code (.loop a)::k,hand,hr=>
   simp only[ba,pure,Θ,zaf,zan]at hr;obtain⟨⟨⟨rfl,rfl⟩,rfl⟩,rfl⟩:=hr;simp[G,θ,ι,none_]
  |.inLoop a::k,hand,hr=>
   simp only[ba,pure,Θ,zaf,zan]at hr;obtain⟨⟨⟨rfl,rfl⟩,rfl⟩,rfl⟩:=hr;simp[G,θ,ι,none_]
  |.inRegion _ []::k,hand,hr=>
   simp only[ba,pure,Θ,zaf,zan]at hr;obtain⟨⟨⟨rfl,rfl⟩,rfl⟩,rfl⟩:=hr;simp[G,θ,ι,none_]
  |.code (.cond c a b)::k,hand,hr=>
   simp only[ba]at hr;generalize hq:Δ.eval _ c=q at hr;cases q with
   |bool t=>
    simp only[pure,Θ,zaf,zan]at hr;obtain⟨⟨⟨rfl,rfl⟩,rfl⟩,rfl⟩:=hr;simp[G,θ,ι,none_,hq]
   |_=>simp[stuck]at hr
  |.code (.exit id)::k,hand,hr=>
   simp only[ba]at hr;cases he:ψ id k with
   |none=>rw[he]at hr;simp[stuck]at hr
   |some k'=>
    rw[he]at hr;simp only[pure,Θ,zaf,zan]at hr;obtain⟨⟨⟨rfl,rfl⟩,rfl⟩,rfl⟩:=hr;simp[G,θ,ι,none_,he]
  |.code (.region id ops draw)::k,hand,hr=>
   cases draw with
   |false=>
    simp only[ba,pure,Θ,zaf,zan,zaU,if_false]at hr;obtain⟨⟨⟨rfl,rfl⟩,rfl⟩,rfl⟩:=hr;simp[G,θ,ι,none_]
   |true=>
    simp only[ba,if_true,bind,choose,Sem.bind,Θ,Question.forced,zaU,if_false,pure,zaf,zan,Question.cut]at hr;obtain⟨⟨⟨rfl,rfl⟩,rfl⟩,rfl⟩:=hr;simp[G,θ,ι,none_,choose,Sem.run,Question.forced,Question.cut]
  |.inRegion ops (i::rest)::k,hand,hr=>
   simp only[ba]at hr;by_cases hw:((ops[i]?).map (ζ · (ξ ops tmps))).getD false=true
   ·rw[zab hw]at hr;cases ho:ops[i]? with
    |none=>rw[ho]at hr;simp[stuck]at hr
    |some o=>
     rw[ho]at hr;dsimp only at hr;have hstep:θ P main (G ⟨fn0,tmps,.inRegion ops (i::rest)::k,[],.run,.normal,none⟩ (above++cs)) w=
      stepG.apply P true ⟨fn0,tmps,.inRegion ops (i::rest)::k,[],.run,.normal,none⟩ (above++cs) none (Ξ (Δ.eval ⟨fn0,tmps,.inRegion ops (i::rest)::k,[],.run,.normal,none⟩) o) w:=by
      rw[ho]at hw;have hw':ζ o (ξ ops tmps)=true:=by simpa using hw
      simp[G,θ,ι,stepG.oper,Δ.oper?,ho,hw']
     rw[hstep];generalize hex:(Ξ (Δ.eval ⟨fn0,tmps,.inRegion ops (i::rest)::k,[],.run,.normal,none⟩) o)=ex at hr;rw[bO]at hr;cases hrun:ex.runT P w #[]with
     |mk r dA=>
      rw[hrun]at hr;cases r with
      |halt hh w1=>simp at hr
      |ok nx w1=>
       dsimp only at hr;cases nx<;>simp only[pure,stuck,Θ,zaf,zan,reduceCtorEq,false_and]at hr;all_goals
        obtain⟨⟨⟨rfl,rfl⟩,rfl⟩,rfl⟩:=hr;have h1:=zak Prod.fst hrun;have h2:=zak Prod.snd hrun;simp at h1 h2;simp[stepG.apply,h1,h2,G,χ]
   ·rw[zaa hw]at hr;simp only[pure,Θ,zaf,zan]at hr;obtain⟨⟨⟨rfl,rfl⟩,rfl⟩,rfl⟩:=hr;simp only[Bool.not_eq_true]at hw;simp[G,θ,ι,none_,hw,Δ.finish]
  |.code (.rangeFunc ..)::k,hand,hr=>simp[aF,bB]at hand
  |.code (.scope ..)::k,hand,hr=>simp[aF,bB]at hand
  |.code (.label ..)::k,hand,hr=>simp[aF,bB]at hand
  |.code (.goto ..)::k,hand,hr=>simp[aF,bB]at hand
  |.code (.refuse ..)::k,hand,hr=>simp[ba,stuck]at hr
  |.inScope c::k,hand,hr=>simp[aF]at hand
  |.inRangeFunc c::k,hand,hr=>simp[aF]at hand
  |.endRangeFunc c::k,hand,hr=>simp[aF]at hand
  |.beginRound::k,hand,hr=>simp[aF]at hand
  |.call ..::k,hand,hr=>simp[aF]at hand
  |.extern ..::k,hand,hr=>simp[aF]at hand
 ·obtain⟨fn,h1⟩:=Wt;simp only[ba,h1]at hr;rw[bO]at hr;cases hrun:(results fn tmps).runT P w #[]with
  |mk r dA=>
   rw[hrun]at hr;cases r with
   |halt hh w1=>simp at hr
   |ok v w1=>
    dsimp only at hr;cases above with
    |nil=>simp[stuck]at hr
    |cons c rest=>
     simp only[pure,Θ,zaf,zan]at hr;obtain⟨⟨⟨rfl,rfl⟩,rfl⟩,rfl⟩:=hr;have q1:=zak Prod.fst hrun;have q2:=zak Prod.snd hrun;simp at q1 q2;simp[G,θ,unwind,h1,q1,q2,doReturn,χ]
theorem JL {f:Δ}(h:kJ P F S f):Ek P F S f:=⟨h.defers,h.mode,h.kind,h.round,by
 have:=h.todo;cases hq:f.todo with
 |nil=>rfl
 |cons x l=>rw[hq]at this;simp only[zap,zae]at this;simpa using this.1,h.fn⟩
theorem mN {above xC:List Δ}(h:kJ P F S fr)(hr:(ba P fr above).runT P w #[]=(.ok (fr',xC) w',es)):θ P main (G fr (above++cs)) w=.go (G fr' (xC++cs)) w' (seen P fr.fn es):=fq (JL h) hr
end
def jR:Rn:={ b:=id,f:=id,d:=0 }
theorem ox:∀v:η,rv jR v=v
 |.pointer none=>by simp[rv]
 |.pointer (some a)=>by simp[rv,ra,jR]
 |.slice none _ _=>by simp[rv]
 |.slice (some a) l c=>by simp[rv,ra,jR]
 |.map none=>by simp[rv]
 |.map (some r)=>by simp[rv,jR]
 |.chan none=>by simp[rv]
 |.chan (some r)=>by simp[rv,jR]
 |.func fn first captured=>by
  simp only[rv,η.func.injEq];refine⟨rfl,bF.2 λx hx=>?_,bF.2 λx hx=>?_⟩
  ·have:=zbj hx;exact ox x
  ·have:=zbj hx;exact ox x
 |.iface t v=>by simp only[rv,η.iface.injEq,true_and];exact ox v
 |.agg cs=>by
  simp only[rv,η.agg.injEq];refine bF.2 λx hx=>?_;have:=zbj hx;exact ox x
 |.tuple cs=>by
  simp only[rv,η.tuple.injEq];refine bF.2 λx hx=>?_;have:=zbj hx;exact ox x
 |.bool _=>by simp[rv]
 |.int _ _=>by simp[rv]
 |.float _ _=>by simp[rv]
 |.complex _ _ _=>by simp[rv]
 |.string _=>by simp[rv]
 |.nilFunc=>by simp[rv]
 |.nilIface=>by simp[rv]
termination_by v=>SizeOf.sizeOf v
theorem map_id' (cs:Array η):cs.map (rv jR)=cs:=bF.2 λx _=>ox x
theorem Wu (a:Addr):ra jR a=a:=rfl
theorem El (o:Obj):ro jR o=o:=by
 cases o with
 |cells c t f=>simp[ro,map_id']
 |pending c t=>simp[ro,map_id']
 |chan a b c d e f=>simp[ro,map_id']
 |view a t=>simp[ro,Wu]
 |number a t=>simp[ro,Wu]
 |map es c=>
  simp only[ro,Obj.map.injEq,zay];apply Array.ext
  ·simp
  ·intro i h1 h2;simp[ox]
 |_=>rfl
theorem Hi (fr:Δ):cv jR fr=fr:=by simp[cv,map_id']
theorem CB:∀l:List Δ,l.map (cv jR)=l
 |[]=>rfl
 |f::l=>by rw[zaB,Hi,CB l]
section
variable {P:Φ}{F:υ→Bool}{S:Sd}
theorem mf (hC:lp P F S):Plain P jR:=⟨λt i v h1 h2=>hC.zero t i v h1 h2 _,λ_a _b h=>h⟩
theorem mg (hC:lp P F S)(n:Nat):Plain P (sg S S.d n):=⟨λt i v h1 h2=>hC.zero t i v h1 h2 _,XY⟩
theorem JM:rV S jR:=⟨λ_ _=>rfl,λ_ _ _=>rfl,λ_ _=> .inr rfl⟩
theorem CC:Am P jR:=λ_=>Iff.rfl
theorem Oh (o:Obj):GO P jR o:= .inl CC
def iH (_P:Φ)(S:Sd)(n:Nat)(fr:Δ):Prop:=∀v∈fr.tmps,rv (sg S S.d n) v=v
structure PI (P:Φ) (F:υ→Bool) (S:Sd) (fr:Δ) (above:List Δ) (w:Γ):Prop where
 ok:kJ P F S fr
 oks:∀f∈above,kJ P F S f
 cl:iH P S w.heap.size fr
 cls:∀f∈above,iH P S w.heap.size f
 wr:WR P S jR w w
theorem jo (h:rv (sg S S.d n) v=v):FV S v:=by
 intro fn a b e;subst e;simp only[rv,η.func.injEq]at h;exact iD.1 h.1
theorem iJ {m:Nat}(h:n≤m)(hc:iH P S n fr):iH P S m fr:=λv hv=>eY (dY h).1 (dY h).2 v (hc v hv)
theorem CE (hc:iH P S n fr):cv (sg S S.d n) fr=fr:=by
 unfold cv;rw[bF.2 hc]
theorem tU (h:cv (sg S S.d n) fr=fr):iH P S n fr:=by
 have:fr.tmps.map (rv (sg S S.d n))=fr.tmps:=zak Δ.tmps h;exact bF.1 this
theorem Tz {above:List Δ}(hc:∀f∈above,iH P S n f):above.map (cv (sg S S.d n))=above:=by
 induction above with
 |nil=>rfl
 |cons f l ih=>rw[zaB,CE (hc f (by simp)),ih λg hg=>hc g (by simp[hg])]
theorem xD {n:Nat}:∀{above:List Δ},above.map (cv (sg S S.d n))=above→∀f∈above,iH P S n f
 |[],_,f,hf=>by cases hf
 |g::l,h,f,hf=>by
  simp only[zaB,zcN]at h;rcases zal.1 hf with rfl|hf
  ·exact tU h.1
  ·exact xD h.2 f hf
theorem tV (hC:lp P F S){above:List Δ}(h:PI P F S fr above w):∀n,w.heap.size≤n→ae P (sg S S.d n) (FF P F S (sg S S.d n)) (ba P fr above) (ba P fr above):=λn hn=>by
 have:=Cz (ρ:=sg S S.d n) hC (mg hC n) (wC (zag h.wr.big.g hn)) h.ok h.oks (λv hv=> .inr (iJ hn h.cl v hv)) (λv hv=>jo (h.cl v hv));rwa[CE (iJ hn h.cl),Tz λf hf=>iJ hn (h.cls f hf)]at this
theorem TA (hC:lp P F S){above:List Δ}(h:PI P F S fr above w):ae P jR (FF P F S jR) (ba P fr above) (ba P fr above):=by
 have:=Cz (ρ:=jR) hC (mf hC) JM h.ok h.oks (λv _=> .inl CC) (λv hv=>jo (h.cl v hv));rwa[Hi,CB]at this
theorem aag {x y:Δ×List Δ}(h:FF P F S jR x y):y=x:=by
 obtain⟨h,_⟩:=h;rw[Hi,CB]at h;exact h
def _root_.Go.World.re (w:Γ)(τ:Nat→Question→Nat)(d:Nat):Γ:={ w with tape:=τ,drawn:=d }
theorem pD {a b:Γ}(h1:a.heap=b.heap)(h2:a.tape=b.tape)(h3:a.drawn=b.drawn)(h4:a.os=b.os)(h5:a.output=b.output):a=b:=by
 obtain⟨a1,a2,a3,a4,a5⟩:=a;obtain⟨b1,b2,b3,b4,b5⟩:=b;simp only at h1 h2 h3 h4 h5;subst h1 h2 h3 h4 h5;rfl
theorem eL (hC:lp P F S){above:List Δ}(h:PI P F S fr above w){f1:Δ}{a1:List Δ}
 (hr:(ba P fr above).runT P w #[]=(.ok (f1,a1) w1,es)):PI P F S f1 a1 w1∧w1.tape=w.tape∧w.drawn≤w1.drawn∧∀τ d,Win w w1 (w.re τ d)→∃es',(ba P fr above).runT P (w.re τ d) #[]=(.ok (f1,a1) (w1.re τ (d+(w1.drawn-w.drawn))),es'):=by
 have se:=tV hC h;have key:∀τ d,Win w w1 (w.re τ d)→∃es',(ba P fr above).runT P (w.re τ d) #[]=(.ok (f1,a1) (w1.re τ (d+(w1.drawn-w.drawn))),es')∧PI P F S f1 a1 w1∧w1.tape=w.tape∧w.drawn≤w1.drawn:=λτ d xE=>by
  have hW:WR P S jR w (w.re τ d):=⟨h.wr.live,h.wr.ok,h.wr.dead,h.wr.closed,h.wr.next,h.wr.low,h.wr.big⟩;obtain⟨b,W1,es',r1,r2,r3,r4,r5,r6⟩:=dG (mf hC) Oh _ _ _ (λn=>FF P F S (sg S S.d n)) w (w.re τ d) #[] #[] _ _ _ (TA hC h) se hW xE hr;obtain rfl:=aag r2;have hsz:W1.heap.size=w1.heap.size:=by have:=r5.size;simp only[Γ.re]at this;omega
  have mh:W1.heap=w1.heap:=by
   apply Array.ext hsz;intro i hi1 hi2;have e:W1.heap[i]?=w1.heap[i]?:=by
    rcases zaw i S.d with hlt|jB
    ·rw[r5.frame i (by have:=h.wr.big.d;show i<w.heap.size;omega) (by rintro ⟨r,hr1,_,e⟩;have e':i=r:=e;omega)];show w.heap[i]?=_;rw[h.wr.dead i hlt,r4.dead i hlt]
    ·have hs:w1.heap[i]?=some w1.heap[i]:=zaL hi2;have:=r4.live i _ jB hs;rw[El]at this;rw[hs];exact this
   rw[zaL hi1,zaL hi2]at e;exact zaM e
  have hWe:W1=w1.re τ (d+(w1.drawn-w.drawn)):=by
   refine pD mh r5.tape ?_ (r5.os.trans r5.wos.symm) (r5.output.trans r5.Od.symm);have:=r5.drawn;have:=r5.tS;show W1.drawn=d+(w1.drawn-w.drawn);simp only[Γ.re]at *;omega
  have fK:=r3 w1.heap.size (zac _);have Oi:cv (sg S S.d w1.heap.size) f1=f1:=(zak Prod.fst fK.1).symm;have Oj:a1.map (cv (sg S S.d w1.heap.size))=a1:=(zak Prod.snd fK.1).symm;have hwr:WR P S jR w1 w1:=by
   subst hWe;exact⟨r4.live,r4.ok,r4.dead,r4.closed,r4.next,r4.low,r4.big⟩
  exact⟨es',by rw[r1,hWe],⟨fK.2.1,fK.2.2,tU Oi,xD Oj,hwr⟩,r5.Ei,r5.tS⟩
 obtain⟨_,_,k1,k2,k3⟩:=key w.tape w.drawn (λj _ q=>rfl);exact⟨k1,k2,k3,λτ d xE=>by obtain⟨es',e,_⟩:=key τ d xE;exact⟨es',e⟩⟩
theorem Ol (hC:lp P F S)(hp:Plain P ρ)(SH:Am P ρ)(hx:rV S ρ){above:List Δ}(h:PI P F S fr above w)(hW:WR P S ρ w W){f1:Δ}{a1:List Δ}
 (hn:Win w w1 W)(hr:(ba P fr above).runT P w #[]=(.ok (f1,a1) w1,es)):∃W1 es',WR P S ρ w1 W1∧DM S.d ρ w w1 W W1∧(∀e∈es',nU S.d ρ w1 e)∧
   ∀main cs,θ P main (G (cv ρ fr) (above.map (cv ρ)++cs)) W=.go (G (cv ρ f1) (a1.map (cv ρ)++cs)) W1 (seen P fr.fn es'):=by
 have se:=tV hC h;have Ag:=Cz (ρ:=ρ) hC hp hx h.ok h.oks (λv _=> .inl SH) (λv hv=>jo (h.cl v hv));obtain⟨b,W1,es',r1,⟨rfl,o1,o2⟩,r3,r4,r5,r6⟩:=dG hp (λo=> .inl SH) _ _ _ (λn=>FF P F S (sg S S.d n)) w W #[] #[] _ _ _ Ag se hW hn hr;refine⟨W1,es',r4,r5,λe he=>(r6 e he).resolve_left (by simp),λmain cs=>?_⟩;have cG:kJ P F S (cv ρ fr):=⟨h.ok.defers,h.ok.mode,h.ok.kind,h.ok.round,h.ok.todo,h.ok.fn⟩;exact mN cG r1
end
abbrev Tp:=Nat→Question→Nat
inductive Om (P:Φ) (Q:Δ→List Δ→Γ→Prop):Δ→List Δ→Γ→Prop
 |stop {fr:Δ} {above:List Δ} {w:Γ}:Q fr above w→Om P Q fr above w
 |step {fr:Δ} {above:List Δ} {w:Γ} (nf:Tp→Nat→Δ) (na:Tp→Nat→List Δ) (nw:Tp→Nat→Γ) (ne:Tp→Nat→Array π):
   (∀τ d,(ba P fr above).runT P (w.re τ d) #[]=(.ok (nf τ d,na τ d) (nw τ d),ne τ d))→(∀τ d,Om P Q (nf τ d) (na τ d) (nw τ d))→Om P Q fr above w
inductive mO (P:Φ):Nat→Δ→List Δ→Γ→Δ→List Δ→Γ→Prop
 |zero {fr:Δ} {above:List Δ} {w:Γ}:mO P 0 fr above w fr above w
 |succ {n:Nat} {fr f1 f2:Δ} {above a1 a2:List Δ} {w w1 w2:Γ} {es:Array π}:(ba P fr above).runT P w #[]=(.ok (f1,a1) w1,es)→mO P n f1 a1 w1 f2 a2 w2→mO P (n+1) fr above w f2 a2 w2
section
variable {P:Φ}{F:υ→Bool}{S:Sd}{Q:Δ→List Δ→Γ→Prop}
theorem Wv (w:Γ)(τ lq:Tp)(d d':Nat):(w.re τ d).re lq d'=w.re lq d':=rfl
theorem PI.re {above:List Δ}(h:PI P F S fr above w)(τ:Tp)(d:Nat):PI P F S fr above (w.re τ d):=
 ⟨h.ok,h.oks,h.cl,h.cls,⟨h.wr.live,h.wr.ok,h.wr.dead,h.wr.closed,h.wr.next,h.wr.low,h.wr.big⟩⟩
theorem mO.stays (hC:lp P F S):∀{n:Nat} {fr f:Δ} {above a:List Δ} {w w':Γ},mO P n fr above w f a w'→PI P F S fr above w→Ren.PI P F S f a w'
 |0,fr,f,above,a,w,w',h,hI=>by cases h;exact hI
 |n+1,fr,f,above,a,w,w',h,hI=>by
  cases h with
  | @succ _ _ f1 _ _ a1 _ _ w1 _ es h1 h2=>exact mO.stays hC h2 (eL hC hI h1).1
theorem mO.shift (hC:lp P F S):∀{n:Nat} {fr f:Δ} {above a:List Δ} {w w':Γ},mO P n fr above w f a w'→PI P F S fr above w→∀(τ:Tp) (d:Nat),(∀j q,τ (d+j) q=w.tape (w.drawn+j) q)→∃d',mO P n fr above (w.re τ d) f a (w'.re τ d')
 |0,fr,f,above,a,w,w',h,hI,τ,d,Eh=>by cases h;exact⟨d,.zero⟩
 |n+1,fr,f,above,a,w,w',h,hI,τ,d,Eh=>by
  cases h with
  | @succ _ _ f1 _ _ a1 _ _ w1 _ es h1 h2=>
    obtain⟨A9,ht,hd,xE⟩:=eL hC hI h1;obtain⟨es',e⟩:=xE τ d (λj _ q=>Eh j q);obtain⟨d',h3⟩:=mO.shift hC h2 A9 τ (d+(w1.drawn-w.drawn)) (λj q=>by
     have:=Eh (w1.drawn-w.drawn+j) q;rw[ht,show d+(w1.drawn-w.drawn)+j=d+(w1.drawn-w.drawn+j) by omega,this,show w.drawn+(w1.drawn-w.drawn+j)=w1.drawn+j by omega])
    exact⟨d',.succ e h3⟩
theorem uT (hC:lp P F S)(hQ:∀f a w τ d,PI P F S f a w→Q f a w→Q f a (w.re τ d)){above:List Δ}(hI:PI P F S fr above w)
 (hT:∀τ:Tp,∃n f a w',mO P n fr above (w.re τ 0) f a w'∧Q f a w'):Om P Q fr above w:=by
 refine Classical.byContradiction λhN=>?_;have hQ':∀f a (w:Γ) τ d,PI P F S f a w→Q f a (w.re τ d)→Q f a w:=λf a w τ d hI h=>by
  have:=hQ f a (w.re τ d) w.tape w.drawn (hI.re _ _) h;exact this
 let Bad:Δ×List Δ×Γ→Prop:=λs=>PI P F S s.1 s.2.1 s.2.2∧(∀τ:Tp,∃n f a w',mO P n s.1 s.2.1 (s.2.2.re τ 0) f a w'∧Q f a w')∧¬Om P Q s.1 s.2.1 s.2.2;have next:∀s:{ s // Bad s },∃s':{ s // Bad s },∃(τ:Tp) (d:Nat) (es:Array π),(ba P s.1.1 s.1.2.1).runT P (s.1.2.2.re τ d) #[]=(.ok (s'.1.1,s'.1.2.1) s'.1.2.2,es):=by
  rintro ⟨⟨fr,above,w⟩,hI,hT,hN⟩;simp only at hI hT hN;have nq:¬Q fr above w:=λh=>hN (.stop h);have run:∀(τ:Tp) (d:Nat),∃f1 a1 w1 es,(ba P fr above).runT P (w.re τ d) #[]=(.ok (f1,a1) w1,es):=λτ d=>by
   obtain⟨n,f,a,w',hr,hq⟩:=hT (λj=>τ (d+j));cases hr with
   |zero=>exact absurd (hQ' _ _ _ _ _ hI hq) nq
   | @succ _ _ f1 _ _ a1 _ _ w1 _ es h1 h2=>
     obtain⟨_,_,_,xE⟩:=eL hC (hI.re _ _) h1;obtain⟨es',e⟩:=xE τ d (λj _ q=>by show τ (d+j) q=τ (d+(0+j)) q;rw[Nat.zero_add]);exact⟨_,_,_,_,e⟩
  have ex:∃(τ:Tp) (d:Nat),∀f1 a1 w1 es,(ba P fr above).runT P (w.re τ d) #[]=(.ok (f1,a1) w1,es)→¬Om P Q f1 a1 w1:=by
   refine Classical.byContradiction λhno=>hN ?_;have all:∀(τ:Tp) (d:Nat),∃f1 a1 w1 es,(ba P fr above).runT P (w.re τ d) #[]=(.ok (f1,a1) w1,es)∧Om P Q f1 a1 w1:=λτ d=>by
    refine Classical.byContradiction λhx=>hno ⟨τ,d,λf1 a1 w1 es he hb=>hx ⟨f1,a1,w1,es,he,hb⟩⟩
   exact .step (λτ d=>Λ (all τ d)) (λτ d=>Λ (zaP (all τ d))) (λτ d=>Λ (zaP (zaP (all τ d))))
    (λτ d=>Λ (zaP (zaP (zaP (all τ d))))) (λτ d=>(zaP (zaP (zaP (zaP (all τ d))))).1)
    (λτ d=>(zaP (zaP (zaP (zaP (all τ d))))).2)
  obtain⟨τ,d,hb⟩:=ex;obtain⟨f1,a1,w1,es,he⟩:=run τ d;obtain⟨A9,ht,hd,xE⟩:=eL hC (hI.re τ d) he;refine⟨⟨⟨f1,a1,w1⟩,A9,λτ2=>?_,hb _ _ _ _ he⟩,τ,d,es,he⟩;let m:=w1.drawn-d;obtain⟨n,f,a,w',hr,hq⟩:=hT (λi=>if i<m then τ (d+i)else τ2 (i-m));cases hr with
  |zero=>exact absurd (hQ' _ _ _ _ _ hI hq) nq
  | @succ n' _ f2 _ _ a2 _ _ w2 _ es2 h1 h2=>
    obtain⟨es3,e3⟩:=xE (λi=>if i<m then τ (d+i)else τ2 (i-m)) 0 (λj hj q=>by
     show(if 0+j<m then τ (d+(0+j))else τ2 (0+j-m)) q=τ (d+j) q;rw[Nat.zero_add,zab (show j<m from hj)])
    rw[Wv,h1]at e3;simp only[zaf,zan]at e3;obtain⟨⟨⟨rfl,rfl⟩,rfl⟩,_⟩:=e3;obtain⟨d',h3⟩:=mO.shift hC h2 (A9.re _ _) τ2 0 (λj q=>by
     show τ2 (0+j) q=(if 0+m+j<m then τ (d+(0+m+j))else τ2 (0+m+j-m)) q;rw[zaa (by omega),show 0+m+j-m=0+j by omega])
    exact⟨n',f,a,_,h3,hQ _ _ _ _ _ (mO.stays hC h2 (A9.re _ _)) hq⟩
 let nx:{ s // Bad s }→{ s // Bad s }:=λs=>Λ (next s);let sq:Nat→{ s // Bad s }:=λk=>Nat.rec ⟨(fr,above,w),hI,hT,hN⟩ (λ_ s=>nx s) k;have hsq:∀k,∃(τ:Tp) (d:Nat) (es:Array π),(ba P (sq k).1.1 (sq k).1.2.1).runT P ((sq k).1.2.2.re τ d) #[]=(.ok ((sq (k+1)).1.1,(sq (k+1)).1.2.1) (sq (k+1)).1.2.2,es):=λk=>zaP (next (sq k));let τs:Nat→Tp:=λk=>Λ (hsq k);let ds:Nat→Nat:=λk=>Λ (zaP (hsq k));have hrun:∀k,∃es,(ba P (sq k).1.1 (sq k).1.2.1).runT P ((sq k).1.2.2.re (τs k) (ds k)) #[]=(.ok ((sq (k+1)).1.1,(sq (k+1)).1.2.1) (sq (k+1)).1.2.2,es):=λk=>zaP (zaP (hsq k));let ms:Nat→Nat:=λk=>(sq (k+1)).1.2.2.drawn - ds k;let cs:Nat→Nat:=λk=>Nat.rec 0 (λk c=>c+ms k) k;have hcs:∀k,cs (k+1)=cs k+ms k:=λk=>rfl;have Ww:∀a b,a≤b→cs a≤cs b:=λa b hab=>by
  induction hab with
  |refl=>exact zac _
  |step _ ih=>rw[hcs];omega
 let T:Tp:=λi q=>open Classical in if h:∃k,cs k≤i∧i<cs (k+1)then τs (Λ h) (ds (Λ h)+(i-cs (Λ h))) q else 0
 have hTs:∀k j q,j<ms k→T (cs k+j) q=τs k (ds k+j) q:=λk j q hj=>by
  have hex:∃k',cs k'≤cs k+j∧cs k+j<cs (k'+1):=⟨k,by omega,by rw[hcs];omega⟩;have aah:Λ hex=k:=by
   have h1:=zaP hex;rcases Nat.lt_trichotomy (Λ hex) k with h|h|h
   ·have h2:=Ww (Λ hex+1) k h;omega
   ·exact h
   ·have h2:=Ww (k+1) (Λ hex) h;rw[hcs]at h2;omega
  show(open Classical in if h:∃k',cs k'≤cs k+j∧cs k+j<cs (k'+1)then τs (Λ h) (ds (Λ h)+(cs k+j-cs (Λ h))) q else 0)=_;rw[dif_pos hex,aah,show cs k+j-cs k=j by omega]
 have walk:∀(n k:Nat) (f:Δ) (a:List Δ) (w':Γ),mO P n (sq k).1.1 (sq k).1.2.1 ((sq k).1.2.2.re T (cs k)) f a w'→f=(sq (k+n)).1.1∧a=(sq (k+n)).1.2.1∧w'=(sq (k+n)).1.2.2.re T (cs (k+n)):=by
  intro n
  induction n with
  |zero=>intro k f a w' h;cases h;exact⟨rfl,rfl,rfl⟩
  |succ n ih=>
   intro k f a w' h;cases h with
   | @succ _ _ f1 _ _ a1 _ _ w1 _ es h1 h2=>
     obtain⟨es2,he⟩:=hrun k;obtain⟨_,_,hd,xE⟩:=eL hC ((sq k).2.1.re (τs k) (ds k)) he;obtain⟨es3,e3⟩:=xE T (cs k) (λj hj q=>hTs k j q hj);rw[Wv,h1]at e3;simp only[zaf,zan]at e3;obtain⟨⟨⟨rfl,rfl⟩,rfl⟩,_⟩:=e3;have:=ih (k+1) f a w' h2;rwa[show k+1+n=k+(n+1) by omega]at this
 obtain⟨n,f,a,w',hr,hq⟩:=hT T;obtain⟨rfl,rfl,rfl⟩:=walk n 0 f a w' hr;exact(sq (0+n)).2.2.2 (.stop (hQ' _ _ _ _ _ (sq (0+n)).2.1 hq))
end
section
variable {P:Φ}{F:υ→Bool}{S:Sd}
theorem JN:∀a b,jR a=jR b→a=b:=λ_ _ h=>h
theorem cT {α:Type}:∀(t:Sem α) (Rs:Nat→α→α→Prop) (w:Γ) (es:Array π) (h:Halt) (w1:Γ) (dA:Array π),(∀n,w.heap.size≤n→ae P (sg S S.d n) (Rs n) t t)→WR P S jR w w→t.runT P w es=(.halt h w1,dA)→DW h
 |.pure a0,Rs,w,es,h,w1,dA,h2,hW,hr=>by simp[Θ]at hr
 |.load m ad k,Rs,w,es,h,w1,dA,h2,hW,hr=>by
  by_cases hlt:ad.block<S.d
  ·simp only[Θ,A7 hW hlt,Γ.farLoad,hW.dead _ hlt,iE,zaf,Γ.noCell]at hr;have e:=hr.1;simp only[zbs]at e;rw[←e.1];trivial
  have cJ:S.d≤ad.block∧ad.block<w.heap.size:=by
   rcases h2 w.heap.size (zac _)with h|⟨k',e,_⟩
   ·exact absurd h hlt
   ·simp only[Sem.load.injEq]at e;exact bY.1 (gZ.1 e.2.1.symm)
  have jA:∀v,(∀n,w.heap.size≤n→rv (sg S S.d n) v=v)→∀n,w.heap.size≤n→ae P (sg S S.d n) (Rs n) (k v) (k v):=λv hv n hn=>by
   rcases h2 n hn with h|⟨k',e,hk⟩
   ·exact absurd h hlt
   ·simp only[Sem.load.injEq]at e;obtain⟨_,_,rfl⟩:=e;have:=hk v;rwa[hv n hn]at this
  simp only[Θ]at hr;cases hc:w.cell? ad with
  |some v=>
   rw[hc]at hr;have fK:=uR hW cJ.1 hc;exact cT (k v) Rs w _ h w1 dA (jA v λn hn=>eY (dY hn).1 (dY hn).2 v fK) hW hr
  |none=>
   rw[hc]at hr;simp only at hr;obtain⟨o,ho⟩:∃o,w.heap[ad.block]?=some o:=⟨_,zaL cJ.2⟩;have cG:=hW.ok _ o ho;cases o with
   |view at_ u=>
    cases hv:w.viewLoad P at_ u ad (m== .atomic)with
    |error e=>
     simp only[Γ.farLoad,ho,hv,zaf,zbs]at hr;rw[←hr.1.1];trivial
    |ok x=>
     simp only[Γ.farLoad,ho,hv]at hr;have fK:=hW.closed _ _ cJ.1 ho;simp only[ro,Obj.view.injEq,zay]at fK;have hat:=bY.1 (gZ.1 fK);obtain⟨v,ts⟩:=x;obtain⟨Aq,q1,q2,q3,q4⟩:=rY hW.Live hat.1 hv;exact cT (k v) Rs w _ h w1 dA (jA v λn _=>q3 _) hW hr
   |cells c e f=>
    simp only[Γ.farLoad,ho,Γ.noCell,zaf,zbs]at hr;rw[←hr.1.1];trivial
   |number c e=>
    simp only[Γ.farLoad,ho,Γ.noCell,zaf,zbs]at hr;rw[←hr.1.1];trivial
   |map c e=>
    simp only[Γ.farLoad,ho,Γ.noCell,zaf,zbs]at hr;rw[←hr.1.1];trivial
   |_=>exact cG.elim
 |.store m ad v k,Rs,w,es,h,w1,dA,h2,hW,hr=>by
  have cJ:(S.d≤ad.block∧ad.block<w.heap.size)∧rv (sg S S.d w.heap.size) v=v:=by
   obtain⟨k',e,_⟩:=h2 w.heap.size (zac _);simp only[Sem.store.injEq]at e;exact⟨bY.1 (gZ.1 e.2.1.symm),e.2.2.1.symm⟩
  obtain⟨cJ,hv⟩:=cJ;have jA:∀n,w.heap.size≤n→ae P (sg S S.d n) (Rs n) k k:=λn hn=>by
   obtain⟨k',e,hk⟩:=h2 n hn;simp only[Sem.store.injEq]at e;obtain⟨_,_,_,rfl⟩:=e;exact hk
  cases hc:w.cell? ad with
  |some v0=>
   cases Oe:w.frozen? ad with
   |true=>cases v<;>simp only[Θ,hc,Oe,if_true,zaf,zbs]at hr<;>(rw[←hr.1.1];trivial)
   |false=>
    have key:(∃s,h=.stuck s)∨k.runT P (w.setCell ad v) (es.push ⟨.cell ad,true,m== .atomic⟩)=(.halt h w1,dA):=by
     cases v<;>simp only[Θ,hc,Oe,zaU,if_false]at hr<;>first|exact .inr hr|(simp only[zaf,zbs]at hr;exact .inl ⟨_,hr.1.1.symm⟩)
    rcases key with⟨s,rfl⟩|key
    ·trivial
    ·have hs:=hW.setCell JN cJ.1 hv;rw[ox]at hs;exact cT k Rs _ _ h w1 dA (by simpa[Γ.setCell]using jA) hs key
  |none=>
   obtain⟨o,ho⟩:∃o,w.heap[ad.block]?=some o:=⟨_,zaL cJ.2⟩;have cG:=hW.ok _ o ho;have soft:∀x,w.farStore P ad v (m== .atomic)=.error x→DW x:=λx hx=>by
    unfold Γ.farStore at hx;rw[ho]at hx;cases o with
    |view at_ u=>
     simp only at hx;split at hx
     ·cases hx
     ·cases hx;trivial
    |cells c e f=>simp only[Γ.noCell,ho,Except.error.injEq]at hx;rw[←hx];trivial
    |number c e=>simp only[Γ.noCell,ho,Except.error.injEq]at hx;rw[←hx];trivial
    |map c e=>simp only[Γ.noCell,ho,Except.error.injEq]at hx;rw[←hx];trivial
    |_=>exact cG.elim
   cases hf:w.farStore P ad v (m== .atomic)with
   |error x=>
    have:(∃s,h=.stuck s)∨h=x:=by
     cases v<;>simp only[Θ,hc,hf,zaf,zbs]at hr<;>first|exact .inr hr.1.1.symm|exact .inl ⟨_,hr.1.1.symm⟩
    rcases this with⟨s,rfl⟩|rfl
    ·trivial
    ·exact soft _ hf
   |ok x=>
    obtain⟨w2,ts⟩:=x;have hf0:=hf;unfold Γ.farStore at hf;rw[ho]at hf;cases o with
    |view at_ u=>
     simp only at hf;cases SI:w.viewStore P at_ u ad v (m== .atomic)with
     |error e=>rw[SI]at hf;cases hf
     |ok x=>
      rw[SI]at hf;simp only[zbO]at hf;subst hf;have fK:=hW.closed _ _ cJ.1 ho;simp only[ro,Obj.view.injEq,zay]at fK;have hat:=bY.1 (gZ.1 fK);obtain⟨c,c',ty,fz,Aq,q1,q2,q3,q4,q5⟩:=qx hW.Live hat.1 SI;subst q2;have key:(∃s,h=.stuck s)∨k.runT P { w with heap:=w.heap.setIfInBounds at_.block (.cells c' ty fz) } (es++ts.toArray.map (⟨.cell ·,true,m== .atomic⟩))=(.halt h w1,dA):=by
       cases v<;>simp only[Θ,hc,hf0]at hr<;>first|exact .inr hr|(simp only[zaf,zbs]at hr;exact .inl ⟨_,hr.1.1.symm⟩)
      rcases key with⟨s,rfl⟩|key
      ·trivial
      ·have Cy:WR P S jR { w with heap:=w.heap.setIfInBounds at_.block (.cells c' ty fz) } { w with heap:=w.heap.setIfInBounds (jR at_.block) (.cells c' ty fz) }:=by
        refine hW.upd JN hat.1 (gU _ _ _) (gU _ _ _) (λo ho=>⟨trivial,by rw[El],λhs=>?_⟩);rw[q1]at ho;cases ho;simp only[ro,Obj.cells.injEq,zay]at hs ⊢;exact q3 _ hs
       exact cT k Rs _ _ h w1 dA (by simpa using jA) Cy key
    |_=>cases hf
 |.new o k,Rs,w,es,h,w1,dA,h2,hW,hr=>by
  have hs:l6 o∧ro (sg S S.d w.heap.size) o=o:=by
   obtain⟨ho,k',e,_⟩:=h2 w.heap.size (zac _);simp only[Sem.new.injEq]at e;exact⟨ho,e.1.symm⟩
  have jA:∀n,w.heap.size+1≤n→ae P (sg S S.d n) (Rs n) (k w.heap.size) (k w.heap.size):=λn hn=>by
   obtain⟨_,k',e,hk⟩:=h2 n (by omega);simp only[Sem.new.injEq]at e;obtain⟨_,rfl⟩:=e;have:=hk w.heap.size;rwa[show sg S S.d n w.heap.size=w.heap.size from bY.2 ⟨hW.big.d,by omega⟩]at this
  simp only[Θ]at hr;have Wx:=hW.push hs.1 hs.2;rw[El]at Wx;exact cT (k w.heap.size) Rs _ es h w1 dA (by simpa using jA) Wx hr
 |.shape r k,Rs,w,es,h,w1,dA,h2,hW,hr=>by
  simp only[Θ]at hr;refine cT _ Rs w es h w1 dA (λn hn=>?_) hW hr;obtain⟨k',e,hk⟩:=h2 n hn;simp only[Sem.shape.injEq]at e;obtain⟨_,rfl⟩:=e;exact hk _
 |.freeze ad n k,Rs,w,es,h,w1,dA,h2,hW,hr=>by
  have cJ:S.d≤ad.block∧ad.block<w.heap.size:=by
   obtain⟨k',e,_⟩:=h2 w.heap.size (zac _);simp only[Sem.freeze.injEq]at e;exact bY.1 (gZ.1 e.1.symm)
  have jA:∀n,w.heap.size≤n→ae P (sg S S.d n) (Rs n) k k:=λn hn=>by
   obtain⟨k',e,hk⟩:=h2 n hn;simp only[Sem.freeze.injEq]at e;obtain⟨_,_,rfl⟩:=e;exact hk
  simp only[Θ]at hr;have hsz:(w.freeze ad n).heap.size=w.heap.size:=by unfold Γ.freeze;split<;>simp
  exact cT k Rs (w.freeze ad n) es h w1 dA (by rw[hsz];exact jA) (hW.freeze JN cJ.1) hr
 |.frozen ad k,Rs,w,es,h,w1,dA,h2,hW,hr=>by
  simp only[Θ]at hr;refine cT _ Rs w es h w1 dA (λn hn=>?_) hW hr;obtain⟨k',e,hk⟩:=h2 n hn;simp only[Sem.frozen.injEq]at e;obtain⟨_,rfl⟩:=e;exact hk _
 |.getObj r k,Rs,w,es,h,w1,dA,h2,hW,hr=>by
  have cJ:S.d≤r∧r<w.heap.size:=by
   obtain⟨k',e,_⟩:=h2 w.heap.size (zac _);simp only[Sem.getObj.injEq]at e;exact bY.1 e.1.symm
  obtain⟨o,ho⟩:∃o,w.heap[r]?=some o:=⟨_,zaL cJ.2⟩;have fK:=hW.closed _ o cJ.1 ho;have cG:=hW.ok _ o ho;have uS:∀n,w.heap.size≤n→ro (sg S S.d n) o=o:=λn hn=>pB (dY hn).1 (dY hn).2 fK;have jA:∀n,w.heap.size≤n→ae P (sg S S.d n) (Rs n) (k o) (k o):=λn hn=>by
   obtain⟨k',e,hk⟩:=h2 n hn;simp only[Sem.getObj.injEq]at e;obtain⟨_,rfl⟩:=e;have:=hk o (.inr (uS n hn));rwa[uS n hn]at this
  simp only[Θ,ho]at hr;cases o with
  |cells c e f=>simp only[zaf,zbs]at hr;rw[←hr.1.1];trivial
  |view x t=>exact cT _ Rs w _ h w1 dA jA hW hr
  |number x t=>exact cT _ Rs w _ h w1 dA jA hW hr
  |map x t=>exact cT _ Rs w _ h w1 dA jA hW hr
  |_=>exact cG.elim
 |.setObj r o k,Rs,w,es,h,w1,dA,h2,hW,hr=>by
  have cJ:((S.d≤r∧r<w.heap.size)∧ro (sg S S.d w.heap.size) o=o)∧NY o:=by
   obtain⟨hs,k',e,_⟩:=h2 w.heap.size (zac _);simp only[Sem.setObj.injEq]at e;exact⟨⟨bY.1 e.1.symm,e.2.1.symm⟩,hs⟩
  obtain⟨⟨cJ,fK⟩,Tv⟩:=cJ;have jA:∀n,w.heap.size≤n→ae P (sg S S.d n) (Rs n) k k:=λn hn=>by
   obtain⟨_,k',e,hk⟩:=h2 n hn;simp only[Sem.setObj.injEq]at e;obtain⟨_,_,rfl⟩:=e;exact hk
  obtain⟨o0,ho⟩:∃o,w.heap[r]?=some o:=⟨_,zaL cJ.2⟩;have cG:=hW.ok _ o0 ho;have Cy:WR P S jR { w with heap:=w.heap.setIfInBounds r o } { w with heap:=w.heap.setIfInBounds r o }:=by
   refine hW.upd JN cJ.1 (gU _ _ _) (gU _ _ _) (λo1 _=>⟨?_,by rw[El],λ_=>fK⟩);cases o<;>first|exact Tv.elim|trivial
  simp only[Θ,ho]at hr;cases o0 with
  |cells c e f=>simp only[zaf,zbs]at hr;rw[←hr.1.1];trivial
  |view x t=>exact cT k Rs _ _ h w1 dA (by simpa using jA) Cy hr
  |number x t=>exact cT k Rs _ _ h w1 dA (by simpa using jA) Cy hr
  |map x t=>exact cT k Rs _ _ h w1 dA (by simpa using jA) Cy hr
  |_=>exact cG.elim
 |.choose q k,Rs,w,es,h,w1,dA,h2,hW,hr=>by
  have jA:∀x n,w.heap.size≤n→ae P (sg S S.d n) (Rs n) (k x) (k x):=λx n hn=>by
   obtain⟨k',e,hk⟩:=h2 n hn;simp only[Sem.choose.injEq]at e;obtain⟨_,rfl⟩:=e;exact hk x
  simp only[Θ]at hr;split at hr
  ·exact cT _ Rs w es h w1 dA (jA _) hW hr
  ·exact cT _ Rs { w with drawn:=w.drawn+1 } es h w1 dA (jA _) (hW.drew _ _) hr
 |.sys c k,Rs,w,es,h,w1,dA,h2,hW,hr=>wF (.sys c k) _ _ _ _ _ (h2 w.heap.size (zac _)) hr
 |.program k,Rs,w,es,h,w1,dA,h2,hW,hr=>by
  simp only[Θ]at hr;refine cT _ Rs w es h w1 dA (λn hn=>?_) hW hr;obtain⟨k',e,hk⟩:=h2 n hn;simp only[Sem.program.injEq]at e;obtain rfl:=e;exact hk
 |.mark m k,Rs,w,es,h,w1,dA,h2,hW,hr=>by
  simp only[Θ]at hr;refine cT k Rs w _ h w1 dA (λn hn=>?_) hW hr;obtain⟨_,k',e,hk⟩:=h2 n hn;simp only[Sem.mark.injEq]at e;obtain⟨_,rfl⟩:=e;exact hk
 |.halt h0,Rs,w,es,h,w1,dA,h2,hW,hr=>by
  simp only[Θ,zaf,zbs]at hr;rw[←hr.1.1];exact h2 w.heap.size (zac _)
end
def c0 (P:Φ):Δ:={ fn:=P.funcs.size,tmps:=#[],todo:=[.call default false "fmt's door" #[]],defers:=[],mode:= .run,kind:= .normal,roundOf:=none }
theorem aai:Extern.next "fmt's door" =none:=by
 have:(Extern.next "fmt's door").isNone=true:=by rfl
 simpa using this
section
variable {P:Φ}{F:υ→Bool}{S:Sd}
theorem JO (fr:Δ)(cs:List Δ)(w:Γ):θ P true { frame:=fr,callers:=cs,status:= .running,dying:=none } w=θ P true (G fr cs) w:=rfl
theorem ko {cs':List Δ}(h:θ P true (G fr cs) w=.go (G fr' cs') w' es):step P (lone fr cs w)=.next (lone fr' cs' w'):=by
 refine step_lone_go ?_;rw[JO,h];rfl
theorem jq {o:Outcome}(h:θ P true (G fr cs) w=.ended o w' es):step P (lone fr cs w)=.ended o w':=by
 refine step_lone_ended ?_;rw[JO,h];rfl
theorem iK {cs':List Δ}(h:lone fr cs w=lone fr' cs' w'):fr=fr'∧cs=cs'∧w=w':=by
 simp only[lone,Machine.mk.injEq,Array.mk.injEq,zcN,Ω.mk.injEq,zay]at h;exact⟨h.2.1,h.2.2,h.1⟩
theorem Ba (hC:lp P F S){above:List Δ}(h:PI P F S fr above w){o:Oper}(ho:fo P F S o.op=true)(n:Nat)(hn:w.heap.size≤n):ae P (sg S S.d n) (NN F (sg S S.d n)) (Ξ fr.eval o) (Ξ fr.eval o):=by
 have hf:rV S (sg S S.d n):=wC (zag h.wr.big.g hn);have fK:=iJ hn h.cl;have iG:∀x,gD S x=true→rv (sg S S.d n) (fr.eval x)=fr.eval x:=λx hx=>by
  have e:=rZ (ρ:=sg S S.d n) (fr:=fr) hx hf;rw[CE fK]at e;exact e.symm
 refine ou (F:=F) (mg hC n) hf hC.SF hC.fn o ho (λx hx=>(iG x hx).symm) (λx hx=> .inr (iG x hx)) (λx hx=>jo (iG x hx)) (λ_=>rfl) (λ_=>rfl) (λ_=>rfl) (λ_=>rfl)
theorem TB (hC:lp P F S){above:List Δ}(h:PI P F S fr above w){o:Oper}(ho:fo P F S o.op=true){nx:Next}(hr:(Ξ fr.eval o).runT P w #[]=(.ok nx w1,es)):∃b,NN F jR nx b:=by
 have hid:ae P jR (NN F jR) (Ξ fr.eval o) (Ξ fr.eval o):=by
  have iG:∀x,gD S x=true→FV S (fr.eval x):=λx hx=>by
   have e:=rZ (ρ:=sg S S.d w.heap.size) (fr:=fr) hx (wC h.wr.big.g);rw[CE h.cl]at e;exact jo e.symm
  exact ou (F:=F) (mf hC) (S:=S) JM hC.SF hC.fn o ho (λx hx=>(ox _).symm) (λx hx=> .inl CC) iG (λ_=>rfl) (λ_=>rfl) (λ_=>rfl) (λ_=>rfl)
 obtain⟨b,W1,es',r1,r2,_⟩:=dG (mf hC) Oh _ _ _ (λn=>NN F (sg S S.d n)) w w #[] #[] _ _ _ hid (λn hn=>Ba hC h ho n hn) h.wr (λ_ _ _=>rfl) hr;exact⟨b,r2⟩
theorem Bb (hC:lp P F S){above:List Δ}(h:PI P F S fr above w)(mi:¬(above=[]∧fr.mode=.returning)){hh:Halt}(hr:(ba P fr above).runT P w #[]=(.halt hh w1,es)):(∃chain w2 es',θ P true (G fr (above++cs)) w=.go (G { fr with mode:= .panicking chain } (above++cs)) w2 es')∨(∃o w2 es',θ P true (G fr (above++cs)) w=.ended o w2 es'):=by
 have hI:=h;obtain⟨fn0,tmps,todo,defers,mode,kind,oc⟩:=fr;obtain⟨hd,hm,hk,eK,hand,Wt⟩:=h.ok;simp only at hd hm hk eK hand Wt;subst hd hk eK;rcases hm with rfl|rfl
 ·match todo,hand,hr,hI with
  |[],hand,hr,hI=>simp[ba,pure]at hr
  |.code .ret::k,hand,hr,hI=>simp[ba,pure]at hr
  |.code .skip::k,hand,hr,hI=>simp[ba,pure]at hr
  |.inBlock _::k,hand,hr,hI=>simp[ba,pure]at hr
  |.code (.seq a b)::k,hand,hr,hI=>simp[ba,pure]at hr
  |.code (.block id a)::k,hand,hr,hI=>simp[ba,pure]at hr
  |.code (.loop a)::k,hand,hr,hI=>simp[ba,pure]at hr
  |.inLoop a::k,hand,hr,hI=>simp[ba,pure]at hr
  |.inRegion _ []::k,hand,hr,hI=>simp[ba,pure]at hr
  |.code (.cond c a b)::k,hand,hr,hI=>
   simp only[ba]at hr;generalize hq:Δ.eval _ c=q at hr;cases q with
   |bool t=>simp[pure]at hr
   |_=>exact .inr (by simp[G,θ,ι,hq])
  |.code (.exit id)::k,hand,hr,hI=>
   simp only[ba]at hr;cases he:ψ id k with
   |none=>exact .inr (by simp[G,θ,ι,he])
   |some k'=>rw[he]at hr;simp[pure]at hr
  |.code (.region id ops draw)::k,hand,hr,hI=>
   cases draw with
   |false=>simp[ba,pure]at hr
   |true=>
    exfalso;simp only[ba,if_true,bind,choose,Sem.bind,Θ,Question.forced,zaU,if_false,pure,zaf,reduceCtorEq,false_and]at hr
  |.inRegion ops (i::rest)::k,hand,hr,hI=>
   simp only[ba]at hr;by_cases hw:((ops[i]?).map (ζ · (ξ ops tmps))).getD false=true
   ·rw[zab hw]at hr;cases ho:ops[i]? with
    |none=>rw[ho]at hw;simp at hw
    |some o=>
     rw[ho]at hr;dsimp only at hr;have cG:fo P F S o.op=true:=by
      simp only[zap,aF,zae]at hand;have:=hand.1.1;rw[ho]at this;simpa using this
     have hstep:θ P true (G ⟨fn0,tmps,.inRegion ops (i::rest)::k,[],.run,.normal,none⟩ (above++cs)) w=
      stepG.apply P true ⟨fn0,tmps,.inRegion ops (i::rest)::k,[],.run,.normal,none⟩ (above++cs) none (Ξ (Δ.eval ⟨fn0,tmps,.inRegion ops (i::rest)::k,[],.run,.normal,none⟩) o) w:=by
      rw[ho]at hw;have hw':ζ o (ξ ops tmps)=true:=by simpa using hw
      simp[G,θ,ι,stepG.oper,Δ.oper?,ho,hw']
     rw[hstep];rw[bO]at hr;cases hrun:(Ξ (Δ.eval ⟨fn0,tmps,.inRegion ops (i::rest)::k,[],.run,.normal,none⟩) o).runT P w #[]with
     |mk r dA=>
      rw[hrun]at hr;have q1:=zak Prod.fst hrun;have q2:=zak Prod.snd hrun;simp at q1 q2;cases r with
      |halt h3 w3=>
       simp only[zaf,zbs]at hr;obtain⟨⟨rfl,rfl⟩,rfl⟩:=hr;have soft:=cT _ (λn=>NN F (sg S S.d n)) w #[] h3 w3 dA (λn hn=>Ba hC hI cG n hn) hI.wr hrun;cases h3 with
       |panic v=>exact .inl ⟨_,_,_,by simp[stepG.apply,q1,G,χ,Δ.raise];exact⟨rfl,rfl,rfl⟩⟩
       |stuck s=>exact .inr ⟨_,_,_,by simp[stepG.apply,q1,χ];exact⟨rfl,rfl,rfl⟩⟩
       |unsupported u=>
        cases u with
        |initOrder g=>exact soft.elim
        |_=>exact .inr ⟨_,_,_,by simp[stepG.apply,q1,χ];exact⟨rfl,rfl,rfl⟩⟩
       |_=>exact soft.elim
      |ok nx w3=>
       obtain⟨b,hb⟩:=TB hC hI cG hrun;dsimp only at hr;cases nx<;>simp only[NN]at hb<;>simp[pure]at hr
   ·rw[zaa hw]at hr;simp[pure]at hr
  |.code (.rangeFunc ..)::k,hand,hr,hI=>simp[aF,bB]at hand
  |.code (.scope ..)::k,hand,hr,hI=>simp[aF,bB]at hand
  |.code (.label ..)::k,hand,hr,hI=>simp[aF,bB]at hand
  |.code (.goto ..)::k,hand,hr,hI=>simp[aF,bB]at hand
  |.code (.refuse ..)::k,hand,hr,hI=>exact .inr (by simp[G,θ,ι])
  |.inScope c::k,hand,hr,hI=>simp[aF]at hand
  |.inRangeFunc c::k,hand,hr,hI=>simp[aF]at hand
  |.endRangeFunc c::k,hand,hr,hI=>simp[aF]at hand
  |.beginRound::k,hand,hr,hI=>simp[aF]at hand
  |.call ..::k,hand,hr,hI=>simp[aF]at hand
  |.extern ..::k,hand,hr,hI=>simp[aF]at hand
 ·obtain⟨fn,h1⟩:=Wt;simp only[ba,h1]at hr;rw[bO]at hr;cases hrun:(results fn tmps).runT P w #[]with
  |mk r dA=>
   rw[hrun]at hr;have q1:=zak Prod.fst hrun;simp at q1;cases r with
   |ok v w3=>
    dsimp only at hr;cases above with
    |nil=>exact absurd ⟨rfl,rfl⟩ mi
    |cons c rest=>simp[pure]at hr
   |halt h3 w3=>
    refine .inr ?_;cases h3<;>exact⟨_,_,_,by simp[G,θ,unwind,h1,q1,χ];exact⟨rfl,rfl,rfl⟩⟩
theorem Em:∀(above:List Δ) (fr:Δ) (w:Γ) (chain:List PanicEntry) (n:Nat) (sf:Δ) (wf:Γ),fr.defers=[]→(∃f,P.funcs[fr.fn]?=some f)→(∀f∈above,kJ P F S f)→runN P n (lone { fr with mode:= .panicking chain } (above++[c0 P]) w)=.next (lone sf [c0 P] wf)→sf.mode=.returning→False:=by
 intro above
 induction above with
 |nil=>
  rintro fr w chain n sf wf hd ⟨f,hf⟩ _ hr hm;cases n with
  |zero=>
   simp only[runN,zbD]at hr;obtain⟨rfl,_,_⟩:=iK hr;cases hm
  |succ n=>
   have h1:step P (lone { fr with mode:= .panicking chain } ([]++[c0 P]) w)=.next (lone ((c0 P).raise chain) [] w):=by
    refine ko (es:=#[]) ?_;simp[G,θ,unwind,hd,Δ.catches,hf]
   simp only[runN,h1]at hr;cases n with
   |zero=>
    simp only[runN,zbD]at hr;obtain⟨_,e,_⟩:=iK hr;cases e
   |succ n=>
    have h2:∃o w3 es,θ P true (G ((c0 P).raise chain) []) w=.ended o w3 es:=by
     simp[G,θ,unwind,c0,Δ.raise,Δ.catches]
    obtain⟨o,w3,es,h2⟩:=h2;simp only[runN,jq h2]at hr;cases hr
 |cons c rest ih=>
  rintro fr w chain n sf wf hd ⟨f,hf⟩ cG hr hm;cases n with
  |zero=>
   simp only[runN,zbD]at hr;obtain⟨rfl,_,_⟩:=iK hr;cases hm
  |succ n=>
   have hc:=cG c (by simp);have h1:step P (lone { fr with mode:= .panicking chain } (c::rest++[c0 P]) w)=.next (lone { c with mode:= .panicking chain } (rest++[c0 P]) w):=by
    refine ko (es:=#[]) ?_;have hcr:c.raise chain={ c with mode:= .panicking chain }:=by
     unfold Δ.raise;rcases hc.mode with e|e<;>rw[e]
    simp[G,θ,unwind,hd,Δ.catches,hf,hcr]
   simp only[runN,h1]at hr;exact ih c w chain n sf wf hc.defers hc.fn (λg hg=>cG g (by simp[hg])) hr hm
theorem uU (_hC:lp P F S)(h:PI P F S fr [] w)(hm:fr.mode=.returning){sf:Δ}{wf:Γ}(hr:runN P (n+1) (lone fr [c0 P] w)=.next (lone sf [c0 P] wf)):False:=by
 obtain⟨f,hf⟩:=h.ok.fn;have key:(∃v w2 es,θ P true (G fr [c0 P]) w=.go (G ((c0 P).finish v) []) w2 es)∨∃o w2 es,θ P true (G fr [c0 P]) w=.ended o w2 es:=by
  have hk:=h.ok.kind;cases hrun:(results f fr.tmps).run P w with
  |ok v w2=>
   refine .inl ⟨v,w2,?_⟩;simp[G,θ,unwind,hm,h.ok.defers,hf,hrun,doReturn,hk,χ]
  |halt h3 w2=>
   refine .inr ?_;cases h3<;>simp[G,θ,unwind,hm,h.ok.defers,hf,hrun,χ]
 rcases key with⟨v,w2,es,e⟩|⟨o,w2,es,e⟩
 ·simp only[runN,ko e]at hr;cases n with
  |zero=>
   simp only[runN,zbD]at hr;obtain⟨_,e,_⟩:=iK hr;cases e
  |succ n=>
   have h2:∃o w3 es,θ P true (G ((c0 P).finish v) []) w2=.ended o w3 es:=by
    simp[G,θ,ι,c0,Δ.finish,aai]
   obtain⟨o,w3,es,h2⟩:=h2;simp only[runN,jq h2]at hr;cases hr
 ·simp only[runN,jq e]at hr;cases hr
theorem CF (hC:lp P F S):∀(n:Nat) (fr:Δ) (above:List Δ) (w:Γ) (sf:Δ) (wf:Γ),PI P F S fr above w→runN P n (lone fr (above++[c0 P]) w)=.next (lone sf [c0 P] wf)→sf.mode=.returning→∃m,mO P m fr above w sf [] wf:=by
 intro n
 induction n with
 |zero=>
  intro fr above w sf wf h hr hm;simp only[runN,zbD]at hr;obtain⟨rfl,e,rfl⟩:=iK hr;have:above=[]:=by
   have:=zak List.length e;simp at this;exact this
  subst this;exact⟨0,.zero⟩
 |succ n ih=>
  intro fr above w sf wf h hr hm;by_cases hl:above=[]∧fr.mode=.returning
  ·obtain⟨rfl,hl⟩:=hl;exact(uU hC h hl hr).elim
  ·cases hrun:(ba P fr above).runT P w #[]with
   |mk r es=>
    cases r with
    |ok x w1=>
     obtain⟨f1,a1⟩:=x;have hs:=mN (main:=true) (cs:=[c0 P]) h.ok hrun;simp only[runN,ko hs]at hr;obtain⟨m,DN⟩:=ih f1 a1 w1 sf wf (eL hC h hrun).1 hr hm;exact⟨m+1,.succ hrun DN⟩
    |halt hh w1=>
     rcases Bb (cs:=[c0 P]) hC h hl hrun with⟨chain,w2,es',e⟩|⟨o,w2,es',e⟩
     ·simp only[runN,ko e]at hr;exact(Em above fr w2 chain n sf wf h.ok.defers h.ok.fn h.oks hr hm).elim
     ·simp only[runN,jq e]at hr;cases hr
end
section
variable {P:Φ}{F:υ→Bool}{S:Sd}
theorem Hj (hC:lp P F S){above:List Δ}(h:PI P F S fr above w){fn:Func}(hr:(results fn fr.tmps).run P w=.ok v w)(τ:Tp)(d:Nat):(results fn fr.tmps).run P (w.re τ d)=.ok v (w.re τ d):=by
 cases hrun:(results fn fr.tmps).runT P w #[]with
 |mk r es=>
  have q1:=zak Prod.fst hrun;simp at q1;rw[hr]at q1;subst q1;have hid:ae P jR (VV jR) (results fn fr.tmps) (results fn fr.tmps):=by
   have:=jm (mf hC) fn fr.tmps (ox ω);rwa[map_id']at this
  have se:∀n,w.heap.size≤n→ae P (sg S S.d n) (VV (sg S S.d n)) (results fn fr.tmps) (results fn fr.tmps):=λn hn=>by
   have:=jm (mg hC n) fn fr.tmps eu;have e:fr.tmps.map (rv (sg S S.d n))=fr.tmps:=bF.2 (iJ hn h.cl);rwa[e]at this
  have hW:WR P S jR w (w.re τ d):=⟨h.wr.live,h.wr.ok,h.wr.dead,h.wr.closed,h.wr.next,h.wr.low,h.wr.big⟩;obtain⟨b,W1,es',r1,r2,_,r4,r5,_⟩:=dG (mf hC) Oh _ _ _ _ w (w.re τ d) #[] #[] _ _ _ hid se hW (λj hj=>by omega) hrun;have q2:=zak Prod.fst r1;simp at q2;have hb:b=v:=by have:=r2;unfold VV at this;rw[ox]at this;exact this
  have hs:=r5.size;have hW1:W1=w.re τ d:=by
   refine pD (Array.ext_getElem? λi=>?_) r5.tape (by have:=r5.drawn;omega) r5.os r5.output;have hsz:W1.heap.size=(w.re τ d).heap.size:=by omega
   rcases zaw i (w.re τ d).heap.size with hlt|jB
   ·by_cases ht:Touch S.d jR w i
    ·obtain⟨k,hr1,hr2,rfl⟩:=ht;have En:=r4.live _ _ hr1 (zaL hr2);have xF:=hW.live _ _ hr1 (zaL hr2);exact En.trans xF.symm
    ·exact r5.frame i hlt ht
   ·rw[zbQ (by omega),zbQ jB]
  rw[q2,hb,hW1]
theorem Oo (hC:lp P F S){Q:η→Γ→Prop}(hI:PI P F S (Δ.enter P f args .normal) [] w)
 (hc:∀τ:Tp,ύ P f args (w.re τ 0) λe w'=>∃v,e=.returned v∧Q v w')(τ:Tp):
 ∃n fr a w',mO P n (Δ.enter P f args .normal) [] (w.re τ 0) fr a w'∧(a=[]∧fr.fn=f∧∃v,Q v w'∧fr.leaving P w' (.returned v)):=by
 generalize Nv:Δ.enter P f args .normal=fr0 at hI;have h:=hc τ [c0 P];rw[Nv]at h;generalize hcs:[c0 P]=cs at h;obtain⟨e,w',fr,⟨v,he,hq⟩,hs,hfn,hl⟩:=h;subst he;have hs':Steps P (lone fr0 cs (w.re τ 0)) (lone fr cs w'):=hs;obtain⟨n,hn⟩:=hs';have TC:fr.mode=.returning:=hl.1;subst hcs;obtain⟨m,hm⟩:=CF hC n fr0 [] (w.re τ 0) fr w' (hI.re τ 0) hn TC;exact⟨m,fr,[],w',hm,rfl,hfn,v,hq,hl⟩
theorem CH (hC:lp P F S){Q:η→Γ→Prop}(hF:F f=true)(ha:∀v∈args,rv (sg S S.d w.heap.size) v=v)(hw:WR P S jR w w)(hQ:∀v w τ d,Q v w→Q v (w.re τ d))
 (hc:∀τ:Tp,ύ P f args (w.re τ 0) λe w'=>∃v,e=.returned v∧Q v w'):
 Om P (λfr above w'=>above=[]∧fr.fn=f∧∃v,Q v w'∧fr.leaving P w' (.returned v)) (Δ.enter P f args .normal) [] w:=by
 have hI:PI P F S (Δ.enter P f args .normal) [] w:=by
  refine⟨xB hC hF args,by simp,λv hv=>?_,by simp,hw⟩;have e:cv (sg S S.d w.heap.size) (Δ.enter P f args .normal)=Δ.enter P f args .normal:=by
   rw[←il,bF.2 ha]
  have:=zak Δ.tmps e;simp only[cv]at this;exact bF.1 this v hv
 have hT:=Oo hC hI hc;generalize Δ.enter P f args .normal=fr0 at hI hT ⊢;refine uT hC (λfr above w τ d hI hx=>?_) hI hT;obtain⟨e1,e2,v,hq,hl⟩:=hx;refine⟨e1,e2,v,hQ v w τ d hq,?_⟩;have hl':fr.mode=.returning∧fr.defers=[]∧fr.kind=.normal∧∃fn,P.funcs[fr.fn]?=some fn∧(results fn fr.tmps).run P w=.ok v w:=hl;obtain⟨h1,h2,h3,fn,h4,h5⟩:=hl';exact(show fr.mode=.returning∧fr.defers=[]∧fr.kind=.normal∧∃fn,P.funcs[fr.fn]?=some fn∧(results fn fr.tmps).run P (w.re τ d)=.ok v (w.re τ d) from⟨h1,h2,h3,fn,h4,Hj hC hI h5 τ d⟩)
end
structure cq (ro own:Nat→Prop) (w w₁:Γ):Prop where
 tape:w₁.tape=w.tape
 os:w₁.os=w.os
 output:w₁.output=w.output
 size:w.heap.size≤w₁.heap.size
 block:∀b,own b∨ro b→w₁.heap[b]?=w.heap[b]?
def Grow (own:Nat→Prop)(w w':Γ):Nat→Prop:=λb=>own b∨(w.heap.size≤b∧b<w'.heap.size)
def DO (ro own:Nat→Prop)(e:π):Prop:=
 match e.loc with
 |.cell a=>own a.block∨(ro a.block∧e.write=false)
 |.obj r=>own r∧e.sync=false
 |.mark m=>MOk m∧e.sync=true
 |_=>False
structure Eo (ro own:Nat→Prop) (w w':Γ) (es:Array π):Prop where
 tape:w'.tape=w.tape
 os:w'.os=w.os
 output:w'.output=w.output
 size:w.heap.size≤w'.heap.size
 block:∀b,b<w.heap.size→¬own b→w'.heap[b]?=w.heap[b]?
 evs:∀e∈es,DO ro (Grow own w w') e
inductive af (P:Φ) (main:Bool) (ro:Nat→Prop) (Stop:(Nat→Prop)→Ω→Γ→Prop):(Nat→Prop)→Ω→Γ→Prop
 |stop {own:Nat→Prop} {g:Ω} {w:Γ}:(∀w₁,cq ro own w w₁→Stop own g w₁)→af P main ro Stop own g w
 |step {own:Nat→Prop} {g:Ω} {w:Γ} (nx:Γ→Ω) (nw:Γ→Γ) (ne:Γ→Array π):g.status=.running→
   (∀w₁,cq ro own w w₁→θ P main g w₁=.go (nx w₁) (nw w₁) (ne w₁))→(∀w₁,cq ro own w w₁→Eo ro own w₁ (nw w₁) (ne w₁))→(∀w₁,cq ro own w w₁→af P main ro Stop (Grow own w₁ (nw w₁)) (nx w₁) (nw w₁))→
   af P main ro Stop own g w
section
variable {P:Φ}{F:υ→Bool}{S:Sd}{main:Bool}{ro:Nat→Prop}{Stop Ep:(Nat→Prop)→Ω→Γ→Prop}
theorem cq.refl (ro own:Nat→Prop)(w:Γ):cq ro own w w:=⟨rfl,rfl,rfl,zac _,λ_ _=>rfl⟩
theorem cq.trans {own:Nat→Prop}{a b c:Γ}(h:cq ro own a b)(k:cq ro own b c):cq ro own a c:=
 ⟨k.tape.trans h.tape,k.os.trans h.os,k.output.trans h.output,zag h.size k.size,λx hx=>(k.block x hx).trans (h.block x hx)⟩
theorem af.step' {own:Nat→Prop}(hs:g.status=.running)(h:∀w₁,cq ro own w w₁→∃g' w' es,θ P main g w₁=.go g' w' es∧Eo ro own w₁ w' es∧af P main ro Stop (Grow own w₁ w') g' w'):af P main ro Stop own g w:=by
 classical
 let X:Γ→Ω×Γ×Array π:=λw₁=>if hr:cq ro own w w₁ then(Λ (h w₁ hr),Λ (zaP (h w₁ hr)),Λ (zaP (zaP (h w₁ hr))))else default
 have hX:∀w₁,cq ro own w w₁→θ P main g w₁=.go (X w₁).1 (X w₁).2.1 (X w₁).2.2∧Eo ro own w₁ (X w₁).2.1 (X w₁).2.2∧af P main ro Stop (Grow own w₁ (X w₁).2.1) (X w₁).1 (X w₁).2.1:=λw₁ hr=>by
  simp only[X,dif_pos hr];exact zaP (zaP (zaP (h w₁ hr)))
 exact .step (λw₁=>(X w₁).1) (λw₁=>(X w₁).2.1) (λw₁=>(X w₁).2.2) hs (λw₁ hr=>(hX w₁ hr).1) (λw₁ hr=>(hX w₁ hr).2.1) (λw₁ hr=>(hX w₁ hr).2.2)
theorem af.rely {own:Nat→Prop}{g:Ω}{w w₁:Γ}(h:af P main ro Stop own g w)(hr:cq ro own w w₁):af P main ro Stop own g w₁:=by
 cases h with
 |stop h=>exact .stop λw₂ h₂=>h w₂ (hr.trans h₂)
 |step nx nw ne hs h1 h2 h3=>exact .step nx nw ne hs (λw₂ h₂=>h1 w₂ (hr.trans h₂)) (λw₂ h₂=>h2 w₂ (hr.trans h₂)) (λw₂ h₂=>h3 w₂ (hr.trans h₂))
theorem af.bind {own:Nat→Prop}(h:af P main ro Stop own g w)(hq:∀own g w,Stop own g w→af P main ro Ep own g w)(_keep:∀own g w w₁,(∀w₂,cq ro own w w₂→Stop own g w₂)→cq ro own w w₁→True:=λ_ _ _ _ _ _=>trivial):af P main ro Ep own g w:=by
 induction h with
 | @stop own g w h=>exact hq own g w (h w (cq.refl ro own w))
 |step nx nw ne hs h1 h2 _ ih=>exact .step nx nw ne hs h1 h2 ih
structure ja (P:Φ) (S:Sd) (ρ:Rn) (w W:Γ):Prop where
 wr:WR P S ρ w W
 inj:∀a b,ρ a=ρ b→a=b
 lr:Am P ρ
 f:∀x,ρ.f x=x
 qb:P.globals.size≤W.heap.size
def ek (ρ:Rn)(n N:Nat):Rn:={ b:=λr=>if r<n then ρ r else N+(r-n),f:=ρ.f,d:=ρ.d }
theorem bg (h:r<n):ek ρ n N r=ρ r:=by simp[ek,h]
theorem eC (h:n≤r):ek ρ n N r=N+(r-n):=by simp[ek];omega
theorem ja.fix (h:ja P S ρ w W):rV S ρ:=⟨λ_ _=>h.f _,h.wr.big.fg,h.wr.big.fl⟩
theorem xw.ext (h:xw P S ρ n):xw P S (ek ρ n N) n:=⟨h.d,h.g,h.r,h.p,h.dp,λg h1 h2=>by rw[bg (zaI h2 h.g)];exact h.fg g h1 h2,λg hg=>by rw[bg (zaI hg h.d)];exact h.fl g hg⟩
theorem ja.low (h:ja P S ρ w W)(hr:r<w.heap.size):ρ r<W.heap.size:=by
 rcases zaw r P.globals.size with hlt|jB
 ·have:=(h.lr r).2 hlt;have:=h.qb;omega
 ·exact h.wr.low r (zag h.wr.big.dp jB) hr
theorem Lq:(∀r,sg S S.d n r=r→ρ r=ek ρ n N r)∧∀x,(sg S S.d n).f x=x→ρ.f x=(ek ρ n N).f x:=
 ⟨λ_r hr=>(bg (bY.1 hr).2).symm,λ_x _=>rfl⟩
theorem eZ (hc:iH P S n fr)(hb:∀r,r<n→ρ r=ρ' r)(hf:∀x,ρ.f x=ρ'.f x):cv ρ fr=cv ρ' fr:=by
 unfold cv;rw[et λv hv=>agree (σ:=sg S S.d n) (λr hr=>hb r (bY.1 hr).2) (λx _=>hf x) v (hc v hv)]
theorem fw {ρ ρ':Rn}{n:Nat}(hb:∀r,r<n→ρ r=ρ' r)(hf:∀x,ρ.f x=ρ'.f x):∀{above:List Δ},(∀f∈above,iH P S n f)→above.map (cv ρ)=above.map (cv ρ')
 |[],_=>rfl
 |f::l,h=>by rw[zaB,zaB,eZ (h f (by simp)) hb hf,fw hb hf λg hg=>h g (by simp[hg])]
theorem ja.rely {ρ:Rn}{w W aS:Γ}(h:ja P S ρ w W)(hr:cq ro (Touch S.d ρ w) W aS):ja P S (ek ρ w.heap.size aS.heap.size) w aS:=by
 have rF:=Lq (S:=S) (ρ:=ρ) (n:=w.heap.size) (N:=aS.heap.size);have hsz:=hr.size;refine⟨⟨λr o jB ho=>?_,h.wr.ok,h.wr.dead,h.wr.closed,λr jB=>eC jB,λr jB hlt=>?_,h.wr.big.ext⟩,λa b e=>?_,λr=>?_,h.f,zag h.qb hsz⟩
 ·have hlt:=gg ho;rw[bg hlt,hr.block _ (.inl ⟨r,jB,hlt,rfl⟩),h.wr.live r o jB ho,tO rF.1 rF.2 (h.wr.closed r o jB ho)]
 ·rw[bg hlt];have:=h.wr.low r jB hlt;omega
 ·rcases zaw a w.heap.size with ha|ha<;>rcases zaw b w.heap.size with hb|hb
  ·rw[bg ha,bg hb]at e;exact h.inj a b e
  ·rw[bg ha,eC hb]at e;have:=h.low ha;omega
  ·rw[eC ha,bg hb]at e;have:=h.low hb;omega
  ·rw[eC ha,eC hb]at e;omega
 ·rcases zaw r w.heap.size with ha|ha
  ·rw[bg ha];exact h.lr r
  ·rw[eC ha];have:=h.qb;have:=h.wr.big.p;constructor<;>intro<;>omega
theorem dN:Touch S.d (ek ρ w.heap.size N) w=Touch S.d ρ w:=by
 funext b;refine propext ⟨?_,?_⟩
 ·rintro ⟨r,h1,h2,rfl⟩;exact⟨r,h1,h2,bg h2⟩
 ·rintro ⟨r,h1,h2,rfl⟩;exact⟨r,h1,h2,(bg h2).symm⟩
theorem xG {W1:Γ}(h:ja P S ρ w W)(hD:DM S.d ρ w w1 W W1):Touch S.d ρ w1=Grow (Touch S.d ρ w) W W1:=by
 funext b;have hs:=hD.size;have hg:=hD.gK;have hb:=h.wr.big.d;refine propext ⟨?_,?_⟩
 ·rintro ⟨r,h1,h2,rfl⟩;rcases zaw r w.heap.size with hlt|jB
  ·exact .inl ⟨r,h1,hlt,rfl⟩
  ·right;rw[h.wr.next r jB];omega
 ·rintro (⟨r,h1,h2,rfl⟩|⟨h1,h2⟩)
  ·exact⟨r,h1,by omega,rfl⟩
  ·refine⟨w.heap.size+(b-W.heap.size),by omega,by omega,?_⟩;rw[h.wr.next _ (by omega)];omega
def TD (P:Φ)(F:υ→Bool)(S:Sd)(Q:Δ→List Δ→Γ→Prop)(cs:List Δ)(kK:Rn)(n₀:Nat)(own:Nat→Prop)(g:Ω)(W:Γ):Prop:=
 ∃fr above w ρ,Q fr above w∧PI P F S fr above w∧ja P S ρ w W∧own=Touch S.d ρ w∧g=G (cv ρ fr) (above.map (cv ρ)++cs)∧n₀≤w.heap.size∧∀r,r<n₀→ρ r=kK r
theorem CI (hC:lp P F S){Q:Δ→List Δ→Γ→Prop}{above:List Δ}(hb:Om P Q fr above w):PI P F S fr above w→∀(kK:Rn) (n₀:Nat) (ρ:Rn) (W:Γ),ja P S ρ w W→n₀≤w.heap.size→(∀r,r<n₀→ρ r=kK r)→af P main ro (TD P F S Q cs kK n₀) (Touch S.d ρ w) (G (cv ρ fr) (above.map (cv ρ)++cs)) W:=by
 induction hb with
 | @stop fr above w hq=>
   intro hI kK n₀ ρ W hS hn wH;refine .stop λaS hr=>⟨fr,above,w,_,hq,hI,hS.rely hr,dN.symm,?_,hn,λr hlt=>by rw[bg (by omega)];exact wH r hlt⟩;rw[eZ hI.cl (ρ:=ρ) (ρ':=ek ρ w.heap.size aS.heap.size) (λr hlt=>(bg hlt).symm) (λ_=>rfl),fw (ρ:=ρ) (ρ':=ek ρ w.heap.size aS.heap.size) (λr hlt=>(bg hlt).symm) (λ_=>rfl) hI.cls]
 | @step fr above w nf na nw ne h1 _ ih=>
   intro hI kK n₀ ρ W hS hn wH;refine af.step' rfl λaS hr=>?_;have hS1:=hS.rely hr;generalize tW:ek ρ w.heap.size aS.heap.size=cH at hS1;have Hk:∀r,r<w.heap.size→cH r=ρ r:=λr hlt=>by rw[←tW];exact bg hlt
   have Lr:∀x,cH.f x=ρ.f x:=λx=>by rw[←tW];rfl
   have hrun:=h1 aS.tape aS.drawn;have hW:WR P S cH (w.re aS.tape aS.drawn) aS:=⟨hS1.wr.live,hS1.wr.ok,hS1.wr.dead,hS1.wr.closed,hS1.wr.next,hS1.wr.low,hS1.wr.big⟩;obtain⟨W2,es',q1,q2,q3,q4⟩:=Ol hC (ρ:=cH) ⟨λt i v a b=>hC.zero t i v a b _,hS1.inj⟩ hS1.lr hS1.fix (hI.re aS.tape aS.drawn) hW (λj _ q=>rfl) hrun;have Wy:=(eL hC (hI.re aS.tape aS.drawn) hrun).1;have X0:ja P S cH (w.re aS.tape aS.drawn) aS:=⟨hW,hS1.inj,hS1.lr,hS1.f,hS1.qb⟩;have Oq:ja P S cH (nw aS.tape aS.drawn) W2:=⟨q1,hS1.inj,hS1.lr,hS1.f,by have:=hS1.qb;have h3:=q2.size;have h4:=q2.gK;omega⟩;have hgrow:Touch S.d cH (nw aS.tape aS.drawn)=Grow (Touch S.d ρ w) aS W2:=by
    rw[xG X0 q2];have:Touch S.d cH (w.re aS.tape aS.drawn)=Touch S.d ρ w:=by
     rw[←tW];exact dN
    rw[this]
   have Nv:cv ρ fr=cv cH fr:=eZ hI.cl (λr hlt=>(Hk r hlt).symm) (λx=>(Lr x).symm);have hab:above.map (cv ρ)=above.map (cv cH):=fw (λr hlt=>(Hk r hlt).symm) (λx=>(Lr x).symm) hI.cls;refine⟨_,W2,_,by rw[Nv,hab];exact q4 main cs,⟨q2.tape,q2.os,q2.output,by have h3:=q2.size;have h4:=q2.gK;simp only[Γ.re]at h3 h4;omega,λb hb hnb=>?_,λe he=>?_⟩,?_⟩
   ·refine q2.frame b hb λht=>?_;rw[hgrow]at ht;rcases ht with h|⟨h,_⟩
    ·exact hnb h
    ·omega
   ·have:=q3 e (mem_seen he);unfold nU at this;unfold DO;rw[←hgrow];cases hl:e.loc<;>simp only[hl]at this ⊢<;>first|exact .inl this|exact this
   ·rw[←hgrow];refine ih aS.tape aS.drawn Wy kK n₀ cH W2 Oq ?_ λr hlt=>(Hk r (by omega)).trans (wH r hlt);have h4:=q2.gK;simp only[Γ.re]at h4;omega
end
section
variable {P:Φ}{F:υ→Bool}{S:Sd}{main:Bool}{ro own:Nat→Prop}{Stop Ep:(Nat→Prop)→Ω→Γ→Prop}
theorem af.mono {g:Ω}{w:Γ}(h:af P main ro Stop own g w)(hs:∀own g w,Stop own g w→Ep own g w):af P main ro Ep own g w:=by
 induction h with
 |stop h=>exact .stop λw₁ hr=>hs _ _ _ (h w₁ hr)
 |step nx nw ne hr h1 h2 _ ih=>exact .step nx nw ne hr h1 h2 ih
def Beside (ro:Nat→Prop)(Stop:(Nat→Prop)→Ω→Γ→Prop)(extra:Nat→Prop)(w₀:Γ)(JP:Nat→Prop)(g:Ω)(w:Γ):Prop:=
 ∃own',(∀b,JP b↔own' b∨extra b)∧Stop own' g w∧w₀.heap.size≤w.heap.size∧∀b,extra b∨ro b→¬own' b∧w.heap[b]?=w₀.heap[b]?
theorem cq.sub {own:Nat→Prop}{w₁:Γ}(h:cq ro own' w w₁)(hs:∀b,own b→own' b):cq ro own w w₁:=⟨h.tape,h.os,h.output,h.size,λb hb=>h.block b (hb.imp (hs b) id)⟩
theorem DO.mono {own own':Nat→Prop}{e:π}(h:DO ro own e)(hs:∀b,own b→own' b):DO ro own' e:=by
 unfold DO at h ⊢;split at h
 ·exact h.imp (hs _) id
 ·exact⟨hs _ h.1,h.2⟩
 ·exact h
 ·exact h.elim
theorem af.frame {extra:Nat→Prop}(h:af P main ro Stop own g w):(∀b,extra b∨ro b→¬own b∧b<w.heap.size)→af P main ro (Beside ro Stop extra w) (λb=>own b∨extra b) g w:=by
 induction h with
 | @stop own g w h=>
   intro hd;exact .stop λw₁ hr=>⟨own,λb=>Iff.rfl,h w₁ (hr.sub λb hb=> .inl hb),hr.size,λb hb=>⟨(hd b hb).1,hr.block b (hb.imp .inr id)⟩⟩
 | @step own g w nx nw ne hs h1 h2 h3 ih=>
   intro hd;refine .step nx nw ne hs (λw₁ hr=>h1 w₁ (hr.sub λb hb=> .inl hb)) (λw₁ hr=>?_) (λw₁ hr=>?_)
   ·have hg:=h2 w₁ (hr.sub λb hb=> .inl hb);exact⟨hg.tape,hg.os,hg.output,hg.size,λb hb hn=>hg.block b hb λx=>hn (.inl x),λe he=>(hg.evs e he).mono λb hb=>hb.imp .inl id⟩
   ·have qy:=hr.sub (own:=own) λb hb=> .inl hb;have hg:=h2 w₁ qy;have hsz:=hr.size;have aaj:=hg.size;have:=ih w₁ qy λb hb=>⟨λx=>x.elim (hd b hb).1 λy=>by have:=(hd b hb).2;omega,by have:=(hd b hb).2;omega⟩;have e:(λb=>Grow own w₁ (nw w₁) b∨extra b)=Grow (λb=>own b∨extra b) w₁ (nw w₁):=by
     funext b;unfold Grow;refine propext ⟨?_,?_⟩
     ·rintro ((x|x)|x)
      ·exact .inl (.inl x)
      ·exact .inr x
      ·exact .inl (.inr x)
     ·rintro ((x|x)|x)
      ·exact .inl (.inl x)
      ·exact .inr x
      ·exact .inl (.inr x)
    rw[e]at this;refine this.mono λJP g' w' ⟨own',k1,k2,k0,k3⟩=>⟨own',k1,k2,by omega,λb hb=>⟨(k3 b hb).1,?_⟩⟩;rw[(k3 b hb).2,hg.block b (by have:=(hd b hb).2;omega) (hd b hb).1,hr.block b (hb.imp .inr id)]
end
section
variable {P:Φ}{F:υ→Bool}{S:Sd}{main:Bool}{ro:Nat→Prop}
class Shut (P:Φ) (S:Sd):Prop where
 d:S.d=P.globals.size
 g:S.g≤P.globals.size
def Hl (P:Φ)(W:Γ):Γ:={ W with heap:=Array.replicate P.globals.size iE }
theorem oy (W:Γ):(Hl P W).heap.size=P.globals.size:=by simp[Hl]
theorem Ot [Z:Shut P S](W:Γ)(hd:ρ.d≤P.globals.size)(hi:∀r,r<P.globals.size→ρ r=r)(hn:∀r:Nat,P.globals.size≤r→ρ r=W'.heap.size+(r-P.globals.size)):WR P S ρ (Hl P W) W':=by
 have hs:=oy (P:=P) W;have hZ:=Z.d;have hG:=Z.g;refine⟨λr o jB ho=>?_,λr o ho=>?_,λr hr=>?_,λr o jB ho=>?_,λr hr=>by rw[hs]at hr ⊢;exact hn r hr,λr h1 h2=>by omega,⟨by omega,by omega,by omega,by omega,by omega,λg h1 h2=>hi g (by omega),λg h1=> .inr (hi g (by omega))⟩⟩
 ·have:=gg ho;omega
 ·have hlt:=gg ho;simp only[Hl,Array.getElem?_replicate]at ho;split at ho
  ·cases ho;trivial
  ·cases ho
 ·simp only[Hl,Array.getElem?_replicate,zab (show r<P.globals.size by omega)]
 ·have:=gg ho;omega
theorem JQ [Shut P S](hb:P.globals.size≤W.heap.size):ja P S (ek jR P.globals.size W.heap.size) (Hl P W) W:=by
 refine⟨Ot W (zaq _) (λr hr=>bg hr) λr hr=>eC hr,λa b e=>?_,λr=>?_,λ_=>rfl,hb⟩
 ·rcases zaw a P.globals.size with ha|ha<;>rcases zaw b P.globals.size with hb'|hb'
  ·rw[bg ha,bg hb']at e;exact e
  ·rw[bg ha,eC hb']at e;have:jR.b a=a:=rfl;omega
  ·rw[eC ha,bg hb']at e;have:jR.b b=b:=rfl;omega
  ·rw[eC ha,eC hb']at e;omega
 ·rcases zaw r P.globals.size with ha|ha
  ·rw[bg ha];exact Iff.rfl
  ·rw[eC ha];constructor<;>intro<;>omega
theorem Ls (hC:lp P F S)(hI:PI P F S fr [] w)(hS:ja P S ρ w W)(hl:fr.leaving P w (.returned v))(hv:gq v)(c:Δ)(cs:List Δ):∃es,θ P main (G (cv ρ fr) (c::cs)) W=.go (G (c.finish v) cs) W es∧∀e∈es,nU S.d ρ w e:=by
 have hl':fr.mode=.returning∧fr.defers=[]∧fr.kind=.normal∧∃fn,P.funcs[fr.fn]?=some fn∧(results fn fr.tmps).run P w=.ok v w:=hl;obtain⟨h1,h2,h3,fn,h4,h5⟩:=hl';have hp:Plain P ρ:=⟨λt i v a b=>hC.zero t i v a b _,hS.inj⟩;cases hrun:(results fn fr.tmps).runT P w #[]with
 |mk r es=>
  have q1:=zak Prod.fst hrun;simp at q1;rw[h5]at q1;subst q1;have se:∀n,w.heap.size≤n→ae P (sg S S.d n) (VV (sg S S.d n)) (results fn fr.tmps) (results fn fr.tmps):=λn hn=>by
   have:=jm (mg hC n) fn fr.tmps eu;have e:fr.tmps.map (rv (sg S S.d n))=fr.tmps:=bF.2 (iJ hn hI.cl);rwa[e]at this
  obtain⟨b,W1,es',r1,r2,_,r4,r5,r6⟩:=dG hp (λo=> .inl hS.lr) _ _ _ _ w W #[] #[] _ _ _ (jm hp fn fr.tmps eu) se hS.wr (λj hj=>by omega) hrun;have hb:b=v:=by have:=r2;unfold VV at this;rw[hv ρ]at this;exact this
  have hs:=r5.size;have hW1:W1=W:=by
   refine pD (Array.ext_getElem? λi=>?_) r5.tape (by have:=r5.drawn;omega) r5.os r5.output;rcases zaw i W.heap.size with hlt|jB
   ·by_cases ht:Touch S.d ρ w i
    ·obtain⟨k,hr1,hr2,rfl⟩:=ht;have En:=r4.live _ _ hr1 (zaL hr2);have xF:=hS.wr.live _ _ hr1 (zaL hr2);exact En.trans xF.symm
    ·exact r5.frame i hlt ht
   ·rw[zbQ (by omega),zbQ jB]
  subst hb hW1;have cG:kJ P F S (cv ρ fr):=⟨hI.ok.defers,hI.ok.mode,hI.ok.kind,hI.ok.round,hI.ok.todo,hI.ok.fn⟩;have hps:(ba P (cv ρ fr) [c]).runT P W1 #[]=(.ok (c.finish b,[]) W1,es'):=by
   have hm:(cv ρ fr).mode=.returning:=h1;have hf:P.funcs[(cv ρ fr).fn]?=some fn:=h4;unfold ba;rw[hm];simp only[hf];rw[bO];have:(results fn (cv ρ fr).tmps).runT P W1 #[]=(.ok b W1,es'):=r1;rw[this];rfl
  have hst:=mN (main:=main) (cs:=cs) cG hps;refine⟨_,hst,λe he=>?_⟩;rcases r6 e (mem_seen he)with h|h
  ·simp at h
  ·exact h
theorem pE {e:π}(h:nU S.d ρ w e):DO ro (Touch S.d ρ w) e:=by
 unfold nU at h;unfold DO;cases hl:e.loc<;>simp only[hl]at h ⊢<;>first|exact .inl h|exact h
theorem xH [Z:Shut P S](hC:lp P F S)(hF:F f=true)(ha:∀v∈args,gq v){Qv:η→Prop}(hv:∀v,Qv v→gq v)(hb:P.globals.size≤W.heap.size)
 (hc:∀w:Γ,w.heap=Array.replicate P.globals.size iE→w.os=W.os→w.output=W.output→ύ P f args w λe _=>∃v,e=.returned v∧Qv v)(c:Δ)(cs:List Δ):
 af P main ro (λ_ g _=>∃v,Qv v∧g=G (c.finish v) cs) (λ_=>False) (G (Δ.enter P f args .normal) (c::cs)) W:=by
 have hw:WR P S jR (Hl P W) (Hl P W):=Ot W (zaq _) (λ_ _=>rfl) λr hr=>by rw[oy];show r=_;omega
 have X1:=CH (Q:=λv _=>Qv v) hC hF (w:=Hl P W) (args:=args) (λv hv'=>ha v hv' _) hw (λ_ _ _ _ h=>h) λτ=>hc _ rfl rfl rfl;have hI:PI P F S (Δ.enter P f args .normal) [] (Hl P W):=by
  refine⟨xB hC hF args,by simp,λv hv'=>?_,by simp,hw⟩;have e:cv (sg S S.d (Hl P W).heap.size) (Δ.enter P f args .normal)=Δ.enter P f args .normal:=by
   rw[←il,bF.2 λv hv'=>ha v hv' _]
  have:=zak Δ.tmps e;simp only[cv]at this;exact bF.1 this v hv'
 have hS:=JQ (S:=S) hb;have key:=CI (main:=main) (ro:=ro) (cs:=c::cs) hC X1 hI (ek jR P.globals.size W.heap.size) 0 _ W hS (by omega) (λr hr=>by omega);have e1:cv (ek jR P.globals.size W.heap.size) (Δ.enter P f args .normal)=Δ.enter P f args .normal:=by
  rw[←il,bF.2 λv hv'=>ha v hv' _]
 have e2:Touch S.d (ek jR P.globals.size W.heap.size) (Hl P W)=λ_=>False:=by
  funext b;refine propext ⟨?_,False.elim⟩;rintro ⟨r,h1,h2,_⟩;rw[oy]at h2;rw[Z.d]at h1;omega
 rw[e1,e2]at key;refine af.bind key λown g W' hst=>?_;obtain⟨fr,above,w,ρ,⟨rfl,_,v,hq,hl⟩,hI',TE,rfl,rfl,_,_⟩:=hst;refine af.step' rfl λaS hr=>?_;have hS1:=TE.rely hr;obtain⟨es,hstep,iG⟩:=Ls (main:=main) hC hI' hS1 hl (hv v hq) c cs;have Nv:cv ρ fr=cv (ek ρ w.heap.size aS.heap.size) fr:=eZ hI'.cl (λr hlt=>(bg hlt).symm) (λ_=>rfl);refine⟨_,aS,es,by rw[Nv];exact hstep,⟨rfl,rfl,rfl,zac _,λ_ _ _=>rfl,λe he=>?_⟩,.stop λ_ _=>⟨v,hq,rfl⟩⟩;have:=pE (ro:=ro) (iG e he);rw[dN]at this;exact this.mono λb hb=> .inl hb
end
section
variable {P:Φ}{main:Bool}{ro own:Nat→Prop}{Stop:(Nat→Prop)→Ω→Γ→Prop}{g:Ω}{w:Γ}
theorem tX (own:Nat→Prop){w:Γ}(h:w'.heap.size=w.heap.size):Grow own w w'=own:=by
 funext b;unfold Grow;refine propext ⟨λx=>x.elim id λy=>by omega,.inl⟩
theorem af.silent {g':Ω}(hs:g.status=.running)(h:∀w₁,θ P main g w₁=.go g' w₁ #[])(k:af P main ro Stop own g' w):af P main ro Stop own g w:=
 af.step' hs λw₁ hr=>⟨g',w₁,#[],h w₁,⟨rfl,rfl,rfl,zac _,λ_ _ _=>rfl,by simp⟩,by rw[tX own rfl];exact k.rely hr⟩
end
section
variable {P:Φ}{F:υ→Bool}{S:Sd}{main:Bool}{ro own:Nat→Prop}{Stop:(Nat→Prop)→Ω→Γ→Prop}{w W:Γ}{ρ:Rn}{b:Δ}{a:Act}{ops:Array Oper}{i:Nat}{rest:List Nat}{o:Oper}{kk:List Item}{cs:List Δ}
structure qc (ro own:Nat→Prop) (W:Γ):Prop where
 lt:∀b,own b∨ro b→b<W.heap.size
 ap:∀b,ro b→¬own b
theorem qc.grow {aS:Γ}(h:qc ro own W)(h1:W.heap.size≤aS.heap.size)(h2:aS.heap.size≤W'.heap.size):qc ro (Grow own aS W') W':=
 ⟨λb hb=>by
   rcases hb with(hb|hb)|hb
   ·have:=h.lt b (.inl hb);omega
   ·exact hb.2
   ·have:=h.lt b (.inr hb);omega,λb hb hg=>by
   rcases hg with hg|hg
   ·exact h.ap b hb hg
   ·have:=h.lt b (.inr hb);omega⟩
theorem af.bounded (h:af P main ro Stop own g w):(∀b,own b→b<w.heap.size)→af P main ro (λown g w=>Stop own g w∧∀b,own b→b<w.heap.size) own g w:=by
 induction h with
 | @stop own g w h=>intro hb;exact .stop λw₁ hr=>⟨h w₁ hr,λb hx=>by have:=hb b hx;have:=hr.size;omega⟩
 | @step own g w nx nw ne hs h1 h2 _ ih=>
   intro hb;refine .step nx nw ne hs h1 h2 λw₁ hr=>ih w₁ hr λb hx=>?_;have h3:=(h2 w₁ hr).size;have h4:=hr.size;rcases hx with hx|hx
   ·have:=hb b hx;omega
   ·exact hx.2
theorem af.call' [Shut P S](hC:lp P F S)(hF:F f=true)(ha:∀v∈args,gq v){Qv:η→Prop}(hv:∀v,Qv v→gq v){c:Δ}
 (hs:g.status=.running)(hst:∀w₁,θ P main g w₁=.go (G (Δ.enter P f args .normal) (c::cs)) w₁ #[])(hb:P.globals.size≤w.heap.size)(hH:qc ro own w)
 (hc:∀w':Γ,w'.heap=Array.replicate P.globals.size iE→ύ P f args w' λe _=>∃v,e=.returned v∧Qv v)
 (k:∀v w' own',Qv v→(∀b,own b→own' b)→qc ro own' w'→(∀b,own b∨ro b→w'.heap[b]?=w.heap[b]?)→w.heap.size≤w'.heap.size→af P main ro Stop own' (G (c.finish v) cs) w'):af P main ro Stop own g w:=by
 refine af.silent hs hst ?_;have h1:=((xH (main:=main) (ro:=ro) hC hF ha hv hb (λw' e _ _=>hc w' e) c cs).bounded (λ_ h=>h.elim)).frame (extra:=own) (λb hb=>⟨λh=>h,hH.lt b hb⟩);have e:(λb=>False∨own b)=own:=by funext b;exact propext ⟨λh=>h.elim False.elim id,.inr⟩
 rw[e]at h1;refine af.bind h1 λJP g' w' ⟨own',k1,⟨⟨v,hq,hg⟩,k4⟩,k2,k3⟩=>?_;subst hg;refine k v w' JP hq (λb hb=>(k1 b).2 (.inr hb)) ⟨λb hb=>?_,λb hr hb=>?_⟩ (λb hb=>(k3 b hb).2) k2
 ·rcases hb with hb|hb
  ·rcases(k1 b).1 hb with h|h
   ·exact k4 b h
   ·have:=hH.lt b (.inl h);omega
  ·have:=hH.lt b (.inr hb);omega
 ·rcases(k1 b).1 hb with h|h
  ·exact(k3 b (.inr hr)).1 h
  ·exact hH.ap b hr h
theorem ja.grow {aS:Γ}(h:ja P S ρ w W)(hs:W.heap.size≤aS.heap.size)(hb:∀b,Touch S.d ρ w b→aS.heap[b]?=W.heap[b]?):ja P S (ek ρ w.heap.size aS.heap.size) w aS:=by
 have h':ja P S ρ w { W with tape:=aS.tape,os:=aS.os,output:=aS.output }:=⟨⟨h.wr.live,h.wr.ok,h.wr.dead,h.wr.closed,h.wr.next,h.wr.low,h.wr.big⟩,h.inj,h.lr,h.f,h.qb⟩;exact h'.rely (ro:=λ_=>False) ⟨rfl,rfl,rfl,hs,λb hx=>hx.elim (hb b) False.elim⟩
def Cl (_P:Φ)(S:Sd)(w:Γ)(v:η):Prop:=rv (sg S S.d w.heap.size) v=v
theorem Cl.agree (h:Cl P S w v)(hb:∀r,r<w.heap.size→ρ' r=ρ r)(hf:∀x,ρ'.f x=ρ.f x):rv ρ' v=rv ρ v:=
 Go.Ren.agree (σ:=sg S S.d w.heap.size) (λr hr=>hb r (bY.1 hr).2) (λx _=>hf x) v h
theorem Cl.mono {w':Γ}{v:η}(h:Cl P S w v)(hs:w.heap.size≤w'.heap.size):Cl P S w' v:=eY (dY hs).1 (dY hs).2 v h
def fL (f:Nat→η):ϊ→η
 |.tmp t=>f t
 |.const v=>v
 |.global g=> .pointer (some ⟨g,0,none⟩)
 |.func f=> .func (.func f) #[] #[]
theorem Ou (hx:gD S x=true)(hf:rV S ρ):fL (λt=>rv ρ (T t)) x=rv ρ (fL T x):=by
 cases x with
 |tmp t=>rfl
 |const v=>simp only[gD]at hx;exact(ik hx ρ).symm
 |global g=>
  simp only[gD,zae,zaK]at hx;simp[fL,rv,ra,hf.g g hx.1 hx.2]
 |func f=>simp[fL,rv,hf.f f hx]
theorem JR (hn:S.g≤n)(hT:∀t,rv (sg S S.d n) (T t)=T t)(hx:gD S x=true):rv (sg S S.d n) (fL T x)=fL T x:=by
 cases x with
 |tmp t=>exact hT t
 |const v=>simp only[gD]at hx;exact ik hx _
 |global g=>
  simp only[gD,zae,zaK]at hx;have:(sg S S.d n) g=g:=bY.2 ⟨hx.1,by omega⟩;simp[fL,rv,ra,this]
 |func f=>
  simp only[fL,rv];have:(sg S S.d n).f (.func f)=.func f:=iD.2 ⟨f,rfl,hx⟩;simp[this]
theorem JS (hC:lp P F S)(cG:fo P F S o.op=true)(hT:∀t,Cl P S w (T t))(hS:ja P S ρ w W){nx:Next}
 (hrun:(Ξ (fL T) o).run P (w.re W.tape W.drawn)=.ok nx w'):
 ∃Ty W' es,(Ξ (fL λt=>rv ρ (T t)) o).runT P W #[]=(.ok Ty W',es)∧NN F ρ nx Ty∧NN F (sg S S.d w'.heap.size) nx nx∧ja P S ρ w' W'∧DM S.d ρ (w.re W.tape W.drawn) w' W W'∧∀e∈es,nU S.d ρ w' e:=by
 have hp:Plain P ρ:=⟨λt i v a b=>hC.zero t i v a b _,hS.inj⟩;have hfv:∀x,gD S x=true→FV S ((fL T) x):=λx hx=>jo (JR (n:=w.heap.size) hS.wr.big.g hT hx);have e1:=ou (P:=P) (F:=F) (S:=S) (ρ:=ρ) (ev:=(fL T)) (ev':=(fL λt=>rv ρ (T t))) hp hS.fix hC.SF hC.fn o cG (λx hx=>Ou hx hS.fix) (λx _=> .inl hS.lr) hfv (λ_=>rfl) (λ_=>rfl) (λ_=>rfl) (λ_=>rfl);have e2:∀n,(w.re W.tape W.drawn).heap.size≤n→ae P (sg S S.d n) (NN F (sg S S.d n)) (Ξ (fL T) o) (Ξ (fL T) o):=λn hn=>by
  have hT':∀t,rv (sg S S.d n) (T t)=T t:=λt=>eY (dY hn).1 (dY hn).2 _ (hT t);exact ou (mg hC n) (wC (zag hS.wr.big.g hn)) hC.SF hC.fn o cG (λx hx=>(JR (zag hS.wr.big.g hn) hT' hx).symm) (λx hx=> .inr (JR (zag hS.wr.big.g hn) hT' hx)) hfv (λ_=>rfl) (λ_=>rfl) (λ_=>rfl) (λ_=>rfl)
 cases hrt:(Ξ (fL T) o).runT P (w.re W.tape W.drawn) #[]with
 |mk r es=>
  have q1:=zak Prod.fst hrt;simp at q1;rw[hrun]at q1;subst q1;have hW:WR P S ρ (w.re W.tape W.drawn) W:=⟨hS.wr.live,hS.wr.ok,hS.wr.dead,hS.wr.closed,hS.wr.next,hS.wr.low,hS.wr.big⟩;obtain⟨Ty,W',es',r1,r2,r3,r4,r5,r6⟩:=dG hp (λo=> .inl hS.lr) _ _ _ (λn=>NN F (sg S S.d n)) (w.re W.tape W.drawn) W #[] #[] _ _ _ e1 e2 hW (λj _ q=>rfl) hrt;exact⟨Ty,W',es',r1,r2,r3 _ (zac _),⟨r4,hS.inj,hS.lr,hS.f,by have h1:=r5.size;have h2:=r5.gK;have:=hS.qb;omega⟩,r5,λe he=>(r6 e he).resolve_left (by simp)⟩
theorem af.JU (hC:lp P F S)(cG:fo P F S o.op=true)(ho:ops[i]?=some o)(hw:ζ o (ξ ops a.tmps)=true)(hk:b.kind≠.early)(hT:∀t,Cl P S w (T t))(hS:ja P S ρ w W)(hown:∀x,Touch S.d ρ w x→own x)
 (hx:Ξ a.eval o=Ξ (fL λt=>rv ρ (T t)) o){Q:η→Γ→Prop}(hrun:∀τ d,∃v w',(Ξ (fL T) o).run P (w.re τ d)=.ok (.value v) w'∧Q v w')
 (k:∀v w' ρ' W' own',Q v w'→ja P S ρ' w' W'→(∀r,r<w.heap.size→ρ' r=ρ r)→w.heap.size≤w'.heap.size→Cl P S w' v→(∀x,Touch S.d ρ' w' x→own' x)→(∀x,own x→own' x)→
   (∀x,ro x→W'.heap[x]?=W.heap[x]?)→qc ro own' W'→af P main ro Stop own' (G (b.at (a.put o.dst (rv ρ' v)) (.inRegion ops rest::kk)) cs) W')(hro:qc ro own W):
 af P main ro Stop own (G (b.at a (.inRegion ops (i::rest)::kk)) cs) W:=by
 refine af.step' rfl λaS hr=>?_;have hS1:=hS.grow hr.size λx hx=>hr.block x (.inl (hown x hx));generalize tW:ek ρ w.heap.size aS.heap.size=cH at hS1;have hlt:∀r,r<w.heap.size→cH r=ρ r:=λr h=>by rw[←tW];exact bg h
 have hf:∀x,cH.f x=ρ.f x:=λx=>by rw[←tW];rfl
 obtain⟨v,w',hv,hq⟩:=hrun aS.tape aS.drawn;obtain⟨Ty,W',es,r1,r2,r3,r4,r5,r6⟩:=JS hC cG hT hS1 hv;have qa:Ty=.value (rv cH v):=r2;subst qa;have fK:Cl P S w' v:=by
  have:Next.value v=.value (rv (sg S S.d w'.heap.size) v):=r3;exact(Next.value.inj this).symm
 have hTe:(λt=>rv ρ (T t))=λt=>rv cH (T t):=funext λt=>((hT t).agree hlt hf).symm;have Ov:(Ξ a.eval o).run P aS=.ok (.value (rv cH v)) W':=by
  rw[hx,hTe];have:=zak Prod.fst r1;simpa using this
 have iG:(Ξ a.eval o).events P aS #[]=es:=by
  rw[hx,hTe];have:=zak Prod.snd r1;simpa using this
 have hsz:=r5.size;have Hm:=r5.gK;simp only[Γ.re]at hsz Hm;have ia:∀x,Touch S.d cH w' x→Grow own aS W' x:=by
  rintro x ⟨r,h1,h2,rfl⟩;rcases zaw r w.heap.size with h3|h3
  ·exact .inl (hown _ ⟨r,h1,h3,by rw[hlt r h3]⟩)
  ·right;rw[hS1.wr.next r h3];omega
 have hnt:∀x,x<aS.heap.size→¬own x→W'.heap[x]?=aS.heap[x]?:=λx h1 h2=>r5.frame x h1 λht=>by
  rcases ia x ht with h|⟨h,_⟩
  ·exact h2 h
  ·omega
 refine⟨_,W',_,stepG_value ho hw hk Ov,⟨r5.tape,r5.os,r5.output,by omega,hnt,λe he=>?_⟩,k v w' cH W' _ hq r4 hlt Hm fK ia (λx hx=> .inl hx) (λx hx=>?_) (hro.grow hr.size (by omega))⟩
 ·unfold listed at he;rw[iG]at he;have:=pE (ro:=ro) (r6 e (mem_seen he));exact this.mono ia
 ·have h1:=hro.lt x (.inr hx);have h2:=hr.size;rw[hnt x (by omega) (hro.ap x hx),hr.block x (.inr hx)]
theorem af.opn (hC:lp P F S)(cG:fo P F S o.op=true)(ho:ops[i]?=some o)(hw:ζ o (ξ ops a.tmps)=true)(hk:b.kind≠.early)(hT:∀t,Cl P S w (T t))(hS:ja P S ρ w W)(hown:∀x,Touch S.d ρ w x→own x)
 (hx:Ξ a.eval o=Ξ (fL λt=>rv ρ (T t)) o){Q:Γ→Prop}(hrun:∀τ d,∃w',(Ξ (fL T) o).run P (w.re τ d)=.ok .skip w'∧Q w')
 (k:∀w' ρ' W' own',Q w'→ja P S ρ' w' W'→(∀r,r<w.heap.size→ρ' r=ρ r)→w.heap.size≤w'.heap.size→(∀x,Touch S.d ρ' w' x→own' x)→(∀x,own x→own' x)→
   (∀x,ro x→W'.heap[x]?=W.heap[x]?)→qc ro own' W'→af P main ro Stop own' (G (b.at (a.put o.dst ω) (.inRegion ops rest::kk)) cs) W')(hro:qc ro own W):
 af P main ro Stop own (G (b.at a (.inRegion ops (i::rest)::kk)) cs) W:=by
 refine af.step' rfl λaS hr=>?_;have hS1:=hS.grow hr.size λx hx=>hr.block x (.inl (hown x hx));generalize tW:ek ρ w.heap.size aS.heap.size=cH at hS1;have hlt:∀r,r<w.heap.size→cH r=ρ r:=λr h=>by rw[←tW];exact bg h
 have hf:∀x,cH.f x=ρ.f x:=λx=>by rw[←tW];rfl
 obtain⟨w',hv,hq⟩:=hrun aS.tape aS.drawn;obtain⟨Ty,W',es,r1,r2,r3,r4,r5,r6⟩:=JS hC cG hT hS1 hv;have qa:Ty=.skip:=r2;subst qa;have hTe:(λt=>rv ρ (T t))=λt=>rv cH (T t):=funext λt=>((hT t).agree hlt hf).symm;have Ov:(Ξ a.eval o).run P aS=.ok .skip W':=by
  rw[hx,hTe];have:=zak Prod.fst r1;simpa using this
 have iG:(Ξ a.eval o).events P aS #[]=es:=by
  rw[hx,hTe];have:=zak Prod.snd r1;simpa using this
 have hsz:=r5.size;have Hm:=r5.gK;simp only[Γ.re]at hsz Hm;have ia:∀x,Touch S.d cH w' x→Grow own aS W' x:=by
  rintro x ⟨r,h1,h2,rfl⟩;rcases zaw r w.heap.size with h3|h3
  ·exact .inl (hown _ ⟨r,h1,h3,by rw[hlt r h3]⟩)
  ·right;rw[hS1.wr.next r h3];omega
 have hnt:∀x,x<aS.heap.size→¬own x→W'.heap[x]?=aS.heap[x]?:=λx h1 h2=>r5.frame x h1 λht=>by
  rcases ia x ht with h|⟨h,_⟩
  ·exact h2 h
  ·omega
 refine⟨_,W',_,stepG_none ho hw hk Ov,⟨r5.tape,r5.os,r5.output,by omega,hnt,λe he=>?_⟩,k w' cH W' _ hq r4 hlt Hm ia (λx hx=> .inl hx) (λx hx=>?_) (hro.grow hr.size (by omega))⟩
 ·unfold listed at he;rw[iG]at he;have:=pE (ro:=ro) (r6 e (mem_seen he));exact this.mono ia
 ·have h1:=hro.lt x (.inr hx);have h2:=hr.size;rw[hnt x (by omega) (hro.ap x hx),hr.block x (.inr hx)]
end
section
variable {P:Φ}{F:υ→Bool}{S:Sd}{main:Bool}{ro own:Nat→Prop}{Stop:(Nat→Prop)→Ω→Γ→Prop}{w W:Γ}{ρ:Rn}{b:Δ}{a:Act}{ops:Array Oper}{i:Nat}{rest:List Nat}{o:Oper}{kk:List Item}{cs:List Δ}
theorem ja.acI {w₂:Γ}(h:ja P S ρ w W)(e:w₂.heap=w.heap):ja P S ρ w₂ W:=by
 obtain⟨⟨h1,h2,h3,h4,h5,h6,h7⟩,g1,g2,g3,g4⟩:=h;exact⟨⟨by rw[e];exact h1,by rw[e];exact h2,by rw[e];exact h3,by rw[e];exact h4,by rw[e];exact h5,by rw[e];exact h6,by rw[e];exact h7⟩,g1,g2,g3,g4⟩
theorem bV (w:Γ)(o:Obj):(w.alloc o).heap.size=w.heap.size+1:=by show(w.heap.push o).size=_;simp
structure At (P:Φ) (S:Sd) (ro:Nat→Prop) (ρ:Rn) (w W:Γ) (own:Nat→Prop):Prop where
 vG:ja P S ρ w W
 Wz:∀x,Touch S.d ρ w x→own x
 hold:qc ro own W
structure On (ro:Nat→Prop) (ρ:Rn) (w W:Γ) (own:Nat→Prop) (ρ':Rn) (W':Γ) (own':Nat→Prop):Prop where
 agree:∀r,r<w.heap.size→ρ' r=ρ r
 own:∀x,own x→own' x
 ro:∀x,ro x→W'.heap[x]?=W.heap[x]?
theorem Er (h:ja P S ρ w W)(h':ja P S ρ' w' W'):∀x,ρ'.f x=ρ.f x:=λx=>by rw[h.f,h'.f]
theorem af.Ow (hC:lp P F S)(cG:fo P F S o.op=true)(ho:ops[i]?=some o)(hw:ζ o (ξ ops a.tmps)=true)(hk:b.kind≠.early)(hT:∀t,Cl P S w (T t))(hA:At P S ro ρ w W own)
 (hx:Ξ a.eval o=Ξ (fL λt=>rv ρ (T t)) o){v:Γ→η}{o':Γ→Γ}(hrun:∀τ d,(Ξ (fL T) o).run P (w.re τ d)=.ok (.value (v (w.re τ d))) (o' (w.re τ d)))
 (k:∀(w₀:Γ) ρ' W' own',w₀.heap=w.heap→At P S ro ρ' (o' w₀) W' own'→On ro ρ w W own ρ' W' own'→Cl P S (o' w₀) (v w₀)→af P main ro Stop own' (G (b.at (a.put o.dst (rv ρ' (v w₀))) (.inRegion ops rest::kk)) cs) W'):
 af P main ro Stop own (G (b.at a (.inRegion ops (i::rest)::kk)) cs) W:=
 af.JU hC cG ho hw hk hT hA.vG hA.Wz hx (Q:=λx w'=>∃τ d,x=v (w.re τ d)∧w'=o' (w.re τ d)) (λτ d=>⟨_,_,hrun τ d,τ,d,rfl,rfl⟩)
  (λx w' ρ' W' own' hq hS h1 _ h3 h4 h5 h6 h7=>by
    obtain⟨τ,d,rfl,rfl⟩:=hq;exact k (w.re τ d) ρ' W' own' rfl ⟨hS,h4,h7⟩ ⟨h1,h5,h6⟩ h3) hA.hold
theorem af.acJ (hC:lp P F S)(cG:fo P F S o.op=true)(ho:ops[i]?=some o)(hw:ζ o (ξ ops a.tmps)=true)(hk:b.kind≠.early)(hT:∀t,Cl P S w (T t))(hA:At P S ro ρ w W own)
 (hx:Ξ a.eval o=Ξ (fL λt=>rv ρ (T t)) o){o':Γ→Γ}(hrun:∀τ d,(Ξ (fL T) o).run P (w.re τ d)=.ok .skip (o' (w.re τ d)))
 (k:∀(w₀:Γ) ρ' W' own',w₀.heap=w.heap→At P S ro ρ' (o' w₀) W' own'→On ro ρ w W own ρ' W' own'→af P main ro Stop own' (G (b.at (a.put o.dst ω) (.inRegion ops rest::kk)) cs) W'):
 af P main ro Stop own (G (b.at a (.inRegion ops (i::rest)::kk)) cs) W:=
 af.opn hC cG ho hw hk hT hA.vG hA.Wz hx (Q:=λw'=>∃τ d,w'=o' (w.re τ d)) (λτ d=>⟨_,hrun τ d,τ,d,rfl⟩)
  (λw' ρ' W' own' hq hS h1 _ h4 h5 h6 h7=>by
    obtain⟨τ,d,rfl⟩:=hq;exact k (w.re τ d) ρ' W' own' rfl ⟨hS,h4,h7⟩ ⟨h1,h5,h6⟩) hA.hold
theorem af.mv (ho:ops[i]?=some o)(hw:ζ o (ξ ops a.tmps)=true)(hk:b.kind≠.early)(hdd:o.dst=dd)(hop:o.op=.move x∨o.op=.assign x)(hv:a.eval x=v)
 (k:af P main ro Stop own (G (b.at (a.put dd v) (.inRegion ops rest::kk)) cs) W):af P main ro Stop own (G (b.at a (.inRegion ops (i::rest)::kk)) cs) W:=by
 subst hdd;subst hv;refine af.silent rfl (λw₁=>?_) k;have hr:(Ξ a.eval o).run P w₁=.ok (.value (a.eval x)) w₁:=by
  unfold Ξ;rcases hop with h|h<;>simp[h]
 have he:(Ξ a.eval o).events P w₁ #[]=#[]:=by
  unfold Ξ;rcases hop with h|h<;>simp[h]
 rw[stepG_value ho hw hk hr,listed_none he]
theorem af.aak (ho:ops[i]?=some o)(hw:ζ o (ξ ops a.tmps)=true)(hk:b.kind≠.early)(hdd:o.dst=dd){j:Nat}(hop:o.op=.extract x j){vs:Array η}(hx:a.eval x=.tuple vs)(hv:vs[j]?=some v)
 (k:af P main ro Stop own (G (b.at (a.put dd v) (.inRegion ops rest::kk)) cs) W):af P main ro Stop own (G (b.at a (.inRegion ops (i::rest)::kk)) cs) W:=by
 subst hdd;refine af.silent rfl (λw₁=>?_) k;have hr:(Ξ a.eval o).run P w₁=.ok (.value v) w₁:=by
  unfold Ξ;simp[hop,hx,Instr.extract,hv]
 have he:(Ξ a.eval o).events P w₁ #[]=#[]:=by
  unfold Ξ;simp[hop,hx,Instr.extract,hv]
 rw[stepG_value ho hw hk hr,listed_none he]
theorem af.Ox (hC:lp P F S)(ho:ops[i]?=some o)(hw:ζ o (ξ ops a.tmps)=true)(hk:b.kind≠.early)(hdd:o.dst=dd)(hop:o.op=.alloc e){ti:TypeInfo}{z:η}(hi:P.info? e=some ti)(hz:ti.zero=some z)(hA:At P S ro ρ w W own)
 (k:∀(w₀:Γ) ρ' W' own',w₀.heap=w.heap→At P S ro ρ' (w₀.alloc (.cells z.cells e)) W' own'→On ro ρ w W own ρ' W' own'→af P main ro Stop own' (G (b.at (a.put dd (.pointer (some ⟨ρ' w.heap.size,0,none⟩))) (.inRegion ops rest::kk)) cs) W'):
 af P main ro Stop own (G (b.at a (.inRegion ops (i::rest)::kk)) cs) W:=by
 subst hdd;exact af.Ow hC (by rw[hop];rfl) ho hw hk (T:=λ_=>ω) (λ_=>eu) hA (by unfold Ξ;rw[hop]) (v:=λ_=> .pointer (some ⟨w.heap.size,0,none⟩)) (o':=λw₀=>w₀.alloc (.cells z.cells e))
  (λτ d=>by unfold Ξ;simp[hop,Instr.alloc,zeroValue,typeInfo,hi,hz,newVar,newRow,Γ.re])
  (λw₀ ρ' W' own' e0 hA' hO _=>by
    have:rv ρ' (.pointer (some ⟨w.heap.size,0,none⟩))=.pointer (some ⟨ρ' w.heap.size,0,none⟩):=by simp[rv,ra]
    rw[this];exact k w₀ ρ' W' own' e0 hA' hO)
theorem af.storeT (hC:lp P F S)(ho:ops[i]?=some o)(hw:ζ o (ξ ops a.tmps)=true)(hk:b.kind≠.early)(hdd:o.dst=dd){t:Tmp}(hst:s≠t)(hop:o.op=.store e (.tmp s) (.tmp t)){c':Array η}(hi:(P.info? e).map (·.size)=some c'.size)(hs:c.size=c'.size)(h1:c'.all (·.oneCell')=true)
 (hA:At P S ro ρ (w.alloc (.cells c e)) W own)(hp:a.eval (.tmp s)=.pointer (some ⟨ρ w.heap.size,0,none⟩))(hv:a.eval (.tmp t)=rv ρ (.agg c'))(fK:Cl P S (w.alloc (.cells c e)) (.agg c'))(hg:P.globals.size≤w.heap.size)
 (k:∀(w₀:Γ) ρ' W' own',w₀.heap=w.heap→At P S ro ρ' (w₀.alloc (.cells c' e)) W' own'→On ro ρ (w.alloc (.cells c e)) W own ρ' W' own'→af P main ro Stop own' (G (b.at (a.put dd ω) (.inRegion ops rest::kk)) cs) W'):
 af P main ro Stop own (G (b.at a (.inRegion ops (i::rest)::kk)) cs) W:=by
 subst hdd;exact af.acJ hC (by rw[hop];rfl) ho hw hk (T:=λx=>if x=s then .pointer (some ⟨w.heap.size,0,none⟩)else .agg c') (λx=>by
  by_cases h:x=s
  ·simp only[h,if_true];unfold Cl;have:(sg S S.d (w.alloc (.cells c e)).heap.size) w.heap.size=w.heap.size:=bY.2 ⟨zag hA.vG.wr.big.dp hg,by rw[bV];omega⟩;simp only[rv,ra,zbp,this]
  ·simp only[h,if_false];exact fK) hA
  (by
    unfold Ξ;rw[hop];simp only[fL,hp,hv,if_true,zaa (Ne.symm hst)];simp[rv,ra]) (o':=λw₁=>{ w₁ with heap:=w.heap.push (.cells c' e) })
  (λτ d=>by
    unfold Ξ;simp only[hop,fL,if_true,zaa (Ne.symm hst)];have:=run_storeAt_new (P:=P) (w.re τ d) e c c' hi hs h1;have h2:(w.alloc (.cells c e)).re τ d=(w.re τ d).alloc (.cells c e):=rfl;have h3:(w.re τ d).heap.size=w.heap.size:=rfl;rw[h3]at this;rw[h2];simp only[zba,this,zbb,zbd];rfl)
  (λw₀ ρ' W' own' e0 hA' hO=>k { w₀ with heap:=w.heap } ρ' W' own' rfl hA' hO)
theorem af.loadT (hC:lp P F S)(ho:ops[i]?=some o)(hw:ζ o (ξ ops a.tmps)=true)(hk:b.kind≠.early)(hdd:o.dst=dd)(hop:o.op=.load e (.tmp s)){d:TypeDesc}(hu:P.underlying e=some d)(hd:d.isRow=true)(hi:(P.info? e).map (·.size)=some c.size)
 (hA:At P S ro ρ (w.alloc (.cells c e)) W own)(hp:a.eval (.tmp s)=.pointer (some ⟨ρ w.heap.size,0,none⟩))(hg:P.globals.size≤w.heap.size)
 (k:∀(w₀:Γ) ρ' W' own',w₀.heap=w.heap→At P S ro ρ' (w₀.alloc (.cells c e)) W' own'→On ro ρ (w.alloc (.cells c e)) W own ρ' W' own'→af P main ro Stop own' (G (b.at (a.put dd (rv ρ' (.agg c))) (.inRegion ops rest::kk)) cs) W'):
 af P main ro Stop own (G (b.at a (.inRegion ops (i::rest)::kk)) cs) W:=by
 subst hdd
 exact af.Ow hC (by rw[hop];rfl) ho hw hk (T:=λx=> .pointer (some ⟨w.heap.size,0,none⟩)) (λx=>by
       unfold Cl;have:(sg S S.d (w.alloc (.cells c e)).heap.size) w.heap.size=w.heap.size:=bY.2 ⟨zag hA.vG.wr.big.dp hg,by rw[bV];omega⟩;simp only[rv,ra,zbp,this]) hA
  (by
    unfold Ξ;rw[hop];simp only[fL,hp];simp[rv,ra]) (v:=λ_=> .agg c) (o':=λw₁=>{ w₁ with heap:=w.heap.push (.cells c e) })
  (λτ dd=>by
    unfold Ξ;simp only[hop,fL];have h2:(w.alloc (.cells c e)).re τ dd=(w.re τ dd).alloc (.cells c e):=rfl;have:=run_loadAt_mid (P:=P) ((w.re τ dd).alloc (.cells c e)) w.heap.size 0 e c.toList d (λj v hv=>by
     have hl:(w.re τ dd).heap.size=w.heap.size:=rfl;have:((w.re τ dd).heap.push (Obj.cells c e))[w.heap.size]?=some (.cells c e):=by rw[←hl];simp
     have h5:((w.re τ dd).alloc (.cells c e)).heap[w.heap.size]?=some (.cells c e):=this;simp only[Γ.cell?,h5];simpa using hv) hu hd (by simpa using hi)
    rw[h2];simp only[zba,this,zbb,zbd];rfl)
  (λw₀ ρ' W' own' e0 hA' hO _=>k { w₀ with heap:=w.heap } ρ' W' own' rfl hA' hO)
end
section
variable {P:Φ}{F:υ→Bool}{S:Sd}{main:Bool}{ro own:Nat→Prop}{Stop:(Nat→Prop)→Ω→Γ→Prop}{w W:Γ}{ρ:Rn}{b:Δ}{a:Act}{ops:Array Oper}{i:Nat}{rest:List Nat}{o:Oper}{kk:List Item}{cs:List Δ}
theorem Oy (hg:S.d≤n)(hn:n<w.heap.size):Cl P S w (.pointer (some ⟨n,off,none⟩)):=by
 unfold Cl;have:(sg S S.d w.heap.size) n=n:=bY.2 ⟨hg,hn⟩;simp only[rv,ra,zbp,this]
theorem af.X2 (hC:lp P F S)(ho:ops[i]?=some o)(hw:ζ o (ξ ops a.tmps)=true)(hk:b.kind≠.early)(hdd:o.dst=dd){j:Nat}(hop:o.op=.fieldAddr e (.tmp s) j)
 (hf:∀(w:Γ) (r:Nat),(Instr.fieldAt e (.pointer (some ⟨r,0,none⟩)) j).run P w=.ok (.pointer (some ⟨r,off,none⟩)) w){x:Obj}
 (hA:At P S ro ρ (w.alloc x) W own)(hp:a.eval (.tmp s)=.pointer (some ⟨ρ w.heap.size,0,none⟩))(hg:P.globals.size≤w.heap.size)
 (k:∀(w₀:Γ) ρ' W' own',w₀.heap=w.heap→At P S ro ρ' (w₀.alloc x) W' own'→On ro ρ (w.alloc x) W own ρ' W' own'→af P main ro Stop own' (G (b.at (a.put dd (.pointer (some ⟨ρ' w.heap.size,off,none⟩))) (.inRegion ops rest::kk)) cs) W'):
 af P main ro Stop own (G (b.at a (.inRegion ops (i::rest)::kk)) cs) W:=by
 subst hdd;exact af.Ow hC (by rw[hop];rfl) ho hw hk (T:=λ_=> .pointer (some ⟨w.heap.size,0,none⟩)) (λ_=>Oy (zag hA.vG.wr.big.dp hg) (by rw[bV];omega)) hA
  (by
    unfold Ξ;rw[hop];simp only[fL,hp];simp[rv,ra]) (v:=λ_=> .pointer (some ⟨w.heap.size,off,none⟩)) (o':=λw₁=>{ w₁ with heap:=w.heap.push x })
  (λτ dd=>by
    unfold Ξ;simp only[hop,fL,zba,hf,zbb,zbd];rfl)
  (λw₀ ρ' W' own' e0 hA' hO _=>by
    have:rv ρ' (.pointer (some ⟨w.heap.size,off,none⟩))=.pointer (some ⟨ρ' w.heap.size,off,none⟩):=by simp[rv,ra]
    rw[this];exact k { w₀ with heap:=w.heap } ρ' W' own' rfl hA' hO)
theorem af.aal (hC:lp P F S)(ho:ops[i]?=some o)(hw:ζ o (ξ ops a.tmps)=true)(hk:b.kind≠.early)(hdd:o.dst=dd){e':ό}(hop:o.op=.load e (.tmp s))
 (hl:∀(w:Γ) (a:Addr),w.cell? a=some v→(Instr.loadAt e (.pointer (some a))).run P w=.ok v w)(hc:c[off]?=some v)
 (hA:At P S ro ρ (w.alloc (.cells c e')) W own)(hp:a.eval (.tmp s)=.pointer (some ⟨ρ w.heap.size,off,none⟩))(hg:P.globals.size≤w.heap.size)
 (k:∀(w₀:Γ) ρ' W' own',w₀.heap=w.heap→At P S ro ρ' (w₀.alloc (.cells c e')) W' own'→On ro ρ (w.alloc (.cells c e')) W own ρ' W' own'→af P main ro Stop own' (G (b.at (a.put dd (rv ρ' v)) (.inRegion ops rest::kk)) cs) W'):
 af P main ro Stop own (G (b.at a (.inRegion ops (i::rest)::kk)) cs) W:=by
 subst hdd;exact af.Ow hC (by rw[hop];rfl) ho hw hk (T:=λ_=> .pointer (some ⟨w.heap.size,off,none⟩)) (λ_=>Oy (zag hA.vG.wr.big.dp hg) (by rw[bV];omega)) hA
  (by
    unfold Ξ;rw[hop];simp only[fL,hp];simp[rv,ra]) (v:=λ_=>v) (o':=λw₁=>{ w₁ with heap:=w.heap.push (.cells c e') })
  (λτ dd=>by
    have h2:(w.alloc (.cells c e')).re τ dd=(w.re τ dd).alloc (.cells c e'):=rfl;have hcell:((w.re τ dd).alloc (.cells c e')).cell? ⟨w.heap.size,off,none⟩=some v:=by
     have hl:(w.re τ dd).heap.size=w.heap.size:=rfl;have:((w.re τ dd).heap.push (Obj.cells c e'))[w.heap.size]?=some (.cells c e'):=by rw[←hl];simp
     have h5:((w.re τ dd).alloc (.cells c e')).heap[w.heap.size]?=some (.cells c e'):=this;simp only[Γ.cell?,h5];simpa using hc
    unfold Ξ;simp only[hop,fL,zba,h2,hl _ _ hcell,zbb,zbd];rfl)
  (λw₀ ρ' W' own' e0 hA' hO _=>k { w₀ with heap:=w.heap } ρ' W' own' rfl hA' hO)
theorem At.rely {aS:Γ}(hA:At P S ro ρ w W own)(hr:cq ro own W aS):At P S ro (ek ρ w.heap.size aS.heap.size) w aS own∧On ro ρ w W own (ek ρ w.heap.size aS.heap.size) aS own:=
 ⟨⟨hA.vG.grow hr.size λx hx=>hr.block x (.inl (hA.Wz x hx)),λx hx=>hA.Wz x (by rw[dN]at hx;exact hx),λb hb=>by have:=hA.hold.lt b hb;have:=hr.size;omega,hA.hold.ap⟩,
  λr h=>bg h,λx h=>h,λx h=>hr.block x (.inr h)⟩
theorem At.call (hA:At P S ro ρ w W own)(h1:∀b,own b∨ro b→W'.heap[b]?=W.heap[b]?)(h2:W.heap.size≤W'.heap.size)(h3:∀b,own b→own' b)(h4:qc ro own' W'):At P S ro (ek ρ w.heap.size W'.heap.size) w W' own'∧On ro ρ w W own (ek ρ w.heap.size W'.heap.size) W' own':=
 ⟨⟨hA.vG.grow h2 λx hx=>h1 x (.inl (hA.Wz x hx)),λx hx=>h3 x (hA.Wz x (by rw[dN]at hx;exact hx)),h4⟩,λr h=>bg h,h3,λx h=>h1 x (.inr h)⟩
theorem At.empty [Z:Shut P S] (hH:qc ro own W)(hb:P.globals.size≤W.heap.size):At P S ro (ek jR P.globals.size W.heap.size) (Hl P W) W own:=
 ⟨JQ hb,λx hx=>by obtain⟨r,h1,h2,_⟩:=hx;rw[oy]at h2;rw[Z.d]at h1;omega,hH⟩
theorem aN {t k:Tmp}(h:t≠k):(ϋ a (some t) v).eval (.tmp k)=a.eval (.tmp k):=by
 simp only[ϋ,Act.eval,zbE,zaA h]
theorem bn {k:Tmp}(h:k<a.tmps.size):(ϋ a (some k) v).eval (.tmp k)=v:=by
 simp only[ϋ,Act.eval,zbE,zbG h];rfl
theorem size_put {d:Option Tmp}:(ϋ a d v).tmps.size=a.tmps.size:=by
 cases d<;>simp[ϋ]
theorem cP {d:Option Tmp}:(ϋ a d v).defers=a.defers:=by
 cases d<;>simp[ϋ]
theorem xI:ϋ a none v=a:=rfl
end
def jS (X:Nat→Prop):Loc→Prop
 |.cell a=>X a.block
 |.obj r=>X r
 |_=>False
def Oz (ro own:Nat→Prop)(op:MemOp):Prop:=
 (∀x,op.act.touch? =some x→jS own x.loc∨(jS ro x.loc∧x.write=false))∧op.act≠.mark .disable∧op.act≠.mark .enable
structure TI (Q Shun:Loc→Prop) (c:Nat) (aW ro:Nat→Prop) (B:Nat) (t:Trace):Prop where
 clean:∀said,¬Race said t
 known:∀i a,touchAt t i=some a→a.loc.isMemory=true→Knows t 0 i∨(Shun a.loc∧a.kind=.atomic)∨(t.g? i=some c∧(jS aW a.loc∨(jS ro a.loc∧a.write=false)))
 Lu:∀i a,touchAt t i=some a→jS aW a.loc→t.g? i=some c
 grd:∀i a,touchAt t i=some a→jS ro a.loc→a.write=true→Knows t c i
 quiet:∀i a,touchAt t i=some a→Q a.loc→a.kind≠.plain∧(a.kind=.said→t.g? i=some 0)
 over:∀i g,t.g? i=some g→g≠0→g≠c→t.counts i→∃j,t.g? j=some 0∧HappensBefore t i j
 seen:∀op∈t,op.act.low B
theorem jS.mono {X Y:Nat→Prop}(h:∀b,X b→Y b):∀{l:Loc},jS X l→jS Y l
 |.cell _,x=>h _ x
 |.obj _,x=>h _ x
theorem jS.no {X Y:Nat→Prop}(h:∀b,X b→¬Y b):∀{l:Loc},jS X l→¬jS Y l
 |.cell _,x=>h _ x
 |.obj _,x=>h _ x
theorem Bc {ro own:Nat→Prop}{e:π}(h:DO ro own e):∀x,(φ e).touch? =some x→jS own x.loc∨(jS ro x.loc∧x.write=false):=by
 intro x hx;obtain⟨loc,wr,sy⟩:=e;cases loc with
 |cell a=>
  have:φ ⟨.cell a,wr,sy⟩=.access ⟨.cell a,wr,sy⟩:=by cases wr<;>cases sy<;>rfl
  rw[this]at hx;simp only[MemAct.touch?,zaE]at hx;subst hx;exact h
 |obj r=>
  obtain⟨h1,h2⟩:=h;simp only at h2;subst h2;have:φ ⟨.obj r,wr,false⟩=.access ⟨.obj r,wr,false⟩:=by cases wr<;>rfl
  rw[this]at hx;simp only[MemAct.touch?,zaE]at hx;subst hx;exact .inl h1
 |mark m=>
  have:φ ⟨.mark m,wr,sy⟩=.mark m:=by cases wr<;>cases sy<;>rfl
  rw[this]at hx;obtain⟨h1,_⟩:=h;cases m<;>first|exact h1.elim|cases hx
 |_=>exact h.elim
theorem oz {ro own:Nat→Prop}{e:π}(h:DO ro own e):e.loc≠.mark .disable∧e.loc≠.mark .enable:=by
 obtain⟨loc,wr,sy⟩:=e;cases loc with
 |mark m=>obtain⟨h1,_⟩:=h;cases m<;>first|exact h1.elim|exact⟨by simp,by simp⟩
 |_=>exact⟨by simp,by simp⟩
theorem JV {ro own:Nat→Prop}{B:Nat}(hB:∀b,own b→b<B)(hr:∀b,ro b→b<B){e:π}(h:DO ro own e):(φ e).low B:=by
 obtain⟨loc,wr,sy⟩:=e;cases loc with
 |cell a=>
  have:φ ⟨.cell a,wr,sy⟩=.access ⟨.cell a,wr,sy⟩:=by cases wr<;>cases sy<;>rfl
  rw[this];exact h.elim (λx=>hB _ x) λx=>hr _ x.1
 |obj r=>
  obtain⟨h1,h2⟩:=h;simp only at h2;subst h2;have:φ ⟨.obj r,wr,false⟩=.access ⟨.obj r,wr,false⟩:=by cases wr<;>rfl
  rw[this];exact hB _ h1
 |mark m=>
  have:φ ⟨.mark m,wr,sy⟩=.mark m:=by cases wr<;>cases sy<;>rfl
  rw[this];obtain⟨h1,_⟩:=h;cases m<;>first|exact h1.elim|trivial
 |_=>exact h.elim
section
variable {Q Shun:Loc→Prop}{c:Nat}{aW ro own:Nat→Prop}{B:Nat}{t u:Trace}
theorem TF {X:Nat→Prop}{l:Loc}(h:jS X l)(hX:∀b,X b→¬b<B)(hl:l.low B):False:=by
 cases l<;>first|exact hX _ h hl|exact h.elim
theorem Be {op:MemOp}{x:Go.Touch}(hl:op.act.low B)(hx:op.act.touch? =some x):x.loc.low B:=by
 obtain⟨g,fn,pos,act⟩:=op;cases act with
 |access e=>simp only[MemAct.touch?,zaE]at hx;subst hx;exact hl
 |mark m=>cases m<;>simp only[MemAct.touch?,zaE]at hx<;>first|(subst hx;exact hl)|cases hx
 |_=>cases hx
theorem si (h:∀i g,t.g? i=some g→g≠0→g≠c→t.counts i→∃j,t.g? j=some 0∧HappensBefore t i j)(hu:∀op∈u,op.g=0∨op.g=c∨op.act.touch? =none):∀i g,(t++u).g? i=some g→g≠0→g≠c→(t++u).counts i→∃j,(t++u).g? j=some 0∧HappensBefore (t++u) i j:=by
 intro i g hg h0 hc uS;obtain⟨x,hx,hm,hk⟩:=id uS;obtain⟨op,hop,hox⟩:=touch_of hx;rcases getElem?_append_cases hop with⟨hi,afl⟩|⟨_,acK⟩
 ·obtain⟨j,hj,hb⟩:=h i g (by rw[←g?_old (u:=u) hi];exact hg) h0 hc ((counts_old hi).1 uS);have xJ:j<t.size:=by
   unfold Trace.g? at hj;obtain⟨z,hz,_⟩:=zas.1 hj;exact lt_size_of_getElem? hz
  exact⟨j,by rw[g?_old xJ];exact hj,hb_app u hb⟩
 ·have hgo:op.g=g:=by simpa[Trace.g?,hop]using hg
  rcases hu op acK with h1|h1|h1
  ·exact absurd (hgo.symm.trans h1) h0
  ·exact absurd (hgo.symm.trans h1) hc
  ·rw[h1]at hox;cases hox
theorem TI.mono {B':Nat}(h:TI Q Shun c aW ro B t)(hB:B≤B'):TI Q Shun c aW ro B' t:=⟨h.clean,h.known,h.Lu,h.grd,h.quiet,h.over,λop hop=>MemAct.low_mono hB (h.seen op hop)⟩
theorem bU {i:Nat}{a:Go.Touch}(ha:touchAt (t++u) i=some a):(i<t.size∧touchAt t i=some a)∨(t.size≤i∧∃op∈u,(t++u)[i]?=some op∧op.act.touch? =some a):=by
 obtain⟨x,hx,hxa⟩:=touch_of ha;rcases getElem?_append_cases hx with⟨hi,tJ⟩|⟨hi,hxu⟩
 ·exact .inl ⟨hi,by rw[touchAt_of tJ];exact hxa⟩
 ·exact .inr ⟨hi,x,hxu,hx,hxa⟩
theorem TI.still (h:TI Q Shun c aW ro B t)(hn:∀op∈u,op.act.touch? =none)(hl:∀op∈u,op.act.low B):TI Q Shun c aW ro B (t++u):=by
 have old:∀{i a},touchAt (t++u) i=some a→i<t.size∧touchAt t i=some a:=λha=>by
  rcases bU ha with h|⟨_,op,hop,_,hx⟩
  ·exact h
  ·rw[hn op hop]at hx;cases hx
 refine⟨λsaid=>?_,λi a ha hm=>?_,λi a ha hg=>?_,λi a ha hg hw=>?_,λi a ha hq=>?_,si h.over λop hop=> .inr (.inr (hn op hop)),seen_app h.seen hl⟩
 ·rintro ⟨i,j,hij,⟨a,b,ha,hb,hc⟩,n1,n2⟩;obtain⟨hi,ha'⟩:=old ha;obtain⟨hj,hb'⟩:=old hb;exact h.clean said ⟨i,j,hij,⟨a,b,ha',hb',hc⟩,λe=>n1 (hb_app u e),λe=>n2 (hb_app u e)⟩
 ·obtain⟨hi,ha'⟩:=old ha;rw[g?_old hi];exact(h.known i a ha' hm).imp (·.app u) id
 ·obtain⟨hi,ha'⟩:=old ha;rw[g?_old hi];exact h.Lu i a ha' hg
 ·obtain⟨hi,ha'⟩:=old ha;exact(h.grd i a ha' hg hw).app u
 ·obtain⟨hi,ha'⟩:=old ha;rw[g?_old hi];exact h.quiet i a ha' hq
theorem TI.app0 (_hc0:c≠0)(h:TI Q Shun c aW ro B t)(hu:∀op∈u,op.g=0∧Oz ro own op)(hl:∀op∈u,op.act.low B)
 (hS:∀l,jS own l∨jS ro l→¬Shun l)(hQ:∀l,jS own l∨jS ro l→¬Q l)(hG:∀b,own b→¬aW b)(hR:∀b,own b→¬ro b)(hGR:∀b,aW b→¬ro b):TI Q Shun c aW ro B (t++u):=by
 have place:∀op∈u,∀x,op.act.touch? =some x→jS own x.loc∨jS ro x.loc:=λop hop x hx=>((hu op hop).2.1 x hx).imp id (·.1);refine⟨λsaid=>noRace_append (h.clean said) (λop hop=>(hu op hop).1) λi a ha op hop b hb hc=>?_,λi a ha hm=>?_,λi a ha hg=>?_,λi a ha hg hw=>?_,λi a ha hq=>?_,si h.over λop hop=> .inl (hu op hop).1,seen_app h.seen hl⟩
 ·rcases h.known i a ha hc.2.1 with hk|⟨hs,_⟩|⟨_,hg|⟨hr,hw⟩⟩
  ·exact hk
  ·exact absurd (hc.1▸hs) (hS _ (place op hop b hb))
  ·rcases place op hop b hb with h1|h1
   ·exact absurd (hc.1▸hg) (jS.no hG h1)
   ·exact absurd h1 (jS.no hGR (hc.1▸hg))
  ·rcases(hu op hop).2.1 b hb with h1|⟨_,h1⟩
   ·exact absurd (hc.1▸hr) (jS.no hR h1)
   ·have:=hc.2.2.1;rw[hw,h1]at this;simp at this
 ·rcases bU ha with⟨hi,ha'⟩|⟨_,op,hop,hx,_⟩
  ·rw[g?_old hi];exact(h.known i a ha' hm).imp (·.app u) id
  ·have:=knows_own hx;rw[(hu op hop).1]at this;exact .inl this
 ·rcases bU ha with⟨hi,ha'⟩|⟨_,op,hop,_,hb⟩
  ·rw[g?_old hi];exact h.Lu i a ha' hg
  ·rcases place op hop a hb with h1|h1
   ·exact absurd hg (jS.no hG h1)
   ·exact absurd h1 (jS.no hGR hg)
 ·rcases bU ha with⟨hi,ha'⟩|⟨_,op,hop,_,hb⟩
  ·exact(h.grd i a ha' hg hw).app u
  ·rcases(hu op hop).2.1 a hb with h1|⟨_,h1⟩
   ·exact absurd hg (jS.no hR h1)
   ·rw[h1]at hw;cases hw
 ·rcases bU ha with⟨hi,ha'⟩|⟨_,op,hop,_,hb⟩
  ·rw[g?_old hi];exact h.quiet i a ha' hq
  ·exact absurd hq (hQ _ (place op hop a hb))
theorem TI.acL {B':Nat}(h:TI Q Shun c aW ro B t)(hB:B≤B')(hu:∀op∈u,op.g=c∧Oz ro own' op)(hl:∀op∈u,op.act.low B')
 (hown:∀b,own' b↔aW b∨(B≤b∧b<B'))(hQ:∀l,jS own' l∨jS ro l→¬Q l):TI Q Shun c own' ro B' (t++u):=by
 have place:∀op∈u,∀x,op.act.touch? =some x→jS own' x.loc∨jS ro x.loc:=λop hop x hx=>((hu op hop).2.1 x hx).imp id (·.1);have aam:∀i a,touchAt t i=some a→jS own' a.loc→jS aW a.loc:=λi a ha hi=>by
  obtain⟨x,hx,hxa⟩:=touch_of ha;have fV:=Be (h.seen x (mem_of_getElem? hx)) hxa;generalize a.loc=l at hi fV;cases l with
  |cell ad=>exact((hown _).1 hi).resolve_right λh1=>by have:ad.block<B:=fV;omega
  |obj r=>exact((hown _).1 hi).resolve_right λh1=>by have:r<B:=fV;omega
  |_=>exact hi.elim
 refine⟨λsaid=>noRace_append (h.clean said) (λop hop=>(hu op hop).1) λi a ha op hop b hb hc=>?_,λi a ha hm=>?_,λi a ha hg=>?_,λi a ha hg hw=>?_,λi a ha hq=>?_,si h.over λop hop=> .inr (.inl (hu op hop).1),seen_app (λop hop=>MemAct.low_mono hB (h.seen op hop)) hl⟩
 ·rcases(hu op hop).2.1 b hb with h1|⟨h1,h2⟩
  ·have hg:=h.Lu i a ha (aam i a ha (hc.1▸h1));obtain⟨x,hx,_⟩:=touch_of ha;have:=knows_own hx;have e:x.g=c:=by simpa[Trace.g?,hx]using hg
   rwa[e]at this
  ·refine h.grd i a ha (hc.1▸h1) ?_;rcases hc.2.2.1 with h3|h3
   ·exact h3
   ·rw[h2]at h3;cases h3
 ·rcases bU ha with⟨hi,ha'⟩|⟨_,op,hop,hx,hb⟩
  ·rw[g?_old hi];rcases h.known i a ha' hm with hk|hk|⟨hk,hk2⟩
   ·exact .inl (hk.app u)
   ·exact .inr (.inl hk)
   ·exact .inr (.inr ⟨hk,hk2.imp (jS.mono λb hb=>(hown b).2 (.inl hb)) id⟩)
  ·exact .inr (.inr ⟨by simp[Trace.g?,hx,(hu op hop).1],(hu op hop).2.1 a hb⟩)
 ·rcases bU ha with⟨hi,ha'⟩|⟨_,op,hop,hx,_⟩
  ·rw[g?_old hi];exact h.Lu i a ha' (aam i a ha' hg)
  ·simp[Trace.g?,hx,(hu op hop).1]
 ·rcases bU ha with⟨hi,ha'⟩|⟨_,op,hop,hx,_⟩
  ·exact(h.grd i a ha' hg hw).app u
  ·have:=knows_own hx;rwa[(hu op hop).1]at this
 ·rcases bU ha with⟨hi,ha'⟩|⟨_,op,hop,_,hb⟩
  ·rw[g?_old hi];exact h.quiet i a ha' hq
  ·exact absurd hq (hQ _ (place op hop a hb))
theorem TI.TG {g:Nat}(h:TI Q Shun c aW ro B t)(hg:g=0∨g=c)(hu:∀op∈u,op.g=g∧∀x,op.act.touch? =some x→Q x.loc∧x.kind≠.plain∧(x.kind=.said→g=0))(hl:∀op∈u,op.act.low B)
 (WA:∀l,Q l→Shun l)(hQG:∀l,Q l→¬jS aW l∧¬jS ro l):TI Q Shun c aW ro B (t++u):=by
 refine⟨λsaid=>noRace_append (h.clean said) (λop hop=>(hu op hop).1) λi a ha op hop b hb hc=>?_,λi a ha hm=>?_,λi a ha hgo=>?_,λi a ha hr hw=>?_,λi a ha hq=>?_,si h.over λop hop=>hg.elim (λe=> .inl ((hu op hop).1.trans e)) λe=> .inr (.inl ((hu op hop).1.trans e)),seen_app h.seen hl⟩
 ·obtain⟨q1,q2,q3⟩:=(hu op hop).2 b hb;obtain⟨p1,p2⟩:=h.quiet i a ha (hc.1▸q1);rcases hc.2.2.2 with h1|h1|⟨_,h1,h2⟩
  ·exact absurd h1 p1
  ·exact absurd h1 q2
  ·have e0:=q3 h2;subst e0;obtain⟨x,hx,_⟩:=touch_of ha;have:=knows_own hx;have e:x.g=0:=by simpa[Trace.g?,hx]using p2 h1
   rwa[e]at this
 ·rcases bU ha with⟨hi,ha'⟩|⟨_,op,hop,hx,hb⟩
  ·rw[g?_old hi];exact(h.known i a ha' hm).imp (·.app u) id
  ·obtain⟨q1,q2,q3⟩:=(hu op hop).2 a hb;by_cases hk:a.kind=.atomic
   ·exact .inr (.inl ⟨WA _ q1,hk⟩)
   ·have aan:a.kind=.said:=by
     cases eF:a.kind<;>simp_all
    have:=knows_own hx;rw[(hu op hop).1,q3 aan]at this;exact .inl this
 ·rcases bU ha with⟨hi,ha'⟩|⟨_,op,hop,_,hb⟩
  ·rw[g?_old hi];exact h.Lu i a ha' hgo
  ·exact absurd hgo (hQG _ ((hu op hop).2 a hb).1).1
 ·rcases bU ha with⟨hi,ha'⟩|⟨_,op,hop,_,hb⟩
  ·exact(h.grd i a ha' hr hw).app u
  ·exact absurd hr (hQG _ ((hu op hop).2 a hb).1).2
 ·rcases bU ha with⟨hi,ha'⟩|⟨_,op,hop,hx,hb⟩
  ·rw[g?_old hi];exact h.quiet i a ha' hq
  ·obtain⟨_,q2,q3⟩:=(hu op hop).2 a hb;refine⟨q2,λhs=>?_⟩;rw[show(t++u).g? i=some op.g by simp[Trace.g?,hx],(hu op hop).1,q3 hs]
end
end Go.Ren
