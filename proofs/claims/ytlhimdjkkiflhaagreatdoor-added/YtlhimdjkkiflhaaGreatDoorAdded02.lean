import Derived.Conc.Listed
import Derived.Conc.TokenWalk
import Derived.Deep.MidRow
import Derived.Deep.WholeRow
import Derived.Test.YtlhimdjkkiflhaaGreatDoorAdded01
set_option maxHeartbeats 8000000
set_option maxRecDepth 100000
open Go renaming World→Γ,Frame→Δ,execOp→Ξ,Program→Φ,Goroutine→Ω,Value→η,stepG→θ,yielded→ξ,Event→π,FuncId→υ,exitTo→ψ,undef→ω,Operand→ϊ,TypeId→ό,Calls→ύ
open Go.Sem renaming runT→Θ
open Classical renaming choose→Λ
open Go.Region renaming wanted→ζ
open Go.stepG renaming exec→ι
open Go.MemAct renaming ofEvent→φ
open Go.GStep renaming after→χ
open Go.Act renaming put→ϋ
namespace Go.Ren
open Go
def iF:Obj:= .cells #[] 0 (0,0)
structure yQ (P:Φ) (S:Sd) (ρ:Rn) (n:Nat):Prop where
 d:S.d≤n
 g:S.g≤n
 r:ρ.d≤S.d
 p:P.globals.size≤n
 dp:S.d≤P.globals.size
 fg:∀g,S.d≤g→g<S.g→ρ g=g
 fl:∀g,g<S.d→g<ρ.d∨ρ g=g
theorem yQ.mono {P:Φ}{S:Sd}{ρ:Rn}{n m:Nat}(h:yQ P S ρ n)(hn:n≤m):yQ P S ρ m:=⟨zah h.d hn,zah h.g hn,h.r,zah h.p hn,h.dp,h.fg,h.fl⟩
structure WR (P:Φ) (S:Sd) (ρ:Rn) (w W:Γ):Prop where
 live:∀(r:Nat) (o:Obj),S.d≤r→w.heap[r]?=some o→W.heap[ρ r]?=some (ro ρ o)
 ok:∀(r:Nat) (o:Obj),w.heap[r]?=some o→mP o
 dead:∀(r:Nat),r<S.d→w.heap[r]?=some iF
 closed:∀(r:Nat) (o:Obj),S.d≤r→w.heap[r]?=some o→ro (sg S S.d w.heap.size) o=o
 next:∀r:Nat,w.heap.size≤r→ρ r=W.heap.size+(r-w.heap.size)
 low:∀r:Nat,S.d≤r→r<w.heap.size→ρ r<W.heap.size
 big:yQ P S ρ w.heap.size
def Touch (b0:Nat)(ρ:Rn)(w:Γ)(b:Nat):Prop:=∃r,b0≤r∧r<w.heap.size∧b=ρ r
def pj (b0:Nat)(ρ:Rn)(w:Γ)(e:π):Prop:=
 match e.loc with
 |.cell a=>Touch b0 ρ w a.block
 |.obj r=>Touch b0 ρ w r∧e.sync=false
 |.mark m=>MOk m∧e.sync=true
 |_=>False
structure Fi (b0:Nat) (ρ:Rn) (w w1 W W1:Γ):Prop where
 tape:W1.tape=W.tape
 drawn:W1.drawn+w.drawn=W.drawn+w1.drawn
 os:W1.os=W.os
 output:W1.output=W.output
 size:W1.heap.size+w.heap.size=W.heap.size+w1.heap.size
 frame:∀b:Nat,b<W.heap.size→¬Touch b0 ρ w1 b→W1.heap[b]?=W.heap[b]?
 gN:w.heap.size≤w1.heap.size
 FJ:w1.tape=w.tape
 wos:w1.os=w.os
 P5:w1.output=w.output
 vo:w.drawn≤w1.drawn
section
variable {P:Φ}{S:Sd}{b0:Nat}{ρ:Rn}{w W:Γ}
theorem Fi.refl (w W:Γ):Fi b0 ρ w w W W:=⟨rfl,rfl,rfl,rfl,rfl,λ_ _ _=>rfl,zab _,rfl,rfl,rfl,zab _⟩
theorem Touch.mono {w w1:Γ}{b:Nat}(h:Touch b0 ρ w b)(hg:w.heap.size≤w1.heap.size):Touch b0 ρ w1 b:=by
 obtain⟨r,hl,hr,rfl⟩:=h;exact⟨r,hl,by omega,rfl⟩
theorem pj.mono {w w1:Γ}{e:π}(h:pj b0 ρ w e)(hg:w.heap.size≤w1.heap.size):pj b0 ρ w1 e:=by
 unfold pj at h ⊢;split<;>simp_all
 ·exact h.mono hg
 ·exact h.1.mono hg
theorem Fi.trans {w w1 w2 W W1 W2:Γ}(h:Fi b0 ρ w w1 W W1)(h2:Fi b0 ρ w1 w2 W1 W2):Fi b0 ρ w w2 W W2:=by
 refine⟨h2.tape.trans h.tape,by have:=h.drawn;have:=h2.drawn;omega,h2.os.trans h.os,h2.output.trans h.output,by have:=h.size;have:=h2.size;omega,λb hb hn=>?_,zah h.gN h2.gN,h2.FJ.trans h.FJ,h2.wos.trans h.wos,h2.P5.trans h.P5,zah h.vo h2.vo⟩;rw[h2.frame b (by have:=h.size;have:=h.gN;omega) hn];exact h.frame b hb λhx=>hn (hx.mono h2.gN)
def chg (H:Array Obj)(b:Nat)(f:Obj→Obj)(H':Array Obj):Prop:=H'.size=H.size∧∀j:Nat,H'[j]?=if j=b then(H[j]?).map f else H[j]?
theorem fY (H:Array Obj)(b:Nat)(f:Obj→Obj):chg H b f (H.modify b f):=by
 refine⟨by simp,λj=>?_⟩;rw[zcp];by_cases h:b=j
 ·subst h;simp
 ·rw[zaa h,zaa (λe=>h (Eq.symm e))]
theorem gW (H:Array Obj)(b:Nat)(o:Obj):chg H b (λ_=>o) (H.setIfInBounds b o):=by
 refine⟨by simp,λj=>?_⟩;rw[zcG];by_cases h:b=j
 ·subst h;by_cases hb:b<H.size
  ·simp[hb]
  ·simp[hb]
 ·rw[zaa h,zaa (λe=>h (Eq.symm e))]
theorem fZ {H:Array Obj}{r:Nat}{o:Obj}(h:H[r]?=some o):r<H.size:=(zaf.1 h).1
theorem WR.upd (hi:∀a b,ρ a=ρ b→a=b)(h:WR P S ρ w W){b:Nat}{f g:Obj→Obj}{H H':Array Obj}(hb:S.d≤b)
 (c1:chg w.heap b f H)(c2:chg W.heap (ρ b) g H')
 (hfg:∀o,w.heap[b]?=some o→mP (f o)∧g (ro ρ o)=ro ρ (f o)∧(ro (sg S S.d w.heap.size) o=o→ro (sg S S.d w.heap.size) (f o)=f o)):
 WR P S ρ { w with heap:=H } { W with heap:=H' }:=by
 refine⟨λr o hl ho=>?_,λr o ho=>?_,λr hr=>?_,λr o hl ho=>?_,λr hr=>?_,λr hl hr=>?_,?_⟩
 ·have h1:=c1.2 r;have h2:=c2.2 (ρ r);simp only at ho ⊢;rw[h1]at ho;rw[h2];by_cases e:r=b
  ·subst e;simp only[if_true]at ho ⊢;obtain⟨o0,h0,rfl⟩:=zaz.1 ho;rw[h.live r o0 hl h0];simp[(hfg o0 h0).2.1]
  ·have:ρ r≠ρ b:=λx=>e (hi _ _ x);simp only[e,this,if_false]at ho ⊢;exact h.live r o hl ho
 ·have h1:=c1.2 r;simp only at ho;rw[h1]at ho;by_cases e:r=b
  ·subst e;simp only[if_true]at ho;obtain⟨o0,h0,rfl⟩:=zaz.1 ho;exact(hfg o0 h0).1
  ·simp only[e,if_false]at ho;exact h.ok r o ho
 ·have h1:=c1.2 r;simp only;rw[h1,zaa (by omega)];exact h.dead r hr
 ·have h1:=c1.2 r;simp only[c1.1]at ho ⊢;rw[h1]at ho;by_cases e:r=b
  ·subst e;simp only[if_true]at ho;obtain⟨o0,h0,rfl⟩:=zaz.1 ho;exact(hfg o0 h0).2.2 (h.closed r o0 hl h0)
  ·simp only[e,if_false]at ho;exact h.closed r o hl ho
 ·simp only at hr ⊢;rw[c2.1];rw[c1.1]at hr ⊢;exact h.next r hr
 ·simp only at hr ⊢;rw[c2.1];rw[c1.1]at hr;exact h.low r hl hr
 ·simp only[c1.1];exact h.big
theorem WR.push (h:WR P S ρ w W){o:Obj}(ho:mP o)(hs:ro (sg S S.d w.heap.size) o=o):WR P S ρ { w with heap:=w.heap.push o } { W with heap:=W.heap.push (ro ρ o) }:=by
 have ru:ρ w.heap.size=W.heap.size:=by have:=h.next w.heap.size (zab _);omega
 have hm:=cO (S:=S) (b0:=S.d) (Nat.le_succ w.heap.size);have afH:=h.big.d;refine⟨λr o1 hr h1=>?_,λr o1 h1=>?_,λr hr=>?_,λr o1 hr h1=>?_,λr hr=>?_,λr hl hr=>?_,?_⟩
 ·simp only[zcc]at h1 ⊢;by_cases e:r=w.heap.size
  ·subst e;simp only[if_true,zaG]at h1;subst h1;simp[ru]
  ·simp only[e,if_false]at h1;have hlt:=fZ h1;have:=h.low r hr hlt;rw[zaa (by omega)];exact h.live r o1 hr h1
 ·simp only[zcc]at h1;by_cases e:r=w.heap.size
  ·subst e;simp only[if_true,zaG]at h1;subst h1;exact ho
  ·simp only[e,if_false]at h1;exact h.ok r o1 h1
 ·simp only[zcc];rw[zaa (by omega)];exact h.dead r hr
 ·simp only[zcc,zcq]at h1 ⊢;by_cases e:r=w.heap.size
  ·subst e;simp only[if_true,zaG]at h1;subst h1;exact qQ hm.1 hm.2 hs
  ·simp only[e,if_false]at h1;exact qQ hm.1 hm.2 (h.closed r o1 hr h1)
 ·simp only[zcq]at hr ⊢;have:=h.next r (by omega);omega
 ·simp only[zcq]at hr ⊢;by_cases e:r=w.heap.size
  ·subst e;omega
  ·have:=h.low r hl (by omega);omega
 ·simp only[zcq];exact h.big.mono (Nat.le_succ _)
theorem WR.Live (h:WR P S ρ w W):Live S.d ρ w W:=⟨h.live⟩
theorem WR.drew (h:WR P S ρ w W)(d D:Nat):WR P S ρ { w with drawn:=d } { W with drawn:=D }:=⟨h.live,h.ok,h.dead,h.closed,h.next,h.low,h.big⟩
theorem wJ (h:WR P S ρ w W){a:Addr}{v:η}(hl:S.d≤a.block)(hc:w.cell? a=some v):rv (sg S S.d w.heap.size) v=v:=by
 unfold Γ.cell? at hc;cases hh:w.heap[a.block]? with
 |none=>rw[hh]at hc;cases hc
 |some o=>
  have hs:=h.closed _ o hl hh;rw[hh]at hc;cases o with
  |cells c e f=>
   simp only at hc;split at hc
   ·cases hc
   ·simp only[ro,Obj.cells.injEq,zaA]at hs;exact ba.1 hs v (zbI hc)
  |_=>cases hc
theorem B6 (h:WR P S ρ w W){a:Addr}(hl:a.block<S.d):w.cell? a=none:=by
 unfold Γ.cell?
 rw[h.dead _ hl];simp[iF]
theorem yR (h:WR P S ρ w W){a:Addr}(hl:S.d≤a.block)(hs:a.block<w.heap.size):W.frozen? (ra ρ a)=w.frozen? a:=by
 unfold Γ.frozen?
 obtain⟨o,ho⟩:∃o,w.heap[a.block]?=some o:=⟨_,zaH hs⟩;have:=h.live _ o hl ho;simp only[ra,ho,this];cases o<;>rfl
theorem Nf (h:WR P S ρ w W){r:Nat}(hl:S.d≤r)(hs:r<w.heap.size):W.shape? (ρ r)=w.shape? r:=by
 unfold Γ.shape?
 obtain⟨o,ho⟩:∃o,w.heap[r]?=some o:=⟨_,zaH hs⟩;have:=h.live _ o hl ho;simp only[ho,this];cases o<;>simp[ro]
theorem WR.setCell (hi:∀a b,ρ a=ρ b→a=b)(h:WR P S ρ w W){a:Addr}{v:η}(hl:S.d≤a.block)(hv:rv (sg S S.d w.heap.size) v=v):WR P S ρ (w.setCell a v) (W.setCell (ra ρ a) (rv ρ v)):=by
 refine h.upd hi hl (fY _ _ _) (fY _ _ _) (λo ho=>?_);have cg:=h.ok _ o ho;cases o with
 |cells c e f=>
  refine⟨trivial,?_,λhs=>?_⟩
  ·simp only[ro,ra];by_cases hsp:a.spot.isSome=true<;>simp[hsp,Array.map_setIfInBounds]
  ·simp only[ro,Obj.cells.injEq,zaA]at hs ⊢;split
   ·exact hs
   ·rw[zco,hs,hv]
 |view a t=>exact⟨trivial,rfl,λhs=>hs⟩
 |number a t=>exact⟨trivial,rfl,λhs=>hs⟩
 |map a t=>exact⟨trivial,rfl,λhs=>hs⟩
 |_=>exact cg.elim
theorem WR.freeze (hi:∀a b,ρ a=ρ b→a=b)(h:WR P S ρ w W){a:Addr}{n:Nat}(hl:S.d≤a.block):WR P S ρ (w.freeze a n) (W.freeze (ra ρ a) n):=by
 unfold Γ.freeze;by_cases hn:n=0
 ·simp only[hn,if_true];exact h
 ·simp only[hn,if_false];refine h.upd hi hl (fY _ _ _) (fY _ _ _) (λo ho=>?_);have cg:=h.ok _ o ho;cases o with
  |cells c e f=>exact⟨trivial,rfl,λhs=>by simpa[ro]using hs⟩
  |view a t=>exact⟨trivial,rfl,λhs=>hs⟩
  |number a t=>exact⟨trivial,rfl,λhs=>hs⟩
  |map a t=>exact⟨trivial,rfl,λhs=>hs⟩
  |_=>exact cg.elim
theorem xJ {H H':Array Obj}{b:Nat}{f g:Obj→Obj}(hb:b0≤b)(hs:b<w.heap.size)(c1:chg w.heap b f H)(c2:chg W.heap (ρ b) g H'):Fi b0 ρ w { w with heap:=H } W { W with heap:=H' }:=
 ⟨rfl,rfl,rfl,rfl,by show H'.size+w.heap.size=W.heap.size+H.size;rw[c1.1,c2.1],λx hx hn=>by
   show H'[x]?=_;rw[c2.2 x,zaa];rintro rfl;exact hn ⟨b,hb,by show b<H.size;rw[c1.1];exact hs,rfl⟩,by show w.heap.size≤H.size;rw[c1.1];omega,rfl,rfl,rfl,zab _⟩
theorem vp {α:Type}:∀(x:Ask α) (w:Γ),w.drawn≤(w.ask x).2.drawn
 |.done a,w=>zab _
 |.ask what range k,w=>by
  unfold Γ.ask;dsimp only;split
  ·exact vp (k 0) w
  ·have:=vp (k ((Question.extern what range).cut (w.tape w.drawn (Question.extern what range)))) { w with drawn:=w.drawn+1 };simp only at this;omega
theorem Ng (c:Sys)(w:Γ):w.drawn≤(w.sys c).2.drawn:=by
 unfold Γ.sys;have:=vp (Kernel.perform c w.os) w;split<;>rename_i h
 ·exact zab _
 ·rw[h]at this;exact this
theorem yS {w w2:Γ}{a:Addr}{v:η}{b:Bool}{ts:List Addr}(h:w.farStore P a v b=.ok (w2,ts)):w2.drawn=w.drawn:=by
 unfold Γ.farStore at h;split at h
 ·split at h
  ·rename_i r hv;cases h;unfold Γ.viewStore at hv;simp only[bind,Except.bind]at hv;repeat' split at hv
   all_goals first|(cases hv;done)|(simp only[pure,Except.pure,zbN,zag]at hv;obtain⟨rfl,rfl⟩:=hv;rfl)|(simp[throw,throwThe,MonadExceptOf.throw]at hv)
  ·cases h
 ·cases h
theorem cT {α:Type}:∀(t:Sem α) (w:Γ) (es:Array π) (a:α) (w1:Γ) (cY:Array π),t.runT P w es=(.ok a w1,cY)→w.drawn≤w1.drawn
 |.pure _,w,es,a,w1,cY,h=>by simp only[Θ,zag,zao]at h;rw[h.1.2];exact zab _
 |.load m ad k,w,es,a,w1,cY,h=>by
  simp only[Θ]at h;split at h
  ·exact cT _ _ _ _ _ _ h
  ·split at h
   ·exact cT _ _ _ _ _ _ h
   ·simp at h
 |.store m ad v k,w,es,a,w1,cY,h=>by
  have key:(∃ts,k.runT P (w.setCell ad v) ts=(.ok a w1,cY))∨∃w2 ts BA,w.farStore P ad v (m== .atomic)=.ok (w2,BA)∧k.runT P w2 ts=(.ok a w1,cY):=by
   cases v<;>simp only[Θ]at h<;>first
    |(simp at h;done)
    |(split at h
      ·split at h
       ·simp at h
       ·exact .inl ⟨_,h⟩
      ·split at h
       ·exact .inr ⟨_,_,_,‹_›,h⟩
       ·simp at h)
  rcases key with⟨ts,h⟩|⟨w2,ts,BA,hf,h⟩
  ·have:=cT _ _ _ _ _ _ h;exact this
  ·have:=cT _ _ _ _ _ _ h;rw[yS hf]at this;exact this
 |.new o k,w,es,a,w1,cY,h=>by simp only[Θ]at h;have:=cT _ _ _ _ _ _ h;exact this
 |.shape r k,w,es,a,w1,cY,h=>by simp only[Θ]at h;exact cT _ _ _ _ _ _ h
 |.freeze ad n k,w,es,a,w1,cY,h=>by
  simp only[Θ]at h;have:=cT _ _ _ _ _ _ h;have e:(w.freeze ad n).drawn=w.drawn:=by unfold Γ.freeze;split<;>rfl
  omega
 |.frozen ad k,w,es,a,w1,cY,h=>by simp only[Θ]at h;exact cT _ _ _ _ _ _ h
 |.getObj r k,w,es,a,w1,cY,h=>by
  simp only[Θ]at h;split at h<;>first|(simp at h;done)|exact cT _ _ _ _ _ _ h
 |.setObj r o k,w,es,a,w1,cY,h=>by
  simp only[Θ]at h;split at h
  ·simp at h
  ·have:=cT _ _ _ _ _ _ h;exact this
  ·simp at h
 |.choose q k,w,es,a,w1,cY,h=>by
  simp only[Θ]at h;split at h
  ·exact cT _ _ _ _ _ _ h
  ·have:=cT _ _ _ _ _ _ h;simp only at this;omega
 |.sys c k,w,es,a,w1,cY,h=>by
  simp only[Θ]at h;exact zah (Ng c w) (cT _ _ _ _ _ _ h)
 |.program k,w,es,a,w1,cY,h=>by simp only[Θ]at h;exact cT _ _ _ _ _ _ h
 |.mark m k,w,es,a,w1,cY,h=>by simp only[Θ]at h;exact cT _ _ _ _ _ _ h
 |.halt _,w,es,a,w1,cY,h=>by simp[Θ]at h
theorem xK {α:Type}{P:Φ}:∀(t:Sem α) (w:Γ) (es:Array π) (a:α) (w1:Γ) (cY:Array π),Tm (λ_=>False) t→t.runT P w es=(.ok a w1,cY)→False
 |.pure a,_,_,_,_,_,h,_=>h
 |.halt _,_,_,_,_,_,_,h=>by simp[Θ]at h
 |.program k,w,es,a,w1,cY,h,hr=>by simp only[Θ]at hr;exact xK _ _ _ _ _ _ (h P) hr
 |.new o k,w,es,a,w1,cY,h,hr=>by simp only[Θ]at hr;exact xK _ _ _ _ _ _ (h _) hr
 |.sys c k,w,es,a,w1,cY,h,hr=>by simp only[Θ]at hr;exact xK _ _ _ _ _ _ (h _) hr
 |.load ..,_,_,_,_,_,h,_=>h.elim
 |.store ..,_,_,_,_,_,h,_=>h.elim
 |.shape ..,_,_,_,_,_,h,_=>h.elim
 |.freeze ..,_,_,_,_,_,h,_=>h.elim
 |.frozen ..,_,_,_,_,_,h,_=>h.elim
 |.getObj ..,_,_,_,_,_,h,_=>h.elim
 |.setObj ..,_,_,_,_,_,h,_=>h.elim
 |.choose ..,_,_,_,_,_,h,_=>h.elim
 |.mark ..,_,_,_,_,_,h,_=>h.elim
theorem xL {α:Type}{P:Φ}:∀(t:Sem α) (w:Γ) (es:Array π) (x:Halt) (w1:Γ) (cY:Array π),Tm (λ_=>False) t→t.runT P w es=(.halt x w1,cY)→Fs x
 |.pure a,_,_,_,_,_,h,_=>h.elim
 |.halt _,_,_,_,_,_,h,hr=>by
  simp only[Θ,zag,zbr]at hr;obtain⟨⟨rfl,_⟩,_⟩:=hr;exact h
 |.program k,w,es,a,w1,cY,h,hr=>by simp only[Θ]at hr;exact xL _ _ _ _ _ _ (h P) hr
 |.new o k,w,es,a,w1,cY,h,hr=>by simp only[Θ]at hr;exact xL _ _ _ _ _ _ (h _) hr
 |.sys c k,w,es,a,w1,cY,h,hr=>by simp only[Θ]at hr;exact xL _ _ _ _ _ _ (h _) hr
 |.load ..,_,_,_,_,_,h,_=>h.elim
 |.store ..,_,_,_,_,_,h,_=>h.elim
 |.shape ..,_,_,_,_,_,h,_=>h.elim
 |.freeze ..,_,_,_,_,_,h,_=>h.elim
 |.frozen ..,_,_,_,_,_,h,_=>h.elim
 |.getObj ..,_,_,_,_,_,h,_=>h.elim
 |.setObj ..,_,_,_,_,_,h,_=>h.elim
 |.choose ..,_,_,_,_,_,h,_=>h.elim
 |.mark ..,_,_,_,_,_,h,_=>h.elim
def Win (w w1 W:Γ):Prop:=∀j,j<w1.drawn-w.drawn→∀q,W.tape (W.drawn+j) q=w.tape (w.drawn+j) q
theorem df (hp:Plain P ρ)(LH:∀o,GO P ρ o){α β:Type}:∀(t:Sem α) (t':Sem β) (R:α→β→Prop) (Rs:Nat→α→α→Prop) (w W:Γ) (es es':Array π) (a:α) (w1:Γ) (cY:Array π),aa P ρ R t t'→(∀n,w.heap.size≤n→aa P (sg S S.d n) (Rs n) t t)→WR P S ρ w W→Win w w1 W→t.runT P w es=(.ok a w1,cY)→∃b W1 iG,t'.runT P W es'=(.ok b W1,iG)∧R a b∧(∀n,w1.heap.size≤n→Rs n a a)∧WR P S ρ w1 W1∧Fi S.d ρ w w1 W W1∧∀e∈iG,e∈es'∨pj S.d ρ w1 e
 |.pure a0,t',R,Rs,w,W,es,es',a,w1,cY,h1,h2,hW,hn,hr=>by
  obtain⟨b,rfl,hR⟩:=h1;simp only[Θ,zag,zao]at hr;obtain⟨⟨rfl,rfl⟩,rfl⟩:=hr;refine⟨b,W,es',rfl,hR,λn hn=>?_,hW,Fi.refl _ _,λe he=> .inl he⟩;obtain⟨b',e,hb⟩:=h2 n hn;cases e;exact hb
 |.load m ad k,t',R,Rs,w,W,es,es',a,w1,cY,h1,h2,hW,hn,hr=>by
  have hno:¬ad.block<S.d:=λhlt=>by
   simp only[Θ,B6 hW hlt,Γ.farLoad,hW.dead _ hlt,iF,zag]at hr;cases hr.1
  have cq:S.d≤ad.block∧ad.block<w.heap.size:=by
   rcases h2 w.heap.size (zab _)with h|⟨k',e,_⟩
   ·exact absurd h hno
   ·simp only[Sem.load.injEq]at e;exact bK.1 (ib.1 e.2.1.symm)
  have jL:∀v,(∀n,w.heap.size≤n→rv (sg S S.d n) v=v)→∀n,w.heap.size≤n→aa P (sg S S.d n) (Rs n) (k v) (k v):=λv hv n hn=>by
   rcases h2 n hn with h|⟨k',e,hk⟩
   ·exact absurd h hno
   ·simp only[Sem.load.injEq]at e;obtain⟨_,_,rfl⟩:=e;have:=hk v;rwa[hv n hn]at this
  rcases h1 with h|⟨k',rfl,hk⟩
  ·exact absurd (zaL h hW.big.r) hno
  simp only[Θ]at hr ⊢;cases hc:w.cell? ad with
  |some v=>
   rw[hc]at hr;simp only at hr;rw[B5 hW.Live cq.1 hc];have dY:=wJ hW cq.1 hc;obtain⟨b,W1,iG,r1,r2,r3,r4,r5,r6⟩:=df hp LH (k v) _ R Rs w W _ (es'.push ⟨.cell (ra ρ ad),false,m== .atomic⟩) a w1 cY (hk v) (jL v λn hnn=>dO (cO hnn).1 (cO hnn).2 v dY) hW hn hr;refine⟨b,W1,iG,r1,r2,r3,r4,r5,λe he=>?_⟩;rcases r6 e he with h|h
   ·rcases Array.mem_push.1 h with h|rfl
    ·exact .inl h
    ·exact .inr ⟨ad.block,cq.1,by have:=r5.gN;omega,rfl⟩
   ·exact .inr h
  |none=>
   rw[hc]at hr;simp only at hr;have hcW:W.cell? (ra ρ ad)=none:=by
    unfold Γ.cell? at hc ⊢;obtain⟨o,ho⟩:∃o,w.heap[ad.block]?=some o:=⟨_,zaH cq.2⟩;have hl:=hW.live _ o cq.1 ho;simp only[ra,ho,hl]at hc ⊢;cases o<;>simp only[ro]at hc ⊢;split at hc
    ·rename_i hs;simp[hs]
    ·rename_i hs;simp[hs,hc]
   rw[hcW];simp only;cases hf:w.farLoad P ad (m== .atomic)with
   |error h=>rw[hf]at hr;simp at hr
   |ok x=>
    obtain⟨v,ts⟩:=x;rw[hf]at hr;simp only at hr;unfold Γ.farLoad at hf;cases hh:w.heap[ad.block]? with
    |none=>rw[hh]at hf;cases hf
    |some o=>
     rw[hh]at hf;cases o with
     |view at_ u=>
      simp only at hf;cases hv:w.viewLoad P at_ u ad (m== .atomic)with
      |error e=>rw[hv]at hf;cases hf
      |ok x=>
       rw[hv]at hf;simp only[zbN]at hf;subst hf;have dY:=hW.closed _ _ cq.1 hh;simp only[ro,Obj.view.injEq,zaA]at dY;have hat:=bK.1 (ib.1 dY);obtain⟨BA,q1,q2,q3,q4⟩:=td hW.Live hat.1 hv;have hl:=hW.live _ _ cq.1 hh;simp only[ro]at hl;have:W.farLoad P (ra ρ ad) (m== .atomic)=.ok (v,BA):=by
        unfold Γ.farLoad;simp only[ra]at hl ⊢;rw[hl];simp only[ra]at q1;dsimp only;rw[q1]
       rw[this];simp only;have FK:=hk v;rw[q3 ρ]at FK;obtain⟨b,W1,iG,r1,r2,r3,r4,r5,r6⟩:=df hp LH (k v) (k' v) R Rs w W _ (es'++BA.toArray.map (⟨.cell ·,false,m== .atomic⟩)) a w1 cY FK (jL v λn _=>q3 _) hW hn hr;refine⟨b,W1,iG,r1,r2,r3,r4,r5,λe he=>?_⟩;rcases r6 e he with h|h
       ·rcases Array.mem_append.1 h with h|h
        ·exact .inl h
        ·obtain⟨x,hx,rfl⟩:=Array.mem_map.1 h;exact .inr ⟨at_.block,hat.1,by have:=r5.gN;omega,q2 x (by simpa using hx)⟩
       ·exact .inr h
     |_=>cases hf
 |.store m ad v k,t',R,Rs,w,W,es,es',a,w1,cY,h1,h2,hW,hn,hr=>by
  obtain⟨k',rfl,hk⟩:=h1;have cq:(S.d≤ad.block∧ad.block<w.heap.size)∧rv (sg S S.d w.heap.size) v=v:=by
   obtain⟨k',e,_⟩:=h2 w.heap.size (zab _);simp only[Sem.store.injEq]at e;exact⟨bK.1 (ib.1 e.2.1.symm),e.2.2.1.symm⟩
  obtain⟨cq,hv⟩:=cq;have jL:∀n,w.heap.size≤n→aa P (sg S S.d n) (Rs n) k k:=λn hn=>by
   obtain⟨k',e,hk⟩:=h2 n hn;simp only[Sem.store.injEq]at e;obtain⟨_,_,_,rfl⟩:=e;exact hk
  have go:∀w2 W2 ts (BA:Array π),WR P S ρ w2 W2→Fi S.d ρ w w2 W W2→w2.heap.size=w.heap.size→w2.tape=w.tape→w2.drawn=w.drawn→W2.tape=W.tape→W2.drawn=W.drawn→(∀e∈BA,e∈es'∨pj S.d ρ w e)→k.runT P w2 ts=(.ok a w1,cY)→
   ∃b W1 iG,k'.runT P W2 BA=(.ok b W1,iG)∧R a b∧(∀n,w1.heap.size≤n→Rs n a a)∧WR P S ρ w1 W1∧Fi S.d ρ w w1 W W1∧∀e∈iG,e∈es'∨pj S.d ρ w1 e:=λw2 W2 ts BA hW2 hD hsz t1 t2 t3 t4 hts hrun=>by
   obtain⟨b,W1,iG,r1,r2,r3,r4,r5,r6⟩:=df hp LH k k' R Rs w2 W2 ts BA a w1 cY hk (by rw[hsz];exact jL) hW2 (by unfold Win;rw[t1,t2,t3,t4];exact hn) hrun;refine⟨b,W1,iG,r1,r2,r3,r4,hD.trans r5,λe he=>?_⟩;rcases r6 e he with h|h
   ·rcases hts e h with h|h
    ·exact .inl h
    ·exact .inr (h.mono (by have:=r5.gN;omega))
   ·exact .inr h
  cases hc:w.cell? ad with
  |some v0=>
   have hcW:=B5 hW.Live cq.1 hc;have Px:=yR hW cq.1 cq.2;cases P6:w.frozen? ad with
   |true=>cases v<;>simp[Θ,hc,P6]at hr
   |false=>
    have key:k.runT P (w.setCell ad v) (es.push ⟨.cell ad,true,m== .atomic⟩)=(.ok a w1,cY)∧(Sem.store m (ra ρ ad) (rv ρ v) k').runT P W es'=k'.runT P (W.setCell (ra ρ ad) (rv ρ v)) (es'.push ⟨.cell (ra ρ ad),true,m== .atomic⟩):=by
     rw[P6]at Px;cases v<;>simp only[rv,Θ,hc,P6,hcW,Px,zaT,if_false]at hr ⊢<;>first|exact⟨hr,trivial⟩|exact⟨hr,rfl⟩|(simp at hr)|trace_state
    rw[key.2];refine go _ _ _ _ (hW.setCell hp.inj cq.1 hv) (xJ cq.1 cq.2 (fY _ _ _) (fY _ _ _)) (by simp[Γ.setCell]) rfl rfl rfl rfl (λe he=>?_) key.1;rcases Array.mem_push.1 he with h|rfl
    ·exact .inl h
    ·exact .inr ⟨ad.block,cq.1,cq.2,rfl⟩
  |none=>
   have hcW:W.cell? (ra ρ ad)=none:=by
    unfold Γ.cell? at hc ⊢;obtain⟨o,ho⟩:∃o,w.heap[ad.block]?=some o:=⟨_,zaH cq.2⟩;have hl:=hW.live _ o cq.1 ho;simp only[ra,ho,hl]at hc ⊢;cases o<;>simp only[ro]at hc ⊢;split at hc
    ·rename_i hs;simp[hs]
    ·rename_i hs;simp[hs,hc]
   cases hf:w.farStore P ad v (m== .atomic)with
   |error h=>cases v<;>simp[Θ,hc,hf]at hr
   |ok x=>
    obtain⟨w2,ts⟩:=x;have hf0:=hf;unfold Γ.farStore at hf;cases hh:w.heap[ad.block]? with
    |none=>rw[hh]at hf;cases hf
    |some o=>
     rw[hh]at hf;cases o with
     |view at_ u=>
      simp only at hf;cases UQ:w.viewStore P at_ u ad v (m== .atomic)with
      |error e=>rw[UQ]at hf;cases hf
      |ok x=>
       rw[UQ]at hf;simp only[zbN]at hf;subst hf;have dY:=hW.closed _ _ cq.1 hh;simp only[ro,Obj.view.injEq,zaA]at dY;have hat:=bK.1 (ib.1 dY);obtain⟨c,c',ty,fz,BA,q1,q2,q3,q4,q5⟩:=rH hW.Live hat.1 UQ;have hl:=hW.live _ _ cq.1 hh;simp only[ro]at hl;have hfW:W.farStore P (ra ρ ad) (rv ρ v) (m== .atomic)=.ok ({ W with heap:=W.heap.setIfInBounds (ρ at_.block) (.cells (c'.map (rv ρ)) ty fz) },BA):=by
        unfold Γ.farStore;simp only[ra]at hl ⊢;rw[hl];simp only[ra]at q4;dsimp only;rw[q4]
       have key:k.runT P w2 (es++ts.toArray.map (⟨.cell ·,true,m== .atomic⟩))=(.ok a w1,cY)∧(Sem.store m (ra ρ ad) (rv ρ v) k').runT P W es'=k'.runT P { W with heap:=W.heap.setIfInBounds (ρ at_.block) (.cells (c'.map (rv ρ)) ty fz) } (es'++BA.toArray.map (⟨.cell ·,true,m== .atomic⟩)):=by
        cases v<;>simp only[rv,Θ,hc,hf0,hcW]at hr hfW ⊢<;>first|(rw[hfW];exact⟨hr,rfl⟩)|(simp at hr)
       rw[key.2];subst q2;have Dz:WR P S ρ { w with heap:=w.heap.setIfInBounds at_.block (.cells c' ty fz) } { W with heap:=W.heap.setIfInBounds (ρ at_.block) (.cells (c'.map (rv ρ)) ty fz) }:=by
        refine hW.upd hp.inj hat.1 (gW _ _ _) (gW _ _ _) (λo ho=>⟨trivial,rfl,λhs=>?_⟩);rw[q1]at ho;cases ho;simp only[ro,Obj.cells.injEq,zaA]at hs ⊢;exact q3 _ hs
       refine go _ _ _ _ Dz (xJ hat.1 hat.2 (gW _ _ _) (gW _ _ _)) (by simp) rfl rfl rfl rfl (λe he=>?_) key.1;rcases Array.mem_append.1 he with h|h
       ·exact .inl h
       ·obtain⟨x,hx,rfl⟩:=Array.mem_map.1 h;exact .inr ⟨at_.block,hat.1,hat.2,q5 x (by simpa using hx)⟩
     |_=>cases hf
 |.new o k,t',R,Rs,w,W,es,es',a,w1,cY,h1,h2,hW,hn,hr=>by
  obtain⟨hno,k',rfl,hk⟩:=h1;have ru:ρ w.heap.size=W.heap.size:=by have:=hW.next w.heap.size (zab _);omega
  have hs:ro (sg S S.d w.heap.size) o=o:=by
   obtain⟨_,k',e,_⟩:=h2 w.heap.size (zab _);simp only[Sem.new.injEq]at e;exact e.1.symm
  have jL:∀n,w.heap.size+1≤n→aa P (sg S S.d n) (Rs n) (k w.heap.size) (k w.heap.size):=λn hn=>by
   obtain⟨_,k',e,hk⟩:=h2 n (by omega);simp only[Sem.new.injEq]at e;obtain⟨_,rfl⟩:=e;have:=hk w.heap.size;rwa[show sg S S.d n w.heap.size=w.heap.size from bK.2 ⟨hW.big.d,by omega⟩]at this
  simp only[Θ]at hr ⊢;have hkn:=hk w.heap.size;rw[ru]at hkn;obtain⟨b,W1,iG,r1,r2,r3,r4,r5,r6⟩:=df hp LH (k w.heap.size) (k' W.heap.size) R Rs { w with heap:=w.heap.push o } { W with heap:=W.heap.push (ro ρ o) } es es' a w1 cY hkn (by simpa using jL) (hW.push hno hs) hn hr;refine⟨b,W1,iG,r1,r2,r3,r4,?_,r6⟩;have g:=r5.gN;have sz:=r5.size;simp only[zcq]at g sz;refine⟨r5.tape,r5.drawn,r5.os,r5.output,by omega,λx hx BB=>?_,by omega,r5.FJ,r5.wos,r5.P5,r5.vo⟩;rw[r5.frame x (by simp only[zcq];omega) BB];simp only[zcc];rw[zaa (by omega)]
 |.shape r k,t',R,Rs,w,W,es,es',a,w1,cY,h1,h2,hW,hn,hr=>by
  obtain⟨k',rfl,hk⟩:=h1;have cq:S.d≤r∧r<w.heap.size:=by
   obtain⟨k',e,_⟩:=h2 w.heap.size (zab _);simp only[Sem.shape.injEq]at e;exact bK.1 e.1.symm
  have jL:∀x n,w.heap.size≤n→aa P (sg S S.d n) (Rs n) (k x) (k x):=λx n hn=>by
   obtain⟨k',e,hk⟩:=h2 n hn;simp only[Sem.shape.injEq]at e;obtain⟨_,rfl⟩:=e;exact hk x
  simp only[Θ]at hr ⊢;rw[Nf hW cq.1 cq.2];exact df hp LH _ _ R Rs w W es es' a w1 cY (hk _) (jL _) hW hn hr
 |.freeze ad n k,t',R,Rs,w,W,es,es',a,w1,cY,h1,h2,hW,hn,hr=>by
  obtain⟨k',rfl,hk⟩:=h1;have cq:S.d≤ad.block∧ad.block<w.heap.size:=by
   obtain⟨k',e,_⟩:=h2 w.heap.size (zab _);simp only[Sem.freeze.injEq]at e;exact bK.1 (ib.1 e.1.symm)
  have jL:∀n,w.heap.size≤n→aa P (sg S S.d n) (Rs n) k k:=λn hn=>by
   obtain⟨k',e,hk⟩:=h2 n hn;simp only[Sem.freeze.injEq]at e;obtain⟨_,_,rfl⟩:=e;exact hk
  simp only[Θ]at hr ⊢;have hsz:(w.freeze ad n).heap.size=w.heap.size:=by unfold Γ.freeze;split<;>simp
  obtain⟨b,W1,iG,r1,r2,r3,r4,r5,r6⟩:=df hp LH k k' R Rs (w.freeze ad n) (W.freeze (ra ρ ad) n) es es' a w1 cY hk (by rw[hsz];exact jL) (hW.freeze hp.inj cq.1) (by
   have e1:(w.freeze ad n).tape=w.tape:=by unfold Γ.freeze;split<;>rfl
   have e2:(w.freeze ad n).drawn=w.drawn:=by unfold Γ.freeze;split<;>rfl
   have e3:(W.freeze (ra ρ ad) n).tape=W.tape:=by unfold Γ.freeze;split<;>rfl
   have e4:(W.freeze (ra ρ ad) n).drawn=W.drawn:=by unfold Γ.freeze;split<;>rfl
   unfold Win;rw[e1,e2,e3,e4];exact hn) hr
  refine⟨b,W1,iG,r1,r2,r3,r4,Fi.trans ?_ r5,r6⟩;unfold Γ.freeze;by_cases Py:n=0
  ·simp only[Py,if_true];exact Fi.refl _ _
  ·simp only[Py,if_false];exact xJ cq.1 cq.2 (fY _ _ _) (fY _ _ _)
 |.frozen ad k,t',R,Rs,w,W,es,es',a,w1,cY,h1,h2,hW,hn,hr=>by
  obtain⟨k',rfl,hk⟩:=h1;have cq:S.d≤ad.block∧ad.block<w.heap.size:=by
   obtain⟨k',e,_⟩:=h2 w.heap.size (zab _);simp only[Sem.frozen.injEq]at e;exact bK.1 (ib.1 e.1.symm)
  have jL:∀x n,w.heap.size≤n→aa P (sg S S.d n) (Rs n) (k x) (k x):=λx n hn=>by
   obtain⟨k',e,hk⟩:=h2 n hn;simp only[Sem.frozen.injEq]at e;obtain⟨_,rfl⟩:=e;exact hk x
  simp only[Θ]at hr ⊢;rw[yR hW cq.1 cq.2];exact df hp LH _ _ R Rs w W es es' a w1 cY (hk _) (jL _) hW hn hr
 |.getObj r k,t',R,Rs,w,W,es,es',a,w1,cY,h1,h2,hW,hn,hr=>by
  obtain⟨k',rfl,hk⟩:=h1;have cq:S.d≤r∧r<w.heap.size:=by
   obtain⟨k',e,_⟩:=h2 w.heap.size (zab _);simp only[Sem.getObj.injEq]at e;exact bK.1 e.1.symm
  obtain⟨o,ho⟩:∃o,w.heap[r]?=some o:=⟨_,zaH cq.2⟩;have hl:=hW.live _ o cq.1 ho;have dY:=hW.closed _ o cq.1 ho;have cg:=hW.ok _ o ho;have Fj:∀n,w.heap.size≤n→ro (sg S S.d n) o=o:=λn hn=>qQ (cO hn).1 (cO hn).2 dY;have jL:∀n,w.heap.size≤n→aa P (sg S S.d n) (Rs n) (k o) (k o):=λn hn=>by
   obtain⟨k',e,hk⟩:=h2 n hn;simp only[Sem.getObj.injEq]at e;obtain⟨_,rfl⟩:=e;have:=hk o (.inr (Fj n hn));rwa[Fj n hn]at this
  have go:∀(ts:Array π) (sy:Bool),sy=false→(k o).runT P w ts=(.ok a w1,cY)→∃b W1 iG,(k' (ro ρ o)).runT P W (es'.push ⟨.obj (ρ r),false,sy⟩)=(.ok b W1,iG)∧R a b∧(∀n,w1.heap.size≤n→Rs n a a)∧WR P S ρ w1 W1∧Fi S.d ρ w w1 W W1∧∀e∈iG,e∈es'∨pj S.d ρ w1 e:=λts sy hsy hrun=>by
   subst hsy;obtain⟨b,W1,iG,r1,r2,r3,r4,r5,r6⟩:=df hp LH (k o) (k' (ro ρ o)) R Rs w W ts _ a w1 cY (hk o (LH o)) jL hW hn hrun;refine⟨b,W1,iG,r1,r2,r3,r4,r5,λe he=>?_⟩;rcases r6 e he with h|h
   ·rcases Array.mem_push.1 h with h|rfl
    ·exact .inl h
    ·exact .inr ⟨⟨r,cq.1,by have:=r5.gN;omega,rfl⟩,rfl⟩
   ·exact .inr h
  simp only[Θ,ho,hl]at hr ⊢;cases o with
  |cells c e f=>simp at hr
  |view x t=>exact go _ _ rfl hr
  |number x t=>exact go _ _ rfl hr
  |map x t=>exact go _ _ rfl hr
  |_=>exact cg.elim
 |.setObj r o k,t',R,Rs,w,W,es,es',a,w1,cY,h1,h2,hW,hn,hr=>by
  obtain⟨LI,k',rfl,hk⟩:=h1;have cq:(S.d≤r∧r<w.heap.size)∧ro (sg S S.d w.heap.size) o=o:=by
   obtain⟨_,k',e,_⟩:=h2 w.heap.size (zab _);simp only[Sem.setObj.injEq]at e;exact⟨bK.1 e.1.symm,e.2.1.symm⟩
  obtain⟨cq,dY⟩:=cq;have jL:∀n,w.heap.size≤n→aa P (sg S S.d n) (Rs n) k k:=λn hn=>by
   obtain⟨_,k',e,hk⟩:=h2 n hn;simp only[Sem.setObj.injEq]at e;obtain⟨_,_,rfl⟩:=e;exact hk
  obtain⟨o0,ho⟩:∃o,w.heap[r]?=some o:=⟨_,zaH cq.2⟩;have hl:=hW.live _ o0 cq.1 ho;have cg:=hW.ok _ o0 ho;have Dz:WR P S ρ { w with heap:=w.heap.setIfInBounds r o } { W with heap:=W.heap.setIfInBounds (ρ r) (ro ρ o) }:=by
   refine hW.upd hp.inj cq.1 (gW _ _ _) (gW _ _ _) (λo1 _=>⟨?_,rfl,λ_=>dY⟩);cases o<;>first|exact LI.elim|trivial
  have go:∀(ts:Array π),k.runT P { w with heap:=w.heap.setIfInBounds r o } ts=(.ok a w1,cY)→∃b W1 iG,k'.runT P { W with heap:=W.heap.setIfInBounds (ρ r) (ro ρ o) } (es'.push ⟨.obj (ρ r),true,false⟩)=(.ok b W1,iG)∧R a b∧(∀n,w1.heap.size≤n→Rs n a a)∧WR P S ρ w1 W1∧Fi S.d ρ w w1 W W1∧∀e∈iG,e∈es'∨pj S.d ρ w1 e:=λts hrun=>by
   obtain⟨b,W1,iG,r1,r2,r3,r4,r5,r6⟩:=df hp LH k k' R Rs _ _ ts (es'.push ⟨.obj (ρ r),true,false⟩) a w1 cY hk (by simpa using jL) Dz hn hrun;refine⟨b,W1,iG,r1,r2,r3,r4,(xJ cq.1 cq.2 (gW _ _ _) (gW _ _ _)).trans r5,λe he=>?_⟩;rcases r6 e he with h|h
   ·rcases Array.mem_push.1 h with h|rfl
    ·exact .inl h
    ·exact .inr ⟨⟨r,cq.1,by have:=r5.gN;simp at this;omega,rfl⟩,rfl⟩
   ·exact .inr h
  have hch:o.isChan=false∧(ro ρ o).isChan=false:=by cases o<;>first|exact LI.elim|exact⟨rfl,rfl⟩
  simp only[Θ,ho,hl,hch.1,hch.2]at hr ⊢;cases o0 with
  |cells c e f=>simp at hr
  |view x t=>exact go _ hr
  |number x t=>exact go _ hr
  |map x t=>exact go _ hr
  |_=>exact cg.elim
 |.choose q k,t',R,Rs,w,W,es,es',a,w1,cY,h1,h2,hW,hn,hr=>by
  obtain⟨k',rfl,hk⟩:=h1;have jL:∀x n,w.heap.size≤n→aa P (sg S S.d n) (Rs n) (k x) (k x):=λx n hn=>by
   obtain⟨k',e,hk⟩:=h2 n hn;simp only[Sem.choose.injEq]at e;obtain⟨_,rfl⟩:=e;exact hk x
  simp only[Θ]at hr ⊢;by_cases hq:q.forced=true
  ·simp only[hq,if_true]at hr ⊢;exact df hp LH _ _ R Rs w W es es' a w1 cY (hk _) (jL _) hW hn hr
  ·simp only[hq,if_false,zaT]at hr ⊢;have hd:=cT _ _ _ _ _ _ hr;simp only at hd;have h0:=hn 0 (by omega) q;simp only[Nat.add_zero]at h0;rw[h0];obtain⟨b,W1,iG,r1,r2,r3,r4,r5,r6⟩:=df hp LH (k (q.cut (w.tape w.drawn q))) (k' (q.cut (w.tape w.drawn q))) R Rs { w with drawn:=w.drawn+1 } { W with drawn:=W.drawn+1 } es es' a w1 cY (hk _) (jL _) (hW.drew _ _) (λj hj qq=>by
    have:=hn (j+1) (by simp only at hj;omega) qq;show W.tape (W.drawn+1+j) qq=w.tape (w.drawn+1+j) qq;rw[show W.drawn+1+j=W.drawn+(j+1) by omega,show w.drawn+1+j=w.drawn+(j+1) by omega];exact this) hr
   exact⟨b,W1,iG,r1,r2,r3,r4,⟨r5.tape,by have:=r5.drawn;simp only at this;omega,r5.os,r5.output,r5.size,r5.frame,r5.gN,r5.FJ,r5.wos,r5.P5,by have:=r5.vo;simp only at this;omega⟩,r6⟩
 |.sys c k,t',R,Rs,w,W,es,es',a,w1,cY,h1,h2,hW,hn,hr=>(xK (.sys c k) _ _ _ _ _ h1 hr).elim
 |.program k,t',R,Rs,w,W,es,es',a,w1,cY,h1,h2,hW,hn,hr=>by
  obtain⟨k',rfl,hk⟩:=h1;have jL:∀n,w.heap.size≤n→aa P (sg S S.d n) (Rs n) (k P) (k P):=λn hn=>by
   obtain⟨k',e,hk⟩:=h2 n hn;simp only[Sem.program.injEq]at e;obtain rfl:=e;exact hk
  simp only[Θ]at hr ⊢;exact df hp LH (k P) (k' P) R Rs w W es es' a w1 cY hk jL hW hn hr
 |.mark m k,t',R,Rs,w,W,es,es',a,w1,cY,h1,h2,hW,hn,hr=>by
  obtain⟨hm,k',rfl,hk⟩:=h1;have jL:∀n,w.heap.size≤n→aa P (sg S S.d n) (Rs n) k k:=λn hn=>by
   obtain⟨_,k',e,hk⟩:=h2 n hn;simp only[Sem.mark.injEq]at e;obtain⟨_,rfl⟩:=e;exact hk
  simp only[Θ]at hr ⊢;obtain⟨b,W1,iG,r1,r2,r3,r4,r5,r6⟩:=df hp LH k k' R Rs w W _ (es'.push ⟨.mark m,false,true⟩) a w1 cY hk jL hW hn hr;refine⟨b,W1,iG,r1,r2,r3,r4,r5,λe he=>?_⟩;rcases r6 e he with h|h
  ·rcases Array.mem_push.1 h with h|rfl
   ·exact .inl h
   ·exact .inr ⟨hm,rfl⟩
  ·exact .inr h
 |.halt h,t',R,Rs,w,W,es,es',a,w1,cY,h1,h2,hW,hn,hr=>by simp[Θ]at hr
end
end Go.Ren
namespace Go.Ren
open Go Go.Conc
section defs
variable (P:Φ)(F:υ→Bool)(S:Sd)
def bp:Code→Bool
 |.skip |.ret |.exit _|.refuse _=>true
 |.region _ ops _=>ops.all λo=>gw P F S o.op
 |.seq a b=>bp a&&bp b
 |.cond c a b=>gG S c&&bp a&&bp b
 |.block _ a|.loop a=>bp a
 |_=>false
def aB:Item→Bool
 |.code c=>bp P F S c
 |.inBlock _=>true
 |.inLoop c=>bp P F S c
 |.inRegion ops l=>l.all λi=>(ops[i]?).all λo=>gw P F S o.op
 |_=>false
structure lx (fr:Δ):Prop where
 defers:fr.defers=[]
 mode:fr.mode=.run∨fr.mode=.returning
 kind:fr.kind=.normal
 round:fr.roundOf=none
 todo:fr.todo.all (aB P F S)=true
 fn:∃f,P.funcs[fr.fn]?=some f
structure jM:Prop where
 SF:∀g,S g=true→F g=true
 fn:∀f,F f=true→LF P S f
 body:∀f fn c,F f=true→P.funcs[f]?=some fn→fn.body=some c→bp P F S c=true
 zero:∀t i v,P.info? t=some i→i.zero=some v→∀ρ:Rn,rv ρ v=v
end defs
def aR (P:Φ)(fr:Δ)(above:List Δ):Sem (Δ×List Δ):=
 match fr.mode with
 |.run=>
  match fr.todo with
  |[]=>pure ({ fr with mode:= .returning },above)
  |.code .ret::_=>pure ({ fr with mode:= .returning },above)
  |.code .skip::k|.inBlock _::k=>pure ({ fr with todo:=k },above)
  |.code (.seq a b)::k=>pure ({ fr with todo:= .code a::.code b::k },above)
  |.code (.cond c a b)::k=>match fr.eval c with
   |.bool t=>pure ({ fr with todo:= .code (if t then a else b)::k },above)
   |_=>stuck ""
  |.code (.block id a)::k=>pure ({ fr with todo:= .code a::.inBlock id::k },above)
  |.code (.loop a)::k|.inLoop a::k=>pure ({ fr with todo:= .code a::.inLoop a::k },above)
  |.code (.exit id)::k=>match ψ id k with
   |some k'=>pure ({ fr with todo:=k' },above)
   |none=>stuck ""
  |.code (.region id ops draw)::k=>
   if draw then do
    let t ←choose (.order fr.fn id)
    pure ({ fr with todo:= .inRegion ops (Region.schedule (P.follows .mixedOrders) ops t)::k },above)
   else pure ({ fr with todo:= .inRegion ops (List.range ops.size)::k },above)
  |.inRegion _ []::k=>pure ({ fr with todo:=k },above)
  |.inRegion ops (i::_)::_=>
   if((ops[i]?).map (ζ · (ξ ops fr.tmps))).getD false then
    match ops[i]? with
    |some o=>do
     match ←Ξ fr.eval o with
     |.value v=>pure (fr.finish v,above)
     |.skip=>pure (fr.finish ω,above)
     |.enter f args=>pure (Δ.enter P f args .normal,fr::above)
     |_=>stuck ""
    |none=>stuck ""
   else pure (fr.finish ω,above)
  |_=>stuck ""
 |_=>match P.funcs[fr.fn]? with
  |some fn=>do
   let v ←results fn fr.tmps
   match above with
   |c::rest=>pure (c.finish v,rest)
   |[]=>stuck ""
  |none=>stuck ""
def bS (ρ:Rn)(fr:Δ):Δ:={ fr with tmps:=fr.tmps.map (rv ρ) }
section
variable {P:Φ}{F:υ→Bool}{S:Sd}{ρ:Rn}
theorem di:rv ρ ω=ω:=by simp[ω,rv]
theorem th {fr:Δ}{x:ϊ}(h:gG S x=true)(hf:s7 S ρ):(bS ρ fr).eval x=rv ρ (fr.eval x):=by
 cases x with
 |tmp t=>
  simp only[Δ.eval,bS,zby,zaE];cases fr.tmps[t]?<;>simp[di]
 |const v=>exact(il h ρ).symm
 |global g=>
  simp only[gG,zaj,zaQ]at h;simp[Δ.eval,rv,ra,hf.g g h.1 h.2]
 |func f=>simp only[Δ.eval,rv,zcn,hf.f f h]
theorem yT (fr:Δ)(v:η)(ht:fr.todo.all (aB P F S)=true):(bS ρ fr).finish (rv ρ v)=bS ρ (fr.finish v):=by
 obtain⟨fn,tmps,todo,defers,mode,kind,ro⟩:=fr
 match todo with
 |[]=>rfl
 |.inRegion ops []::k=>rfl
 |.inRegion ops (i::rest)::k=>
  simp only[Δ.finish,bS];cases (ops[i]?).bind (·.dst)<;>simp[Array.map_setIfInBounds]
 |.code c::k=>rfl
 |.inBlock c::k=>rfl
 |.inLoop c::k=>rfl
 |.inScope c::k=>simp[aB]at ht
 |.inRangeFunc c::k=>simp[aB]at ht
 |.endRangeFunc c::k=>simp[aB]at ht
 |.beginRound::k=>simp[aB]at ht
 |.call ..::k=>simp[aB]at ht
 |.extern ..::k=>simp[aB]at ht
theorem B7 {fr:Δ}(h:lx P F S fr)(v:η):lx P F S (fr.finish v):=by
 obtain⟨h1,h2,h3,h4,h5,h6⟩:=h;obtain⟨fn,tmps,todo,defers,mode,kind,ro⟩:=fr;simp only at h1 h2 h3 h4 h5 h6
 match todo with
 |[]=>exact⟨h1,h2,h3,h4,h5,h6⟩
 |.inRegion ops []::k=>exact⟨h1,h2,h3,h4,h5,h6⟩
 |.inRegion ops (i::rest)::k=>
  refine⟨h1,h2,h3,h4,?_,h6⟩;simp only[zat,aB,zaj]at h5;simp only[Δ.finish,zat,aB,zaj];exact⟨h5.1.2,h5.2⟩
 |.code c::k=>exact⟨h1,h2,h3,h4,h5,h6⟩
 |.inBlock c::k=>exact⟨h1,h2,h3,h4,h5,h6⟩
 |.inLoop c::k=>exact⟨h1,h2,h3,h4,h5,h6⟩
 |.inScope c::k=>simp[aB]at h5
 |.inRangeFunc c::k=>simp[aB]at h5
 |.endRangeFunc c::k=>simp[aB]at h5
 |.beginRound::k=>simp[aB]at h5
 |.call ..::k=>simp[aB]at h5
 |.extern ..::k=>simp[aB]at h5
theorem Nh {ops:Array Oper}(h:(ops.all λo=>gw P F S o.op)=true)(l:List Nat):(l.all λi=>(ops[i]?).all λo=>gw P F S o.op)=true:=by
 refine zaI.2 λi _=>?_;cases ho:ops[i]? with
 |none=>rfl
 |some o=>exact Array.all_eq_true'.1 h o (zbI ho)
theorem mV {id:Nat}:∀{k k':List Item},ψ id k=some k'→k.all (aB P F S)=true→k'.all (aB P F S)=true
 |.inBlock id'::k,k',h,hk=>by
  simp only[ψ]at h;simp only[zat,zaj]at hk;split at h
  ·cases h;exact hk.2
  ·exact mV h hk.2
 |.code c::k,k',h,hk=>by
  simp only[ψ]at h;simp only[zat,zaj]at hk;exact mV h hk.2
 |.inLoop c::k,k',h,hk=>by
  simp only[ψ]at h;simp only[zat,zaj]at hk;exact mV h hk.2
 |.inRegion ..::k,k',h,hk=>by
  simp only[ψ]at h;simp only[zat,zaj]at hk;exact mV h hk.2
 |.inScope c::k,k',h,hk=>by simp[aB]at hk
 |.inRangeFunc c::k,k',h,hk=>by simp[aB]at hk
 |.endRangeFunc c::k,k',h,hk=>by simp[aB]at hk
 |.beginRound::k,k',h,hk=>by simp[aB]at hk
 |.call ..::k,k',h,hk=>by simp[aB]at hk
 |.extern ..::k,k',h,hk=>by simp[aB]at hk
 |[],k',h,hk=>by simp[ψ]at h
theorem tj (hC:jM P F S){f:υ}(hf:F f=true)(args:Array η):lx P F S (Δ.enter P f args .normal):=by
 obtain⟨fn,h1,_,_⟩:=hC.fn f hf;refine⟨rfl,.inl rfl,rfl,rfl,?_,⟨fn,h1⟩⟩;simp only[Δ.enter,h1,Option.bind,zat,List.all_nil,zbJ,aB];cases hb:fn.body with
 |none=>rfl
 |some c=>exact hC.body f fn c hf h1 hb
theorem im (f:υ)(args:Array η):Δ.enter P f (args.map (rv ρ)) .normal=bS ρ (Δ.enter P f args .normal):=by
 simp[Δ.enter,bS,di]
theorem pJ (ops:Array Oper)(tmps:Array η)(j:Nat):ξ ops (tmps.map (rv ρ)) j=ξ ops tmps j:=by
 unfold ξ;cases (ops[j]?).bind (·.dst)with
 |none=>rfl
 |some d=>
  simp only[Option.bind,zaE];cases tmps[d]? with
  |none=>rfl
  |some v=>cases v<;>simp[rv]
theorem aa.P7 {α β:Type}{R:α→β→Prop}{b b':Bool}(hb:b'=b){s t:Sem α}{s' t':Sem β}(h1:aa P ρ R s s')(h2:aa P ρ R t t'):aa P ρ R (if b then s else t) (if b' then s' else t'):=by
 subst hb;cases b'<;>simp[h1,h2]
def FF (P:Φ)(F:υ→Bool)(S:Sd)(ρ:Rn)(x y:Δ×List Δ):Prop:=y=(bS ρ x.1,x.2.map (bS ρ))∧lx P F S x.1∧∀f∈x.2,lx P F S f
theorem VE {fr:Δ}(h:lx P F S fr){t:List Item}(ht:t.all (aB P F S)=true):lx P F S { fr with todo:=t }:=⟨h.defers,h.mode,h.kind,h.round,ht,h.fn⟩
theorem DC (hC:jM P F S)(hp:Plain P ρ)(hf:s7 S ρ){fr:Δ}{above:List Δ}(h:lx P F S fr)(ha:∀f∈above,lx P F S f)
 (hg:∀v∈fr.tmps,GV P ρ v)(hv:∀v∈fr.tmps,FV S v):aa P ρ (FF P F S ρ) (aR P fr above) (aR P (bS ρ fr) (above.map (bS ρ))):=by
 have gf:∀x,gG S x=true→GV P ρ (fr.eval x)∧FV S (fr.eval x):=λx hx=>by
  cases x with
  |tmp t=>
   simp only[Δ.eval,zby];cases hc:fr.tmps[t]? with
   |none=>exact⟨.inr di,λfn a b e=>by cases e⟩
   |some v=>exact⟨hg v (zbI hc),hv v (zbI hc)⟩
  |const v=>
   refine⟨.inr (il hx ρ),λfn a b e=>?_⟩;simp only[Δ.eval]at e;subst e;cases hx
  |global g=>
   simp only[gG,zaj,zaQ]at hx;exact⟨.inr (by simp[Δ.eval,rv,ra,hf.g g hx.1 hx.2]),λfn a b e=>by cases e⟩
  |func f=>
   refine⟨.inr ?_,λfn a b e=>?_⟩
   ·simp only[Δ.eval,rv,zcn,hf.f f hx]
   ·simp only[Δ.eval,η.func.injEq]at e;exact⟨f,e.1.symm,hx⟩
 obtain⟨fn0,tmps,todo,defers,mode,kind,mL⟩:=fr;have hand:=h.todo;have hm:=h.mode;have XN:=h.fn;simp only at hand hm XN;rcases hm with rfl|rfl
 ·have ctl:∀t:List Item,t.all (aB P F S)=true→aa P ρ (FF P F S ρ) (pure (⟨fn0,tmps,t,defers,.run,kind,mL⟩,above)) (pure (⟨fn0,tmps.map (rv ρ),t,defers,.run,kind,mL⟩,above.map (bS ρ))):=λt ht=>aa.pure ⟨rfl,VE h ht,ha⟩;have ret:aa P ρ (FF P F S ρ) (pure (⟨fn0,tmps,todo,defers,.returning,kind,mL⟩,above)) (pure (⟨fn0,tmps.map (rv ρ),todo,defers,.returning,kind,mL⟩,above.map (bS ρ))):=aa.pure ⟨rfl,⟨h.defers,.inr rfl,h.kind,h.round,h.todo,h.fn⟩,ha⟩
  match todo,h,gf,hand,ret with
  |[],h,gf,hand,ret=>exact ret
  |.code .ret::_,h,gf,hand,ret=>exact ret
  |.code .skip::k,h,gf,hand,ret=>exact ctl k (by simpa[aB,bp]using hand)
  |.inBlock _::k,h,gf,hand,ret=>exact ctl k (by simpa[aB]using hand)
  |.code (.seq a b)::k,h,gf,hand,ret=>exact ctl _ (by simpa[aB,bp,and_assoc]using hand)
  |.code (.block id a)::k,h,gf,hand,ret=>exact ctl _ (by simpa[aB,bp]using hand)
  |.code (.loop a)::k,h,gf,hand,ret=>exact ctl _ (by simpa[aB,bp]using hand)
  |.inLoop a::k,h,gf,hand,ret=>exact ctl _ (by simpa[aB,bp]using hand)
  |.inRegion _ []::k,h,gf,hand,ret=>exact ctl k (by simp[aB]at hand ⊢;exact hand)
  |.code (.cond c a b)::k,h,gf,hand,ret=>
   simp only[zat,aB,bp,zaj]at hand;have e:=th (fr:=⟨fn0,tmps,.code (.cond c a b)::k,defers,.run,kind,mL⟩) hand.1.1.1 hf;simp only[aR,bS]at e ⊢;rw[e];generalize Δ.eval _ c=q;cases q with
   |bool t=>simp only[rv];refine ctl _ ?_;simp only[zat,aB,zaj];cases t;exact⟨hand.1.2,hand.2⟩;exact⟨hand.1.1.2,hand.2⟩
   |_=>simp only[rv];exact aa.stuck _
  |.code (.exit id)::k,h,gf,hand,ret=>
   simp only[aR,bS];cases he:ψ id k with
   |none=>exact aa.stuck _
   |some k'=>exact ctl k' (mV he (by simp[aB,bp]at hand ⊢;exact hand))
  |.code (.region id ops draw)::k,h,gf,hand,ret=>
   simp only[aR,bS];have hr:∀l,((Item.inRegion ops l)::k).all (aB P F S)=true:=λl=>by
    simp only[zat,aB,bp,zaj]at hand ⊢;exact⟨Nh hand.1 l,hand.2⟩
   refine aa.aj (λ_=>?_) (λ_=>ctl _ (hr _));refine aa.bind (iD _) ?_;rintro t _ rfl;exact ctl _ (hr _)
  |.inRegion ops (i::rest)::k,h,gf,hand,ret=>
   simp only[aR];have hw:((ops[i]?).map (ζ · (ξ ops (tmps.map (rv ρ))))).getD false=((ops[i]?).map (ζ · (ξ ops tmps))).getD false:=by
    have:ξ ops (tmps.map (rv ρ))=ξ ops tmps:=funext λj=>pJ ops tmps j;rw[this]
   have pK:∀v,aa P ρ (FF P F S ρ) (pure ((⟨fn0,tmps,.inRegion ops (i::rest)::k,defers,.run,kind,mL⟩:Δ).finish v,above)) (pure ((bS ρ (⟨fn0,tmps,.inRegion ops (i::rest)::k,defers,.run,kind,mL⟩:Δ)).finish (rv ρ v),above.map (bS ρ))):=λv=>by
    rw[yT (P:=P) (F:=F) (S:=S) _ v h.todo];exact aa.pure ⟨rfl,B7 h v,ha⟩
   refine aa.P7 hw ?_ ?_
   ·cases ho:ops[i]? with
    |none=>exact aa.stuck _
    |some o=>
     dsimp only;have cg:gw P F S o.op=true:=by
      simp only[zat,aB,zaj]at hand;have:=hand.1.1;rw[ho]at this;simpa using this
     refine aa.bind (pI (F:=F) hp hf hC.SF hC.fn o cg (ev:=(⟨fn0,tmps,.inRegion ops (i::rest)::k,defers,.run,kind,mL⟩:Δ).eval) (ev':=(bS ρ (⟨fn0,tmps,.inRegion ops (i::rest)::k,defers,.run,kind,mL⟩:Δ)).eval) (λx hx=>th hx hf) (λx hx=>(gf x hx).1) (λx hx=>(gf x hx).2) (λ_=>rfl) (λ_=>rfl) (λ_=>rfl) (λ_=>rfl)) ?_;intro nx VF hn;cases nx<;>simp only[NN]at hn
     ·subst hn;exact pK _
     ·subst hn;have:=pK ω;rwa[di]at this
     ·obtain⟨hF,rfl⟩:=hn;dsimp only;rw[im];exact aa.pure ⟨rfl,tj hC hF _,λf hx=>by
       rcases zav.1 hx with rfl|hx
       ·exact h
       ·exact ha f hx⟩
   ·have:=pK ω;rwa[di]at this
  |.code (.rangeFunc ..)::k,h,gf,hand,ret=>simp[aB,bp]at hand
  |.code (.scope ..)::k,h,gf,hand,ret=>simp[aB,bp]at hand
  |.code (.label ..)::k,h,gf,hand,ret=>simp[aB,bp]at hand
  |.code (.goto ..)::k,h,gf,hand,ret=>simp[aB,bp]at hand
  |.code (.refuse ..)::k,h,gf,hand,ret=>exact aa.stuck _
  |.inScope c::k,h,gf,hand,ret=>simp[aB]at hand
  |.inRangeFunc c::k,h,gf,hand,ret=>simp[aB]at hand
  |.endRangeFunc c::k,h,gf,hand,ret=>simp[aB]at hand
  |.beginRound::k,h,gf,hand,ret=>simp[aB]at hand
  |.call ..::k,h,gf,hand,ret=>simp[aB]at hand
  |.extern ..::k,h,gf,hand,ret=>simp[aB]at hand
 ·simp only[aR,bS];obtain⟨fn,h1⟩:=XN;rw[h1];dsimp only;refine aa.bind (ju hp fn tmps di) ?_;rintro v _ rfl;cases above with
  |nil=>exact aa.stuck _
  |cons c rest=>
   simp only[zaD];have hc:=ha c (by simp);have e:=yT (ρ:=ρ) (P:=P) (F:=F) (S:=S) c v hc.todo;rw[e];exact aa.pure ⟨rfl,B7 hc v,λf hx=>ha f (by simp[hx])⟩
end
theorem bu (P:Φ){α β:Type}:∀(s:Sem α) (f:α→Sem β) (w:Γ) (es0:Array π),(s>>=f).runT P w es0=match s.runT P w es0 with|(.ok a w1,cY)=>(f a).runT P w1 cY|(.halt h w1,cY)=>(.halt h w1,cY)
 |.pure a,f,w,es=>rfl
 |.load m a k,f,w,es=>by
  show(Sem.load m a λv=>(k v>>=f)).runT P w es=_;simp only[Θ];split
  ·exact bu P _ f _ _
  ·split
   ·exact bu P _ f _ _
   ·rfl
 |.store m a v k,f,w,es=>by
  show(Sem.store m a v (k>>=f)).runT P w es=_;cases v<;>simp only[Θ]<;>(try rfl)<;>(split<;>(try split)<;>first|exact bu P _ f _ _|rfl)
 |.new o k,f,w,es=>by show(Sem.new o λv=>(k v>>=f)).runT P w es=_;simp only[Θ];exact bu P _ f _ _
 |.shape r k,f,w,es=>by show(Sem.shape r λv=>(k v>>=f)).runT P w es=_;simp only[Θ];exact bu P _ f _ _
 |.freeze a n k,f,w,es=>by show(Sem.freeze a n (k>>=f)).runT P w es=_;simp only[Θ];exact bu P _ f _ _
 |.frozen a k,f,w,es=>by show(Sem.frozen a λv=>(k v>>=f)).runT P w es=_;simp only[Θ];exact bu P _ f _ _
 |.getObj r k,f,w,es=>by
  show(Sem.getObj r λv=>(k v>>=f)).runT P w es=_;simp only[Θ];split<;>first|exact bu P _ f _ _|rfl
 |.setObj r o k,f,w,es=>by
  show(Sem.setObj r o (k>>=f)).runT P w es=_;simp only[Θ];split<;>first|exact bu P _ f _ _|rfl
 |.choose q k,f,w,es=>by
  show(Sem.choose q λv=>(k v>>=f)).runT P w es=_;simp only[Θ];split<;>exact bu P _ f _ _
 |.sys c k,f,w,es=>by show(Sem.sys c λv=>(k v>>=f)).runT P w es=_;simp only[Θ];exact bu P _ f _ _
 |.program k,f,w,es=>by show(Sem.program λv=>(k v>>=f)).runT P w es=_;simp only[Θ];exact bu P _ f _ _
 |.mark m k,f,w,es=>by show(Sem.mark m (k>>=f)).runT P w es=_;simp only[Θ];exact bu P _ f _ _
 |.halt h,f,w,es=>rfl
structure FL (P:Φ) (F:υ→Bool) (S:Sd) (fr:Δ):Prop where
 defers:fr.defers=[]
 mode:fr.mode=.run∨fr.mode=.returning
 kind:fr.kind=.normal
 round:fr.roundOf=none
 todo:(fr.todo.take 1).all (aB P F S)=true
 fn:∃f,P.funcs[fr.fn]?=some f
section
variable {P:Φ}{F:υ→Bool}{S:Sd}{main:Bool}{cs:List Δ}
theorem fp {fr fr':Δ}{above yU:List Δ}(h:FL P F S fr){w w':Γ}{es:Array π}(hr:(aR P fr above).runT P w #[]=(.ok (fr',yU) w',es)):θ P main (G fr (above++cs)) w=.go (G fr' (yU++cs)) w' (seen P fr.fn es):=by
 obtain⟨fn0,tmps,todo,defers,mode,kind,mL⟩:=fr;obtain⟨hd,hm,hk,eF,hand,XN⟩:=h;simp only at hd hm hk eF hand XN;subst hd hk eF;have none_:seen P fn0 #[]=#[]:=by simp[seen]
 rcases hm with rfl|rfl
 ·match todo,hand,hr with
  |[],hand,hr=>
   simp only[aR,pure,Θ,zag,zao]at hr;obtain⟨⟨⟨rfl,rfl⟩,rfl⟩,rfl⟩:=hr;simp[G,θ,ι,none_]
  |.code .ret::k,hand,hr=>
   simp only[aR,pure,Θ,zag,zao]at hr;obtain⟨⟨⟨rfl,rfl⟩,rfl⟩,rfl⟩:=hr;simp[G,θ,ι,none_]
  |.code .skip::k,hand,hr=>
   simp only[aR,pure,Θ,zag,zao]at hr;obtain⟨⟨⟨rfl,rfl⟩,rfl⟩,rfl⟩:=hr;simp[G,θ,ι,none_]
  |.inBlock _::k,hand,hr=>
   simp only[aR,pure,Θ,zag,zao]at hr;obtain⟨⟨⟨rfl,rfl⟩,rfl⟩,rfl⟩:=hr;simp[G,θ,ι,none_]
  |.code (.seq a b)::k,hand,hr=>
   simp only[aR,pure,Θ,zag,zao]at hr;obtain⟨⟨⟨rfl,rfl⟩,rfl⟩,rfl⟩:=hr;simp[G,θ,ι,none_]
  |.code (.block id a)::k,hand,hr=>
   simp only[aR,pure,Θ,zag,zao]at hr;obtain⟨⟨⟨rfl,rfl⟩,rfl⟩,rfl⟩:=hr;simp[G,θ,ι,none_]
  |.code (.loop a)::k,hand,hr=>
   simp only[aR,pure,Θ,zag,zao]at hr;obtain⟨⟨⟨rfl,rfl⟩,rfl⟩,rfl⟩:=hr;simp[G,θ,ι,none_]
  |.inLoop a::k,hand,hr=>
   simp only[aR,pure,Θ,zag,zao]at hr;obtain⟨⟨⟨rfl,rfl⟩,rfl⟩,rfl⟩:=hr;simp[G,θ,ι,none_]
  |.inRegion _ []::k,hand,hr=>
   simp only[aR,pure,Θ,zag,zao]at hr;obtain⟨⟨⟨rfl,rfl⟩,rfl⟩,rfl⟩:=hr;simp[G,θ,ι,none_]
  |.code (.cond c a b)::k,hand,hr=>
   simp only[aR]at hr;generalize hq:Δ.eval _ c=q at hr;cases q with
   |bool t=>
    simp only[pure,Θ,zag,zao]at hr;obtain⟨⟨⟨rfl,rfl⟩,rfl⟩,rfl⟩:=hr;simp[G,θ,ι,none_,hq]
   |_=>simp[stuck]at hr
  |.code (.exit id)::k,hand,hr=>
   simp only[aR]at hr;cases he:ψ id k with
   |none=>rw[he]at hr;simp[stuck]at hr
   |some k'=>
    rw[he]at hr;simp only[pure,Θ,zag,zao]at hr;obtain⟨⟨⟨rfl,rfl⟩,rfl⟩,rfl⟩:=hr;simp[G,θ,ι,none_,he]
  |.code (.region id ops draw)::k,hand,hr=>
   cases draw with
   |false=>
    simp only[aR,pure,Θ,zag,zao,zaT,if_false]at hr;obtain⟨⟨⟨rfl,rfl⟩,rfl⟩,rfl⟩:=hr;simp[G,θ,ι,none_]
   |true=>
    simp only[aR,if_true,bind,choose,Sem.bind,Θ,Question.forced,zaT,if_false,pure,zag,zao,Question.cut]at hr;obtain⟨⟨⟨rfl,rfl⟩,rfl⟩,rfl⟩:=hr;simp[G,θ,ι,none_,choose,Sem.run,Question.forced,Question.cut]
  |.inRegion ops (i::rest)::k,hand,hr=>
   simp only[aR]at hr;by_cases hw:((ops[i]?).map (ζ · (ξ ops tmps))).getD false=true
   ·rw[zac hw]at hr;cases ho:ops[i]? with
    |none=>rw[ho]at hr;simp[stuck]at hr
    |some o=>
     rw[ho]at hr;dsimp only at hr;have hstep:θ P main (G ⟨fn0,tmps,.inRegion ops (i::rest)::k,[],.run,.normal,none⟩ (above++cs)) w=
      stepG.apply P true ⟨fn0,tmps,.inRegion ops (i::rest)::k,[],.run,.normal,none⟩ (above++cs) none (Ξ (Δ.eval ⟨fn0,tmps,.inRegion ops (i::rest)::k,[],.run,.normal,none⟩) o) w:=by
      rw[ho]at hw;have hw':ζ o (ξ ops tmps)=true:=by simpa using hw
      simp[G,θ,ι,stepG.oper,Δ.oper?,ho,hw']
     rw[hstep];generalize hex:(Ξ (Δ.eval ⟨fn0,tmps,.inRegion ops (i::rest)::k,[],.run,.normal,none⟩) o)=ex at hr;rw[bu]at hr;cases hrun:ex.runT P w #[]with
     |mk r cY=>
      rw[hrun]at hr;cases r with
      |halt hh w1=>simp at hr
      |ok nx w1=>
       dsimp only at hr;cases nx<;>simp only[pure,stuck,Θ,zag,zao,reduceCtorEq,false_and]at hr;all_goals
        obtain⟨⟨⟨rfl,rfl⟩,rfl⟩,rfl⟩:=hr;have h1:=zal Prod.fst hrun;have h2:=zal Prod.snd hrun;simp at h1 h2;simp[stepG.apply,h1,h2,G,χ]
   ·rw[zaa hw]at hr;simp only[pure,Θ,zag,zao]at hr;obtain⟨⟨⟨rfl,rfl⟩,rfl⟩,rfl⟩:=hr;simp only[Bool.not_eq_true]at hw;simp[G,θ,ι,none_,hw,Δ.finish]
  |.code (.rangeFunc ..)::k,hand,hr=>simp[aB,bp]at hand
  |.code (.scope ..)::k,hand,hr=>simp[aB,bp]at hand
  |.code (.label ..)::k,hand,hr=>simp[aB,bp]at hand
  |.code (.goto ..)::k,hand,hr=>simp[aB,bp]at hand
  |.code (.refuse ..)::k,hand,hr=>simp[aR,stuck]at hr
  |.inScope c::k,hand,hr=>simp[aB]at hand
  |.inRangeFunc c::k,hand,hr=>simp[aB]at hand
  |.endRangeFunc c::k,hand,hr=>simp[aB]at hand
  |.beginRound::k,hand,hr=>simp[aB]at hand
  |.call ..::k,hand,hr=>simp[aB]at hand
  |.extern ..::k,hand,hr=>simp[aB]at hand
 ·obtain⟨fn,h1⟩:=XN;simp only[aR,h1]at hr;rw[bu]at hr;cases hrun:(results fn tmps).runT P w #[]with
  |mk r cY=>
   rw[hrun]at hr;cases r with
   |halt hh w1=>simp at hr
   |ok v w1=>
    dsimp only at hr;cases above with
    |nil=>simp[stuck]at hr
    |cons c rest=>
     simp only[pure,Θ,zag,zao]at hr;obtain⟨⟨⟨rfl,rfl⟩,rfl⟩,rfl⟩:=hr;have q1:=zal Prod.fst hrun;have q2:=zal Prod.snd hrun;simp at q1 q2;simp[G,θ,unwind,h1,q1,q2,doReturn,χ]
theorem LJ {f:Δ}(h:lx P F S f):FL P F S f:=⟨h.defers,h.mode,h.kind,h.round,by
 have:=h.todo;cases hq:f.todo with
 |nil=>rfl
 |cons x l=>rw[hq]at this;simp only[zat,zaj]at this;simpa using this.1,h.fn⟩
theorem n7 {fr fr':Δ}{above yU:List Δ}(h:lx P F S fr){w w':Γ}{es:Array π}(hr:(aR P fr above).runT P w #[]=(.ok (fr',yU) w',es)):θ P main (G fr (above++cs)) w=.go (G fr' (yU++cs)) w' (seen P fr.fn es):=fp (LJ h) hr
end
def jW:Rn:={ b:=id,f:=id,d:=0 }
theorem pL:∀v:η,rv jW v=v
 |.pointer none=>by simp[rv]
 |.pointer (some a)=>by simp[rv,ra,jW]
 |.slice none _ _=>by simp[rv]
 |.slice (some a) l c=>by simp[rv,ra,jW]
 |.map none=>by simp[rv]
 |.map (some r)=>by simp[rv,jW]
 |.chan none=>by simp[rv]
 |.chan (some r)=>by simp[rv,jW]
 |.func fn first captured=>by
  simp only[rv,η.func.injEq];refine⟨rfl,ba.2 λx hx=>?_,ba.2 λx hx=>?_⟩
  ·have:=zbj hx;exact pL x
  ·have:=zbj hx;exact pL x
 |.iface t v=>by simp only[rv,η.iface.injEq,true_and];exact pL v
 |.agg cs=>by
  simp only[rv,η.agg.injEq];refine ba.2 λx hx=>?_;have:=zbj hx;exact pL x
 |.tuple cs=>by
  simp only[rv,η.tuple.injEq];refine ba.2 λx hx=>?_;have:=zbj hx;exact pL x
 |.bool _=>by simp[rv]
 |.int _ _=>by simp[rv]
 |.float _ _=>by simp[rv]
 |.complex _ _ _=>by simp[rv]
 |.string _=>by simp[rv]
 |.nilFunc=>by simp[rv]
 |.nilIface=>by simp[rv]
termination_by v=>SizeOf.sizeOf v
theorem map_id' (cs:Array η):cs.map (rv jW)=cs:=ba.2 λx _=>pL x
theorem XO (a:Addr):ra jW a=a:=rfl
theorem FM (o:Obj):ro jW o=o:=by
 cases o with
 |cells c t f=>simp[ro,map_id']
 |pending c t=>simp[ro,map_id']
 |chan a b c d e f=>simp[ro,map_id']
 |view a t=>simp[ro,XO]
 |number a t=>simp[ro,XO]
 |map es c=>
  simp only[ro,Obj.map.injEq,zaA];apply Array.ext
  ·simp
  ·intro i h1 h2;simp[pL]
 |_=>rfl
theorem JE (fr:Δ):bS jW fr=fr:=by simp[bS,map_id']
theorem DD:∀l:List Δ,l.map (bS jW)=l
 |[]=>rfl
 |f::l=>by rw[zaD,JE,DD l]
section
variable {P:Φ}{F:υ→Bool}{S:Sd}
theorem mW (hC:jM P F S):Plain P jW:=⟨λt i v h1 h2=>hC.zero t i v h1 h2 _,λ_a _b h=>h⟩
theorem mX (hC:jM P F S)(n:Nat):Plain P (sg S S.d n):=⟨λt i v h1 h2=>hC.zero t i v h1 h2 _,Y9⟩
theorem LK:s7 S jW:=⟨λ_ _=>rfl,λ_ _ _=>rfl,λ_ _=> .inr rfl⟩
theorem DF:Bw P jW:=λ_=>Iff.rfl
theorem P8 (o:Obj):GO P jW o:= .inl DF
def jf (_P:Φ)(S:Sd)(n:Nat)(fr:Δ):Prop:=∀v∈fr.tmps,rv (sg S S.d n) v=v
structure PI (P:Φ) (F:υ→Bool) (S:Sd) (fr:Δ) (above:List Δ) (w:Γ):Prop where
 ok:lx P F S fr
 oks:∀f∈above,lx P F S f
 cl:jf P S w.heap.size fr
 cls:∀f∈above,jf P S w.heap.size f
 wr:WR P S jW w w
theorem jv {n:Nat}{v:η}(h:rv (sg S S.d n) v=v):FV S v:=by
 intro fn a b e;subst e;simp only[rv,η.func.injEq]at h;exact iE.1 h.1
theorem gX {n m:Nat}(h:n≤m){fr:Δ}(hc:jf P S n fr):jf P S m fr:=λv hv=>dO (cO h).1 (cO h).2 v (hc v hv)
theorem DG {n:Nat}{fr:Δ}(hc:jf P S n fr):bS (sg S S.d n) fr=fr:=by
 unfold bS;rw[ba.2 hc]
theorem vq {n:Nat}{fr:Δ}(h:bS (sg S S.d n) fr=fr):jf P S n fr:=by
 have:fr.tmps.map (rv (sg S S.d n))=fr.tmps:=zal Δ.tmps h;exact ba.1 this
theorem VG {n:Nat}{above:List Δ}(hc:∀f∈above,jf P S n f):above.map (bS (sg S S.d n))=above:=by
 induction above with
 |nil=>rfl
 |cons f l ih=>rw[zaD,DG (hc f (by simp)),ih λg hg=>hc g (by simp[hg])]
theorem yV {n:Nat}:∀{above:List Δ},above.map (bS (sg S S.d n))=above→∀f∈above,jf P S n f
 |[],_,f,hf=>by cases hf
 |g::l,h,f,hf=>by
  simp only[zaD,zcj]at h;rcases zav.1 hf with rfl|hf
  ·exact vq h.1
  ·exact yV h.2 f hf
theorem vt (hC:jM P F S){fr:Δ}{above:List Δ}{w:Γ}(h:PI P F S fr above w):∀n,w.heap.size≤n→aa P (sg S S.d n) (FF P F S (sg S S.d n)) (aR P fr above) (aR P fr above):=λn hn=>by
 have:=DC (ρ:=sg S S.d n) hC (mX hC n) (xI (zah h.wr.big.g hn)) h.ok h.oks (λv hv=> .inr (gX hn h.cl v hv)) (λv hv=>jv (h.cl v hv));rwa[DG (gX hn h.cl),VG λf hf=>gX hn (h.cls f hf)]at this
theorem VH (hC:jM P F S){fr:Δ}{above:List Δ}{w:Γ}(h:PI P F S fr above w):aa P jW (FF P F S jW) (aR P fr above) (aR P fr above):=by
 have:=DC (ρ:=jW) hC (mW hC) LK h.ok h.oks (λv _=> .inl DF) (λv hv=>jv (h.cl v hv));rwa[JE,DD]at this
theorem abh {x y:Δ×List Δ}(h:FF P F S jW x y):y=x:=by
 obtain⟨h,_⟩:=h;rw[JE,DD]at h;exact h
def _root_.Go.World.re (w:Γ)(τ:Nat→Question→Nat)(d:Nat):Γ:={ w with tape:=τ,drawn:=d }
theorem qT {a b:Γ}(h1:a.heap=b.heap)(h2:a.tape=b.tape)(h3:a.drawn=b.drawn)(h4:a.os=b.os)(h5:a.output=b.output):a=b:=by
 obtain⟨a1,a2,a3,a4,a5⟩:=a;obtain⟨b1,b2,b3,b4,b5⟩:=b;simp only at h1 h2 h3 h4 h5;subst h1 h2 h3 h4 h5;rfl
theorem ey (hC:jM P F S){fr:Δ}{above:List Δ}{w:Γ}(h:PI P F S fr above w){f1:Δ}{a1:List Δ}{w1:Γ}{es:Array π}
 (hr:(aR P fr above).runT P w #[]=(.ok (f1,a1) w1,es)):PI P F S f1 a1 w1∧w1.tape=w.tape∧w.drawn≤w1.drawn∧∀τ d,Win w w1 (w.re τ d)→∃es',(aR P fr above).runT P (w.re τ d) #[]=(.ok (f1,a1) (w1.re τ (d+(w1.drawn-w.drawn))),es'):=by
 have tq:=vt hC h;have key:∀τ d,Win w w1 (w.re τ d)→∃es',(aR P fr above).runT P (w.re τ d) #[]=(.ok (f1,a1) (w1.re τ (d+(w1.drawn-w.drawn))),es')∧PI P F S f1 a1 w1∧w1.tape=w.tape∧w.drawn≤w1.drawn:=λτ d yX=>by
  have hW:WR P S jW w (w.re τ d):=⟨h.wr.live,h.wr.ok,h.wr.dead,h.wr.closed,h.wr.next,h.wr.low,h.wr.big⟩;obtain⟨b,W1,es',r1,r2,r3,r4,r5,r6⟩:=df (mW hC) P8 _ _ _ (λn=>FF P F S (sg S S.d n)) w (w.re τ d) #[] #[] _ _ _ (VH hC h) tq hW yX hr;obtain rfl:=abh r2;have hsz:W1.heap.size=w1.heap.size:=by have:=r5.size;simp only[Γ.re]at this;omega
  have mY:W1.heap=w1.heap:=by
   apply Array.ext hsz;intro i hi1 hi2;have e:W1.heap[i]?=w1.heap[i]?:=by
    rcases zay i S.d with hlt|jN
    ·rw[r5.frame i (by have:=h.wr.big.d;show i<w.heap.size;omega) (by rintro ⟨r,hr1,_,e⟩;have e':i=r:=e;omega)];show w.heap[i]?=_;rw[h.wr.dead i hlt,r4.dead i hlt]
    ·have hs:w1.heap[i]?=some w1.heap[i]:=zaH hi2;have:=r4.live i _ jN hs;rw[FM]at this;rw[hs];exact this
   rw[zaH hi1,zaH hi2]at e;exact zaF e
  have hWe:W1=w1.re τ (d+(w1.drawn-w.drawn)):=by
   refine qT mY r5.tape ?_ (r5.os.trans r5.wos.symm) (r5.output.trans r5.P5.symm);have:=r5.drawn;have:=r5.vo;show W1.drawn=d+(w1.drawn-w.drawn);simp only[Γ.re]at *;omega
  have dY:=r3 w1.heap.size (zab _);have P9:bS (sg S S.d w1.heap.size) f1=f1:=(zal Prod.fst dY.1).symm;have Qa:a1.map (bS (sg S S.d w1.heap.size))=a1:=(zal Prod.snd dY.1).symm;have hwr:WR P S jW w1 w1:=by
   subst hWe;exact⟨r4.live,r4.ok,r4.dead,r4.closed,r4.next,r4.low,r4.big⟩
  exact⟨es',by rw[r1,hWe],⟨dY.2.1,dY.2.2,vq P9,yV Qa,hwr⟩,r5.FJ,r5.vo⟩
 obtain⟨_,_,k1,k2,k3⟩:=key w.tape w.drawn (λj _ q=>rfl);exact⟨k1,k2,k3,λτ d yX=>by obtain⟨es',e,_⟩:=key τ d yX;exact⟨es',e⟩⟩
theorem Qb (hC:jM P F S){ρ:Rn}(hp:Plain P ρ)(Jj:Bw P ρ)(hx:s7 S ρ){fr:Δ}{above:List Δ}{w W:Γ}(h:PI P F S fr above w)(hW:WR P S ρ w W){f1:Δ}{a1:List Δ}{w1:Γ}{es:Array π}
 (hn:Win w w1 W)(hr:(aR P fr above).runT P w #[]=(.ok (f1,a1) w1,es)):∃W1 es',WR P S ρ w1 W1∧Fi S.d ρ w w1 W W1∧(∀e∈es',pj S.d ρ w1 e)∧
   ∀main cs,θ P main (G (bS ρ fr) (above.map (bS ρ)++cs)) W=.go (G (bS ρ f1) (a1.map (bS ρ)++cs)) W1 (seen P fr.fn es'):=by
 have tq:=vt hC h;have BC:=DC (ρ:=ρ) hC hp hx h.ok h.oks (λv _=> .inl Jj) (λv hv=>jv (h.cl v hv));obtain⟨b,W1,es',r1,⟨rfl,o1,o2⟩,r3,r4,r5,r6⟩:=df hp (λo=> .inl Jj) _ _ _ (λn=>FF P F S (sg S S.d n)) w W #[] #[] _ _ _ BC tq hW hn hr;refine⟨W1,es',r4,r5,λe he=>(r6 e he).resolve_left (by simp),λmain cs=>?_⟩;have cg:lx P F S (bS ρ fr):=⟨h.ok.defers,h.ok.mode,h.ok.kind,h.ok.round,h.ok.todo,h.ok.fn⟩;exact n7 cg r1
end
abbrev Tp:=Nat→Question→Nat
inductive Qc (P:Φ) (Q:Δ→List Δ→Γ→Prop):Δ→List Δ→Γ→Prop
 |stop {fr:Δ} {above:List Δ} {w:Γ}:Q fr above w→Qc P Q fr above w
 |step {fr:Δ} {above:List Δ} {w:Γ} (nf:Tp→Nat→Δ) (na:Tp→Nat→List Δ) (nw:Tp→Nat→Γ) (ne:Tp→Nat→Array π):
   (∀τ d,(aR P fr above).runT P (w.re τ d) #[]=(.ok (nf τ d,na τ d) (nw τ d),ne τ d))→(∀τ d,Qc P Q (nf τ d) (na τ d) (nw τ d))→Qc P Q fr above w
inductive mZ (P:Φ):Nat→Δ→List Δ→Γ→Δ→List Δ→Γ→Prop
 |zero {fr:Δ} {above:List Δ} {w:Γ}:mZ P 0 fr above w fr above w
 |succ {n:Nat} {fr f1 f2:Δ} {above a1 a2:List Δ} {w w1 w2:Γ} {es:Array π}:(aR P fr above).runT P w #[]=(.ok (f1,a1) w1,es)→mZ P n f1 a1 w1 f2 a2 w2→mZ P (n+1) fr above w f2 a2 w2
section
variable {P:Φ}{F:υ→Bool}{S:Sd}{Q:Δ→List Δ→Γ→Prop}
theorem XP (w:Γ)(τ n9:Tp)(d d':Nat):(w.re τ d).re n9 d'=w.re n9 d':=rfl
theorem PI.re {fr:Δ}{above:List Δ}{w:Γ}(h:PI P F S fr above w)(τ:Tp)(d:Nat):PI P F S fr above (w.re τ d):=
 ⟨h.ok,h.oks,h.cl,h.cls,⟨h.wr.live,h.wr.ok,h.wr.dead,h.wr.closed,h.wr.next,h.wr.low,h.wr.big⟩⟩
theorem mZ.stays (hC:jM P F S):∀{n:Nat} {fr f:Δ} {above a:List Δ} {w w':Γ},mZ P n fr above w f a w'→PI P F S fr above w→Ren.PI P F S f a w'
 |0,fr,f,above,a,w,w',h,hI=>by cases h;exact hI
 |n+1,fr,f,above,a,w,w',h,hI=>by
  cases h with
  | @succ _ _ f1 _ _ a1 _ _ w1 _ es h1 h2=>exact mZ.stays hC h2 (ey hC hI h1).1
theorem mZ.shift (hC:jM P F S):∀{n:Nat} {fr f:Δ} {above a:List Δ} {w w':Γ},mZ P n fr above w f a w'→PI P F S fr above w→∀(τ:Tp) (d:Nat),(∀j q,τ (d+j) q=w.tape (w.drawn+j) q)→∃d',mZ P n fr above (w.re τ d) f a (w'.re τ d')
 |0,fr,f,above,a,w,w',h,hI,τ,d,hτ=>by cases h;exact⟨d,.zero⟩
 |n+1,fr,f,above,a,w,w',h,hI,τ,d,hτ=>by
  cases h with
  | @succ _ _ f1 _ _ a1 _ _ w1 _ es h1 h2=>
    obtain⟨DI,ht,hd,yX⟩:=ey hC hI h1;obtain⟨es',e⟩:=yX τ d (λj _ q=>hτ j q);obtain⟨d',h3⟩:=mZ.shift hC h2 DI τ (d+(w1.drawn-w.drawn)) (λj q=>by
     have:=hτ (w1.drawn-w.drawn+j) q;rw[ht,show d+(w1.drawn-w.drawn)+j=d+(w1.drawn-w.drawn+j) by omega,this,show w.drawn+(w1.drawn-w.drawn+j)=w1.drawn+j by omega])
    exact⟨d',.succ e h3⟩
theorem pM (hC:jM P F S)(hQ:∀f a w τ d,PI P F S f a w→Q f a w→Q f a (w.re τ d)){fr:Δ}{above:List Δ}{w:Γ}(hI:PI P F S fr above w)
 (hT:∀τ:Tp,∃n f a w',mZ P n fr above (w.re τ 0) f a w'∧Q f a w'):Qc P Q fr above w:=by
 refine Classical.byContradiction λhN=>?_;have hQ':∀f a (w:Γ) τ d,PI P F S f a w→Q f a (w.re τ d)→Q f a w:=λf a w τ d hI h=>by
  have:=hQ f a (w.re τ d) w.tape w.drawn (hI.re _ _) h;exact this
 let Bad:Δ×List Δ×Γ→Prop:=λs=>PI P F S s.1 s.2.1 s.2.2∧(∀τ:Tp,∃n f a w',mZ P n s.1 s.2.1 (s.2.2.re τ 0) f a w'∧Q f a w')∧¬Qc P Q s.1 s.2.1 s.2.2;have next:∀s:{ s // Bad s },∃s':{ s // Bad s },∃(τ:Tp) (d:Nat) (es:Array π),(aR P s.1.1 s.1.2.1).runT P (s.1.2.2.re τ d) #[]=(.ok (s'.1.1,s'.1.2.1) s'.1.2.2,es):=by
  rintro ⟨⟨fr,above,w⟩,hI,hT,hN⟩;simp only at hI hT hN;have nq:¬Q fr above w:=λh=>hN (.stop h);have run:∀(τ:Tp) (d:Nat),∃f1 a1 w1 es,(aR P fr above).runT P (w.re τ d) #[]=(.ok (f1,a1) w1,es):=λτ d=>by
   obtain⟨n,f,a,w',hr,hq⟩:=hT (λj=>τ (d+j));cases hr with
   |zero=>exact absurd (hQ' _ _ _ _ _ hI hq) nq
   | @succ _ _ f1 _ _ a1 _ _ w1 _ es h1 h2=>
     obtain⟨_,_,_,yX⟩:=ey hC (hI.re _ _) h1;obtain⟨es',e⟩:=yX τ d (λj _ q=>by show τ (d+j) q=τ (d+(0+j)) q;rw[zcd]);exact⟨_,_,_,_,e⟩
  have ex:∃(τ:Tp) (d:Nat),∀f1 a1 w1 es,(aR P fr above).runT P (w.re τ d) #[]=(.ok (f1,a1) w1,es)→¬Qc P Q f1 a1 w1:=by
   refine Classical.byContradiction λhno=>hN ?_;have all:∀(τ:Tp) (d:Nat),∃f1 a1 w1 es,(aR P fr above).runT P (w.re τ d) #[]=(.ok (f1,a1) w1,es)∧Qc P Q f1 a1 w1:=λτ d=>by
    refine Classical.byContradiction λhx=>hno ⟨τ,d,λf1 a1 w1 es he hb=>hx ⟨f1,a1,w1,es,he,hb⟩⟩
   exact .step (λτ d=>Λ (all τ d)) (λτ d=>Λ (zaR (all τ d))) (λτ d=>Λ (zaR (zaR (all τ d))))
    (λτ d=>Λ (zaR (zaR (zaR (all τ d))))) (λτ d=>(zaR (zaR (zaR (zaR (all τ d))))).1)
    (λτ d=>(zaR (zaR (zaR (zaR (all τ d))))).2)
  obtain⟨τ,d,hb⟩:=ex;obtain⟨f1,a1,w1,es,he⟩:=run τ d;obtain⟨DI,ht,hd,yX⟩:=ey hC (hI.re τ d) he;refine⟨⟨⟨f1,a1,w1⟩,DI,λτ2=>?_,hb _ _ _ _ he⟩,τ,d,es,he⟩;let m:=w1.drawn-d;obtain⟨n,f,a,w',hr,hq⟩:=hT (λi=>if i<m then τ (d+i)else τ2 (i-m));cases hr with
  |zero=>exact absurd (hQ' _ _ _ _ _ hI hq) nq
  | @succ n' _ f2 _ _ a2 _ _ w2 _ es2 h1 h2=>
    obtain⟨es3,e3⟩:=yX (λi=>if i<m then τ (d+i)else τ2 (i-m)) 0 (λj hj q=>by
     show(if 0+j<m then τ (d+(0+j))else τ2 (0+j-m)) q=τ (d+j) q;rw[zcd,zac (show j<m from hj)])
    rw[XP,h1]at e3;simp only[zag,zao]at e3;obtain⟨⟨⟨rfl,rfl⟩,rfl⟩,_⟩:=e3;obtain⟨d',h3⟩:=mZ.shift hC h2 (DI.re _ _) τ2 0 (λj q=>by
     show τ2 (0+j) q=(if 0+m+j<m then τ (d+(0+m+j))else τ2 (0+m+j-m)) q;rw[zaa (by omega),show 0+m+j-m=0+j by omega])
    exact⟨n',f,a,_,h3,hQ _ _ _ _ _ (mZ.stays hC h2 (DI.re _ _)) hq⟩
 let nx:{ s // Bad s }→{ s // Bad s }:=λs=>Λ (next s);let sq:Nat→{ s // Bad s }:=λk=>Nat.rec ⟨(fr,above,w),hI,hT,hN⟩ (λ_ s=>nx s) k;have hsq:∀k,∃(τ:Tp) (d:Nat) (es:Array π),(aR P (sq k).1.1 (sq k).1.2.1).runT P ((sq k).1.2.2.re τ d) #[]=(.ok ((sq (k+1)).1.1,(sq (k+1)).1.2.1) (sq (k+1)).1.2.2,es):=λk=>zaR (next (sq k));let τs:Nat→Tp:=λk=>Λ (hsq k);let ds:Nat→Nat:=λk=>Λ (zaR (hsq k));have hrun:∀k,∃es,(aR P (sq k).1.1 (sq k).1.2.1).runT P ((sq k).1.2.2.re (τs k) (ds k)) #[]=(.ok ((sq (k+1)).1.1,(sq (k+1)).1.2.1) (sq (k+1)).1.2.2,es):=λk=>zaR (zaR (hsq k));let ms:Nat→Nat:=λk=>(sq (k+1)).1.2.2.drawn - ds k;let cs:Nat→Nat:=λk=>Nat.rec 0 (λk c=>c+ms k) k;have hcs:∀k,cs (k+1)=cs k+ms k:=λk=>rfl;have XQ:∀a b,a≤b→cs a≤cs b:=λa b hab=>by
  induction hab with
  |refl=>exact zab _
  |step _ ih=>rw[hcs];omega
 let T:Tp:=λi q=>open Classical in if h:∃k,cs k≤i∧i<cs (k+1)then τs (Λ h) (ds (Λ h)+(i-cs (Λ h))) q else 0
 have hTs:∀k j q,j<ms k→T (cs k+j) q=τs k (ds k+j) q:=λk j q hj=>by
  have hex:∃k',cs k'≤cs k+j∧cs k+j<cs (k'+1):=⟨k,by omega,by rw[hcs];omega⟩;have B8:Λ hex=k:=by
   have h1:=zaR hex;rcases Nat.lt_trichotomy (Λ hex) k with h|h|h
   ·have h2:=XQ (Λ hex+1) k h;omega
   ·exact h
   ·have h2:=XQ (k+1) (Λ hex) h;rw[hcs]at h2;omega
  show(open Classical in if h:∃k',cs k'≤cs k+j∧cs k+j<cs (k'+1)then τs (Λ h) (ds (Λ h)+(cs k+j-cs (Λ h))) q else 0)=_;rw[dif_pos hex,B8,show cs k+j-cs k=j by omega]
 have walk:∀(n k:Nat) (f:Δ) (a:List Δ) (w':Γ),mZ P n (sq k).1.1 (sq k).1.2.1 ((sq k).1.2.2.re T (cs k)) f a w'→f=(sq (k+n)).1.1∧a=(sq (k+n)).1.2.1∧w'=(sq (k+n)).1.2.2.re T (cs (k+n)):=by
  intro n
  induction n with
  |zero=>intro k f a w' h;cases h;exact⟨rfl,rfl,rfl⟩
  |succ n ih=>
   intro k f a w' h;cases h with
   | @succ _ _ f1 _ _ a1 _ _ w1 _ es h1 h2=>
     obtain⟨es2,he⟩:=hrun k;obtain⟨_,_,hd,yX⟩:=ey hC ((sq k).2.1.re (τs k) (ds k)) he;obtain⟨es3,e3⟩:=yX T (cs k) (λj hj q=>hTs k j q hj);rw[XP,h1]at e3;simp only[zag,zao]at e3;obtain⟨⟨⟨rfl,rfl⟩,rfl⟩,_⟩:=e3;have:=ih (k+1) f a w' h2;rwa[show k+1+n=k+(n+1) by omega]at this
 obtain⟨n,f,a,w',hr,hq⟩:=hT T;obtain⟨rfl,rfl,rfl⟩:=walk n 0 f a w' hr;exact(sq (0+n)).2.2.2 (.stop (hQ' _ _ _ _ _ (sq (0+n)).2.1 hq))
end
section
variable {P:Φ}{F:υ→Bool}{S:Sd}
theorem LL:∀a b,jW a=jW b→a=b:=λ_ _ h=>h
theorem cP {α:Type}:∀(t:Sem α) (Rs:Nat→α→α→Prop) (w:Γ) (es:Array π) (h:Halt) (w1:Γ) (cY:Array π),(∀n,w.heap.size≤n→aa P (sg S S.d n) (Rs n) t t)→WR P S jW w w→t.runT P w es=(.halt h w1,cY)→Fs h
 |.pure a0,Rs,w,es,h,w1,cY,h2,hW,hr=>by simp[Θ]at hr
 |.load m ad k,Rs,w,es,h,w1,cY,h2,hW,hr=>by
  by_cases hlt:ad.block<S.d
  ·simp only[Θ,B6 hW hlt,Γ.farLoad,hW.dead _ hlt,iF,zag,Γ.noCell]at hr;have e:=hr.1;simp only[zbr]at e;rw[←e.1];trivial
  have cq:S.d≤ad.block∧ad.block<w.heap.size:=by
   rcases h2 w.heap.size (zab _)with h|⟨k',e,_⟩
   ·exact absurd h hlt
   ·simp only[Sem.load.injEq]at e;exact bK.1 (ib.1 e.2.1.symm)
  have jL:∀v,(∀n,w.heap.size≤n→rv (sg S S.d n) v=v)→∀n,w.heap.size≤n→aa P (sg S S.d n) (Rs n) (k v) (k v):=λv hv n hn=>by
   rcases h2 n hn with h|⟨k',e,hk⟩
   ·exact absurd h hlt
   ·simp only[Sem.load.injEq]at e;obtain⟨_,_,rfl⟩:=e;have:=hk v;rwa[hv n hn]at this
  simp only[Θ]at hr;cases hc:w.cell? ad with
  |some v=>
   rw[hc]at hr;have dY:=wJ hW cq.1 hc;exact cP (k v) Rs w _ h w1 cY (jL v λn hn=>dO (cO hn).1 (cO hn).2 v dY) hW hr
  |none=>
   rw[hc]at hr;simp only at hr;obtain⟨o,ho⟩:∃o,w.heap[ad.block]?=some o:=⟨_,zaH cq.2⟩;have cg:=hW.ok _ o ho;cases o with
   |view at_ u=>
    cases hv:w.viewLoad P at_ u ad (m== .atomic)with
    |error e=>
     simp only[Γ.farLoad,ho,hv,zag,zbr]at hr;rw[←hr.1.1];trivial
    |ok x=>
     simp only[Γ.farLoad,ho,hv]at hr;have dY:=hW.closed _ _ cq.1 ho;simp only[ro,Obj.view.injEq,zaA]at dY;have hat:=bK.1 (ib.1 dY);obtain⟨v,ts⟩:=x;obtain⟨BA,q1,q2,q3,q4⟩:=td hW.Live hat.1 hv;exact cP (k v) Rs w _ h w1 cY (jL v λn _=>q3 _) hW hr
   |cells c e f=>
    simp only[Γ.farLoad,ho,Γ.noCell,zag,zbr]at hr;rw[←hr.1.1];trivial
   |number c e=>
    simp only[Γ.farLoad,ho,Γ.noCell,zag,zbr]at hr;rw[←hr.1.1];trivial
   |map c e=>
    simp only[Γ.farLoad,ho,Γ.noCell,zag,zbr]at hr;rw[←hr.1.1];trivial
   |_=>exact cg.elim
 |.store m ad v k,Rs,w,es,h,w1,cY,h2,hW,hr=>by
  have cq:(S.d≤ad.block∧ad.block<w.heap.size)∧rv (sg S S.d w.heap.size) v=v:=by
   obtain⟨k',e,_⟩:=h2 w.heap.size (zab _);simp only[Sem.store.injEq]at e;exact⟨bK.1 (ib.1 e.2.1.symm),e.2.2.1.symm⟩
  obtain⟨cq,hv⟩:=cq;have jL:∀n,w.heap.size≤n→aa P (sg S S.d n) (Rs n) k k:=λn hn=>by
   obtain⟨k',e,hk⟩:=h2 n hn;simp only[Sem.store.injEq]at e;obtain⟨_,_,_,rfl⟩:=e;exact hk
  cases hc:w.cell? ad with
  |some v0=>
   cases P6:w.frozen? ad with
   |true=>cases v<;>simp only[Θ,hc,P6,if_true,zag,zbr]at hr<;>(rw[←hr.1.1];trivial)
   |false=>
    have key:(∃s,h=.stuck s)∨k.runT P (w.setCell ad v) (es.push ⟨.cell ad,true,m== .atomic⟩)=(.halt h w1,cY):=by
     cases v<;>simp only[Θ,hc,P6,zaT,if_false]at hr<;>first|exact .inr hr|(simp only[zag,zbr]at hr;exact .inl ⟨_,hr.1.1.symm⟩)
    rcases key with⟨s,rfl⟩|key
    ·trivial
    ·have hs:=hW.setCell LL cq.1 hv;rw[pL]at hs;exact cP k Rs _ _ h w1 cY (by simpa[Γ.setCell]using jL) hs key
  |none=>
   obtain⟨o,ho⟩:∃o,w.heap[ad.block]?=some o:=⟨_,zaH cq.2⟩;have cg:=hW.ok _ o ho;have soft:∀x,w.farStore P ad v (m== .atomic)=.error x→Fs x:=λx hx=>by
    unfold Γ.farStore at hx;rw[ho]at hx;cases o with
    |view at_ u=>
     simp only at hx;split at hx
     ·cases hx
     ·cases hx;trivial
    |cells c e f=>simp only[Γ.noCell,ho,Except.error.injEq]at hx;rw[←hx];trivial
    |number c e=>simp only[Γ.noCell,ho,Except.error.injEq]at hx;rw[←hx];trivial
    |map c e=>simp only[Γ.noCell,ho,Except.error.injEq]at hx;rw[←hx];trivial
    |_=>exact cg.elim
   cases hf:w.farStore P ad v (m== .atomic)with
   |error x=>
    have:(∃s,h=.stuck s)∨h=x:=by
     cases v<;>simp only[Θ,hc,hf,zag,zbr]at hr<;>first|exact .inr hr.1.1.symm|exact .inl ⟨_,hr.1.1.symm⟩
    rcases this with⟨s,rfl⟩|rfl
    ·trivial
    ·exact soft _ hf
   |ok x=>
    obtain⟨w2,ts⟩:=x;have hf0:=hf;unfold Γ.farStore at hf;rw[ho]at hf;cases o with
    |view at_ u=>
     simp only at hf;cases UQ:w.viewStore P at_ u ad v (m== .atomic)with
     |error e=>rw[UQ]at hf;cases hf
     |ok x=>
      rw[UQ]at hf;simp only[zbN]at hf;subst hf;have dY:=hW.closed _ _ cq.1 ho;simp only[ro,Obj.view.injEq,zaA]at dY;have hat:=bK.1 (ib.1 dY);obtain⟨c,c',ty,fz,BA,q1,q2,q3,q4,q5⟩:=rH hW.Live hat.1 UQ;subst q2;have key:(∃s,h=.stuck s)∨k.runT P { w with heap:=w.heap.setIfInBounds at_.block (.cells c' ty fz) } (es++ts.toArray.map (⟨.cell ·,true,m== .atomic⟩))=(.halt h w1,cY):=by
       cases v<;>simp only[Θ,hc,hf0]at hr<;>first|exact .inr hr|(simp only[zag,zbr]at hr;exact .inl ⟨_,hr.1.1.symm⟩)
      rcases key with⟨s,rfl⟩|key
      ·trivial
      ·have Dz:WR P S jW { w with heap:=w.heap.setIfInBounds at_.block (.cells c' ty fz) } { w with heap:=w.heap.setIfInBounds (jW at_.block) (.cells c' ty fz) }:=by
        refine hW.upd LL hat.1 (gW _ _ _) (gW _ _ _) (λo ho=>⟨trivial,by rw[FM],λhs=>?_⟩);rw[q1]at ho;cases ho;simp only[ro,Obj.cells.injEq,zaA]at hs ⊢;exact q3 _ hs
       exact cP k Rs _ _ h w1 cY (by simpa using jL) Dz key
    |_=>cases hf
 |.new o k,Rs,w,es,h,w1,cY,h2,hW,hr=>by
  have hs:mP o∧ro (sg S S.d w.heap.size) o=o:=by
   obtain⟨ho,k',e,_⟩:=h2 w.heap.size (zab _);simp only[Sem.new.injEq]at e;exact⟨ho,e.1.symm⟩
  have jL:∀n,w.heap.size+1≤n→aa P (sg S S.d n) (Rs n) (k w.heap.size) (k w.heap.size):=λn hn=>by
   obtain⟨_,k',e,hk⟩:=h2 n (by omega);simp only[Sem.new.injEq]at e;obtain⟨_,rfl⟩:=e;have:=hk w.heap.size;rwa[show sg S S.d n w.heap.size=w.heap.size from bK.2 ⟨hW.big.d,by omega⟩]at this
  simp only[Θ]at hr;have XR:=hW.push hs.1 hs.2;rw[FM]at XR;exact cP (k w.heap.size) Rs _ es h w1 cY (by simpa using jL) XR hr
 |.shape r k,Rs,w,es,h,w1,cY,h2,hW,hr=>by
  simp only[Θ]at hr;refine cP _ Rs w es h w1 cY (λn hn=>?_) hW hr;obtain⟨k',e,hk⟩:=h2 n hn;simp only[Sem.shape.injEq]at e;obtain⟨_,rfl⟩:=e;exact hk _
 |.freeze ad n k,Rs,w,es,h,w1,cY,h2,hW,hr=>by
  have cq:S.d≤ad.block∧ad.block<w.heap.size:=by
   obtain⟨k',e,_⟩:=h2 w.heap.size (zab _);simp only[Sem.freeze.injEq]at e;exact bK.1 (ib.1 e.1.symm)
  have jL:∀n,w.heap.size≤n→aa P (sg S S.d n) (Rs n) k k:=λn hn=>by
   obtain⟨k',e,hk⟩:=h2 n hn;simp only[Sem.freeze.injEq]at e;obtain⟨_,_,rfl⟩:=e;exact hk
  simp only[Θ]at hr;have hsz:(w.freeze ad n).heap.size=w.heap.size:=by unfold Γ.freeze;split<;>simp
  exact cP k Rs (w.freeze ad n) es h w1 cY (by rw[hsz];exact jL) (hW.freeze LL cq.1) hr
 |.frozen ad k,Rs,w,es,h,w1,cY,h2,hW,hr=>by
  simp only[Θ]at hr;refine cP _ Rs w es h w1 cY (λn hn=>?_) hW hr;obtain⟨k',e,hk⟩:=h2 n hn;simp only[Sem.frozen.injEq]at e;obtain⟨_,rfl⟩:=e;exact hk _
 |.getObj r k,Rs,w,es,h,w1,cY,h2,hW,hr=>by
  have cq:S.d≤r∧r<w.heap.size:=by
   obtain⟨k',e,_⟩:=h2 w.heap.size (zab _);simp only[Sem.getObj.injEq]at e;exact bK.1 e.1.symm
  obtain⟨o,ho⟩:∃o,w.heap[r]?=some o:=⟨_,zaH cq.2⟩;have dY:=hW.closed _ o cq.1 ho;have cg:=hW.ok _ o ho;have Fj:∀n,w.heap.size≤n→ro (sg S S.d n) o=o:=λn hn=>qQ (cO hn).1 (cO hn).2 dY;have jL:∀n,w.heap.size≤n→aa P (sg S S.d n) (Rs n) (k o) (k o):=λn hn=>by
   obtain⟨k',e,hk⟩:=h2 n hn;simp only[Sem.getObj.injEq]at e;obtain⟨_,rfl⟩:=e;have:=hk o (.inr (Fj n hn));rwa[Fj n hn]at this
  simp only[Θ,ho]at hr;cases o with
  |cells c e f=>simp only[zag,zbr]at hr;rw[←hr.1.1];trivial
  |view x t=>exact cP _ Rs w _ h w1 cY jL hW hr
  |number x t=>exact cP _ Rs w _ h w1 cY jL hW hr
  |map x t=>exact cP _ Rs w _ h w1 cY jL hW hr
  |_=>exact cg.elim
 |.setObj r o k,Rs,w,es,h,w1,cY,h2,hW,hr=>by
  have cq:((S.d≤r∧r<w.heap.size)∧ro (sg S S.d w.heap.size) o=o)∧PV o:=by
   obtain⟨hs,k',e,_⟩:=h2 w.heap.size (zab _);simp only[Sem.setObj.injEq]at e;exact⟨⟨bK.1 e.1.symm,e.2.1.symm⟩,hs⟩
  obtain⟨⟨cq,dY⟩,LI⟩:=cq;have jL:∀n,w.heap.size≤n→aa P (sg S S.d n) (Rs n) k k:=λn hn=>by
   obtain⟨_,k',e,hk⟩:=h2 n hn;simp only[Sem.setObj.injEq]at e;obtain⟨_,_,rfl⟩:=e;exact hk
  obtain⟨o0,ho⟩:∃o,w.heap[r]?=some o:=⟨_,zaH cq.2⟩;have cg:=hW.ok _ o0 ho;have Dz:WR P S jW { w with heap:=w.heap.setIfInBounds r o } { w with heap:=w.heap.setIfInBounds r o }:=by
   refine hW.upd LL cq.1 (gW _ _ _) (gW _ _ _) (λo1 _=>⟨?_,by rw[FM],λ_=>dY⟩);cases o<;>first|exact LI.elim|trivial
  simp only[Θ,ho]at hr;cases o0 with
  |cells c e f=>simp only[zag,zbr]at hr;rw[←hr.1.1];trivial
  |view x t=>exact cP k Rs _ _ h w1 cY (by simpa using jL) Dz hr
  |number x t=>exact cP k Rs _ _ h w1 cY (by simpa using jL) Dz hr
  |map x t=>exact cP k Rs _ _ h w1 cY (by simpa using jL) Dz hr
  |_=>exact cg.elim
 |.choose q k,Rs,w,es,h,w1,cY,h2,hW,hr=>by
  have jL:∀x n,w.heap.size≤n→aa P (sg S S.d n) (Rs n) (k x) (k x):=λx n hn=>by
   obtain⟨k',e,hk⟩:=h2 n hn;simp only[Sem.choose.injEq]at e;obtain⟨_,rfl⟩:=e;exact hk x
  simp only[Θ]at hr;split at hr
  ·exact cP _ Rs w es h w1 cY (jL _) hW hr
  ·exact cP _ Rs { w with drawn:=w.drawn+1 } es h w1 cY (jL _) (hW.drew _ _) hr
 |.sys c k,Rs,w,es,h,w1,cY,h2,hW,hr=>xL (.sys c k) _ _ _ _ _ (h2 w.heap.size (zab _)) hr
 |.program k,Rs,w,es,h,w1,cY,h2,hW,hr=>by
  simp only[Θ]at hr;refine cP _ Rs w es h w1 cY (λn hn=>?_) hW hr;obtain⟨k',e,hk⟩:=h2 n hn;simp only[Sem.program.injEq]at e;obtain rfl:=e;exact hk
 |.mark m k,Rs,w,es,h,w1,cY,h2,hW,hr=>by
  simp only[Θ]at hr;refine cP k Rs w _ h w1 cY (λn hn=>?_) hW hr;obtain⟨_,k',e,hk⟩:=h2 n hn;simp only[Sem.mark.injEq]at e;obtain⟨_,rfl⟩:=e;exact hk
 |.halt h0,Rs,w,es,h,w1,cY,h2,hW,hr=>by
  simp only[Θ,zag,zbr]at hr;rw[←hr.1.1];exact h2 w.heap.size (zab _)
end
def c0 (P:Φ):Δ:={ fn:=P.funcs.size,tmps:=#[],todo:=[.call default false "fmt's door" #[]],defers:=[],mode:= .run,kind:= .normal,roundOf:=none }
theorem abi:Extern.next "fmt's door" =none:=by
 have:(Extern.next "fmt's door").isNone=true:=by rfl
 simpa using this
section
variable {P:Φ}{F:υ→Bool}{S:Sd}
theorem LM (fr:Δ)(cs:List Δ)(w:Γ):θ P true { frame:=fr,callers:=cs,status:= .running,dying:=none } w=θ P true (G fr cs) w:=rfl
theorem kM {fr fr':Δ}{cs cs':List Δ}{w w':Γ}{es:Array π}(h:θ P true (G fr cs) w=.go (G fr' cs') w' es):step P (lone fr cs w)=.next (lone fr' cs' w'):=by
 refine step_lone_go ?_;rw[LM,h];rfl
theorem jw {fr:Δ}{cs:List Δ}{w w':Γ}{o:Outcome}{es:Array π}(h:θ P true (G fr cs) w=.ended o w' es):step P (lone fr cs w)=.ended o w':=by
 refine step_lone_ended ?_;rw[LM,h];rfl
theorem iH {fr fr':Δ}{cs cs':List Δ}{w w':Γ}(h:lone fr cs w=lone fr' cs' w'):fr=fr'∧cs=cs'∧w=w':=by
 simp only[lone,Machine.mk.injEq,Array.mk.injEq,zcj,Ω.mk.injEq,zaA]at h;exact⟨h.2.1,h.2.2,h.1⟩
theorem B9 (hC:jM P F S){fr:Δ}{above:List Δ}{w:Γ}(h:PI P F S fr above w){o:Oper}(ho:gw P F S o.op=true)(n:Nat)(hn:w.heap.size≤n):aa P (sg S S.d n) (NN F (sg S S.d n)) (Ξ fr.eval o) (Ξ fr.eval o):=by
 have hf:s7 S (sg S S.d n):=xI (zah h.wr.big.g hn);have dY:=gX hn h.cl;have gf:∀x,gG S x=true→rv (sg S S.d n) (fr.eval x)=fr.eval x:=λx hx=>by
  have e:=th (ρ:=sg S S.d n) (fr:=fr) hx hf;rw[DG dY]at e;exact e.symm
 refine pI (F:=F) (mX hC n) hf hC.SF hC.fn o ho (λx hx=>(gf x hx).symm) (λx hx=> .inr (gf x hx)) (λx hx=>jv (gf x hx)) (λ_=>rfl) (λ_=>rfl) (λ_=>rfl) (λ_=>rfl)
theorem VI (hC:jM P F S){fr:Δ}{above:List Δ}{w w1:Γ}(h:PI P F S fr above w){o:Oper}(ho:gw P F S o.op=true){nx:Next}{es:Array π}(hr:(Ξ fr.eval o).runT P w #[]=(.ok nx w1,es)):∃b,NN F jW nx b:=by
 have hid:aa P jW (NN F jW) (Ξ fr.eval o) (Ξ fr.eval o):=by
  have gf:∀x,gG S x=true→FV S (fr.eval x):=λx hx=>by
   have e:=th (ρ:=sg S S.d w.heap.size) (fr:=fr) hx (xI h.wr.big.g);rw[DG h.cl]at e;exact jv e.symm
  exact pI (F:=F) (mW hC) (S:=S) LK hC.SF hC.fn o ho (λx hx=>(pL _).symm) (λx hx=> .inl DF) gf (λ_=>rfl) (λ_=>rfl) (λ_=>rfl) (λ_=>rfl)
 obtain⟨b,W1,es',r1,r2,_⟩:=df (mW hC) P8 _ _ _ (λn=>NN F (sg S S.d n)) w w #[] #[] _ _ _ hid (λn hn=>B9 hC h ho n hn) h.wr (λ_ _ _=>rfl) hr;exact⟨b,r2⟩
theorem Ca (hC:jM P F S){fr:Δ}{above cs:List Δ}{w w1:Γ}(h:PI P F S fr above w)(hnl:¬(above=[]∧fr.mode=.returning)){hh:Halt}{es:Array π}(hr:(aR P fr above).runT P w #[]=(.halt hh w1,es)):(∃chain w2 es',θ P true (G fr (above++cs)) w=.go (G { fr with mode:= .panicking chain } (above++cs)) w2 es')∨(∃o w2 es',θ P true (G fr (above++cs)) w=.ended o w2 es'):=by
 have hI:=h;obtain⟨fn0,tmps,todo,defers,mode,kind,mL⟩:=fr;obtain⟨hd,hm,hk,eF,hand,XN⟩:=h.ok;simp only at hd hm hk eF hand XN;subst hd hk eF;rcases hm with rfl|rfl
 ·match todo,hand,hr,hI with
  |[],hand,hr,hI=>simp[aR,pure]at hr
  |.code .ret::k,hand,hr,hI=>simp[aR,pure]at hr
  |.code .skip::k,hand,hr,hI=>simp[aR,pure]at hr
  |.inBlock _::k,hand,hr,hI=>simp[aR,pure]at hr
  |.code (.seq a b)::k,hand,hr,hI=>simp[aR,pure]at hr
  |.code (.block id a)::k,hand,hr,hI=>simp[aR,pure]at hr
  |.code (.loop a)::k,hand,hr,hI=>simp[aR,pure]at hr
  |.inLoop a::k,hand,hr,hI=>simp[aR,pure]at hr
  |.inRegion _ []::k,hand,hr,hI=>simp[aR,pure]at hr
  |.code (.cond c a b)::k,hand,hr,hI=>
   simp only[aR]at hr;generalize hq:Δ.eval _ c=q at hr;cases q with
   |bool t=>simp[pure]at hr
   |_=>exact .inr (by simp[G,θ,ι,hq])
  |.code (.exit id)::k,hand,hr,hI=>
   simp only[aR]at hr;cases he:ψ id k with
   |none=>exact .inr (by simp[G,θ,ι,he])
   |some k'=>rw[he]at hr;simp[pure]at hr
  |.code (.region id ops draw)::k,hand,hr,hI=>
   cases draw with
   |false=>simp[aR,pure]at hr
   |true=>
    exfalso;simp only[aR,if_true,bind,choose,Sem.bind,Θ,Question.forced,zaT,if_false,pure,zag,reduceCtorEq,false_and]at hr
  |.inRegion ops (i::rest)::k,hand,hr,hI=>
   simp only[aR]at hr;by_cases hw:((ops[i]?).map (ζ · (ξ ops tmps))).getD false=true
   ·rw[zac hw]at hr;cases ho:ops[i]? with
    |none=>rw[ho]at hw;simp at hw
    |some o=>
     rw[ho]at hr;dsimp only at hr;have cg:gw P F S o.op=true:=by
      simp only[zat,aB,zaj]at hand;have:=hand.1.1;rw[ho]at this;simpa using this
     have hstep:θ P true (G ⟨fn0,tmps,.inRegion ops (i::rest)::k,[],.run,.normal,none⟩ (above++cs)) w=
      stepG.apply P true ⟨fn0,tmps,.inRegion ops (i::rest)::k,[],.run,.normal,none⟩ (above++cs) none (Ξ (Δ.eval ⟨fn0,tmps,.inRegion ops (i::rest)::k,[],.run,.normal,none⟩) o) w:=by
      rw[ho]at hw;have hw':ζ o (ξ ops tmps)=true:=by simpa using hw
      simp[G,θ,ι,stepG.oper,Δ.oper?,ho,hw']
     rw[hstep];rw[bu]at hr;cases hrun:(Ξ (Δ.eval ⟨fn0,tmps,.inRegion ops (i::rest)::k,[],.run,.normal,none⟩) o).runT P w #[]with
     |mk r cY=>
      rw[hrun]at hr;have q1:=zal Prod.fst hrun;have q2:=zal Prod.snd hrun;simp at q1 q2;cases r with
      |halt h3 w3=>
       simp only[zag,zbr]at hr;obtain⟨⟨rfl,rfl⟩,rfl⟩:=hr;have soft:=cP _ (λn=>NN F (sg S S.d n)) w #[] h3 w3 cY (λn hn=>B9 hC hI cg n hn) hI.wr hrun;cases h3 with
       |panic v=>exact .inl ⟨_,_,_,by simp[stepG.apply,q1,G,χ,Δ.raise];exact⟨rfl,rfl,rfl⟩⟩
       |stuck s=>exact .inr ⟨_,_,_,by simp[stepG.apply,q1,χ];exact⟨rfl,rfl,rfl⟩⟩
       |unsupported u=>
        cases u with
        |initOrder g=>exact soft.elim
        |_=>exact .inr ⟨_,_,_,by simp[stepG.apply,q1,χ];exact⟨rfl,rfl,rfl⟩⟩
       |_=>exact soft.elim
      |ok nx w3=>
       obtain⟨b,hb⟩:=VI hC hI cg hrun;dsimp only at hr;cases nx<;>simp only[NN]at hb<;>simp[pure]at hr
   ·rw[zaa hw]at hr;simp[pure]at hr
  |.code (.rangeFunc ..)::k,hand,hr,hI=>simp[aB,bp]at hand
  |.code (.scope ..)::k,hand,hr,hI=>simp[aB,bp]at hand
  |.code (.label ..)::k,hand,hr,hI=>simp[aB,bp]at hand
  |.code (.goto ..)::k,hand,hr,hI=>simp[aB,bp]at hand
  |.code (.refuse ..)::k,hand,hr,hI=>exact .inr (by simp[G,θ,ι])
  |.inScope c::k,hand,hr,hI=>simp[aB]at hand
  |.inRangeFunc c::k,hand,hr,hI=>simp[aB]at hand
  |.endRangeFunc c::k,hand,hr,hI=>simp[aB]at hand
  |.beginRound::k,hand,hr,hI=>simp[aB]at hand
  |.call ..::k,hand,hr,hI=>simp[aB]at hand
  |.extern ..::k,hand,hr,hI=>simp[aB]at hand
 ·obtain⟨fn,h1⟩:=XN;simp only[aR,h1]at hr;rw[bu]at hr;cases hrun:(results fn tmps).runT P w #[]with
  |mk r cY=>
   rw[hrun]at hr;have q1:=zal Prod.fst hrun;simp at q1;cases r with
   |ok v w3=>
    dsimp only at hr;cases above with
    |nil=>exact absurd ⟨rfl,rfl⟩ hnl
    |cons c rest=>simp[pure]at hr
   |halt h3 w3=>
    refine .inr ?_;cases h3<;>exact⟨_,_,_,by simp[G,θ,unwind,h1,q1,χ];exact⟨rfl,rfl,rfl⟩⟩
theorem FN:∀(above:List Δ) (fr:Δ) (w:Γ) (chain:List PanicEntry) (n:Nat) (tu:Δ) (wf:Γ),fr.defers=[]→(∃f,P.funcs[fr.fn]?=some f)→(∀f∈above,lx P F S f)→runN P n (lone { fr with mode:= .panicking chain } (above++[c0 P]) w)=.next (lone tu [c0 P] wf)→tu.mode=.returning→False:=by
 intro above
 induction above with
 |nil=>
  rintro fr w chain n tu wf hd ⟨f,hf⟩ _ hr hm;cases n with
  |zero=>
   simp only[runN,zbH]at hr;obtain⟨rfl,_,_⟩:=iH hr;cases hm
  |succ n=>
   have h1:step P (lone { fr with mode:= .panicking chain } ([]++[c0 P]) w)=.next (lone ((c0 P).raise chain) [] w):=by
    refine kM (es:=#[]) ?_;simp[G,θ,unwind,hd,Δ.catches,hf]
   simp only[runN,h1]at hr;cases n with
   |zero=>
    simp only[runN,zbH]at hr;obtain⟨_,e,_⟩:=iH hr;cases e
   |succ n=>
    have h2:∃o w3 es,θ P true (G ((c0 P).raise chain) []) w=.ended o w3 es:=by
     simp[G,θ,unwind,c0,Δ.raise,Δ.catches]
    obtain⟨o,w3,es,h2⟩:=h2;simp only[runN,jw h2]at hr;cases hr
 |cons c rest ih=>
  rintro fr w chain n tu wf hd ⟨f,hf⟩ cg hr hm;cases n with
  |zero=>
   simp only[runN,zbH]at hr;obtain⟨rfl,_,_⟩:=iH hr;cases hm
  |succ n=>
   have hc:=cg c (by simp);have h1:step P (lone { fr with mode:= .panicking chain } (c::rest++[c0 P]) w)=.next (lone { c with mode:= .panicking chain } (rest++[c0 P]) w):=by
    refine kM (es:=#[]) ?_;have hcr:c.raise chain={ c with mode:= .panicking chain }:=by
     unfold Δ.raise;rcases hc.mode with e|e<;>rw[e]
    simp[G,θ,unwind,hd,Δ.catches,hf,hcr]
   simp only[runN,h1]at hr;exact ih c w chain n tu wf hc.defers hc.fn (λg hg=>cg g (by simp[hg])) hr hm
theorem wK (_hC:jM P F S){fr:Δ}{w:Γ}(h:PI P F S fr [] w)(hm:fr.mode=.returning){n:Nat}{tu:Δ}{wf:Γ}(hr:runN P (n+1) (lone fr [c0 P] w)=.next (lone tu [c0 P] wf)):False:=by
 obtain⟨f,hf⟩:=h.ok.fn;have key:(∃v w2 es,θ P true (G fr [c0 P]) w=.go (G ((c0 P).finish v) []) w2 es)∨∃o w2 es,θ P true (G fr [c0 P]) w=.ended o w2 es:=by
  have hk:=h.ok.kind;cases hrun:(results f fr.tmps).run P w with
  |ok v w2=>
   refine .inl ⟨v,w2,?_⟩;simp[G,θ,unwind,hm,h.ok.defers,hf,hrun,doReturn,hk,χ]
  |halt h3 w2=>
   refine .inr ?_;cases h3<;>simp[G,θ,unwind,hm,h.ok.defers,hf,hrun,χ]
 rcases key with⟨v,w2,es,e⟩|⟨o,w2,es,e⟩
 ·simp only[runN,kM e]at hr;cases n with
  |zero=>
   simp only[runN,zbH]at hr;obtain⟨_,e,_⟩:=iH hr;cases e
  |succ n=>
   have h2:∃o w3 es,θ P true (G ((c0 P).finish v) []) w2=.ended o w3 es:=by
    simp[G,θ,ι,c0,Δ.finish,abi]
   obtain⟨o,w3,es,h2⟩:=h2;simp only[runN,jw h2]at hr;cases hr
 ·simp only[runN,jw e]at hr;cases hr
theorem DJ (hC:jM P F S):∀(n:Nat) (fr:Δ) (above:List Δ) (w:Γ) (tu:Δ) (wf:Γ),PI P F S fr above w→runN P n (lone fr (above++[c0 P]) w)=.next (lone tu [c0 P] wf)→tu.mode=.returning→∃m,mZ P m fr above w tu [] wf:=by
 intro n
 induction n with
 |zero=>
  intro fr above w tu wf h hr hm;simp only[runN,zbH]at hr;obtain⟨rfl,e,rfl⟩:=iH hr;have:above=[]:=by
   have:=zal List.length e;simp at this;exact this
  subst this;exact⟨0,.zero⟩
 |succ n ih=>
  intro fr above w tu wf h hr hm;by_cases hl:above=[]∧fr.mode=.returning
  ·obtain⟨rfl,hl⟩:=hl;exact(wK hC h hl hr).elim
  ·cases hrun:(aR P fr above).runT P w #[]with
   |mk r es=>
    cases r with
    |ok x w1=>
     obtain⟨f1,a1⟩:=x;have hs:=n7 (main:=true) (cs:=[c0 P]) h.ok hrun;simp only[runN,kM hs]at hr;obtain⟨m,Pz⟩:=ih f1 a1 w1 tu wf (ey hC h hrun).1 hr hm;exact⟨m+1,.succ hrun Pz⟩
    |halt hh w1=>
     rcases Ca (cs:=[c0 P]) hC h hl hrun with⟨chain,w2,es',e⟩|⟨o,w2,es',e⟩
     ·simp only[runN,kM e]at hr;exact(FN above fr w2 chain n tu wf h.ok.defers h.ok.fn h.oks hr hm).elim
     ·simp only[runN,jw e]at hr;cases hr
end
section
variable {P:Φ}{F:υ→Bool}{S:Sd}
theorem JF (hC:jM P F S){fr:Δ}{above:List Δ}{w:Γ}(h:PI P F S fr above w){fn:Func}{v:η}(hr:(results fn fr.tmps).run P w=.ok v w)(τ:Tp)(d:Nat):(results fn fr.tmps).run P (w.re τ d)=.ok v (w.re τ d):=by
 cases hrun:(results fn fr.tmps).runT P w #[]with
 |mk r es=>
  have q1:=zal Prod.fst hrun;simp at q1;rw[hr]at q1;subst q1;have hid:aa P jW (VV jW) (results fn fr.tmps) (results fn fr.tmps):=by
   have:=ju (mW hC) fn fr.tmps (pL ω);rwa[map_id']at this
  have tq:∀n,w.heap.size≤n→aa P (sg S S.d n) (VV (sg S S.d n)) (results fn fr.tmps) (results fn fr.tmps):=λn hn=>by
   have:=ju (mX hC n) fn fr.tmps di;have e:fr.tmps.map (rv (sg S S.d n))=fr.tmps:=ba.2 (gX hn h.cl);rwa[e]at this
  have hW:WR P S jW w (w.re τ d):=⟨h.wr.live,h.wr.ok,h.wr.dead,h.wr.closed,h.wr.next,h.wr.low,h.wr.big⟩;obtain⟨b,W1,es',r1,r2,_,r4,r5,_⟩:=df (mW hC) P8 _ _ _ _ w (w.re τ d) #[] #[] _ _ _ hid tq hW (λj hj=>by omega) hrun;have q2:=zal Prod.fst r1;simp at q2;have hb:b=v:=by have:=r2;unfold VV at this;rw[pL]at this;exact this
  have hs:=r5.size;have hW1:W1=w.re τ d:=by
   refine qT (Array.ext_getElem? λi=>?_) r5.tape (by have:=r5.drawn;omega) r5.os r5.output;have hsz:W1.heap.size=(w.re τ d).heap.size:=by omega
   rcases zay i (w.re τ d).heap.size with hlt|jN
   ·by_cases ht:Touch S.d jW w i
    ·obtain⟨k,hr1,hr2,rfl⟩:=ht;have FO:=r4.live _ _ hr1 (zaH hr2);have yY:=hW.live _ _ hr1 (zaH hr2);exact FO.trans yY.symm
    ·exact r5.frame i hlt ht
   ·rw[zbQ (by omega),zbQ jN]
  rw[q2,hb,hW1]
theorem Qd (hC:jM P F S){f:υ}{args:Array η}{w:Γ}{Q:η→Γ→Prop}(hI:PI P F S (Δ.enter P f args .normal) [] w)
 (hc:∀τ:Tp,ύ P f args (w.re τ 0) λe w'=>∃v,e=.returned v∧Q v w')(τ:Tp):
 ∃n fr a w',mZ P n (Δ.enter P f args .normal) [] (w.re τ 0) fr a w'∧(a=[]∧fr.fn=f∧∃v,Q v w'∧fr.leaving P w' (.returned v)):=by
 generalize Px:Δ.enter P f args .normal=fr0 at hI;have h:=hc τ [c0 P];rw[Px]at h;generalize hcs:[c0 P]=cs at h;obtain⟨e,w',fr,⟨v,he,hq⟩,hs,hfn,hl⟩:=h;subst he;have hs':Steps P (lone fr0 cs (w.re τ 0)) (lone fr cs w'):=hs;obtain⟨n,hn⟩:=hs';have VJ:fr.mode=.returning:=hl.1;subst hcs;obtain⟨m,hm⟩:=DJ hC n fr0 [] (w.re τ 0) fr w' (hI.re τ 0) hn VJ;exact⟨m,fr,[],w',hm,rfl,hfn,v,hq,hl⟩
theorem tz (hC:jM P F S){f:υ}{args:Array η}{w:Γ}{Q:η→Γ→Prop}(hF:F f=true)(ha:∀v∈args,rv (sg S S.d w.heap.size) v=v)(hw:WR P S jW w w)(hQ:∀v w τ d,Q v w→Q v (w.re τ d))
 (hc:∀τ:Tp,ύ P f args (w.re τ 0) λe w'=>∃v,e=.returned v∧Q v w'):
 Qc P (λfr above w'=>above=[]∧fr.fn=f∧∃v,Q v w'∧fr.leaving P w' (.returned v)) (Δ.enter P f args .normal) [] w:=by
 have hI:PI P F S (Δ.enter P f args .normal) [] w:=by
  refine⟨tj hC hF args,by simp,λv hv=>?_,by simp,hw⟩;have e:bS (sg S S.d w.heap.size) (Δ.enter P f args .normal)=Δ.enter P f args .normal:=by
   rw[←im,ba.2 ha]
  have:=zal Δ.tmps e;simp only[bS]at this;exact ba.1 this v hv
 have hT:=Qd hC hI hc;generalize Δ.enter P f args .normal=fr0 at hI hT ⊢;refine pM hC (λfr above w τ d hI hx=>?_) hI hT;obtain⟨e1,e2,v,hq,hl⟩:=hx;refine⟨e1,e2,v,hQ v w τ d hq,?_⟩;have hl':fr.mode=.returning∧fr.defers=[]∧fr.kind=.normal∧∃fn,P.funcs[fr.fn]?=some fn∧(results fn fr.tmps).run P w=.ok v w:=hl;obtain⟨h1,h2,h3,fn,h4,h5⟩:=hl';exact(show fr.mode=.returning∧fr.defers=[]∧fr.kind=.normal∧∃fn,P.funcs[fr.fn]?=some fn∧(results fn fr.tmps).run P (w.re τ d)=.ok v (w.re τ d) from⟨h1,h2,h3,fn,h4,JF hC hI h5 τ d⟩)
end
structure bI (ro own:Nat→Prop) (w w₁:Γ):Prop where
 tape:w₁.tape=w.tape
 os:w₁.os=w.os
 output:w₁.output=w.output
 size:w.heap.size≤w₁.heap.size
 block:∀b,own b∨ro b→w₁.heap[b]?=w.heap[b]?
def Grow (own:Nat→Prop)(w w':Γ):Nat→Prop:=λb=>own b∨(w.heap.size≤b∧b<w'.heap.size)
def DK (ro own:Nat→Prop)(e:π):Prop:=
 match e.loc with
 |.cell a=>own a.block∨(ro a.block∧e.write=false)
 |.obj r=>own r∧e.sync=false
 |.mark m=>MOk m∧e.sync=true
 |_=>False
structure FP (ro own:Nat→Prop) (w w':Γ) (es:Array π):Prop where
 tape:w'.tape=w.tape
 os:w'.os=w.os
 output:w'.output=w.output
 size:w.heap.size≤w'.heap.size
 block:∀b,b<w.heap.size→¬own b→w'.heap[b]?=w.heap[b]?
 evs:∀e∈es,DK ro (Grow own w w') e
inductive af (P:Φ) (main:Bool) (ro:Nat→Prop) (Stop:(Nat→Prop)→Ω→Γ→Prop):(Nat→Prop)→Ω→Γ→Prop
 |stop {own:Nat→Prop} {g:Ω} {w:Γ}:(∀w₁,bI ro own w w₁→Stop own g w₁)→af P main ro Stop own g w
 |step {own:Nat→Prop} {g:Ω} {w:Γ} (nx:Γ→Ω) (nw:Γ→Γ) (ne:Γ→Array π):g.status=.running→
   (∀w₁,bI ro own w w₁→θ P main g w₁=.go (nx w₁) (nw w₁) (ne w₁))→(∀w₁,bI ro own w w₁→FP ro own w₁ (nw w₁) (ne w₁))→(∀w₁,bI ro own w w₁→af P main ro Stop (Grow own w₁ (nw w₁)) (nx w₁) (nw w₁))→
   af P main ro Stop own g w
section
variable {P:Φ}{F:υ→Bool}{S:Sd}{main:Bool}{ro:Nat→Prop}{Stop FQ:(Nat→Prop)→Ω→Γ→Prop}
theorem bI.refl (ro own:Nat→Prop)(w:Γ):bI ro own w w:=⟨rfl,rfl,rfl,zab _,λ_ _=>rfl⟩
theorem bI.trans {own:Nat→Prop}{a b c:Γ}(h:bI ro own a b)(k:bI ro own b c):bI ro own a c:=
 ⟨k.tape.trans h.tape,k.os.trans h.os,k.output.trans h.output,zah h.size k.size,λx hx=>(k.block x hx).trans (h.block x hx)⟩
theorem af.step' {own:Nat→Prop}{g:Ω}{w:Γ}(hs:g.status=.running)(h:∀w₁,bI ro own w w₁→∃g' w' es,θ P main g w₁=.go g' w' es∧FP ro own w₁ w' es∧af P main ro Stop (Grow own w₁ w') g' w'):af P main ro Stop own g w:=by
 classical
 let X:Γ→Ω×Γ×Array π:=λw₁=>if hr:bI ro own w w₁ then(Λ (h w₁ hr),Λ (zaR (h w₁ hr)),Λ (zaR (zaR (h w₁ hr))))else default
 have hX:∀w₁,bI ro own w w₁→θ P main g w₁=.go (X w₁).1 (X w₁).2.1 (X w₁).2.2∧FP ro own w₁ (X w₁).2.1 (X w₁).2.2∧af P main ro Stop (Grow own w₁ (X w₁).2.1) (X w₁).1 (X w₁).2.1:=λw₁ hr=>by
  simp only[X,dif_pos hr];exact zaR (zaR (zaR (h w₁ hr)))
 exact .step (λw₁=>(X w₁).1) (λw₁=>(X w₁).2.1) (λw₁=>(X w₁).2.2) hs (λw₁ hr=>(hX w₁ hr).1) (λw₁ hr=>(hX w₁ hr).2.1) (λw₁ hr=>(hX w₁ hr).2.2)
theorem af.rely {own:Nat→Prop}{g:Ω}{w w₁:Γ}(h:af P main ro Stop own g w)(hr:bI ro own w w₁):af P main ro Stop own g w₁:=by
 cases h with
 |stop h=>exact .stop λw₂ h₂=>h w₂ (hr.trans h₂)
 |step nx nw ne hs h1 h2 h3=>exact .step nx nw ne hs (λw₂ h₂=>h1 w₂ (hr.trans h₂)) (λw₂ h₂=>h2 w₂ (hr.trans h₂)) (λw₂ h₂=>h3 w₂ (hr.trans h₂))
theorem af.bind {own:Nat→Prop}{g:Ω}{w:Γ}(h:af P main ro Stop own g w)(hq:∀own g w,Stop own g w→af P main ro FQ own g w)(_keep:∀own g w w₁,(∀w₂,bI ro own w w₂→Stop own g w₂)→bI ro own w w₁→True:=λ_ _ _ _ _ _=>trivial):af P main ro FQ own g w:=by
 induction h with
 | @stop own g w h=>exact hq own g w (h w (bI.refl ro own w))
 |step nx nw ne hs h1 h2 _ ih=>exact .step nx nw ne hs h1 h2 ih
structure gH (P:Φ) (S:Sd) (ρ:Rn) (w W:Γ):Prop where
 wr:WR P S ρ w W
 inj:∀a b,ρ a=ρ b→a=b
 lX:Bw P ρ
 f:∀x,ρ.f x=x
 ry:P.globals.size≤W.heap.size
def cN (ρ:Rn)(n N:Nat):Rn:={ b:=λr=>if r<n then ρ r else N+(r-n),f:=ρ.f,d:=ρ.d }
theorem aJ {ρ:Rn}{n N r:Nat}(h:r<n):cN ρ n N r=ρ r:=by simp[cN,h]
theorem dW {ρ:Rn}{n N r:Nat}(h:n≤r):cN ρ n N r=N+(r-n):=by simp[cN];omega
theorem gH.fix {ρ:Rn}{w W:Γ}(h:gH P S ρ w W):s7 S ρ:=⟨λ_ _=>h.f _,h.wr.big.fg,h.wr.big.fl⟩
theorem yQ.ext {ρ:Rn}{n N:Nat}(h:yQ P S ρ n):yQ P S (cN ρ n N) n:=⟨h.d,h.g,h.r,h.p,h.dp,λg h1 h2=>by rw[aJ (zaL h2 h.g)];exact h.fg g h1 h2,λg hg=>by rw[aJ (zaL hg h.d)];exact h.fl g hg⟩
theorem gH.low {ρ:Rn}{w W:Γ}(h:gH P S ρ w W){r:Nat}(hr:r<w.heap.size):ρ r<W.heap.size:=by
 rcases zay r P.globals.size with hlt|jN
 ·have:=(h.lX r).2 hlt;have:=h.ry;omega
 ·exact h.wr.low r (zah h.wr.big.dp jN) hr
theorem Ni {ρ:Rn}{n N:Nat}:(∀r,sg S S.d n r=r→ρ r=cN ρ n N r)∧∀x,(sg S S.d n).f x=x→ρ.f x=(cN ρ n N).f x:=
 ⟨λ_r hr=>(aJ (bK.1 hr).2).symm,λ_x _=>rfl⟩
theorem ei {ρ ρ':Rn}{n:Nat}{fr:Δ}(hc:jf P S n fr)(hb:∀r,r<n→ρ r=ρ' r)(hf:∀x,ρ.f x=ρ'.f x):bS ρ fr=bS ρ' fr:=by
 unfold bS;rw[dA λv hv=>agree (σ:=sg S S.d n) (λr hr=>hb r (bK.1 hr).2) (λx _=>hf x) v (hc v hv)]
theorem eI {ρ ρ':Rn}{n:Nat}(hb:∀r,r<n→ρ r=ρ' r)(hf:∀x,ρ.f x=ρ'.f x):∀{above:List Δ},(∀f∈above,jf P S n f)→above.map (bS ρ)=above.map (bS ρ')
 |[],_=>rfl
 |f::l,h=>by rw[zaD,zaD,ei (h f (by simp)) hb hf,eI hb hf λg hg=>h g (by simp[hg])]
theorem gH.rely {ρ:Rn}{w W aC:Γ}(h:gH P S ρ w W)(hr:bI ro (Touch S.d ρ w) W aC):gH P S (cN ρ w.heap.size aC.heap.size) w aC:=by
 have oa:=Ni (S:=S) (ρ:=ρ) (n:=w.heap.size) (N:=aC.heap.size);have hsz:=hr.size;refine⟨⟨λr o jN ho=>?_,h.wr.ok,h.wr.dead,h.wr.closed,λr jN=>dW jN,λr jN hlt=>?_,h.wr.big.ext⟩,λa b e=>?_,λr=>?_,h.f,zah h.ry hsz⟩
 ·have hlt:=fZ ho;rw[aJ hlt,hr.block _ (.inl ⟨r,jN,hlt,rfl⟩),h.wr.live r o jN ho,vg oa.1 oa.2 (h.wr.closed r o jN ho)]
 ·rw[aJ hlt];have:=h.wr.low r jN hlt;omega
 ·rcases zay a w.heap.size with ha|ha<;>rcases zay b w.heap.size with hb|hb
  ·rw[aJ ha,aJ hb]at e;exact h.inj a b e
  ·rw[aJ ha,dW hb]at e;have:=h.low ha;omega
  ·rw[dW ha,aJ hb]at e;have:=h.low hb;omega
  ·rw[dW ha,dW hb]at e;omega
 ·rcases zay r w.heap.size with ha|ha
  ·rw[aJ ha];exact h.lX r
  ·rw[dW ha];have:=h.ry;have:=h.wr.big.p;constructor<;>intro<;>omega
theorem cC {ρ:Rn}{w:Γ}{N:Nat}:Touch S.d (cN ρ w.heap.size N) w=Touch S.d ρ w:=by
 funext b;refine propext ⟨?_,?_⟩
 ·rintro ⟨r,h1,h2,rfl⟩;exact⟨r,h1,h2,aJ h2⟩
 ·rintro ⟨r,h1,h2,rfl⟩;exact⟨r,h1,h2,(aJ h2).symm⟩
theorem yZ {ρ:Rn}{w w1 W W1:Γ}(h:gH P S ρ w W)(hD:Fi S.d ρ w w1 W W1):Touch S.d ρ w1=Grow (Touch S.d ρ w) W W1:=by
 funext b;have hs:=hD.size;have hg:=hD.gN;have hb:=h.wr.big.d;refine propext ⟨?_,?_⟩
 ·rintro ⟨r,h1,h2,rfl⟩;rcases zay r w.heap.size with hlt|jN
  ·exact .inl ⟨r,h1,hlt,rfl⟩
  ·right;rw[h.wr.next r jN];omega
 ·rintro (⟨r,h1,h2,rfl⟩|⟨h1,h2⟩)
  ·exact⟨r,h1,by omega,rfl⟩
  ·refine⟨w.heap.size+(b-W.heap.size),by omega,by omega,?_⟩;rw[h.wr.next _ (by omega)];omega
def VK (P:Φ)(F:υ→Bool)(S:Sd)(Q:Δ→List Δ→Γ→Prop)(cs:List Δ)(ly:Rn)(n₀:Nat)(own:Nat→Prop)(g:Ω)(W:Γ):Prop:=
 ∃fr above w ρ,Q fr above w∧PI P F S fr above w∧gH P S ρ w W∧own=Touch S.d ρ w∧g=G (bS ρ fr) (above.map (bS ρ)++cs)∧n₀≤w.heap.size∧∀r,r<n₀→ρ r=ly r
theorem tA (hC:jM P F S){Q:Δ→List Δ→Γ→Prop}{cs:List Δ}{fr:Δ}{above:List Δ}{w:Γ}(hb:Qc P Q fr above w):PI P F S fr above w→∀(ly:Rn) (n₀:Nat) (ρ:Rn) (W:Γ),gH P S ρ w W→n₀≤w.heap.size→(∀r,r<n₀→ρ r=ly r)→af P main ro (VK P F S Q cs ly n₀) (Touch S.d ρ w) (G (bS ρ fr) (above.map (bS ρ)++cs)) W:=by
 induction hb with
 | @stop fr above w hq=>
   intro hI ly n₀ ρ W hS hn mA;refine .stop λaC hr=>⟨fr,above,w,_,hq,hI,hS.rely hr,cC.symm,?_,hn,λr hlt=>by rw[aJ (by omega)];exact mA r hlt⟩;rw[ei hI.cl (ρ:=ρ) (ρ':=cN ρ w.heap.size aC.heap.size) (λr hlt=>(aJ hlt).symm) (λ_=>rfl),eI (ρ:=ρ) (ρ':=cN ρ w.heap.size aC.heap.size) (λr hlt=>(aJ hlt).symm) (λ_=>rfl) hI.cls]
 | @step fr above w nf na nw ne h1 _ ih=>
   intro hI ly n₀ ρ W hS hn mA;refine af.step' rfl λaC hr=>?_;have hS1:=hS.rely hr;generalize vu:cN ρ w.heap.size aC.heap.size=ct at hS1;have JG:∀r,r<w.heap.size→ct r=ρ r:=λr hlt=>by rw[←vu];exact aJ hlt
   have JH:∀x,ct.f x=ρ.f x:=λx=>by rw[←vu];rfl
   have hrun:=h1 aC.tape aC.drawn;have hW:WR P S ct (w.re aC.tape aC.drawn) aC:=⟨hS1.wr.live,hS1.wr.ok,hS1.wr.dead,hS1.wr.closed,hS1.wr.next,hS1.wr.low,hS1.wr.big⟩;obtain⟨W2,es',q1,q2,q3,q4⟩:=Qb hC (ρ:=ct) ⟨λt i v a b=>hC.zero t i v a b _,hS1.inj⟩ hS1.lX hS1.fix (hI.re aC.tape aC.drawn) hW (λj _ q=>rfl) hrun;have hI2:=(ey hC (hI.re aC.tape aC.drawn) hrun).1;have Zb:gH P S ct (w.re aC.tape aC.drawn) aC:=⟨hW,hS1.inj,hS1.lX,hS1.f,hS1.ry⟩;have rX:gH P S ct (nw aC.tape aC.drawn) W2:=⟨q1,hS1.inj,hS1.lX,hS1.f,by have:=hS1.ry;have h3:=q2.size;have h4:=q2.gN;omega⟩;have hgrow:Touch S.d ct (nw aC.tape aC.drawn)=Grow (Touch S.d ρ w) aC W2:=by
    rw[yZ Zb q2];have:Touch S.d ct (w.re aC.tape aC.drawn)=Touch S.d ρ w:=by
     rw[←vu];exact cC
    rw[this]
   have Px:bS ρ fr=bS ct fr:=ei hI.cl (λr hlt=>(JG r hlt).symm) (λx=>(JH x).symm);have hab:above.map (bS ρ)=above.map (bS ct):=eI (λr hlt=>(JG r hlt).symm) (λx=>(JH x).symm) hI.cls;refine⟨_,W2,_,by rw[Px,hab];exact q4 main cs,⟨q2.tape,q2.os,q2.output,by have h3:=q2.size;have h4:=q2.gN;simp only[Γ.re]at h3 h4;omega,λb hb XS=>?_,λe he=>?_⟩,?_⟩
   ·refine q2.frame b hb λht=>?_;rw[hgrow]at ht;rcases ht with h|⟨h,_⟩
    ·exact XS h
    ·omega
   ·have:=q3 e (mem_seen he);unfold pj at this;unfold DK;rw[←hgrow];cases hl:e.loc<;>simp only[hl]at this ⊢<;>first|exact .inl this|exact this
   ·rw[←hgrow];refine ih aC.tape aC.drawn hI2 ly n₀ ct W2 rX ?_ λr hlt=>(JG r (by omega)).trans (mA r hlt);have h4:=q2.gN;simp only[Γ.re]at h4;omega
end
section
variable {P:Φ}{F:υ→Bool}{S:Sd}{main:Bool}{ro own:Nat→Prop}{Stop FQ:(Nat→Prop)→Ω→Γ→Prop}
theorem af.mono {g:Ω}{w:Γ}(h:af P main ro Stop own g w)(hs:∀own g w,Stop own g w→FQ own g w):af P main ro FQ own g w:=by
 induction h with
 |stop h=>exact .stop λw₁ hr=>hs _ _ _ (h w₁ hr)
 |step nx nw ne hr h1 h2 _ ih=>exact .step nx nw ne hr h1 h2 ih
def Beside (ro:Nat→Prop)(Stop:(Nat→Prop)→Ω→Γ→Prop)(extra:Nat→Prop)(w₀:Γ)(LN:Nat→Prop)(g:Ω)(w:Γ):Prop:=
 ∃own',(∀b,LN b↔own' b∨extra b)∧Stop own' g w∧w₀.heap.size≤w.heap.size∧∀b,extra b∨ro b→¬own' b∧w.heap[b]?=w₀.heap[b]?
theorem bI.sub {own own':Nat→Prop}{w w₁:Γ}(h:bI ro own' w w₁)(hs:∀b,own b→own' b):bI ro own w w₁:=⟨h.tape,h.os,h.output,h.size,λb hb=>h.block b (hb.imp (hs b) id)⟩
theorem DK.mono {own own':Nat→Prop}{e:π}(h:DK ro own e)(hs:∀b,own b→own' b):DK ro own' e:=by
 unfold DK at h ⊢;split at h
 ·exact h.imp (hs _) id
 ·exact⟨hs _ h.1,h.2⟩
 ·exact h
 ·exact h.elim
theorem af.frame {extra:Nat→Prop}{g:Ω}{w:Γ}(h:af P main ro Stop own g w):(∀b,extra b∨ro b→¬own b∧b<w.heap.size)→af P main ro (Beside ro Stop extra w) (λb=>own b∨extra b) g w:=by
 induction h with
 | @stop own g w h=>
   intro hd;exact .stop λw₁ hr=>⟨own,λb=>Iff.rfl,h w₁ (hr.sub λb hb=> .inl hb),hr.size,λb hb=>⟨(hd b hb).1,hr.block b (hb.imp .inr id)⟩⟩
 | @step own g w nx nw ne hs h1 h2 h3 ih=>
   intro hd;refine .step nx nw ne hs (λw₁ hr=>h1 w₁ (hr.sub λb hb=> .inl hb)) (λw₁ hr=>?_) (λw₁ hr=>?_)
   ·have hg:=h2 w₁ (hr.sub λb hb=> .inl hb);exact⟨hg.tape,hg.os,hg.output,hg.size,λb hb hn=>hg.block b hb λx=>hn (.inl x),λe he=>(hg.evs e he).mono λb hb=>hb.imp .inl id⟩
   ·have pN:=hr.sub (own:=own) λb hb=> .inl hb;have hg:=h2 w₁ pN;have hsz:=hr.size;have abj:=hg.size;have:=ih w₁ pN λb hb=>⟨λx=>x.elim (hd b hb).1 λy=>by have:=(hd b hb).2;omega,by have:=(hd b hb).2;omega⟩;have e:(λb=>Grow own w₁ (nw w₁) b∨extra b)=Grow (λb=>own b∨extra b) w₁ (nw w₁):=by
     funext b;unfold Grow;refine propext ⟨?_,?_⟩
     ·rintro ((x|x)|x)
      ·exact .inl (.inl x)
      ·exact .inr x
      ·exact .inl (.inr x)
     ·rintro ((x|x)|x)
      ·exact .inl (.inl x)
      ·exact .inr x
      ·exact .inl (.inr x)
    rw[e]at this;refine this.mono λLN g' w' ⟨own',k1,k2,k0,k3⟩=>⟨own',k1,k2,by omega,λb hb=>⟨(k3 b hb).1,?_⟩⟩;rw[(k3 b hb).2,hg.block b (by have:=(hd b hb).2;omega) (hd b hb).1,hr.block b (hb.imp .inr id)]
end
section
variable {P:Φ}{F:υ→Bool}{S:Sd}{main:Bool}{ro:Nat→Prop}
class Shut (P:Φ) (S:Sd):Prop where
 d:S.d=P.globals.size
 g:S.g≤P.globals.size
def JI (P:Φ)(W:Γ):Γ:={ W with heap:=Array.replicate P.globals.size iF }
theorem pO (W:Γ):(JI P W).heap.size=P.globals.size:=by simp[JI]
theorem Qe [Z:Shut P S] (W:Γ){W':Γ}{ρ:Rn}(hd:ρ.d≤P.globals.size)(hi:∀r,r<P.globals.size→ρ r=r)(hn:∀r:Nat,P.globals.size≤r→ρ r=W'.heap.size+(r-P.globals.size)):WR P S ρ (JI P W) W':=by
 have hs:=pO (P:=P) W;have hZ:=Z.d;have hG:=Z.g;refine⟨λr o jN ho=>?_,λr o ho=>?_,λr hr=>?_,λr o jN ho=>?_,λr hr=>by rw[hs]at hr ⊢;exact hn r hr,λr h1 h2=>by omega,⟨by omega,by omega,by omega,by omega,by omega,λg h1 h2=>hi g (by omega),λg h1=> .inr (hi g (by omega))⟩⟩
 ·have:=fZ ho;omega
 ·have hlt:=fZ ho;simp only[JI,Array.getElem?_replicate]at ho;split at ho
  ·cases ho;trivial
  ·cases ho
 ·simp only[JI,Array.getElem?_replicate,zac (show r<P.globals.size by omega)]
 ·have:=fZ ho;omega
theorem LO [Shut P S] {W:Γ}(hb:P.globals.size≤W.heap.size):gH P S (cN jW P.globals.size W.heap.size) (JI P W) W:=by
 refine⟨Qe W (zaw _) (λr hr=>aJ hr) λr hr=>dW hr,λa b e=>?_,λr=>?_,λ_=>rfl,hb⟩
 ·rcases zay a P.globals.size with ha|ha<;>rcases zay b P.globals.size with hb'|hb'
  ·rw[aJ ha,aJ hb']at e;exact e
  ·rw[aJ ha,dW hb']at e;have:jW.b a=a:=rfl;omega
  ·rw[dW ha,aJ hb']at e;have:jW.b b=b:=rfl;omega
  ·rw[dW ha,dW hb']at e;omega
 ·rcases zay r P.globals.size with ha|ha
  ·rw[aJ ha];exact Iff.rfl
  ·rw[dW ha];constructor<;>intro<;>omega
theorem Nj (hC:jM P F S){fr:Δ}{w W:Γ}{ρ:Rn}(hI:PI P F S fr [] w)(hS:gH P S ρ w W){v:η}(hl:fr.leaving P w (.returned v))(hv:gq v)(c:Δ)(cs:List Δ):∃es,θ P main (G (bS ρ fr) (c::cs)) W=.go (G (c.finish v) cs) W es∧∀e∈es,pj S.d ρ w e:=by
 have hl':fr.mode=.returning∧fr.defers=[]∧fr.kind=.normal∧∃fn,P.funcs[fr.fn]?=some fn∧(results fn fr.tmps).run P w=.ok v w:=hl;obtain⟨h1,h2,h3,fn,h4,h5⟩:=hl';have hp:Plain P ρ:=⟨λt i v a b=>hC.zero t i v a b _,hS.inj⟩;cases hrun:(results fn fr.tmps).runT P w #[]with
 |mk r es=>
  have q1:=zal Prod.fst hrun;simp at q1;rw[h5]at q1;subst q1;have tq:∀n,w.heap.size≤n→aa P (sg S S.d n) (VV (sg S S.d n)) (results fn fr.tmps) (results fn fr.tmps):=λn hn=>by
   have:=ju (mX hC n) fn fr.tmps di;have e:fr.tmps.map (rv (sg S S.d n))=fr.tmps:=ba.2 (gX hn hI.cl);rwa[e]at this
  obtain⟨b,W1,es',r1,r2,_,r4,r5,r6⟩:=df hp (λo=> .inl hS.lX) _ _ _ _ w W #[] #[] _ _ _ (ju hp fn fr.tmps di) tq hS.wr (λj hj=>by omega) hrun;have hb:b=v:=by have:=r2;unfold VV at this;rw[hv ρ]at this;exact this
  have hs:=r5.size;have hW1:W1=W:=by
   refine qT (Array.ext_getElem? λi=>?_) r5.tape (by have:=r5.drawn;omega) r5.os r5.output;rcases zay i W.heap.size with hlt|jN
   ·by_cases ht:Touch S.d ρ w i
    ·obtain⟨k,hr1,hr2,rfl⟩:=ht;have FO:=r4.live _ _ hr1 (zaH hr2);have yY:=hS.wr.live _ _ hr1 (zaH hr2);exact FO.trans yY.symm
    ·exact r5.frame i hlt ht
   ·rw[zbQ (by omega),zbQ jN]
  subst hb hW1;have cg:lx P F S (bS ρ fr):=⟨hI.ok.defers,hI.ok.mode,hI.ok.kind,hI.ok.round,hI.ok.todo,hI.ok.fn⟩;have hps:(aR P (bS ρ fr) [c]).runT P W1 #[]=(.ok (c.finish b,[]) W1,es'):=by
   have hm:(bS ρ fr).mode=.returning:=h1;have hf:P.funcs[(bS ρ fr).fn]?=some fn:=h4;unfold aR;rw[hm];simp only[hf];rw[bu];have:(results fn (bS ρ fr).tmps).runT P W1 #[]=(.ok b W1,es'):=r1;rw[this];rfl
  have hst:=n7 (main:=main) (cs:=cs) cg hps;refine⟨_,hst,λe he=>?_⟩;rcases r6 e (mem_seen he)with h|h
  ·simp at h
  ·exact h
theorem ng {ρ:Rn}{w:Γ}{e:π}(h:pj S.d ρ w e):DK ro (Touch S.d ρ w) e:=by
 unfold pj at h;unfold DK;cases hl:e.loc<;>simp only[hl]at h ⊢<;>first|exact .inl h|exact h
theorem y7 [Z:Shut P S] (hC:jM P F S){f:υ}{args:Array η}(hF:F f=true)(ha:∀v∈args,gq v){Qv:η→Prop}(hv:∀v,Qv v→gq v){W:Γ}(hb:P.globals.size≤W.heap.size)
 (hc:∀w:Γ,w.heap=Array.replicate P.globals.size iF→w.os=W.os→w.output=W.output→ύ P f args w λe _=>∃v,e=.returned v∧Qv v)(c:Δ)(cs:List Δ):
 af P main ro (λ_ g _=>∃v,Qv v∧g=G (c.finish v) cs) (λ_=>False) (G (Δ.enter P f args .normal) (c::cs)) W:=by
 have hw:WR P S jW (JI P W) (JI P W):=Qe W (zaw _) (λ_ _=>rfl) λr hr=>by rw[pO];show r=_;omega
 have JJ:=tz (Q:=λv _=>Qv v) hC hF (w:=JI P W) (args:=args) (λv hv'=>ha v hv' _) hw (λ_ _ _ _ h=>h) λτ=>hc _ rfl rfl rfl;have hI:PI P F S (Δ.enter P f args .normal) [] (JI P W):=by
  refine⟨tj hC hF args,by simp,λv hv'=>?_,by simp,hw⟩;have e:bS (sg S S.d (JI P W).heap.size) (Δ.enter P f args .normal)=Δ.enter P f args .normal:=by
   rw[←im,ba.2 λv hv'=>ha v hv' _]
  have:=zal Δ.tmps e;simp only[bS]at this;exact ba.1 this v hv'
 have hS:=LO (S:=S) hb;have key:=tA (main:=main) (ro:=ro) (cs:=c::cs) hC JJ hI (cN jW P.globals.size W.heap.size) 0 _ W hS (by omega) (λr hr=>by omega);have e1:bS (cN jW P.globals.size W.heap.size) (Δ.enter P f args .normal)=Δ.enter P f args .normal:=by
  rw[←im,ba.2 λv hv'=>ha v hv' _]
 have e2:Touch S.d (cN jW P.globals.size W.heap.size) (JI P W)=λ_=>False:=by
  funext b;refine propext ⟨?_,False.elim⟩;rintro ⟨r,h1,h2,_⟩;rw[pO]at h2;rw[Z.d]at h1;omega
 rw[e1,e2]at key;refine af.bind key λown g W' hst=>?_;obtain⟨fr,above,w,ρ,⟨rfl,_,v,hq,hl⟩,hI',FR,rfl,rfl,_,_⟩:=hst;refine af.step' rfl λaC hr=>?_;have hS1:=FR.rely hr;obtain⟨es,hstep,gf⟩:=Nj (main:=main) hC hI' hS1 hl (hv v hq) c cs;have Px:bS ρ fr=bS (cN ρ w.heap.size aC.heap.size) fr:=ei hI'.cl (λr hlt=>(aJ hlt).symm) (λ_=>rfl);refine⟨_,aC,es,by rw[Px];exact hstep,⟨rfl,rfl,rfl,zab _,λ_ _ _=>rfl,λe he=>?_⟩,.stop λ_ _=>⟨v,hq,rfl⟩⟩;have:=ng (ro:=ro) (gf e he);rw[cC]at this;exact this.mono λb hb=> .inl hb
end
section
variable {P:Φ}{main:Bool}{ro own:Nat→Prop}{Stop:(Nat→Prop)→Ω→Γ→Prop}{g:Ω}{w:Γ}
theorem jx (own:Nat→Prop){w w':Γ}(h:w'.heap.size=w.heap.size):Grow own w w'=own:=by
 funext b;unfold Grow;refine propext ⟨λx=>x.elim id λy=>by omega,.inl⟩
theorem af.silent {g':Ω}(hs:g.status=.running)(h:∀w₁,θ P main g w₁=.go g' w₁ #[])(k:af P main ro Stop own g' w):af P main ro Stop own g w:=
 af.step' hs λw₁ hr=>⟨g',w₁,#[],h w₁,⟨rfl,rfl,rfl,zab _,λ_ _ _=>rfl,by simp⟩,by rw[jx own rfl];exact k.rely hr⟩
end
section
variable {P:Φ}{F:υ→Bool}{S:Sd}{main:Bool}{ro own:Nat→Prop}{Stop:(Nat→Prop)→Ω→Γ→Prop}{w W:Γ}{ρ:Rn}{b:Δ}{a:Act}{ops:Array Oper}{i:Nat}{rest:List Nat}{o:Oper}{kk:List Item}{cs:List Δ}
structure pn (ro own:Nat→Prop) (W:Γ):Prop where
 lt:∀b,own b∨ro b→b<W.heap.size
 ap:∀b,ro b→¬own b
theorem pn.grow {aC W':Γ}(h:pn ro own W)(h1:W.heap.size≤aC.heap.size)(h2:aC.heap.size≤W'.heap.size):pn ro (Grow own aC W') W':=
 ⟨λb hb=>by
   rcases hb with(hb|hb)|hb
   ·have:=h.lt b (.inl hb);omega
   ·exact hb.2
   ·have:=h.lt b (.inr hb);omega,λb hb hg=>by
   rcases hg with hg|hg
   ·exact h.ap b hb hg
   ·have:=h.lt b (.inr hb);omega⟩
theorem af.bounded {g:Ω}(h:af P main ro Stop own g w):(∀b,own b→b<w.heap.size)→af P main ro (λown g w=>Stop own g w∧∀b,own b→b<w.heap.size) own g w:=by
 induction h with
 | @stop own g w h=>intro hb;exact .stop λw₁ hr=>⟨h w₁ hr,λb hx=>by have:=hb b hx;have:=hr.size;omega⟩
 | @step own g w nx nw ne hs h1 h2 _ ih=>
   intro hb;refine .step nx nw ne hs h1 h2 λw₁ hr=>ih w₁ hr λb hx=>?_;have h3:=(h2 w₁ hr).size;have h4:=hr.size;rcases hx with hx|hx
   ·have:=hb b hx;omega
   ·exact hx.2
theorem af.call' [Shut P S] (hC:jM P F S){f:υ}{args:Array η}(hF:F f=true)(ha:∀v∈args,gq v){Qv:η→Prop}(hv:∀v,Qv v→gq v){c:Δ}{g:Ω}
 (hs:g.status=.running)(hst:∀w₁,θ P main g w₁=.go (G (Δ.enter P f args .normal) (c::cs)) w₁ #[])(hb:P.globals.size≤w.heap.size)(hH:pn ro own w)
 (hc:∀w':Γ,w'.heap=Array.replicate P.globals.size iF→ύ P f args w' λe _=>∃v,e=.returned v∧Qv v)
 (k:∀v w' own',Qv v→(∀b,own b→own' b)→pn ro own' w'→(∀b,own b∨ro b→w'.heap[b]?=w.heap[b]?)→w.heap.size≤w'.heap.size→af P main ro Stop own' (G (c.finish v) cs) w'):af P main ro Stop own g w:=by
 refine af.silent hs hst ?_;have h1:=((y7 (main:=main) (ro:=ro) hC hF ha hv hb (λw' e _ _=>hc w' e) c cs).bounded (λ_ h=>h.elim)).frame (extra:=own) (λb hb=>⟨λh=>h,hH.lt b hb⟩);have e:(λb=>False∨own b)=own:=by funext b;exact propext ⟨λh=>h.elim False.elim id,.inr⟩
 rw[e]at h1;refine af.bind h1 λLN g' w' ⟨own',k1,⟨⟨v,hq,hg⟩,k4⟩,k2,k3⟩=>?_;subst hg;refine k v w' LN hq (λb hb=>(k1 b).2 (.inr hb)) ⟨λb hb=>?_,λb hr hb=>?_⟩ (λb hb=>(k3 b hb).2) k2
 ·rcases hb with hb|hb
  ·rcases(k1 b).1 hb with h|h
   ·exact k4 b h
   ·have:=hH.lt b (.inl h);omega
  ·have:=hH.lt b (.inr hb);omega
 ·rcases(k1 b).1 hb with h|h
  ·exact(k3 b (.inr hr)).1 h
  ·exact hH.ap b hr h
theorem gH.grow {aC:Γ}(h:gH P S ρ w W)(hs:W.heap.size≤aC.heap.size)(hb:∀b,Touch S.d ρ w b→aC.heap[b]?=W.heap[b]?):gH P S (cN ρ w.heap.size aC.heap.size) w aC:=by
 have h':gH P S ρ w { W with tape:=aC.tape,os:=aC.os,output:=aC.output }:=⟨⟨h.wr.live,h.wr.ok,h.wr.dead,h.wr.closed,h.wr.next,h.wr.low,h.wr.big⟩,h.inj,h.lX,h.f,h.ry⟩;exact h'.rely (ro:=λ_=>False) ⟨rfl,rfl,rfl,hs,λb hx=>hx.elim (hb b) False.elim⟩
def Cl (_P:Φ)(S:Sd)(w:Γ)(v:η):Prop:=rv (sg S S.d w.heap.size) v=v
theorem Cl.agree {ρ':Rn}{v:η}(h:Cl P S w v)(hb:∀r,r<w.heap.size→ρ' r=ρ r)(hf:∀x,ρ'.f x=ρ.f x):rv ρ' v=rv ρ v:=
 Go.Ren.agree (σ:=sg S S.d w.heap.size) (λr hr=>hb r (bK.1 hr).2) (λx _=>hf x) v h
theorem Cl.mono {w':Γ}{v:η}(h:Cl P S w v)(hs:w.heap.size≤w'.heap.size):Cl P S w' v:=dO (cO hs).1 (cO hs).2 v h
def fx (f:Nat→η):ϊ→η
 |.tmp t=>f t
 |.const v=>v
 |.global g=> .pointer (some ⟨g,0,none⟩)
 |.func f=> .func (.func f) #[] #[]
theorem Qf {T:Nat→η}{x:ϊ}(hx:gG S x=true)(hf:s7 S ρ):fx (λt=>rv ρ (T t)) x=rv ρ (fx T x):=by
 cases x with
 |tmp t=>rfl
 |const v=>simp only[gG]at hx;exact(il hx ρ).symm
 |global g=>
  simp only[gG,zaj,zaQ]at hx;simp[fx,rv,ra,hf.g g hx.1 hx.2]
 |func f=>simp[fx,rv,hf.f f hx]
theorem LP {T:Nat→η}{n:Nat}(hn:S.g≤n)(hT:∀t,rv (sg S S.d n) (T t)=T t){x:ϊ}(hx:gG S x=true):rv (sg S S.d n) (fx T x)=fx T x:=by
 cases x with
 |tmp t=>exact hT t
 |const v=>simp only[gG]at hx;exact il hx _
 |global g=>
  simp only[gG,zaj,zaQ]at hx;have:(sg S S.d n) g=g:=bK.2 ⟨hx.1,by omega⟩;simp[fx,rv,ra,this]
 |func f=>
  simp only[fx,rv];have:(sg S S.d n).f (.func f)=.func f:=iE.2 ⟨f,rfl,hx⟩;simp[this]
theorem LQ (hC:jM P F S)(cg:gw P F S o.op=true){T:Nat→η}(hT:∀t,Cl P S w (T t))(hS:gH P S ρ w W){nx:Next}{w':Γ}
 (hrun:(Ξ (fx T) o).run P (w.re W.tape W.drawn)=.ok nx w'):
 ∃VF W' es,(Ξ (fx λt=>rv ρ (T t)) o).runT P W #[]=(.ok VF W',es)∧NN F ρ nx VF∧NN F (sg S S.d w'.heap.size) nx nx∧gH P S ρ w' W'∧Fi S.d ρ (w.re W.tape W.drawn) w' W W'∧∀e∈es,pj S.d ρ w' e:=by
 have hp:Plain P ρ:=⟨λt i v a b=>hC.zero t i v a b _,hS.inj⟩;have hfv:∀x,gG S x=true→FV S ((fx T) x):=λx hx=>jv (LP (n:=w.heap.size) hS.wr.big.g hT hx);have e1:=pI (P:=P) (F:=F) (S:=S) (ρ:=ρ) (ev:=(fx T)) (ev':=(fx λt=>rv ρ (T t))) hp hS.fix hC.SF hC.fn o cg (λx hx=>Qf hx hS.fix) (λx _=> .inl hS.lX) hfv (λ_=>rfl) (λ_=>rfl) (λ_=>rfl) (λ_=>rfl);have e2:∀n,(w.re W.tape W.drawn).heap.size≤n→aa P (sg S S.d n) (NN F (sg S S.d n)) (Ξ (fx T) o) (Ξ (fx T) o):=λn hn=>by
  have hT':∀t,rv (sg S S.d n) (T t)=T t:=λt=>dO (cO hn).1 (cO hn).2 _ (hT t);exact pI (mX hC n) (xI (zah hS.wr.big.g hn)) hC.SF hC.fn o cg (λx hx=>(LP (zah hS.wr.big.g hn) hT' hx).symm) (λx hx=> .inr (LP (zah hS.wr.big.g hn) hT' hx)) hfv (λ_=>rfl) (λ_=>rfl) (λ_=>rfl) (λ_=>rfl)
 cases hrt:(Ξ (fx T) o).runT P (w.re W.tape W.drawn) #[]with
 |mk r es=>
  have q1:=zal Prod.fst hrt;simp at q1;rw[hrun]at q1;subst q1;have hW:WR P S ρ (w.re W.tape W.drawn) W:=⟨hS.wr.live,hS.wr.ok,hS.wr.dead,hS.wr.closed,hS.wr.next,hS.wr.low,hS.wr.big⟩;obtain⟨VF,W',es',r1,r2,r3,r4,r5,r6⟩:=df hp (λo=> .inl hS.lX) _ _ _ (λn=>NN F (sg S S.d n)) (w.re W.tape W.drawn) W #[] #[] _ _ _ e1 e2 hW (λj _ q=>rfl) hrt;exact⟨VF,W',es',r1,r2,r3 _ (zab _),⟨r4,hS.inj,hS.lX,hS.f,by have h1:=r5.size;have h2:=r5.gN;have:=hS.ry;omega⟩,r5,λe he=>(r6 e he).resolve_left (by simp)⟩
theorem af.Jk (hC:jM P F S)(cg:gw P F S o.op=true)(ho:ops[i]?=some o)(hw:ζ o (ξ ops a.tmps)=true)(hk:b.kind≠.early){T:Nat→η}(hT:∀t,Cl P S w (T t))(hS:gH P S ρ w W)(hown:∀x,Touch S.d ρ w x→own x)
 (hx:Ξ a.eval o=Ξ (fx λt=>rv ρ (T t)) o){Q:η→Γ→Prop}(hrun:∀τ d,∃v w',(Ξ (fx T) o).run P (w.re τ d)=.ok (.value v) w'∧Q v w')
 (k:∀v w' ρ' W' own',Q v w'→gH P S ρ' w' W'→(∀r,r<w.heap.size→ρ' r=ρ r)→w.heap.size≤w'.heap.size→Cl P S w' v→(∀x,Touch S.d ρ' w' x→own' x)→(∀x,own x→own' x)→
   (∀x,ro x→W'.heap[x]?=W.heap[x]?)→pn ro own' W'→af P main ro Stop own' (G (b.at (a.put o.dst (rv ρ' v)) (.inRegion ops rest::kk)) cs) W')(hro:pn ro own W):
 af P main ro Stop own (G (b.at a (.inRegion ops (i::rest)::kk)) cs) W:=by
 refine af.step' rfl λaC hr=>?_;have hS1:=hS.grow hr.size λx hx=>hr.block x (.inl (hown x hx));generalize vu:cN ρ w.heap.size aC.heap.size=ct at hS1;have hlt:∀r,r<w.heap.size→ct r=ρ r:=λr h=>by rw[←vu];exact aJ h
 have hf:∀x,ct.f x=ρ.f x:=λx=>by rw[←vu];rfl
 obtain⟨v,w',hv,hq⟩:=hrun aC.tape aC.drawn;obtain⟨VF,W',es,r1,r2,r3,r4,r5,r6⟩:=LQ hC cg hT hS1 hv;have BB:VF=.value (rv ct v):=r2;subst BB;have dY:Cl P S w' v:=by
  have:Next.value v=.value (rv (sg S S.d w'.heap.size) v):=r3;exact(Next.value.inj this).symm
 have hTe:(λt=>rv ρ (T t))=λt=>rv ct (T t):=funext λt=>((hT t).agree hlt hf).symm;have Qg:(Ξ a.eval o).run P aC=.ok (.value (rv ct v)) W':=by
  rw[hx,hTe];have:=zal Prod.fst r1;simpa using this
 have gf:(Ξ a.eval o).events P aC #[]=es:=by
  rw[hx,hTe];have:=zal Prod.snd r1;simpa using this
 have hsz:=r5.size;have JK:=r5.gN;simp only[Γ.re]at hsz JK;have gz:∀x,Touch S.d ct w' x→Grow own aC W' x:=by
  rintro x ⟨r,h1,h2,rfl⟩;rcases zay r w.heap.size with h3|h3
  ·exact .inl (hown _ ⟨r,h1,h3,by rw[hlt r h3]⟩)
  ·right;rw[hS1.wr.next r h3];omega
 have hnt:∀x,x<aC.heap.size→¬own x→W'.heap[x]?=aC.heap[x]?:=λx h1 h2=>r5.frame x h1 λht=>by
  rcases gz x ht with h|⟨h,_⟩
  ·exact h2 h
  ·omega
 refine⟨_,W',_,stepG_value ho hw hk Qg,⟨r5.tape,r5.os,r5.output,by omega,hnt,λe he=>?_⟩,k v w' ct W' _ hq r4 hlt JK dY gz (λx hx=> .inl hx) (λx hx=>?_) (hro.grow hr.size (by omega))⟩
 ·unfold listed at he;rw[gf]at he;have:=ng (ro:=ro) (r6 e (mem_seen he));exact this.mono gz
 ·have h1:=hro.lt x (.inr hx);have h2:=hr.size;rw[hnt x (by omega) (hro.ap x hx),hr.block x (.inr hx)]
theorem af.opn (hC:jM P F S)(cg:gw P F S o.op=true)(ho:ops[i]?=some o)(hw:ζ o (ξ ops a.tmps)=true)(hk:b.kind≠.early){T:Nat→η}(hT:∀t,Cl P S w (T t))(hS:gH P S ρ w W)(hown:∀x,Touch S.d ρ w x→own x)
 (hx:Ξ a.eval o=Ξ (fx λt=>rv ρ (T t)) o){Q:Γ→Prop}(hrun:∀τ d,∃w',(Ξ (fx T) o).run P (w.re τ d)=.ok .skip w'∧Q w')
 (k:∀w' ρ' W' own',Q w'→gH P S ρ' w' W'→(∀r,r<w.heap.size→ρ' r=ρ r)→w.heap.size≤w'.heap.size→(∀x,Touch S.d ρ' w' x→own' x)→(∀x,own x→own' x)→
   (∀x,ro x→W'.heap[x]?=W.heap[x]?)→pn ro own' W'→af P main ro Stop own' (G (b.at (a.put o.dst ω) (.inRegion ops rest::kk)) cs) W')(hro:pn ro own W):
 af P main ro Stop own (G (b.at a (.inRegion ops (i::rest)::kk)) cs) W:=by
 refine af.step' rfl λaC hr=>?_;have hS1:=hS.grow hr.size λx hx=>hr.block x (.inl (hown x hx));generalize vu:cN ρ w.heap.size aC.heap.size=ct at hS1;have hlt:∀r,r<w.heap.size→ct r=ρ r:=λr h=>by rw[←vu];exact aJ h
 have hf:∀x,ct.f x=ρ.f x:=λx=>by rw[←vu];rfl
 obtain⟨w',hv,hq⟩:=hrun aC.tape aC.drawn;obtain⟨VF,W',es,r1,r2,r3,r4,r5,r6⟩:=LQ hC cg hT hS1 hv;have BB:VF=.skip:=r2;subst BB;have hTe:(λt=>rv ρ (T t))=λt=>rv ct (T t):=funext λt=>((hT t).agree hlt hf).symm;have Qg:(Ξ a.eval o).run P aC=.ok .skip W':=by
  rw[hx,hTe];have:=zal Prod.fst r1;simpa using this
 have gf:(Ξ a.eval o).events P aC #[]=es:=by
  rw[hx,hTe];have:=zal Prod.snd r1;simpa using this
 have hsz:=r5.size;have JK:=r5.gN;simp only[Γ.re]at hsz JK;have gz:∀x,Touch S.d ct w' x→Grow own aC W' x:=by
  rintro x ⟨r,h1,h2,rfl⟩;rcases zay r w.heap.size with h3|h3
  ·exact .inl (hown _ ⟨r,h1,h3,by rw[hlt r h3]⟩)
  ·right;rw[hS1.wr.next r h3];omega
 have hnt:∀x,x<aC.heap.size→¬own x→W'.heap[x]?=aC.heap[x]?:=λx h1 h2=>r5.frame x h1 λht=>by
  rcases gz x ht with h|⟨h,_⟩
  ·exact h2 h
  ·omega
 refine⟨_,W',_,stepG_none ho hw hk Qg,⟨r5.tape,r5.os,r5.output,by omega,hnt,λe he=>?_⟩,k w' ct W' _ hq r4 hlt JK gz (λx hx=> .inl hx) (λx hx=>?_) (hro.grow hr.size (by omega))⟩
 ·unfold listed at he;rw[gf]at he;have:=ng (ro:=ro) (r6 e (mem_seen he));exact this.mono gz
 ·have h1:=hro.lt x (.inr hx);have h2:=hr.size;rw[hnt x (by omega) (hro.ap x hx),hr.block x (.inr hx)]
end
section
variable {P:Φ}{F:υ→Bool}{S:Sd}{main:Bool}{ro own:Nat→Prop}{Stop:(Nat→Prop)→Ω→Γ→Prop}{w W:Γ}{ρ:Rn}{b:Δ}{a:Act}{ops:Array Oper}{i:Nat}{rest:List Nat}{o:Oper}{kk:List Item}{cs:List Δ}
theorem gH.abk {w₂:Γ}(h:gH P S ρ w W)(e:w₂.heap=w.heap):gH P S ρ w₂ W:=by
 obtain⟨⟨h1,h2,h3,h4,h5,h6,h7⟩,g1,g2,g3,g4⟩:=h;exact⟨⟨by rw[e];exact h1,by rw[e];exact h2,by rw[e];exact h3,by rw[e];exact h4,by rw[e];exact h5,by rw[e];exact h6,by rw[e];exact h7⟩,g1,g2,g3,g4⟩
theorem bM (w:Γ)(o:Obj):(w.alloc o).heap.size=w.heap.size+1:=by show(w.heap.push o).size=_;simp
structure At (P:Φ) (S:Sd) (ro:Nat→Prop) (ρ:Rn) (w W:Γ) (own:Nat→Prop):Prop where
 xn:gH P S ρ w W
 XT:∀x,Touch S.d ρ w x→own x
 hold:pn ro own W
structure On (ro:Nat→Prop) (ρ:Rn) (w W:Γ) (own:Nat→Prop) (ρ':Rn) (W':Γ) (own':Nat→Prop):Prop where
 agree:∀r,r<w.heap.size→ρ' r=ρ r
 own:∀x,own x→own' x
 ro:∀x,ro x→W'.heap[x]?=W.heap[x]?
theorem DL {ρ':Rn}(h:gH P S ρ w W){w' W':Γ}(h':gH P S ρ' w' W'):∀x,ρ'.f x=ρ.f x:=λx=>by rw[h.f,h'.f]
theorem af.Qh (hC:jM P F S)(cg:gw P F S o.op=true)(ho:ops[i]?=some o)(hw:ζ o (ξ ops a.tmps)=true)(hk:b.kind≠.early){T:Nat→η}(hT:∀t,Cl P S w (T t))(hA:At P S ro ρ w W own)
 (hx:Ξ a.eval o=Ξ (fx λt=>rv ρ (T t)) o){v:Γ→η}{o':Γ→Γ}(hrun:∀τ d,(Ξ (fx T) o).run P (w.re τ d)=.ok (.value (v (w.re τ d))) (o' (w.re τ d)))
 (k:∀(w₀:Γ) ρ' W' own',w₀.heap=w.heap→At P S ro ρ' (o' w₀) W' own'→On ro ρ w W own ρ' W' own'→Cl P S (o' w₀) (v w₀)→af P main ro Stop own' (G (b.at (a.put o.dst (rv ρ' (v w₀))) (.inRegion ops rest::kk)) cs) W'):
 af P main ro Stop own (G (b.at a (.inRegion ops (i::rest)::kk)) cs) W:=
 af.Jk hC cg ho hw hk hT hA.xn hA.XT hx (Q:=λx w'=>∃τ d,x=v (w.re τ d)∧w'=o' (w.re τ d)) (λτ d=>⟨_,_,hrun τ d,τ,d,rfl,rfl⟩)
  (λx w' ρ' W' own' hq hS h1 _ h3 h4 h5 h6 h7=>by
    obtain⟨τ,d,rfl,rfl⟩:=hq;exact k (w.re τ d) ρ' W' own' rfl ⟨hS,h4,h7⟩ ⟨h1,h5,h6⟩ h3) hA.hold
theorem af.adA (hC:jM P F S)(cg:gw P F S o.op=true)(ho:ops[i]?=some o)(hw:ζ o (ξ ops a.tmps)=true)(hk:b.kind≠.early){T:Nat→η}(hT:∀t,Cl P S w (T t))(hA:At P S ro ρ w W own)
 (hx:Ξ a.eval o=Ξ (fx λt=>rv ρ (T t)) o){o':Γ→Γ}(hrun:∀τ d,(Ξ (fx T) o).run P (w.re τ d)=.ok .skip (o' (w.re τ d)))
 (k:∀(w₀:Γ) ρ' W' own',w₀.heap=w.heap→At P S ro ρ' (o' w₀) W' own'→On ro ρ w W own ρ' W' own'→af P main ro Stop own' (G (b.at (a.put o.dst ω) (.inRegion ops rest::kk)) cs) W'):
 af P main ro Stop own (G (b.at a (.inRegion ops (i::rest)::kk)) cs) W:=
 af.opn hC cg ho hw hk hT hA.xn hA.XT hx (Q:=λw'=>∃τ d,w'=o' (w.re τ d)) (λτ d=>⟨_,hrun τ d,τ,d,rfl⟩)
  (λw' ρ' W' own' hq hS h1 _ h4 h5 h6 h7=>by
    obtain⟨τ,d,rfl⟩:=hq;exact k (w.re τ d) ρ' W' own' rfl ⟨hS,h4,h7⟩ ⟨h1,h5,h6⟩) hA.hold
theorem af.mv (ho:ops[i]?=some o)(hw:ζ o (ξ ops a.tmps)=true)(hk:b.kind≠.early){dd:Option Tmp}(hdd:o.dst=dd){x:ϊ}(hop:o.op=.move x∨o.op=.assign x){v:η}(hv:a.eval x=v)
 (k:af P main ro Stop own (G (b.at (a.put dd v) (.inRegion ops rest::kk)) cs) W):af P main ro Stop own (G (b.at a (.inRegion ops (i::rest)::kk)) cs) W:=by
 subst hdd;subst hv;refine af.silent rfl (λw₁=>?_) k;have hr:(Ξ a.eval o).run P w₁=.ok (.value (a.eval x)) w₁:=by
  unfold Ξ;rcases hop with h|h<;>simp[h]
 have he:(Ξ a.eval o).events P w₁ #[]=#[]:=by
  unfold Ξ;rcases hop with h|h<;>simp[h]
 rw[stepG_value ho hw hk hr,listed_none he]
theorem af.abl (ho:ops[i]?=some o)(hw:ζ o (ξ ops a.tmps)=true)(hk:b.kind≠.early){dd:Option Tmp}(hdd:o.dst=dd){x:ϊ}{j:Nat}(hop:o.op=.extract x j){vs:Array η}{v:η}(hx:a.eval x=.tuple vs)(hv:vs[j]?=some v)
 (k:af P main ro Stop own (G (b.at (a.put dd v) (.inRegion ops rest::kk)) cs) W):af P main ro Stop own (G (b.at a (.inRegion ops (i::rest)::kk)) cs) W:=by
 subst hdd;refine af.silent rfl (λw₁=>?_) k;have hr:(Ξ a.eval o).run P w₁=.ok (.value v) w₁:=by
  unfold Ξ;simp[hop,hx,Instr.extract,hv]
 have he:(Ξ a.eval o).events P w₁ #[]=#[]:=by
  unfold Ξ;simp[hop,hx,Instr.extract,hv]
 rw[stepG_value ho hw hk hr,listed_none he]
theorem af.Qi (hC:jM P F S)(ho:ops[i]?=some o)(hw:ζ o (ξ ops a.tmps)=true)(hk:b.kind≠.early){dd:Option Tmp}(hdd:o.dst=dd){e:ό}(hop:o.op=.alloc e){ti:TypeInfo}{z:η}(hi:P.info? e=some ti)(hz:ti.zero=some z)(hA:At P S ro ρ w W own)
 (k:∀(w₀:Γ) ρ' W' own',w₀.heap=w.heap→At P S ro ρ' (w₀.alloc (.cells z.cells e)) W' own'→On ro ρ w W own ρ' W' own'→af P main ro Stop own' (G (b.at (a.put dd (.pointer (some ⟨ρ' w.heap.size,0,none⟩))) (.inRegion ops rest::kk)) cs) W'):
 af P main ro Stop own (G (b.at a (.inRegion ops (i::rest)::kk)) cs) W:=by
 subst hdd;exact af.Qh hC (by rw[hop];rfl) ho hw hk (T:=λ_=>ω) (λ_=>di) hA (by unfold Ξ;rw[hop]) (v:=λ_=> .pointer (some ⟨w.heap.size,0,none⟩)) (o':=λw₀=>w₀.alloc (.cells z.cells e))
  (λτ d=>by unfold Ξ;simp[hop,Instr.alloc,zeroValue,typeInfo,hi,hz,newVar,newRow,Γ.re])
  (λw₀ ρ' W' own' e0 hA' hO _=>by
    have:rv ρ' (.pointer (some ⟨w.heap.size,0,none⟩))=.pointer (some ⟨ρ' w.heap.size,0,none⟩):=by simp[rv,ra]
    rw[this];exact k w₀ ρ' W' own' e0 hA' hO)
theorem af.storeT (hC:jM P F S)(ho:ops[i]?=some o)(hw:ζ o (ξ ops a.tmps)=true)(hk:b.kind≠.early){dd:Option Tmp}(hdd:o.dst=dd){e:ό}{s t:Tmp}(hst:s≠t)(hop:o.op=.store e (.tmp s) (.tmp t)){c c':Array η}(hi:(P.info? e).map (·.size)=some c'.size)(hs:c.size=c'.size)(h1:c'.all (·.oneCell')=true)
 (hA:At P S ro ρ (w.alloc (.cells c e)) W own)(hp:a.eval (.tmp s)=.pointer (some ⟨ρ w.heap.size,0,none⟩))(hv:a.eval (.tmp t)=rv ρ (.agg c'))(dY:Cl P S (w.alloc (.cells c e)) (.agg c'))(hg:P.globals.size≤w.heap.size)
 (k:∀(w₀:Γ) ρ' W' own',w₀.heap=w.heap→At P S ro ρ' (w₀.alloc (.cells c' e)) W' own'→On ro ρ (w.alloc (.cells c e)) W own ρ' W' own'→af P main ro Stop own' (G (b.at (a.put dd ω) (.inRegion ops rest::kk)) cs) W'):
 af P main ro Stop own (G (b.at a (.inRegion ops (i::rest)::kk)) cs) W:=by
 subst hdd;exact af.adA hC (by rw[hop];rfl) ho hw hk (T:=λx=>if x=s then .pointer (some ⟨w.heap.size,0,none⟩)else .agg c') (λx=>by
  by_cases h:x=s
  ·simp only[h,if_true];unfold Cl;have:(sg S S.d (w.alloc (.cells c e)).heap.size) w.heap.size=w.heap.size:=bK.2 ⟨zah hA.xn.wr.big.dp hg,by rw[bM];omega⟩;simp only[rv,ra,zbk,this]
  ·simp only[h,if_false];exact dY) hA
  (by
    unfold Ξ;rw[hop];simp only[fx,hp,hv,if_true,zaa (Ne.symm hst)];simp[rv,ra]) (o':=λw₁=>{ w₁ with heap:=w.heap.push (.cells c' e) })
  (λτ d=>by
    unfold Ξ;simp only[hop,fx,if_true,zaa (Ne.symm hst)];have:=run_storeAt_new (P:=P) (w.re τ d) e c c' hi hs h1;have h2:(w.alloc (.cells c e)).re τ d=(w.re τ d).alloc (.cells c e):=rfl;have h3:(w.re τ d).heap.size=w.heap.size:=rfl;rw[h3]at this;rw[h2];simp only[zaV,this,zaW,zbb];rfl)
  (λw₀ ρ' W' own' e0 hA' hO=>k { w₀ with heap:=w.heap } ρ' W' own' rfl hA' hO)
theorem af.loadT (hC:jM P F S)(ho:ops[i]?=some o)(hw:ζ o (ξ ops a.tmps)=true)(hk:b.kind≠.early){dd:Option Tmp}(hdd:o.dst=dd){e:ό}{s:Tmp}(hop:o.op=.load e (.tmp s)){c:Array η}{d:TypeDesc}(hu:P.underlying e=some d)(hd:d.isRow=true)(hi:(P.info? e).map (·.size)=some c.size)
 (hA:At P S ro ρ (w.alloc (.cells c e)) W own)(hp:a.eval (.tmp s)=.pointer (some ⟨ρ w.heap.size,0,none⟩))(hg:P.globals.size≤w.heap.size)
 (k:∀(w₀:Γ) ρ' W' own',w₀.heap=w.heap→At P S ro ρ' (w₀.alloc (.cells c e)) W' own'→On ro ρ (w.alloc (.cells c e)) W own ρ' W' own'→af P main ro Stop own' (G (b.at (a.put dd (rv ρ' (.agg c))) (.inRegion ops rest::kk)) cs) W'):
 af P main ro Stop own (G (b.at a (.inRegion ops (i::rest)::kk)) cs) W:=by
 subst hdd
 exact af.Qh hC (by rw[hop];rfl) ho hw hk (T:=λx=> .pointer (some ⟨w.heap.size,0,none⟩)) (λx=>by
       unfold Cl;have:(sg S S.d (w.alloc (.cells c e)).heap.size) w.heap.size=w.heap.size:=bK.2 ⟨zah hA.xn.wr.big.dp hg,by rw[bM];omega⟩;simp only[rv,ra,zbk,this]) hA
  (by
    unfold Ξ;rw[hop];simp only[fx,hp];simp[rv,ra]) (v:=λ_=> .agg c) (o':=λw₁=>{ w₁ with heap:=w.heap.push (.cells c e) })
  (λτ dd=>by
    unfold Ξ;simp only[hop,fx];have h2:(w.alloc (.cells c e)).re τ dd=(w.re τ dd).alloc (.cells c e):=rfl;have:=run_loadAt_mid (P:=P) ((w.re τ dd).alloc (.cells c e)) w.heap.size 0 e c.toList d (λj v hv=>by
     have hl:(w.re τ dd).heap.size=w.heap.size:=rfl;have:((w.re τ dd).heap.push (Obj.cells c e))[w.heap.size]?=some (.cells c e):=by rw[←hl];simp
     have h5:((w.re τ dd).alloc (.cells c e)).heap[w.heap.size]?=some (.cells c e):=this;simp only[Γ.cell?,h5];simpa using hv) hu hd (by simpa using hi)
    rw[h2];simp only[zaV,this,zaW,zbb];rfl)
  (λw₀ ρ' W' own' e0 hA' hO _=>k { w₀ with heap:=w.heap } ρ' W' own' rfl hA' hO)
end
section
variable {P:Φ}{F:υ→Bool}{S:Sd}{main:Bool}{ro own:Nat→Prop}{Stop:(Nat→Prop)→Ω→Γ→Prop}{w W:Γ}{ρ:Rn}{b:Δ}{a:Act}{ops:Array Oper}{i:Nat}{rest:List Nat}{o:Oper}{kk:List Item}{cs:List Δ}
theorem Qj {n off:Nat}(hg:S.d≤n)(hn:n<w.heap.size):Cl P S w (.pointer (some ⟨n,off,none⟩)):=by
 unfold Cl;have:(sg S S.d w.heap.size) n=n:=bK.2 ⟨hg,hn⟩;simp only[rv,ra,zbk,this]
theorem af.Zc (hC:jM P F S)(ho:ops[i]?=some o)(hw:ζ o (ξ ops a.tmps)=true)(hk:b.kind≠.early){dd:Option Tmp}(hdd:o.dst=dd){e:ό}{s:Tmp}{j off:Nat}(hop:o.op=.fieldAddr e (.tmp s) j)
 (hf:∀(w:Γ) (r:Nat),(Instr.fieldAt e (.pointer (some ⟨r,0,none⟩)) j).run P w=.ok (.pointer (some ⟨r,off,none⟩)) w){x:Obj}
 (hA:At P S ro ρ (w.alloc x) W own)(hp:a.eval (.tmp s)=.pointer (some ⟨ρ w.heap.size,0,none⟩))(hg:P.globals.size≤w.heap.size)
 (k:∀(w₀:Γ) ρ' W' own',w₀.heap=w.heap→At P S ro ρ' (w₀.alloc x) W' own'→On ro ρ (w.alloc x) W own ρ' W' own'→af P main ro Stop own' (G (b.at (a.put dd (.pointer (some ⟨ρ' w.heap.size,off,none⟩))) (.inRegion ops rest::kk)) cs) W'):
 af P main ro Stop own (G (b.at a (.inRegion ops (i::rest)::kk)) cs) W:=by
 subst hdd;exact af.Qh hC (by rw[hop];rfl) ho hw hk (T:=λ_=> .pointer (some ⟨w.heap.size,0,none⟩)) (λ_=>Qj (zah hA.xn.wr.big.dp hg) (by rw[bM];omega)) hA
  (by
    unfold Ξ;rw[hop];simp only[fx,hp];simp[rv,ra]) (v:=λ_=> .pointer (some ⟨w.heap.size,off,none⟩)) (o':=λw₁=>{ w₁ with heap:=w.heap.push x })
  (λτ dd=>by
    unfold Ξ;simp only[hop,fx,zaV,hf,zaW,zbb];rfl)
  (λw₀ ρ' W' own' e0 hA' hO _=>by
    have:rv ρ' (.pointer (some ⟨w.heap.size,off,none⟩))=.pointer (some ⟨ρ' w.heap.size,off,none⟩):=by simp[rv,ra]
    rw[this];exact k { w₀ with heap:=w.heap } ρ' W' own' rfl hA' hO)
theorem af.abm (hC:jM P F S)(ho:ops[i]?=some o)(hw:ζ o (ξ ops a.tmps)=true)(hk:b.kind≠.early){dd:Option Tmp}(hdd:o.dst=dd){e e':ό}{s:Tmp}{off:Nat}(hop:o.op=.load e (.tmp s)){c:Array η}{v:η}
 (hl:∀(w:Γ) (a:Addr),w.cell? a=some v→(Instr.loadAt e (.pointer (some a))).run P w=.ok v w)(hc:c[off]?=some v)
 (hA:At P S ro ρ (w.alloc (.cells c e')) W own)(hp:a.eval (.tmp s)=.pointer (some ⟨ρ w.heap.size,off,none⟩))(hg:P.globals.size≤w.heap.size)
 (k:∀(w₀:Γ) ρ' W' own',w₀.heap=w.heap→At P S ro ρ' (w₀.alloc (.cells c e')) W' own'→On ro ρ (w.alloc (.cells c e')) W own ρ' W' own'→af P main ro Stop own' (G (b.at (a.put dd (rv ρ' v)) (.inRegion ops rest::kk)) cs) W'):
 af P main ro Stop own (G (b.at a (.inRegion ops (i::rest)::kk)) cs) W:=by
 subst hdd;exact af.Qh hC (by rw[hop];rfl) ho hw hk (T:=λ_=> .pointer (some ⟨w.heap.size,off,none⟩)) (λ_=>Qj (zah hA.xn.wr.big.dp hg) (by rw[bM];omega)) hA
  (by
    unfold Ξ;rw[hop];simp only[fx,hp];simp[rv,ra]) (v:=λ_=>v) (o':=λw₁=>{ w₁ with heap:=w.heap.push (.cells c e') })
  (λτ dd=>by
    have h2:(w.alloc (.cells c e')).re τ dd=(w.re τ dd).alloc (.cells c e'):=rfl;have hcell:((w.re τ dd).alloc (.cells c e')).cell? ⟨w.heap.size,off,none⟩=some v:=by
     have hl:(w.re τ dd).heap.size=w.heap.size:=rfl;have:((w.re τ dd).heap.push (Obj.cells c e'))[w.heap.size]?=some (.cells c e'):=by rw[←hl];simp
     have h5:((w.re τ dd).alloc (.cells c e')).heap[w.heap.size]?=some (.cells c e'):=this;simp only[Γ.cell?,h5];simpa using hc
    unfold Ξ;simp only[hop,fx,zaV,h2,hl _ _ hcell,zaW,zbb];rfl)
  (λw₀ ρ' W' own' e0 hA' hO _=>k { w₀ with heap:=w.heap } ρ' W' own' rfl hA' hO)
theorem At.rely {aC:Γ}(hA:At P S ro ρ w W own)(hr:bI ro own W aC):At P S ro (cN ρ w.heap.size aC.heap.size) w aC own∧On ro ρ w W own (cN ρ w.heap.size aC.heap.size) aC own:=
 ⟨⟨hA.xn.grow hr.size λx hx=>hr.block x (.inl (hA.XT x hx)),λx hx=>hA.XT x (by rw[cC]at hx;exact hx),λb hb=>by have:=hA.hold.lt b hb;have:=hr.size;omega,hA.hold.ap⟩,
  λr h=>aJ h,λx h=>h,λx h=>hr.block x (.inr h)⟩
theorem At.call {W':Γ}{own':Nat→Prop}(hA:At P S ro ρ w W own)(h1:∀b,own b∨ro b→W'.heap[b]?=W.heap[b]?)(h2:W.heap.size≤W'.heap.size)(h3:∀b,own b→own' b)(h4:pn ro own' W'):At P S ro (cN ρ w.heap.size W'.heap.size) w W' own'∧On ro ρ w W own (cN ρ w.heap.size W'.heap.size) W' own':=
 ⟨⟨hA.xn.grow h2 λx hx=>h1 x (.inl (hA.XT x hx)),λx hx=>h3 x (hA.XT x (by rw[cC]at hx;exact hx)),h4⟩,λr h=>aJ h,h3,λx h=>h1 x (.inr h)⟩
theorem At.empty [Z:Shut P S] (hH:pn ro own W)(hb:P.globals.size≤W.heap.size):At P S ro (cN jW P.globals.size W.heap.size) (JI P W) W own:=
 ⟨LO hb,λx hx=>by obtain⟨r,h1,h2,_⟩:=hx;rw[pO]at h2;rw[Z.d]at h1;omega,hH⟩
theorem aF {t k:Tmp}{v:η}(h:t≠k):(ϋ a (some t) v).eval (.tmp k)=a.eval (.tmp k):=by
 simp only[ϋ,Act.eval,zby,zaB h]
theorem aU {k:Tmp}{v:η}(h:k<a.tmps.size):(ϋ a (some k) v).eval (.tmp k)=v:=by
 simp only[ϋ,Act.eval,zby,zbv h];rfl
theorem size_put {d:Option Tmp}{v:η}:(ϋ a d v).tmps.size=a.tmps.size:=by
 cases d<;>simp[ϋ]
theorem cG {d:Option Tmp}{v:η}:(ϋ a d v).defers=a.defers:=by
 cases d<;>simp[ϋ]
theorem y8 {v:η}:ϋ a none v=a:=rfl
end
def kx (X:Nat→Prop):Loc→Prop
 |.cell a=>X a.block
 |.obj r=>X r
 |_=>False
def Qk (ro own:Nat→Prop)(op:MemOp):Prop:=
 (∀x,op.act.touch? =some x→kx own x.loc∨(kx ro x.loc∧x.write=false))∧op.act≠.mark .disable∧op.act≠.mark .enable
structure TI (Q Shun:Loc→Prop) (c:Nat) (aK ro:Nat→Prop) (B:Nat) (t:Trace):Prop where
 clean:∀said,¬Race said t
 known:∀i a,touchAt t i=some a→a.loc.isMemory=true→Knows t 0 i∨(Shun a.loc∧a.kind=.atomic)∨(t.g? i=some c∧(kx aK a.loc∨(kx ro a.loc∧a.write=false)))
 Nk:∀i a,touchAt t i=some a→kx aK a.loc→t.g? i=some c
 grd:∀i a,touchAt t i=some a→kx ro a.loc→a.write=true→Knows t c i
 quiet:∀i a,touchAt t i=some a→Q a.loc→a.kind≠.plain∧(a.kind=.said→t.g? i=some 0)
 over:∀i g,t.g? i=some g→g≠0→g≠c→t.counts i→∃j,t.g? j=some 0∧HappensBefore t i j
 seen:∀op∈t,op.act.low B
theorem kx.mono {X Y:Nat→Prop}(h:∀b,X b→Y b):∀{l:Loc},kx X l→kx Y l
 |.cell _,x=>h _ x
 |.obj _,x=>h _ x
theorem kx.no {X Y:Nat→Prop}(h:∀b,X b→¬Y b):∀{l:Loc},kx X l→¬kx Y l
 |.cell _,x=>h _ x
 |.obj _,x=>h _ x
theorem Cb {ro own:Nat→Prop}{e:π}(h:DK ro own e):∀x,(φ e).touch? =some x→kx own x.loc∨(kx ro x.loc∧x.write=false):=by
 intro x hx;obtain⟨loc,wr,sy⟩:=e;cases loc with
 |cell a=>
  have:φ ⟨.cell a,wr,sy⟩=.access ⟨.cell a,wr,sy⟩:=by cases wr<;>cases sy<;>rfl
  rw[this]at hx;simp only[MemAct.touch?,zaG]at hx;subst hx;exact h
 |obj r=>
  obtain⟨h1,h2⟩:=h;simp only at h2;subst h2;have:φ ⟨.obj r,wr,false⟩=.access ⟨.obj r,wr,false⟩:=by cases wr<;>rfl
  rw[this]at hx;simp only[MemAct.touch?,zaG]at hx;subst hx;exact .inl h1
 |mark m=>
  have:φ ⟨.mark m,wr,sy⟩=.mark m:=by cases wr<;>cases sy<;>rfl
  rw[this]at hx;obtain⟨h1,_⟩:=h;cases m<;>first|exact h1.elim|cases hx
 |_=>exact h.elim
theorem pP {ro own:Nat→Prop}{e:π}(h:DK ro own e):e.loc≠.mark .disable∧e.loc≠.mark .enable:=by
 obtain⟨loc,wr,sy⟩:=e;cases loc with
 |mark m=>obtain⟨h1,_⟩:=h;cases m<;>first|exact h1.elim|exact⟨by simp,by simp⟩
 |_=>exact⟨by simp,by simp⟩
theorem LR {ro own:Nat→Prop}{B:Nat}(hB:∀b,own b→b<B)(hr:∀b,ro b→b<B){e:π}(h:DK ro own e):(φ e).low B:=by
 obtain⟨loc,wr,sy⟩:=e;cases loc with
 |cell a=>
  have:φ ⟨.cell a,wr,sy⟩=.access ⟨.cell a,wr,sy⟩:=by cases wr<;>cases sy<;>rfl
  rw[this];exact h.elim (λx=>hB _ x) λx=>hr _ x.1
 |obj r=>
  obtain⟨h1,h2⟩:=h;simp only at h2;subst h2;have:φ ⟨.obj r,wr,false⟩=.access ⟨.obj r,wr,false⟩:=by cases wr<;>rfl
  rw[this];exact hB _ h1
 |mark m=>
  have:φ ⟨.mark m,wr,sy⟩=.mark m:=by cases wr<;>cases sy<;>rfl
  rw[this];obtain⟨h1,_⟩:=h;cases m<;>first|exact h1.elim|trivial
 |_=>exact h.elim
section
variable {Q Shun:Loc→Prop}{c:Nat}{aK ro own:Nat→Prop}{B:Nat}{t u:Trace}
theorem VL {X:Nat→Prop}{l:Loc}(h:kx X l)(hX:∀b,X b→¬b<B)(hl:l.low B):False:=by
 cases l<;>first|exact hX _ h hl|exact h.elim
theorem Cc {op:MemOp}{x:Go.Touch}(hl:op.act.low B)(hx:op.act.touch? =some x):x.loc.low B:=by
 obtain⟨g,fn,pos,act⟩:=op;cases act with
 |access e=>simp only[MemAct.touch?,zaG]at hx;subst hx;exact hl
 |mark m=>cases m<;>simp only[MemAct.touch?,zaG]at hx<;>first|(subst hx;exact hl)|cases hx
 |_=>cases hx
theorem tB (h:∀i g,t.g? i=some g→g≠0→g≠c→t.counts i→∃j,t.g? j=some 0∧HappensBefore t i j)(hu:∀op∈u,op.g=0∨op.g=c∨op.act.touch? =none):∀i g,(t++u).g? i=some g→g≠0→g≠c→(t++u).counts i→∃j,(t++u).g? j=some 0∧HappensBefore (t++u) i j:=by
 intro i g hg h0 hc Fj;obtain⟨x,hx,hm,hk⟩:=id Fj;obtain⟨op,hop,hox⟩:=touch_of hx;rcases getElem?_append_cases hop with⟨hi,afI⟩|⟨_,adB⟩
 ·obtain⟨j,hj,hb⟩:=h i g (by rw[←g?_old (u:=u) hi];exact hg) h0 hc ((counts_old hi).1 Fj);have tC:j<t.size:=by
   unfold Trace.g? at hj;obtain⟨z,hz,_⟩:=zaz.1 hj;exact lt_size_of_getElem? hz
  exact⟨j,by rw[g?_old tC];exact hj,hb_app u hb⟩
 ·have hgo:op.g=g:=by simpa[Trace.g?,hop]using hg
  rcases hu op adB with h1|h1|h1
  ·exact absurd (hgo.symm.trans h1) h0
  ·exact absurd (hgo.symm.trans h1) hc
  ·rw[h1]at hox;cases hox
theorem TI.mono {B':Nat}(h:TI Q Shun c aK ro B t)(hB:B≤B'):TI Q Shun c aK ro B' t:=⟨h.clean,h.known,h.Nk,h.grd,h.quiet,h.over,λop hop=>MemAct.low_mono hB (h.seen op hop)⟩
theorem bH {i:Nat}{a:Go.Touch}(ha:touchAt (t++u) i=some a):(i<t.size∧touchAt t i=some a)∨(t.size≤i∧∃op∈u,(t++u)[i]?=some op∧op.act.touch? =some a):=by
 obtain⟨x,hx,hxa⟩:=touch_of ha;rcases getElem?_append_cases hx with⟨hi,DM⟩|⟨hi,hxu⟩
 ·exact .inl ⟨hi,by rw[touchAt_of DM];exact hxa⟩
 ·exact .inr ⟨hi,x,hxu,hx,hxa⟩
theorem TI.still (h:TI Q Shun c aK ro B t)(hn:∀op∈u,op.act.touch? =none)(hl:∀op∈u,op.act.low B):TI Q Shun c aK ro B (t++u):=by
 have old:∀{i a},touchAt (t++u) i=some a→i<t.size∧touchAt t i=some a:=λha=>by
  rcases bH ha with h|⟨_,op,hop,_,hx⟩
  ·exact h
  ·rw[hn op hop]at hx;cases hx
 refine⟨λsaid=>?_,λi a ha hm=>?_,λi a ha hg=>?_,λi a ha hg hw=>?_,λi a ha hq=>?_,tB h.over λop hop=> .inr (.inr (hn op hop)),seen_app h.seen hl⟩
 ·rintro ⟨i,j,hij,⟨a,b,ha,hb,hc⟩,n1,n2⟩;obtain⟨hi,ha'⟩:=old ha;obtain⟨hj,hb'⟩:=old hb;exact h.clean said ⟨i,j,hij,⟨a,b,ha',hb',hc⟩,λe=>n1 (hb_app u e),λe=>n2 (hb_app u e)⟩
 ·obtain⟨hi,ha'⟩:=old ha;rw[g?_old hi];exact(h.known i a ha' hm).imp (·.app u) id
 ·obtain⟨hi,ha'⟩:=old ha;rw[g?_old hi];exact h.Nk i a ha' hg
 ·obtain⟨hi,ha'⟩:=old ha;exact(h.grd i a ha' hg hw).app u
 ·obtain⟨hi,ha'⟩:=old ha;rw[g?_old hi];exact h.quiet i a ha' hq
theorem TI.app0 (_hc0:c≠0)(h:TI Q Shun c aK ro B t)(hu:∀op∈u,op.g=0∧Qk ro own op)(hl:∀op∈u,op.act.low B)
 (hS:∀l,kx own l∨kx ro l→¬Shun l)(hQ:∀l,kx own l∨kx ro l→¬Q l)(hG:∀b,own b→¬aK b)(hR:∀b,own b→¬ro b)(hGR:∀b,aK b→¬ro b):TI Q Shun c aK ro B (t++u):=by
 have place:∀op∈u,∀x,op.act.touch? =some x→kx own x.loc∨kx ro x.loc:=λop hop x hx=>((hu op hop).2.1 x hx).imp id (·.1);refine⟨λsaid=>noRace_append (h.clean said) (λop hop=>(hu op hop).1) λi a ha op hop b hb hc=>?_,λi a ha hm=>?_,λi a ha hg=>?_,λi a ha hg hw=>?_,λi a ha hq=>?_,tB h.over λop hop=> .inl (hu op hop).1,seen_app h.seen hl⟩
 ·rcases h.known i a ha hc.2.1 with hk|⟨hs,_⟩|⟨_,hg|⟨hr,hw⟩⟩
  ·exact hk
  ·exact absurd (hc.1▸hs) (hS _ (place op hop b hb))
  ·rcases place op hop b hb with h1|h1
   ·exact absurd (hc.1▸hg) (kx.no hG h1)
   ·exact absurd h1 (kx.no hGR (hc.1▸hg))
  ·rcases(hu op hop).2.1 b hb with h1|⟨_,h1⟩
   ·exact absurd (hc.1▸hr) (kx.no hR h1)
   ·have:=hc.2.2.1;rw[hw,h1]at this;simp at this
 ·rcases bH ha with⟨hi,ha'⟩|⟨_,op,hop,hx,_⟩
  ·rw[g?_old hi];exact(h.known i a ha' hm).imp (·.app u) id
  ·have:=knows_own hx;rw[(hu op hop).1]at this;exact .inl this
 ·rcases bH ha with⟨hi,ha'⟩|⟨_,op,hop,_,hb⟩
  ·rw[g?_old hi];exact h.Nk i a ha' hg
  ·rcases place op hop a hb with h1|h1
   ·exact absurd hg (kx.no hG h1)
   ·exact absurd h1 (kx.no hGR hg)
 ·rcases bH ha with⟨hi,ha'⟩|⟨_,op,hop,_,hb⟩
  ·exact(h.grd i a ha' hg hw).app u
  ·rcases(hu op hop).2.1 a hb with h1|⟨_,h1⟩
   ·exact absurd hg (kx.no hR h1)
   ·rw[h1]at hw;cases hw
 ·rcases bH ha with⟨hi,ha'⟩|⟨_,op,hop,_,hb⟩
  ·rw[g?_old hi];exact h.quiet i a ha' hq
  ·exact absurd hq (hQ _ (place op hop a hb))
theorem TI.adC {own':Nat→Prop}{B':Nat}(h:TI Q Shun c aK ro B t)(hB:B≤B')(hu:∀op∈u,op.g=c∧Qk ro own' op)(hl:∀op∈u,op.act.low B')
 (hown:∀b,own' b↔aK b∨(B≤b∧b<B'))(hQ:∀l,kx own' l∨kx ro l→¬Q l):TI Q Shun c own' ro B' (t++u):=by
 have place:∀op∈u,∀x,op.act.touch? =some x→kx own' x.loc∨kx ro x.loc:=λop hop x hx=>((hu op hop).2.1 x hx).imp id (·.1);have abn:∀i a,touchAt t i=some a→kx own' a.loc→kx aK a.loc:=λi a ha hi=>by
  obtain⟨x,hx,hxa⟩:=touch_of ha;have dP:=Cc (h.seen x (mem_of_getElem? hx)) hxa;generalize a.loc=l at hi dP;cases l with
  |cell ad=>exact((hown _).1 hi).resolve_right λh1=>by have:ad.block<B:=dP;omega
  |obj r=>exact((hown _).1 hi).resolve_right λh1=>by have:r<B:=dP;omega
  |_=>exact hi.elim
 refine⟨λsaid=>noRace_append (h.clean said) (λop hop=>(hu op hop).1) λi a ha op hop b hb hc=>?_,λi a ha hm=>?_,λi a ha hg=>?_,λi a ha hg hw=>?_,λi a ha hq=>?_,tB h.over λop hop=> .inr (.inl (hu op hop).1),seen_app (λop hop=>MemAct.low_mono hB (h.seen op hop)) hl⟩
 ·rcases(hu op hop).2.1 b hb with h1|⟨h1,h2⟩
  ·have hg:=h.Nk i a ha (abn i a ha (hc.1▸h1));obtain⟨x,hx,_⟩:=touch_of ha;have:=knows_own hx;have e:x.g=c:=by simpa[Trace.g?,hx]using hg
   rwa[e]at this
  ·refine h.grd i a ha (hc.1▸h1) ?_;rcases hc.2.2.1 with h3|h3
   ·exact h3
   ·rw[h2]at h3;cases h3
 ·rcases bH ha with⟨hi,ha'⟩|⟨_,op,hop,hx,hb⟩
  ·rw[g?_old hi];rcases h.known i a ha' hm with hk|hk|⟨hk,hk2⟩
   ·exact .inl (hk.app u)
   ·exact .inr (.inl hk)
   ·exact .inr (.inr ⟨hk,hk2.imp (kx.mono λb hb=>(hown b).2 (.inl hb)) id⟩)
  ·exact .inr (.inr ⟨by simp[Trace.g?,hx,(hu op hop).1],(hu op hop).2.1 a hb⟩)
 ·rcases bH ha with⟨hi,ha'⟩|⟨_,op,hop,hx,_⟩
  ·rw[g?_old hi];exact h.Nk i a ha' (abn i a ha' hg)
  ·simp[Trace.g?,hx,(hu op hop).1]
 ·rcases bH ha with⟨hi,ha'⟩|⟨_,op,hop,hx,_⟩
  ·exact(h.grd i a ha' hg hw).app u
  ·have:=knows_own hx;rwa[(hu op hop).1]at this
 ·rcases bH ha with⟨hi,ha'⟩|⟨_,op,hop,_,hb⟩
  ·rw[g?_old hi];exact h.quiet i a ha' hq
  ·exact absurd hq (hQ _ (place op hop a hb))
theorem TI.VM {g:Nat}(h:TI Q Shun c aK ro B t)(hg:g=0∨g=c)(hu:∀op∈u,op.g=g∧∀x,op.act.touch? =some x→Q x.loc∧x.kind≠.plain∧(x.kind=.said→g=0))(hl:∀op∈u,op.act.low B)
 (XU:∀l,Q l→Shun l)(hQG:∀l,Q l→¬kx aK l∧¬kx ro l):TI Q Shun c aK ro B (t++u):=by
 refine⟨λsaid=>noRace_append (h.clean said) (λop hop=>(hu op hop).1) λi a ha op hop b hb hc=>?_,λi a ha hm=>?_,λi a ha hgo=>?_,λi a ha hr hw=>?_,λi a ha hq=>?_,tB h.over λop hop=>hg.elim (λe=> .inl ((hu op hop).1.trans e)) λe=> .inr (.inl ((hu op hop).1.trans e)),seen_app h.seen hl⟩
 ·obtain⟨q1,q2,q3⟩:=(hu op hop).2 b hb;obtain⟨p1,p2⟩:=h.quiet i a ha (hc.1▸q1);rcases hc.2.2.2 with h1|h1|⟨_,h1,h2⟩
  ·exact absurd h1 p1
  ·exact absurd h1 q2
  ·have e0:=q3 h2;subst e0;obtain⟨x,hx,_⟩:=touch_of ha;have:=knows_own hx;have e:x.g=0:=by simpa[Trace.g?,hx]using p2 h1
   rwa[e]at this
 ·rcases bH ha with⟨hi,ha'⟩|⟨_,op,hop,hx,hb⟩
  ·rw[g?_old hi];exact(h.known i a ha' hm).imp (·.app u) id
  ·obtain⟨q1,q2,q3⟩:=(hu op hop).2 a hb;by_cases hk:a.kind=.atomic
   ·exact .inr (.inl ⟨XU _ q1,hk⟩)
   ·have abo:a.kind=.said:=by
     cases en:a.kind<;>simp_all
    have:=knows_own hx;rw[(hu op hop).1,q3 abo]at this;exact .inl this
 ·rcases bH ha with⟨hi,ha'⟩|⟨_,op,hop,_,hb⟩
  ·rw[g?_old hi];exact h.Nk i a ha' hgo
  ·exact absurd hgo (hQG _ ((hu op hop).2 a hb).1).1
 ·rcases bH ha with⟨hi,ha'⟩|⟨_,op,hop,_,hb⟩
  ·exact(h.grd i a ha' hr hw).app u
  ·exact absurd hr (hQG _ ((hu op hop).2 a hb).1).2
 ·rcases bH ha with⟨hi,ha'⟩|⟨_,op,hop,hx,hb⟩
  ·rw[g?_old hi];exact h.quiet i a ha' hq
  ·obtain⟨_,q2,q3⟩:=(hu op hop).2 a hb;refine⟨q2,λhs=>?_⟩;rw[show(t++u).g? i=some op.g by simp[Trace.g?,hx],(hu op hop).1,q3 hs]
end
end Go.Ren
