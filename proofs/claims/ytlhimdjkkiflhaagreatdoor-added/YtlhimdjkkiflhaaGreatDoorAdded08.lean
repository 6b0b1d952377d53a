import Derived.Lib.AppendIntMem
import Derived.Deep.DeepCutAuto
import Derived.BigRegion
import Derived.Laws.OwnMore
import Derived.Test.YtlhimdjkkiflhaaGreatDoorAdded07
set_option maxHeartbeats 8000000
set_option maxRecDepth 100000
open Go.Value renaming int→Γ
open Go.IntKind renaming i64→Δ
open Go renaming World→Θ,Value→Φ,Calls→η,madeCells→θ,TypeId→π,maxLen→υ
open List renaming replicate→Λ,getD→ζ
open Go.RowKit renaming Below→Ξ,intOf→ξ
open Go.Lib renaming itoa→Ω,byteCells→ι,decDigits→φ
namespace Go.Loop
structure WS where
 met:List Int
 wi:List Bool
 op:List Bool
def WS.hit (s:WS)(a:Nat):WS:={ s with met:=s.met.set a (s.met.getD a 0+1) }
def WS.again (s:WS)(a:Nat):WS:={ s with wi:=s.wi.set a (s.wi.getD a false||s.op.getD a false) }
def WS.enter (s:WS)(a:Nat):WS:={ s with op:=s.op.set a true }
def WS.leave (s:WS)(a:Nat):WS:={ s with op:=s.op.set a false }
def bW (S:Nat→List Nat):Nat→WS→Nat→WS
 |0,s,_=>s
 |f+1,s,a=>if 0<s.met.getD a 0 then(s.hit a).again a else((S a).foldl (bW S f) ((s.hit a).enter a)).leave a
structure WS.Ok (n:Nat) (s:WS):Prop where
 lm:s.met.length=n
 lw:s.wi.length=n
 lo:s.op.length=n
 nn:∀i,0≤s.met.getD i 0
 om:∀i,s.op.getD i false=true→0<s.met.getD i 0
theorem dG {α:Type}(l:List α)(a i:Nat)(v d:α)(h:a<l.length):(l.set a v).getD i d=if i=a then v else l.getD i d:=by
 simp only[ζ,List.getElem?_set];by_cases e:a=i
 ·subst e;simp[h]
 ·rw[zaa e,zaa (λx=>e x.symm)]
theorem WS.Ok.hit {n:Nat}{s:WS}(h:s.Ok n){a:Nat}(ha:a<n):(s.hit a).Ok n:=by
 refine⟨by simp[WS.hit,h.lm],h.lw,h.lo,λi=>?_,λi hi=>?_⟩
 ·simp only[WS.hit];rw[dG _ _ _ _ _ (by rw[h.lm];exact ha)];split
  ·have:=h.nn a;omega
  ·exact h.nn i
 ·simp only[WS.hit];rw[dG _ _ _ _ _ (by rw[h.lm];exact ha)];split
  ·have:=h.nn a;omega
  ·exact h.om i hi
theorem WS.Ok.again {n:Nat}{s:WS}(h:s.Ok n)(a:Nat):(s.again a).Ok n:=⟨h.lm,by simp[WS.again,h.lw],h.lo,h.nn,h.om⟩
theorem WS.Ok.leave {n:Nat}{s:WS}(h:s.Ok n){a:Nat}(ha:a<n):(s.leave a).Ok n:=by
 refine⟨h.lm,h.lw,by simp[WS.leave,h.lo],h.nn,λi hi=>?_⟩;simp only[WS.leave]at hi;rw[dG _ _ _ _ _ (by rw[h.lo];exact ha)]at hi;split at hi
 ·exact absurd hi (by simp)
 ·exact h.om i hi
theorem WS.Ok.enter {n:Nat}{s:WS}(h:s.Ok n){a:Nat}(ha:a<n)(hm:0<s.met.getD a 0):(s.enter a).Ok n:=by
 refine⟨h.lm,h.lw,by simp[WS.enter,h.lo],h.nn,λi hi=>?_⟩;simp only[WS.enter]at hi;rw[dG _ _ _ _ _ (by rw[h.lo];exact ha)]at hi;split at hi
 ·rename_i e;subst e;exact hm
 ·exact h.om i hi
theorem gZ {n:Nat}{s:WS}(h:s.Ok n){a:Nat}(ha:a<n)(i:Nat):(s.hit a).met.getD i 0=if i=a then s.met.getD a 0+1 else s.met.getD i 0:=by
 simp only[WS.hit];rw[dG _ _ _ _ _ (by rw[h.lm];exact ha)]
theorem mm {n:Nat}{s:WS}(h:s.Ok n){a:Nat}(ha:a<n):0<(s.hit a).met.getD a 0:=by
 rw[gZ h ha,zac rfl];have:=h.nn a;omega
theorem Ok.meet {n:Nat}{S:Nat→List Nat}(hS:∀x,x<n→∀y∈S x,y<n):∀(f:Nat) (s:WS) (a:Nat),s.Ok n→a<n→(bW S f s a).Ok n
 |0,s,a,h,ha=>h
 |f+1,s,a,h,ha=>by
  simp only[bW];split
  ·exact(h.hit ha).again a
  ·refine WS.Ok.leave ?_ ha;have h2:((s.hit a).enter a).Ok n:=(h.hit ha).enter ha (mm h ha);have:∀(l:List Nat) (t:WS),(∀y∈l,y<n)→t.Ok n→(l.foldl (bW S f) t).Ok n:=by
    intro l
    induction l with
    |nil=>intro t _ ht;exact ht
    |cons y r ih=>intro t hl ht;exact ih _ (λz hz=>hl z (zap _ hz)) (Ok.meet hS f t y ht (hl y zam))
   exact this _ _ (hS a ha) h2
def vU (g:Nat→Nat):Nat→List Int→Nat
 |_,[]=>0
 |i,m::r=>(if m=0 then g i else 0)+vU g (i+1) r
theorem Hr (g:Nat→Nat):∀(met:List Int) (i a:Nat) (v:Int),v≠0→a<met.length→vU g i (met.set a v)+(if met.getD a 0=0 then g (i+a)else 0)=vU g i met
 |[],_,_,_,_,h=>by simp at h
 |m::r,i,0,v,hv,_=>by simp[vU,List.set,hv];omega
 |m::r,i,a+1,v,hv,h=>by
  have ih:=Hr g r (i+1) a v hv (by simpa using h);simp only[List.set,vU,List.getD_cons_succ];rw[show i+(a+1)=i+1+a by omega];omega
def WS.vV (s:WS)(g:Nat→Nat):Nat:=vU g 0 s.met
theorem uf {n:Nat}{s:WS}(h:s.Ok n){a:Nat}(ha:a<n)(g:Nat→Nat):(s.hit a).vV g+(if s.met.getD a 0=0 then g a else 0)=s.vV g:=by
 have:=Hr g s.met 0 a (s.met.getD a 0+1) (by have:=h.nn a;omega) (by rw[h.lm];exact ha);rw[zcd]at this;exact this
def WS.Bd (S:Nat→List Nat)(c:Nat)(s:WS):Prop:=∀i,s.met.getD i 0+(s.vV (λx=>(S x).length):Nat)≤c
theorem Bd.meet {n:Nat}{S:Nat→List Nat}(hS:∀x,x<n→∀y∈S x,y<n):∀(f:Nat) (s:WS) (a c:Nat),s.Ok n→a<n→s.Bd S c→(bW S f s a).Bd S (c+1)
 |0,s,a,c,h,ha,hb=>λi=>by have:=hb i;simp only[bW];omega
 |f+1,s,a,c,h,ha,hb=>by
  simp only[bW];have hp:=uf h ha (λx=>(S x).length);split
  ·rename_i hm;intro i;show(s.hit a).met.getD i 0+((s.hit a).vV (λx=>(S x).length):Nat)≤_;rw[gZ h ha];rw[zaa (by omega)]at hp;have h1:=hb i;have h2:=hb a;split<;>omega
  ·rename_i hm;have hm0:s.met.getD a 0=0:=by have:=h.nn a;omega
   rw[zac hm0]at hp;have h2:((s.hit a).enter a).Ok n:=(h.hit ha).enter ha (mm h ha);have hc:(S a).length≤c:=by have:=hb a;omega
   have hb2:((s.hit a).enter a).Bd S (c+1-(S a).length):=by
    intro i;show(s.hit a).met.getD i 0+((s.hit a).vV (λx=>(S x).length):Nat)≤_;rw[gZ h ha];have h1:=hb i;have h3:=hb a;split<;>omega
   have:∀(l:List Nat) (t:WS) (k:Nat),(∀y∈l,y<n)→t.Ok n→t.Bd S k→(l.foldl (bW S f) t).Bd S (k+l.length):=by
    intro l
    induction l with
    |nil=>intro t k _ _ ht;exact ht
    |cons y r ih=>
     intro t k hl ht hk;have:=ih (bW S f t y) (k+1) (λz hz=>hl z (zap _ hz)) (Ok.meet hS f t y ht (hl y zam)) (Bd.meet hS f t y k ht (hl y zam) hk);simp only[zca,zar];rw[show k+(r.length+1)=k+1+r.length by omega];exact this
   have h4:=this (S a) _ _ (hS a ha) h2 hb2;rw[show c+1-(S a).length + (S a).length=c+1 by omega]at h4;exact h4
theorem Af {n:Nat}{S:Nat→List Nat}(hS:∀x,x<n→∀y∈S x,y<n)(g:Nat→Nat):∀(f:Nat) (s:WS) (a:Nat),s.Ok n→a<n→(bW S f s a).vV g≤s.vV g
 |0,s,a,_,_=>zab _
 |f+1,s,a,h,ha=>by
  simp only[bW];have hp:=uf h ha g;split
  ·show(s.hit a).vV g≤_;omega
  ·have h2:((s.hit a).enter a).Ok n:=(h.hit ha).enter ha (mm h ha);have:∀(l:List Nat) (t:WS),(∀y∈l,y<n)→t.Ok n→(l.foldl (bW S f) t).vV g≤t.vV g:=by
    intro l
    induction l with
    |nil=>intro t _ _;exact zab _
    |cons y r ih=>intro t hl ht;exact zah (ih _ (λz hz=>hl z (zap _ hz)) (Ok.meet hS f t y ht (hl y zam))) (Af hS g f t y ht (hl y zam))
   have h4:=this (S a) _ (hS a ha) h2;have h5:((s.hit a).enter a).vV g=(s.hit a).vV g:=rfl;show(((S a).foldl (bW S f) ((s.hit a).enter a))).vV g≤_;omega
def ug (S:Nat→List Nat)(wi:List Bool)(fin:List Nat):Prop:=
 ∀(i x:Nat),fin[i]?=some x→∀y∈S x,wi.getD y false=true∨∃j:Nat,j<i∧fin[j]?=some y
structure Fnd (S:Nat→List Nat) (s:WS) (fin:List Nat):Prop where
 cl:∀x,0<s.met.getD x 0→s.op.getD x false=true∨x∈fin
 q:ug S s.wi fin
 wm:∀x,s.wi.getD x false=true→0<s.met.getD x 0
 fm:∀x∈fin,0<s.met.getD x 0
structure Met (S:Nat→List Nat) (s s':WS) (fin Sm:List Nat) (a:Nat):Prop where
 fnd:Fnd S s' Sm
 pre:∃ext,Sm=fin++ext
 op:∀i,s'.op.getD i false=s.op.getD i false
 wi:∀i,s.wi.getD i false=true→s'.wi.getD i false=true
 met:∀i,0<s.met.getD i 0→0<s'.met.getD i 0
 here:s'.wi.getD a false=true∨a∈Sm
 hit:0<s'.met.getD a 0
theorem ug.mono {S:Nat→List Nat}{wi wi':List Bool}{fin:List Nat}(h:ug S wi fin)(hw:∀i,wi.getD i false=true→wi'.getD i false=true):ug S wi' fin:=
 λi x hx y hy=>(h i x hx y hy).imp (hw y) id
theorem MD {n:Nat}{S:Nat→List Nat}(hS:∀x,x<n→∀y∈S x,y<n):∀(f:Nat) (s:WS) (a:Nat) (fin:List Nat),s.Ok n→a<n→s.vV (λ_=>1)<f→Fnd S s fin→∃Sm,Met S s (bW S f s a) fin Sm a
 |0,s,a,fin,_,_,h,_=>by omega
 |f+1,s,a,fin,h,ha,hf,hF=>by
  have hp:=uf h ha (λ_=>1);simp only[bW];split
  ·rename_i hm;have PO:∀i,s.wi.getD i false=true→((s.hit a).again a).wi.getD i false=true:=by
    intro i hi;show(s.wi.set a (s.wi.getD a false||s.op.getD a false)).getD i false=true;rw[dG _ _ _ _ _ (by rw[h.lw];exact ha)];split
    ·rename_i e;subst e;rw[hi];rfl
    ·exact hi
   have PQ:∀i,0<s.met.getD i 0→0<((s.hit a).again a).met.getD i 0:=by
    intro i hi;show 0<(s.hit a).met.getD i 0;rw[gZ h ha];split<;>omega
   refine⟨fin,⟨λx hx=>?_,hF.q.mono PO,λx hx=>?_,λx hx=>PQ x (hF.fm x hx)⟩,⟨[],by simp⟩,λi=>rfl,PO,PQ,?_,PQ a hm⟩
   ·change 0<(s.hit a).met.getD x 0 at hx;rw[gZ h ha]at hx;split at hx
    ·rename_i e;subst e;exact hF.cl x hm
    ·exact hF.cl x hx
   ·change(s.wi.set a (s.wi.getD a false||s.op.getD a false)).getD x false=true at hx;rw[dG _ _ _ _ _ (by rw[h.lw];exact ha)]at hx;split at hx
    ·rename_i e;subst e;exact PQ x hm
    ·exact PQ x (hF.wm x hx)
   ·rcases hF.cl a hm with ho|hi
    ·left;show(s.wi.set a (s.wi.getD a false||s.op.getD a false)).getD a false=true;rw[dG _ _ _ _ _ (by rw[h.lw];exact ha),zac rfl,ho];simp
    ·exact Or.inr hi
  ·rename_i hm;have hm0:s.met.getD a 0=0:=by have:=h.nn a;omega
   rw[zac hm0]at hp;have VW:s.op.getD a false=false:=by
    cases e:s.op.getD a false
    ·rfl
    ·have:=h.om a e;omega
   have h2:((s.hit a).enter a).Ok n:=(h.hit ha).enter ha (mm h ha);have acG:∀i,((s.hit a).enter a).op.getD i false=if i=a then true else s.op.getD i false:=by
    intro i;show(s.op.set a true).getD i false=_;rw[dG _ _ _ _ _ (by rw[h.lo];exact ha)]
   have hF2:Fnd S ((s.hit a).enter a) fin:=by
    have PQ:∀i,0<s.met.getD i 0→0<((s.hit a).enter a).met.getD i 0:=by
     intro i hi;show 0<(s.hit a).met.getD i 0;rw[gZ h ha];split<;>omega
    refine⟨λx hx=>?_,hF.q,λx hx=>PQ x (hF.wm x hx),λx hx=>PQ x (hF.fm x hx)⟩;change 0<(s.hit a).met.getD x 0 at hx;rw[gZ h ha]at hx;rw[acG];by_cases e:x=a
    ·left;rw[zac e]
    ·rw[zaa e]at hx;rw[zaa e];exact hF.cl x hx
   have key:∀(l:List Nat) (t:WS) (fn:List Nat),(∀y∈l,y<n)→t.Ok n→t.vV (λ_=>1)<f→Fnd S t fn→
    ∃fn',Fnd S (l.foldl (bW S f) t) fn'∧(∃ext,fn'=fn++ext)∧(∀i,(l.foldl (bW S f) t).op.getD i false=t.op.getD i false)∧(∀i,t.wi.getD i false=true→(l.foldl (bW S f) t).wi.getD i false=true)
     ∧(∀i,0<t.met.getD i 0→0<(l.foldl (bW S f) t).met.getD i 0)∧(∀y∈l,(l.foldl (bW S f) t).wi.getD y false=true∨y∈fn'):=by
    intro l
    induction l with
    |nil=>intro t fn _ _ _ hT;exact⟨fn,hT,⟨[],by simp⟩,λ_=>rfl,λ_ h=>h,λ_ h=>h,λy hy=>by simp at hy⟩
    |cons y r ih=>
     intro t fn hl ht hpt hT;have hy:=hl y zam;obtain⟨fn1,m1⟩:=MD hS f t y fn ht hy hpt hT;obtain⟨e1,rfl⟩:=m1.pre;obtain⟨fn2,k1,⟨e2,rfl⟩,k3,k4,k5,k6⟩:=ih (bW S f t y) _ (λz hz=>hl z (zap _ hz)) (Ok.meet hS f t y ht hy) (zcD (Af hS _ f t y ht hy) hpt) m1.fnd;refine⟨_,k1,⟨e1++e2,by simp⟩,λi=>(k3 i).trans (m1.op i),λi hi=>k4 i (m1.wi i hi),λi hi=>k5 i (m1.met i hi),λz hz=>?_⟩;rcases zav.1 hz with rfl|hz
     ·rcases m1.here with h|h
      ·exact Or.inl (k4 _ h)
      ·exact Or.inr (List.mem_append_left _ h)
     ·exact k6 z hz
   obtain⟨fn,k1,⟨ext,rfl⟩,k3,k4,k5,k6⟩:=key (S a) ((s.hit a).enter a) fin (hS a ha) h2 (by show(s.hit a).vV (λ_=>1)<f;omega) hF2;have EE:((S a).foldl (bW S f) ((s.hit a).enter a)).Ok n:=by
    have:∀(l:List Nat) (t:WS),(∀y∈l,y<n)→t.Ok n→(l.foldl (bW S f) t).Ok n:=by
     intro l
     induction l with
     |nil=>intro t _ ht;exact ht
     |cons y r ih=>intro t hl ht;exact ih _ (λz hz=>hl z (zap _ hz)) (Ok.meet hS f t y ht (hl y zam))
    exact this _ _ (hS a ha) h2
   generalize (S a).foldl (bW S f) ((s.hit a).enter a)=t at *;have acH:∀i,(t.leave a).op.getD i false=if i=a then false else t.op.getD i false:=by
    intro i;show(t.op.set a false).getD i false=_;rw[dG _ _ _ _ _ (by rw[EE.lo];exact ha)]
   refine⟨fin++ext++[a],⟨λx hx=>?_,λi x hx y hy=>?_,k1.wm,λx hx=>?_⟩,⟨ext++[a],by simp⟩,λi=>?_,λi hi=>k4 i hi,λi hi=>k5 i ?_,Or.inr (by simp),k5 a (mm h ha)⟩
   ·by_cases e:x=a
    ·right;simp[e]
    ·rcases k1.cl x hx with ho|hi
     ·left;rw[acH,zaa e];exact ho
     ·right;exact List.mem_append_left _ hi
   ·by_cases hi:i<(fin++ext).length
    ·rw[zbF hi]at hx;rcases k1.q i x hx y hy with hw|⟨j,hj,Yv⟩
     ·exact Or.inl hw
     ·refine Or.inr ⟨j,hj,?_⟩;rw[zbF (by omega)];exact Yv
    ·rw[zbw (by omega)]at hx;have hia:i-(fin++ext).length=0:=by
      rcases zcr (i-(fin++ext).length)with h|h
      ·exact h
      ·rw[zcE (by simp only[zar,List.length_nil];omega)]at hx;simp at hx
     rw[hia]at hx;simp at hx;subst hx;rcases k6 y hy with hw|hm
     ·exact Or.inl hw
     ·obtain⟨j,hj,Yv⟩:=List.getElem_of_mem hm;refine Or.inr ⟨j,by omega,?_⟩;rw[zbF hj,zaq hj,Yv]
   ·rcases zbm.1 hx with hx|hx
    ·exact k1.fm x hx
    ·rw[zcg.1 hx];exact k5 a (mm h ha)
   ·rw[acH];split
    ·rename_i e;rw[e,VW]
    ·rename_i e;rw[k3,acG,zaa e]
   ·change 0<(s.hit a).met.getD i 0;rw[gZ h ha];split<;>omega
def WS.start (n:Nat):WS:=⟨Λ n 0,Λ n false,Λ n false⟩
theorem eX {α:Type}(n i:Nat)(v:α):(Λ n v).getD i v=v:=by
 simp[ζ,List.getElem?_replicate];split<;>rfl
theorem lK (n:Nat):(WS.start n).Ok n:=
 ⟨by simp[WS.start],by simp[WS.start],by simp[WS.start],λi=>by show 0≤(Λ n (0:Int)).getD i 0;rw[eX];omega,λi hi=>by
   change(Λ n false).getD i false=true at hi;rw[eX]at hi;exact absurd hi (by simp)⟩
theorem Hs (n:Nat):∀i,vU (λ_=>1) i (Λ n 0)=n:=by
 induction n with
 |zero=>intro i;rfl
 |succ n ih=>intro i;simp[List.replicate_succ,vU,ih];omega
theorem OD (n:Nat)(S:Nat→List Nat):Fnd S (WS.start n) []:=
 ⟨λx hx=>by change 0<(Λ n (0:Int)).getD x 0 at hx;rw[eX]at hx;omega,λi x hx=>by simp at hx,
   λx hx=>by change(Λ n false).getD x false=true at hx;rw[eX]at hx;exact absurd hx (by simp),λx hx=>by simp at hx⟩
theorem Ht:∀(l:List Nat) (j:Nat) (h:j<l.length),l.idxOf l[j]≤j
 |c::r,0,_=>by simp
 |c::r,j+1,h=>by
  have hj:j<r.length:=by simpa using h
  have ih:=Ht r j hj;rw[List.idxOf_cons];simp only[List.getElem_cons_succ];cases (c==r[j])<;>simp<;>omega
def eY (S:Nat→List Nat)(n:Nat):WS:=bW S (n+1) (WS.start n) 0
def reach (S:Nat→List Nat)(n:Nat)(x:Nat):Prop:=0<(eY S n).met.getD x 0
theorem OE {n:Nat}{S:Nat→List Nat}(hn:0<n)(hS:∀x,x<n→∀y∈S x,y<n):∃(R:Nat) (r:Nat→Nat),(∀x,r x≤R)∧reach S n 0∧(∀x,reach S n x→∀y∈S x,reach S n y)∧(∀x,reach S n x→∀y∈S x,(eY S n).wi.getD y false=false→r y<r x):=by
 obtain⟨fin,m⟩:=MD hS (n+1) (WS.start n) 0 [] (lK n) hn (by show vU (λ_=>1) 0 (Λ n 0)<n+1;rw[Hs];omega) (OD n S);have dY:∀x,reach S n x→x∈fin:=by
  intro x hx;rcases m.fnd.cl x hx with h|h
  ·rw[m.op]at h;change(Λ n false).getD x false=true at h;rw[eX]at h;exact absurd h (by simp)
  ·exact h
 refine⟨fin.length,λx=>fin.idxOf x,λx=>List.idxOf_le_length,m.hit,λx hx y hy=>?_,λx hx y hy hw=>?_⟩
 ·have hi:=dY x hx;have hlt:=List.idxOf_lt_length_of_mem hi;have hg:fin[fin.idxOf x]?=some x:=by rw[zaq hlt,List.getElem_idxOf hlt]
  rcases m.fnd.q _ _ hg y hy with h|⟨j,_,hj⟩
  ·exact m.fnd.wm y h
  ·exact m.fnd.fm y (zcC hj)
 ·have hi:=dY x hx;have hlt:=List.idxOf_lt_length_of_mem hi;have hg:fin[fin.idxOf x]?=some x:=by rw[zaq hlt,List.getElem_idxOf hlt]
  rcases m.fnd.q _ _ hg y hy with h|⟨j,hj,Yv⟩
  ·rw[show(bW S (n+1) (WS.start n) 0)=eY S n from rfl,hw]at h;exact absurd h (by simp)
  ·have tC:j<fin.length:=by
    rcases zay j fin.length with h|h
    ·exact h
    ·rw[zcE h]at Yv;simp at Yv
   rw[zaq tC]at Yv;have:fin.idxOf y≤j:=by
    rw[←zaF Yv];exact Ht fin j tC
   show fin.idxOf y<fin.idxOf x;omega
structure TS where
 eG:List Int
 next:Nat
 out:List UInt8
 long:Bool
def TS.add (t:TS)(p:List UInt8):TS:=if t.long then t else if 400<t.out.length+p.length then { t with long:=true } else { t with out:=t.out++p }
def TS.put (t:TS)(a:Nat):TS:={ t.add (35::(Ω t.next++[61]))with eG:=t.eG.set a t.next,next:=t.next+1 }
def gS (node:TS→Nat→TS)(l:List Nat):Nat→TS→TS
 |0,t=>t
 |k+1,t=>node (if k=0 then gS node l k t else(gS node l k t).add [32]) (l.getD k 0)
def WF (K:Nat→Int)(S:Nat→List Nat)(At:Nat→List UInt8)(L:Nat→Bool):Nat→Bool→TS→Nat→TS
 |0,_,t,_=>t
 |f+1,false,t,a=>
  if t.long then t
  else if 0≤t.eG.getD a (-1)then t.add (35::(Ω (t.eG.getD a (-1))++[35]))
  else
   if K a=1 then WF K S At L f true (WF K S At L f false (((if L a then t.put a else t)).add [40]) ((S a).getD 0 0)) ((S a).getD 1 0)
   else if K a=2 then(gS (WF K S At L f false) (S a) (S a).length ((if L a then t.put a else t).add [35,40])).add [41]
   else(if L a then t.put a else t).add (At a)
 |f+1,true,t,r=>
  if K r=1∧L r=false then WF K S At L f true (WF K S At L f false (t.add [32]) ((S r).getD 0 0)) ((S r).getD 1 0)
  else if K r=0 then t.add [41]
  else(WF K S At L f false (t.add [32,46,32]) r).add [41]
structure TS.Ok (n:Nat) (L:Nat→Bool) (t:TS):Prop where
 ll:t.eG.length=n
 lo:t.long=false→t.out.length≤400
 ln:∀i,-1≤t.eG.getD i (-1)∧t.eG.getD i (-1)<t.next
 lL:∀i,0≤t.eG.getD i (-1)→L i=true
 nx:t.long=false→t.next≤t.out.length
 n2:t.next≤401
theorem dH {t:TS}(h:t.long=true)(p:List UInt8):t.add p=t:=by unfold TS.add;rw[zac h]
theorem lM {t:TS}(h:t.long=false){p:List UInt8}(hp:400<t.out.length+p.length):t.add p={ t with long:=true }:=by unfold TS.add;rw[zaa (by simp[h]),zac hp]
theorem j8 {t:TS}(h:t.long=false){p:List UInt8}(hp:t.out.length+p.length≤400):t.add p={ t with out:=t.out++p }:=by unfold TS.add;rw[zaa (by simp[h]),zaa (by omega)]
theorem EF (t:TS)(p:List UInt8):(t.add p).eG=t.eG:=by
 unfold TS.add;repeat' split
 all_goals rfl
theorem Hu (t:TS)(p:List UInt8):(t.add p).next=t.next:=by
 unfold TS.add;repeat' split
 all_goals rfl
theorem TS.Ok.add {n:Nat}{L:Nat→Bool}{t:TS}(h:t.Ok n L)(p:List UInt8):(t.add p).Ok n L:=by
 refine⟨by rw[EF];exact h.ll,λhl=>?_,by rw[EF,Hu];exact h.ln,by rw[EF];exact h.lL,λhl=>?_,by rw[Hu];exact h.n2⟩;all_goals
  by_cases h1:t.long=true
  ·rw[dH h1,h1]at hl;exact absurd hl (by simp)
  ·have UX:t.long=false:=by simpa using h1
   by_cases h2:400<t.out.length+p.length
   ·rw[lM UX h2]at hl;exact absurd hl (by simp)
   ·rw[j8 UX (by omega)];have e1:=h.lo UX;have e2:=h.nx UX;simp only[zbg];omega
theorem TS.Ok.put {n:Nat}{L:Nat→Bool}{t:TS}(h:t.Ok n L){a:Nat}(ha:a<n)(hL:L a=true)(dZ:t.long=false):(t.put a).Ok n L:=by
 have h1:=h.add (35::(Ω t.next++[61]));have e1:=h.lo dZ;have e2:=h.nx dZ;refine⟨by simp[TS.put,h.ll],h1.lo,λi=>?_,λi hi=>?_,λhl=>?_,by show t.next+1≤401;omega⟩
 ·show -1≤(t.eG.set a t.next).getD i (-1)∧(t.eG.set a t.next).getD i (-1)<((t.next+1:Nat):Int);rw[dG _ _ _ _ _ (by rw[h.ll];exact ha)];have:=h.ln i;split<;>omega
 ·change 0≤(t.eG.set a t.next).getD i (-1)at hi;rw[dG _ _ _ _ _ (by rw[h.ll];exact ha)]at hi;split at hi
  ·rename_i e;rw[e];exact hL
  ·exact h.lL i hi
 ·change(t.add (35::(Ω t.next++[61]))).long=false at hl;show t.next+1≤(t.add (35::(Ω t.next++[61]))).out.length;by_cases h2:400<t.out.length+(35::(Ω t.next++[61])).length
  ·rw[lM dZ h2]at hl;exact absurd hl (by simp)
  ·rw[j8 dZ (by omega)];simp;omega
theorem KH {n:Nat}{L:Nat→Bool}{node:TS→Nat→TS}(hn:∀t y,t.Ok n L→y<n→(node t y).Ok n L)(l:List Nat)(hl:∀y∈l,y<n):∀(k:Nat) (t:TS),k≤l.length→t.Ok n L→(gS node l k t).Ok n L
 |0,t,_,h=>h
 |k+1,t,hk,h=>by
  simp only[gS];have hy:l.getD k 0<n:=hl _ (by simp[ζ,List.getElem?_eq_getElem (show k<l.length by omega)]);have ih:=KH hn l hl k t (by omega) h;split
  ·exact hn _ _ ih hy
  ·exact hn _ _ (ih.add _) hy
theorem uh {n:Nat}{K:Nat→Int}{S:Nat→List Nat}{At:Nat→List UInt8}{L:Nat→Bool}(hS:∀x,x<n→∀y∈S x,y<n)(h2:∀x,x<n→K x=1→(S x).length=2):∀(f:Nat) (b:Bool) (t:TS) (a:Nat),t.Ok n L→a<n→(WF K S At L f b t a).Ok n L
 |0,_,_,_,h,_=>h
 |f+1,false,t,a,h,ha=>by
  simp only[WF];by_cases dZ:t.long=true
  ·rw[zac dZ];exact h
  ·rw[zaa dZ];by_cases hl:0≤t.eG.getD a (-1)
   ·rw[zac hl];exact h.add _
   ·rw[zaa hl];have h1:(if L a then t.put a else t).Ok n L:=by
     split
     ·rename_i e;exact h.put ha e (by simpa using dZ)
     ·exact h
    by_cases k1:K a=1
    ·rw[zac k1];have hlen:=h2 a ha k1;exact uh hS h2 f true _ _ (uh hS h2 f false _ _ (h1.add _) (hS a ha _ (by simp[ζ,List.getElem?_eq_getElem (show 0<(S a).length by omega)]))) (hS a ha _ (by simp[ζ,List.getElem?_eq_getElem (show 1<(S a).length by omega)]))
    ·rw[zaa k1];by_cases k2:K a=2
     ·rw[zac k2];exact(KH (λt y ht hy=>uh hS h2 f false t y ht hy) (S a) (hS a ha) _ _ (zab _) (h1.add _)).add _
     ·rw[zaa k2];exact h1.add _
 |f+1,true,t,a,h,ha=>by
  simp only[WF];by_cases c1:K a=1∧L a=false
  ·rw[zac c1];have hlen:=h2 a ha c1.1;exact uh hS h2 f true _ _ (uh hS h2 f false _ _ (h.add _) (hS a ha _ (by simp[ζ,List.getElem?_eq_getElem (show 0<(S a).length by omega)]))) (hS a ha _ (by simp[ζ,List.getElem?_eq_getElem (show 1<(S a).length by omega)]))
  ·rw[zaa c1];by_cases c2:K a=0
   ·rw[zac c2];exact h.add _
   ·rw[zaa c2];exact(uh hS h2 f false _ _ (h.add _) ha).add _
theorem kP {K:Nat→Int}{S:Nat→List Nat}{At:Nat→List UInt8}{L:Nat→Bool}:∀(f:Nat) (b:Bool) (t:TS) (a:Nat),t.long=true→WF K S At L f b t a=t
 |0,_,_,_,_=>rfl
 |f+1,false,t,a,h=>by simp only[WF];rw[zac h]
 |f+1,true,t,a,h=>by
  simp only[WF];rw[dH h,dH h,dH h,kP f false t _ h,kP f false t _ h,kP f true t _ h,dH h,ite_self,ite_self]
def need (t:TS):Nat:=if t.long then 1 else 2+(401-t.out.length)
theorem eD (t:TS)(p:List UInt8):need (t.add p)≤need t:=by
 by_cases h:t.long=true
 ·rw[dH h];exact zab _
 ·have h':t.long=false:=by simpa using h
  by_cases h2:400<t.out.length+p.length
  ·rw[lM h' h2];unfold need;rw[zac rfl,zaa h];omega
  ·rw[j8 h' (by omega)];unfold need;rw[zaa (by simpa using h'),zaa h];simp;omega
theorem ui {t:TS}(h:t.long=false)(ho:t.out.length≤400){p:List UInt8}(hp:1≤p.length):need (t.add p)<need t:=by
 by_cases h2:400<t.out.length+p.length
 ·rw[lM h h2];unfold need;rw[zac rfl,zaa (by simp[h])];omega
 ·rw[j8 h (by omega)];unfold need;rw[zaa (by simp[h]),zaa (by simp[h])];simp;omega
theorem Hv (t:TS)(a:Nat):need (t.put a)≤need t:=eD t _
theorem uj (t:TS):1≤need t:=by unfold need;split<;>omega
theorem uk {node:TS→Nat→TS}(hn:∀t y,need (node t y)≤need t)(l:List Nat):∀(k:Nat) (t:TS),need (gS node l k t)≤need t
 |0,_=>zab _
 |k+1,t=>by
  simp only[gS];have ih:=uk hn l k t;split
  ·exact zah (hn _ _) ih
  ·exact zah (hn _ _) (zah (eD _ _) ih)
theorem ia {K:Nat→Int}{S:Nat→List Nat}{At:Nat→List UInt8}{L:Nat→Bool}:∀(f:Nat) (b:Bool) (t:TS) (a:Nat),need (WF K S At L f b t a)≤need t
 |0,_,_,_=>zab _
 |f+1,false,t,a=>by
  simp only[WF];by_cases h1:t.long=true
  ·rw[zac h1];exact zab _
  ·rw[zaa h1];by_cases h2:0≤t.eG.getD a (-1)
   ·rw[zac h2];exact eD _ _
   ·rw[zaa h2];have h0:need (if L a then t.put a else t)≤need t:=by
     split
     ·exact Hv _ _
     ·exact zab _
    by_cases k1:K a=1
    ·rw[zac k1];exact zah (ia f true _ _) (zah (ia f false _ _) (zah (eD _ _) h0))
    ·rw[zaa k1];by_cases k2:K a=2
     ·rw[zac k2];exact zah (eD _ _) (zah (uk (λt y=>ia f false t y) _ _ _) (zah (eD _ _) h0))
     ·rw[zaa k2];exact zah (eD _ _) h0
 |f+1,true,t,a=>by
  simp only[WF];by_cases c1:K a=1∧L a=false
  ·rw[zac c1];exact zah (ia f true _ _) (zah (ia f false _ _) (eD _ _))
  ·rw[zaa c1];by_cases c2:K a=0
   ·rw[zac c2];exact eD _ _
   ·rw[zaa c2];exact zah (eD _ _) (zah (ia f false _ _) (eD _ _))
end Go.Loop
namespace Go.Proofs.YtlhimdjkkiflhaaGreatDoor
open Go.RowKit Go.Loop
def l4 (w:Θ)(b:Nat)(l:List Int):Prop:=∀i,i<l.length→w.cell? ⟨b,i,none⟩=some (Γ Δ (l.getD i 0))∧w.frozen? ⟨b,i,none⟩=false
def iA (w:Θ)(b:Nat)(l:List Bool):Prop:=∀i,i<l.length→w.cell? ⟨b,i,none⟩=some (.bool (l.getD i false))∧w.frozen? ⟨b,i,none⟩=false
theorem cell_far {w:Θ}{p a:Addr}{v:Φ}(h:p.block≠a.block):(w.setCell p v).cell? a=w.cell? a:=Θ.cell?_setCell_other w p a v (λe=>h (by rw[e]))
theorem l4.set {w:Θ}{b:Nat}{l:List Int}(h:l4 w b l)(a:Nat)(ha:a<l.length)(v:Int):l4 (w.setCell ⟨b,a,none⟩ (Γ Δ v)) b (l.set a v):=by
 intro i hi;rw[List.length_set]at hi;rw[dG _ _ _ _ _ ha,Θ.frozen?_setCell];refine⟨?_,(h i hi).2⟩;by_cases e:i=a
 ·subst e;rw[zac rfl,Θ.cell?_setCell_same (h:=(h i hi).1)]
 ·rw[zaa e,Θ.cell?_setCell_other (h:=by intro x;cases x;exact e rfl)];exact(h i hi).1
theorem iA.set {w:Θ}{b:Nat}{l:List Bool}(h:iA w b l)(a:Nat)(ha:a<l.length)(v:Bool):iA (w.setCell ⟨b,a,none⟩ (.bool v)) b (l.set a v):=by
 intro i hi;rw[List.length_set]at hi;rw[dG _ _ _ _ _ ha,Θ.frozen?_setCell];refine⟨?_,(h i hi).2⟩;by_cases e:i=a
 ·subst e;rw[zac rfl,Θ.cell?_setCell_same (h:=(h i hi).1)]
 ·rw[zaa e,Θ.cell?_setCell_other (h:=by intro x;cases x;exact e rfl)];exact(h i hi).1
theorem l4.far {w:Θ}{b:Nat}{l:List Int}(h:l4 w b l){p:Addr}(hp:p.block≠b)(v:Φ):l4 (w.setCell p v) b l:=λi hi=>by
 rw[cell_far hp,Θ.frozen?_setCell];exact h i hi
theorem iA.far {w:Θ}{b:Nat}{l:List Bool}(h:iA w b l){p:Addr}(hp:p.block≠b)(v:Φ):iA (w.setCell p v) b l:=λi hi=>by
 rw[cell_far hp,Θ.frozen?_setCell];exact h i hi
def aw (G:List Nd)(x:Nat):List Nat:=match G[x]? with|some y=>y.subs.map Int.toNat|none=>[]
structure fI (w:Θ) (p bo bm bw n:Nat) (nv:Φ) (s:WS):Prop where
 c0:w.cell? ⟨p,0,none⟩=some nv
 c1:w.cell? ⟨p,1,none⟩=some (.slice (some ⟨bo,0,none⟩) n n)
 c2:w.cell? ⟨p,2,none⟩=some (.slice (some ⟨bm,0,none⟩) n n)
 c3:w.cell? ⟨p,3,none⟩=some (.slice (some ⟨bw,0,none⟩) n n)
 rm:l4 w bm s.met
 rw:iA w bw s.wi
 ro:iA w bo s.op
structure Apart (B p bo bm bw:Nat):Prop where
 hp:B≤p
 ho:B≤bo
 hm:B≤bm
 hw:B≤bw
 po:p≠bo
 pm:p≠bm
 pw:p≠bw
 om:bo≠bm
 ow:bo≠bw
 mw:bm≠bw
theorem fI.hit {w:Θ}{p bo bm bw n:Nat}{nv:Φ}{s:WS}{B:Nat}(h:fI w p bo bm bw n nv s)(A:Apart B p bo bm bw){a:Nat}(ha:a<s.met.length):fI (w.setCell ⟨bm,a,none⟩ (Γ Δ (s.met.getD a 0+1))) p bo bm bw n nv (s.hit a):=by
 have e:=A.pm.symm;exact⟨by rw[cell_far e];exact h.c0,by rw[cell_far e];exact h.c1,by rw[cell_far e];exact h.c2,
  by rw[cell_far e];exact h.c3,h.rm.set a ha _,h.rw.far A.mw _,h.ro.far A.om.symm _⟩
theorem fI.again {w:Θ}{p bo bm bw n:Nat}{nv:Φ}{s:WS}{B:Nat}(h:fI w p bo bm bw n nv s)(A:Apart B p bo bm bw){a:Nat}(ha:a<s.wi.length):fI (w.setCell ⟨bw,a,none⟩ (.bool (s.wi.getD a false||s.op.getD a false))) p bo bm bw n nv (s.again a):=by
 have e:=A.pw.symm;exact⟨by rw[cell_far e];exact h.c0,by rw[cell_far e];exact h.c1,by rw[cell_far e];exact h.c2,
  by rw[cell_far e];exact h.c3,h.rm.far A.mw.symm _,h.rw.set a ha _,h.ro.far A.ow.symm _⟩
theorem fI.Sn {w:Θ}{p bo bm bw n:Nat}{nv:Φ}{s:WS}{B:Nat}(h:fI w p bo bm bw n nv s)(A:Apart B p bo bm bw){a:Nat}(ha:a<s.op.length)(v:Bool):fI (w.setCell ⟨bo,a,none⟩ (.bool v)) p bo bm bw n nv { s with op:=s.op.set a v }:=by
 have e:=A.po.symm;exact⟨by rw[cell_far e];exact h.c0,by rw[cell_far e];exact h.c1,by rw[cell_far e];exact h.c2,
  by rw[cell_far e];exact h.c3,h.rm.far A.om _,h.rw.far A.ow _,h.ro.set a ha _⟩
theorem fI.drew {w:Θ}{p bo bm bw n:Nat}{nv:Φ}{s:WS}(h:fI w p bo bm bw n nv s):fI w.drew p bo bm bw n nv s:=⟨h.c0,h.c1,h.c2,h.c3,h.rm,h.rw,h.ro⟩
def bR (k f t:Int)(l:List UInt8)(n d:Int):Φ:= .agg #[.int .u8 k,Γ Δ f,Γ Δ t,.string ⟨⟨l⟩⟩,Γ Δ n,Γ Δ d]
section
attribute [local go_sem] xS zE tQ xT nA
end
theorem ri (a b:List UInt8):(ByteArray.mk (Array.mk a))++(ByteArray.mk (Array.mk b))=⟨⟨a++b⟩⟩:=by
 apply ByteArray.ext;simp
theorem ME:∀(f u:Nat),u<10^f→(φ u).length≤f+1
 |0,u,h=>by
  have:u=0:=by simpa using h
  subst this;rw[Lib.decDigits_one (by omega)];simp
 |f+1,u,h=>by
  by_cases h10:u<10
  ·rw[Lib.decDigits_one h10];simp
  ·rw[φ,dif_neg h10];have:=ME f (u/10) (by rw[Nat.pow_succ]at h;omega);simp;omega
theorem gT (u:Nat)(h:u≤1000000000):(φ u).length≤11:=ME 10 u (by omega)
def sD (c:UInt8):List UInt8:=
 if c.toNat=92 then[92,92]else if c.toNat=34 then[92,34]else if c.toNat=10 then[92,110]else if c.toNat=9 then[92,116]else[c]
def Ag (l:List UInt8):List UInt8:=34::(l.flatMap sD++[34])
def iz (n d:Int):List UInt8:=if d=1 then Ω n else Ω n++47::Ω d
def Hw (n:Int):List UInt8:=35::92::(if hasName n then nameOf n else[UInt8.ofNat n.toNat])
def fw (x:Nd):List UInt8:=
 if x.kind=0 then[40,41]else if x.kind=3 then Ag x.text else if x.kind=4 then x.text else if x.kind=5 then iz x.n x.d
 else if x.kind=6 then(if x.n=1 then[35,116]else[35,102])else Hw x.n
theorem Sp (l:List UInt8)(k:Nat)(h:k<l.length):(l.take (k+1)).flatMap sD=(l.take k).flatMap sD++sD l[k]:=by
 rw[zcA h,List.flatMap_append];simp
theorem um (n:Int)(h1: -1000000000≤n)(h2:n≤1000000000):(Ω n).length≤12:=by
 unfold Ω;split
 ·have:=gT n.natAbs (by omega);simp;omega
 ·have:=gT n.toNat (by omega);omega
section
attribute [local go_sem] zE
end
end Go.Proofs.YtlhimdjkkiflhaaGreatDoor
namespace Go.Proofs.YtlhimdjkkiflhaaGreatDoor
open Go.Proofs.Tryz
open Go.RowKit Go.Loop
def l5 (W w:Θ)(l:List UInt8):Prop:=∃cs v,cs.size=2∧fu w 116 0 W.heap.size W.heap.size cs v (ι l)∧Ξ W.heap.size W w
theorem l5.start (W:Θ):l5 W (W.alloc (.cells #[.pointer none,.slice none 0 0] 116)) []:=
 ⟨_,_,rfl,⟨zab _,zas W _,Or.inl rfl,rfl,zbO _ _ _ _⟩,(zad _ _).alloc (zab _) _⟩
theorem bT:116≠5:=by decide
theorem fu.toB {w:Θ}{T:π}{off B b:Nat}{cs:Array Φ}{v:Φ}{bs:List Φ}(h:fu w T off B b cs v bs):∀k,v.ownBlock=some k→B≤k:=λk hk=>(h.own.lt k hk).1
theorem l5.fN {W w:Θ}{l:List UInt8}(h:l5 W w l)(c:UInt8)(hl:l.length≤100000):η prog 191 #[.pointer (some ⟨W.heap.size,0,none⟩),.int .u8 c.toNat] w λe w'=>e=.returned .nilIface∧l5 W w' (l++[c]):=by
 obtain⟨cs,v,hs,hb,hw⟩:=h;have hsz:=hw.size;refine(rO (hs▸zM) bT hb c.toNat (by rw[Lib.byteCells_length];omega) hsz).mono ?_;rintro e w' ⟨rfl,v',h1,h2⟩;refine⟨rfl,_,v',?_,by rw[Lib.byteCells_append];exact h1,hw.trans (h2.below hsz (zab _) hb.toB)⟩;simp[lF,hs]
theorem l5.writeString {W w:Θ}{l:List UInt8}(h:l5 W w l)(s:List UInt8)(hl:l.length+s.length≤100000):η prog 154 #[.pointer (some ⟨W.heap.size,0,none⟩),.string ⟨⟨s⟩⟩] w λe w'=>e=.returned (.tuple #[Γ Δ s.length,.nilIface])∧l5 W w' (l++s):=by
 obtain⟨cs,v,hs,hb,hw⟩:=h;have hsz:=hw.size;refine(o9 (hs▸zM) bT hb ⟨⟨s⟩⟩ (by rw[Lib.byteCells_length];show l.length+s.length≤_;omega) hsz).mono ?_;rintro e w' ⟨rfl,v',h1,h2⟩;refine⟨rfl,_,v',?_,by rw[Lib.byteCells_append];exact h1,hw.trans (h2.below hsz (zab _) hb.toB)⟩;simp[lF,hs]
theorem l5.string {W w:Θ}{l:List UInt8}(h:l5 W w l)(h0:l≠[]):η prog 63 #[.pointer (some ⟨W.heap.size,0,none⟩)] w λe w'=>e=.returned (.string ⟨⟨l⟩⟩)∧Ξ W.heap.size W w':=by
 obtain⟨cs,v,hs,hb,hw⟩:=h;refine(mI hb h0).mono ?_;rintro e w' ⟨rfl,h2⟩;exact⟨rfl,hw.trans (h2.below hw.size (zab _) hb.toB)⟩
section
attribute [local go_sem] zE
theorem KI (l:List UInt8)(w:Θ)(hl:l.length≤400):η prog 156 #[.string ⟨⟨l⟩⟩] w λe w'=>e=.returned (.string ⟨⟨Ag l⟩⟩)∧Ξ w.heap.size w w':=by
 have H0:Hid (l5 w (w.alloc (.cells #[.pointer none,.slice none 0 0] 116)) []):=l5.start w;go_enter func156,ntmps156;go_wp2_with (go_at_call 191;refine(H0.out.fN 34 (by simp)).mono ?_);rintro e w1 ⟨rfl,h1⟩;have H1:Hid (l5 w w1 ([]++[34])):=h1;clear h1 H0;go_wp2_with fail;go_loopw [9] (λi wr=>∃(k:Nat) (o:List UInt8),k≤l.length∧i=Γ Δ k∧o.length≤1+2*k∧Hid (l5 w wr o)∧Hid (o=34::(l.take k).flatMap sD)) (λi _=>l.length-(ξ i).toNat)
 case atStart=>exact⟨0,[34],zaw _,rfl,by simp,H1.out,rfl⟩
 case round=>
  obtain⟨k,o,hk,rfl,Mk,H2,hle⟩:=hrel;by_cases hlt:k<l.length
  ·have HS:Hid _:=Sp l k hlt;cases e92:((l[k].toNat :Int)==92)
   ·cases e34:((l[k].toNat :Int)==34)
    ·cases Qp:((l[k].toNat :Int)==10)
     ·cases e9:((l[k].toNat :Int)==9)
      ·have HE:Hid (sD l[k]=[l[k]]):=by
        show _=_;rw[zai]at e92 e34 Qp e9;unfold sD;rw[zaa (by omega),zaa (by omega),zaa (by omega),zaa (by omega)]
       go_wp2_with (go_at_call 191;refine(H2.out.fN l[k] (by first|omega|(simp;omega))).mono ?_);rintro e w2 ⟨rfl,h2⟩;have H3:Hid (l5 w w2 (o++[l[k]])):=h2;clear h2 H2;go_wp2_with fail;go_roundw
       case rel=>exact⟨k+1,_,by omega,by go_num,by simp;omega,H3.out,by show _=_;rw[HS.out,HE.out,hle.out];simp⟩
       case measure=>simp[ξ];omega
      ·have HE:Hid (sD l[k]=[92,116]):=by
        show _=_;rw[zai]at e92 e34 Qp;rw[zaJ]at e9;unfold sD;rw[zaa (by omega),zaa (by omega),zaa (by omega),zac (by omega)]
       go_wp2_with (go_at_call 154;refine(H2.out.writeString [92,116] (by first|omega|(simp;omega))).mono ?_);rintro e w2 ⟨rfl,h2⟩;have H3:Hid (l5 w w2 (o++[92,116])):=h2;clear h2 H2;go_wp2_with fail;go_roundw
       case rel=>exact⟨k+1,_,by omega,by go_num,by simp;omega,H3.out,by show _=_;rw[HS.out,HE.out,hle.out];simp⟩
       case measure=>simp[ξ];omega
     ·have HE:Hid (sD l[k]=[92,110]):=by
       show _=_;rw[zai]at e92 e34;rw[zaJ]at Qp;unfold sD;rw[zaa (by omega),zaa (by omega),zac (by omega)]
      go_wp2_with (go_at_call 154;refine(H2.out.writeString [92,110] (by first|omega|(simp;omega))).mono ?_);rintro e w2 ⟨rfl,h2⟩;have H3:Hid (l5 w w2 (o++[92,110])):=h2;clear h2 H2;go_wp2_with fail;go_roundw
      case rel=>exact⟨k+1,_,by omega,by go_num,by simp;omega,H3.out,by show _=_;rw[HS.out,HE.out,hle.out];simp⟩
      case measure=>simp[ξ];omega
    ·have HE:Hid (sD l[k]=[92,34]):=by
      show _=_;rw[zai]at e92;rw[zaJ]at e34;unfold sD;rw[zaa (by omega),zac (by omega)]
     have HC:Hid (l[k]=34):=by
      rw[zaJ]at e34;exact UInt8.toNat_inj.1 (by have:(34:UInt8).toNat=34:=rfl;omega)
     go_wp2_with (go_at_call 191;refine(H2.out.fN 92 (by first|omega|(simp;omega))).mono ?_);rintro e w2 ⟨rfl,h2⟩;have HA:Hid (l5 w w2 (o++[92])):=h2;clear h2 H2;go_wp2_with (go_at_call 191;refine(HA.out.fN l[k] (by first|omega|(simp;omega))).mono ?_);rintro e w3 ⟨rfl,h3⟩;have H3:Hid (l5 w w3 (o++[92]++[l[k]])):=h3;clear h3 HA;go_wp2_with fail;go_roundw
     case rel=>exact⟨k+1,_,by omega,by go_num,by simp;omega,H3.out,by show _=_;rw[HS.out,HE.out,hle.out];simp[HC.out]⟩
     case measure=>simp[ξ];omega
   ·have HE:Hid (sD l[k]=[92,92]):=by
     show _=_;rw[zaJ]at e92;unfold sD;rw[zac (by omega)]
    have HC:Hid (l[k]=92):=by
     rw[zaJ]at e92;exact UInt8.toNat_inj.1 (by have:(92:UInt8).toNat=92:=rfl;omega)
    go_wp2_with (go_at_call 191;refine(H2.out.fN 92 (by first|omega|(simp;omega))).mono ?_);rintro e w2 ⟨rfl,h2⟩;have HA:Hid (l5 w w2 (o++[92])):=h2;clear h2 H2;go_wp2_with (go_at_call 191;refine(HA.out.fN l[k] (by first|omega|(simp;omega))).mono ?_);rintro e w3 ⟨rfl,h3⟩;have H3:Hid (l5 w w3 (o++[92]++[l[k]])):=h3;clear h3 HA;go_wp2_with fail;go_roundw
    case rel=>exact⟨k+1,_,by omega,by go_num,by simp;omega,H3.out,by show _=_;rw[HS.out,HE.out,hle.out];simp[HC.out]⟩
    case measure=>simp[ξ];omega
  ·go_wp2_with (go_at_call 191;refine(H2.out.fN 34 (by first|omega|(simp;omega))).mono ?_);rintro e w2 ⟨rfl,h2⟩;have H3:Hid (l5 w w2 (o++[34])):=h2;clear h2 H2;go_wp2_with (go_at_call 63;refine(H3.out.string (by simp)).mono ?_);rintro e w3 ⟨rfl,hb⟩;have HB:Hid (Ξ w.heap.size w w3):=hb;clear hb;go_wp2_with fail;go_ret;refine⟨eB ?_,HB.out⟩;rw[hle.out,zbC (by omega)];simp[Ag]
end
def Pow (w:Θ):Prop:=Lib.TabIs prog w "internal/strconv.uint64pow10" .u64 Lib.pow10Tab
theorem Pow.on {w w':Θ}(h:Pow w)(hb:Ξ w.heap.size w w'):Pow w':=Lib.tabBelow_of_tabIs h w' hb
theorem qm (n:Int)(w:Θ)(h1: -1000000000≤n)(h2:n≤1000000000)(hp:Pow w):η prog 100 #[Γ Δ n] w λe w'=>e=.returned (.string ⟨⟨Ω n⟩⟩)∧Ξ w.heap.size w w':=by
 refine(Tryz.strconv_Itoa n (by omega) (by omega) w hp).mono ?_;rintro e w' ⟨rfl,k,os,rfl⟩;exact⟨rfl,Lib.below_grow _ w (zab _) k os⟩
def vW (n:Int):List UInt8:=if n=1 then[35,116]else[35,102]
theorem OG (n:Int)(w:Θ):η prog 158 #[Γ Δ n] w λe w'=>e=.returned (.string ⟨⟨vW n⟩⟩)∧w'=w:=by
 cases hn:(n==1)
 ·have HV:Hid (vW n=[35,102]):=by show _=_;unfold vW;rw[zai]at hn;rw[zaa hn]
  go_enter func158,ntmps158;go_wp2_with fail;go_ret;exact⟨eB HV.out.symm,rfl⟩
 ·have HV:Hid (vW n=[35,116]):=by show _=_;unfold vW;rw[zaJ]at hn;rw[zac hn]
  go_enter func158,ntmps158;go_wp2_with fail;go_ret;exact⟨eB HV.out.symm,rfl⟩
theorem EG:∀k:Nat,k<128→Utf8.encode (k:Int)=⟨⟨[UInt8.ofNat k]⟩⟩:=by decide +kernel
theorem Sq (n:Int)(w:Θ)(hc:tL n=true):η prog 159 #[Γ Δ n] w λe w'=>e=.returned (.string ⟨⟨Hw n⟩⟩)∧w'=w:=by
 have ks:=ri;have HNm:Hid (Hw n=35::92::(if hasName n then nameOf n else[UInt8.ofNat n.toNat])):=rfl
 have hln:(nameOf n).length≤7:=by unfold nameOf;repeat' split
                                  all_goals simp
 cases hn:hasName n
 ·have hr:33≤n∧n≤126:=by unfold tL at hc;rw[hn]at hc;simpa using hc
  obtain⟨k,rfl⟩:∃k:Nat,n=k:=⟨n.toNat,by omega⟩;have he:=EG k (by omega);go_enter func159,ntmps159;go_wp2_with (go_at_call 151;refine(ig _ _).mono ?_);rintro e w1 ⟨rfl,rfl⟩;rw[hn];go_wp2_with fail;go_ret;refine⟨eB ?_,rfl⟩;rw[HNm.out,hn];simp
 ·go_enter func159,ntmps159;go_wp2_with (go_at_call 151;refine(ig _ _).mono ?_);rintro e w1 ⟨rfl,rfl⟩;rw[hn];go_wp2_with fail;go_ret;refine⟨eB ?_,rfl⟩;rw[HNm.out,hn];simp
theorem KJ (n d:Int)(w:Θ)(n1: -1000000≤n)(n2:n≤1000000)(d1:1≤d)(d2:d≤1000000)(hp:Pow w):η prog 157 #[Γ Δ n,Γ Δ d] w λe w'=>e=.returned (.string ⟨⟨iz n d⟩⟩)∧Ξ w.heap.size w w':=by
 have RD:=um n (by omega) (by omega);have hl2:=um d (by omega) (by omega);have ks:=ri;have HP:Hid (Pow w):=hp;clear hp;cases hd:(d==1)
 ·have HN:Hid (iz n d=Ω n++47::Ω d):=by show _=_;rw[zai]at hd;unfold iz;rw[zaa hd]
  go_enter func157,ntmps157;go_wp2_with (go_at_call 100;refine(qm n _ (by omega) (by omega) HP.out).mono ?_);rintro e w1 ⟨rfl,hb1⟩;have je:Hid (Ξ w.heap.size w w1):=hb1;clear hb1;go_wp2_with (go_at_call 100;refine(qm d _ (by omega) (by omega) (HP.out.on je.out)).mono ?_);rintro e w2 ⟨rfl,hb2⟩;have iu:Hid (Ξ w.heap.size w w2):=je.out.trans (hb2.mono je.out.size);clear hb2;go_wp2_with fail;go_ret;refine⟨eB ?_,iu.out⟩;rw[HN.out];first|done|simp
 ·have HN:Hid (iz n d=Ω n):=by show _=_;rw[zaJ]at hd;unfold iz;rw[zac hd]
  go_enter func157,ntmps157;go_wp2_with (go_at_call 100;refine(qm n _ (by omega) (by omega) HP.out).mono ?_);rintro e w1 ⟨rfl,hb1⟩;have je:Hid (Ξ w.heap.size w w1):=hb1;clear hb1;go_wp2_with fail;go_ret;exact⟨eB HN.out.symm,je.out⟩
theorem aal (x:Nd)(w:Θ)(hk:x.kind=0):η prog 104 #[cZ x] w λe w'=>e=.returned (.string ⟨⟨fw x⟩⟩)∧Ξ w.heap.size w w':=by
 have HV:Hid (fw x=[40,41]):=by show _=_;unfold fw;rw[zac hk]
 have hb3:(x.kind==3)=false:=by rw[hk];decide
 have hb4:(x.kind==4)=false:=by rw[hk];decide
 have mF:(x.kind==5)=false:=by rw[hk];decide
 have nz:(x.kind==6)=false:=by rw[hk];decide
 have xY:(x.kind==7)=false:=by rw[hk];decide
 clear hk;unfold cZ;go_enter func104,ntmps104;go_wp2_with fail;go_ret;exact⟨eB HV.out.symm,az⟩
theorem aam (x:Nd)(w:Θ)(ht:x.text.length≤400)(hk:x.kind=3):η prog 104 #[cZ x] w λe w'=>e=.returned (.string ⟨⟨fw x⟩⟩)∧Ξ w.heap.size w w':=by
 have HV:Hid (fw x=Ag x.text):=by show _=_;unfold fw;rw[zaa (by omega),zac hk]
 have hb3:(x.kind==3)=true:=by rw[hk];decide
 have hb4:(x.kind==4)=false:=by rw[hk];decide
 have mF:(x.kind==5)=false:=by rw[hk];decide
 have nz:(x.kind==6)=false:=by rw[hk];decide
 have xY:(x.kind==7)=false:=by rw[hk];decide
 clear hk;unfold cZ;go_enter func104,ntmps104;go_wp2_with (go_at_call 156;refine(KI x.text _ ht).mono ?_);rintro e w1 ⟨rfl,hb⟩;have HB:Hid (Ξ w.heap.size w w1):=az.trans (hb.mono (by simp));clear hb;go_wp2_with fail;go_ret;exact⟨eB HV.out.symm,HB.out⟩
theorem aan (x:Nd)(w:Θ)(hk:x.kind=4):η prog 104 #[cZ x] w λe w'=>e=.returned (.string ⟨⟨fw x⟩⟩)∧Ξ w.heap.size w w':=by
 have HV:Hid (fw x=x.text):=by show _=_;unfold fw;rw[zaa (by omega),zaa (by omega),zac hk]
 have hb3:(x.kind==3)=false:=by rw[hk];decide
 have hb4:(x.kind==4)=true:=by rw[hk];decide
 have mF:(x.kind==5)=false:=by rw[hk];decide
 have nz:(x.kind==6)=false:=by rw[hk];decide
 have xY:(x.kind==7)=false:=by rw[hk];decide
 clear hk;unfold cZ;go_enter func104,ntmps104;go_wp2_with fail;go_ret;exact⟨eB HV.out.symm,az⟩
theorem aao (x:Nd)(w:Θ)(n1: -1000000≤x.n)(n2:x.n≤1000000)(d1:1≤x.d)(d2:x.d≤1000000)(hp:Pow w)(hk:x.kind=5):η prog 104 #[cZ x] w λe w'=>e=.returned (.string ⟨⟨fw x⟩⟩)∧Ξ w.heap.size w w':=by
 have HV:Hid (fw x=iz x.n x.d):=by show _=_;unfold fw;rw[zaa (by omega),zaa (by omega),zaa (by omega),zac hk]
 have hb3:(x.kind==3)=false:=by rw[hk];decide
 have hb4:(x.kind==4)=false:=by rw[hk];decide
 have mF:(x.kind==5)=true:=by rw[hk];decide
 have nz:(x.kind==6)=false:=by rw[hk];decide
 have xY:(x.kind==7)=false:=by rw[hk];decide
 clear hk;have HPA:Hid (∀o:Obj,Pow (w.alloc o)):=λo=>hp.on az;clear hp;unfold cZ;go_enter func104,ntmps104;go_wp2_with (go_at_call 157;refine(KJ x.n x.d _ n1 n2 d1 d2 (HPA.out _)).mono ?_);rintro e w1 ⟨rfl,hb⟩;have HB:Hid (Ξ w.heap.size w w1):=az.trans (hb.mono (by simp));clear hb;go_wp2_with fail;go_ret;exact⟨eB HV.out.symm,HB.out⟩
theorem aap (x:Nd)(w:Θ)(hk:x.kind=6):η prog 104 #[cZ x] w λe w'=>e=.returned (.string ⟨⟨fw x⟩⟩)∧Ξ w.heap.size w w':=by
 have HV:Hid (fw x=vW x.n):=by show _=_;unfold fw;rw[zaa (by omega),zaa (by omega),zaa (by omega),zaa (by omega),zac hk];rfl
 have hb3:(x.kind==3)=false:=by rw[hk];decide
 have hb4:(x.kind==4)=false:=by rw[hk];decide
 have mF:(x.kind==5)=false:=by rw[hk];decide
 have nz:(x.kind==6)=true:=by rw[hk];decide
 have xY:(x.kind==7)=false:=by rw[hk];decide
 clear hk;unfold cZ;go_enter func104,ntmps104;go_wp2_with (go_at_call 158;refine(OG x.n _).mono ?_);rintro e w1 ⟨rfl,rfl⟩;go_wp2_with fail;go_ret;exact⟨eB HV.out.symm,az⟩
theorem aaq (x:Nd)(w:Θ)(hc:tL x.n=true)(hk:x.kind=7):η prog 104 #[cZ x] w λe w'=>e=.returned (.string ⟨⟨fw x⟩⟩)∧Ξ w.heap.size w w':=by
 have HV:Hid (fw x=Hw x.n):=by show _=_;unfold fw;rw[zaa (by omega),zaa (by omega),zaa (by omega),zaa (by omega),zaa (by omega)]
 have hb3:(x.kind==3)=false:=by rw[hk];decide
 have hb4:(x.kind==4)=false:=by rw[hk];decide
 have mF:(x.kind==5)=false:=by rw[hk];decide
 have nz:(x.kind==6)=false:=by rw[hk];decide
 have xY:(x.kind==7)=true:=by rw[hk];decide
 clear hk;unfold cZ;go_enter func104,ntmps104;go_wp2_with (go_at_call 159;refine(Sq x.n _ hc).mono ?_);rintro e w1 ⟨rfl,rfl⟩;go_wp2_with fail;go_ret;exact⟨eB HV.out.symm,az⟩
theorem KL (S:Nat→List Nat)(f:Nat)(t:WS)(l:List Nat)(k:Nat)(h:k<l.length):(l.take (k+1)).foldl (bW S f) t=bW S f ((l.take k).foldl (bW S f) t) l[k]:=by
 rw[zcA h,zcs];rfl
theorem MF {n:Nat}{S:Nat→List Nat}(hS:∀x,x<n→∀y∈S x,y<n)(f:Nat):∀(l:List Nat) (t:WS),(∀y∈l,y<n)→t.Ok n→(l.foldl (bW S f) t).Ok n
 |[],_,_,ht=>ht
 |y::r,t,hl,ht=>MF hS f r _ (λz hz=>hl z (zap _ hz)) (Ok.meet hS f t y ht (hl y zam))
theorem Hy {n:Nat}{S:Nat→List Nat}(hS:∀x,x<n→∀y∈S x,y<n)(g:Nat→Nat)(f:Nat):∀(l:List Nat) (t:WS),(∀y∈l,y<n)→t.Ok n→(l.foldl (bW S f) t).vV g≤t.vV g
 |[],_,_,_=>zab _
 |y::r,t,hl,ht=>zah (Hy hS g f r _ (λz hz=>hl z (zap _ hz)) (Ok.meet hS f t y ht (hl y zam))) (Af hS g f t y ht (hl y zam))
theorem MG {n:Nat}{S:Nat→List Nat}(hS:∀x,x<n→∀y∈S x,y<n)(f:Nat):∀(l:List Nat) (t:WS) (k:Nat),(∀y∈l,y<n)→t.Ok n→t.Bd S k→(l.foldl (bW S f) t).Bd S (k+l.length)
 |[],_,_,_,_,hk=>hk
 |y::r,t,k,hl,ht,hk=>by
  have:=MG hS f r (bW S f t y) (k+1) (λz hz=>hl z (zap _ hz)) (Ok.meet hS f t y ht (hl y zam)) (Bd.meet hS f t y k ht (hl y zam) hk);simp only[zca,zar];rw[show k+(r.length+1)=k+1+r.length by omega];exact this
theorem sF {N:Nat}{S:Nat→List Nat}(hS:∀x,x<N→∀y∈S x,y<N)(f:Nat)(s:WS)(n c k:Nat)(cg:s.Ok N)(hn:n<N)(hf:s.vV (λ_=>1)<f+1)(kV:s.Bd S c)(hm:s.met.getD n 0=0)(hk:k≤(S n).length):(((S n).take k).foldl (bW S f) ((s.hit n).enter n)).Ok N∧(((S n).take k).foldl (bW S f) ((s.hit n).enter n)).vV (λ_=>1)<f∧(((S n).take k).foldl (bW S f) ((s.hit n).enter n)).Bd S (c+1-(S n).length + k)∧(S n).length≤c:=by
 have h2:((s.hit n).enter n).Ok N:=(cg.hit hn).enter hn (mm cg hn);have hl:∀y∈(S n).take k,y<N:=λy hy=>hS n hn y (List.mem_of_mem_take hy);have hp:=uf cg hn (λ_=>1);have Wj:=uf cg hn (λx=>(S x).length);rw[zac hm]at hp Wj;have hc:(S n).length≤c:=by have:=kV n;omega
 refine⟨MF hS f _ _ hl h2,?_,?_,hc⟩
 ·have:=Hy hS (λ_=>1) f _ _ hl h2;have e:((s.hit n).enter n).vV (λ_=>1)=(s.hit n).vV (λ_=>1):=rfl;omega
 ·have hb2:((s.hit n).enter n).Bd S (c+1-(S n).length):=by
   intro i;show(s.hit n).met.getD i 0+((s.hit n).vV (λx=>(S x).length):Nat)≤_;rw[gZ cg hn];have h1:=kV i;have h3:=kV n;split<;>omega
  have:=MG hS f _ _ _ hl h2 hb2;rwa[List.length_take,Nat.min_eq_left hk]at this
theorem iU (G:List Nd)(x:Nat)(h:x<G.length):aw G x=G[x].subs.map Int.toNat:=by
 unfold aw;rw[zaq h]
theorem nK (l:List Int)(all:Int)(h:dF l all=true)(k:Nat)(hk:k<l.length):0≤l.getD k 0∧l.getD k 0<all:=by
 unfold dF at h;have:=zaI.1 h _ (zbd hk);simp[ζ,List.getElem?_eq_getElem hk]at this ⊢;exact this
theorem j9 (G:List Nd)(gz:∀x (h:x<G.length),dF G[x].subs G.length=true):∀x,x<G.length→∀y∈aw G x,y<G.length:=by
 intro x hx y hy;rw[iU G x hx]at hy;obtain⟨v,hv,rfl⟩:=zbc.1 hy;have:=zaI.1 (gz x hx) v hv;simp at this;omega
theorem Sr (G:List Nd)(b o cap:Nat)(W0:Θ)(hG:Hid (bh W0 b o G))(_hn:G.length≤150)(gz:Hid (∀x (h:x<G.length),dF G[x].subs G.length=true))(p bo bm bw:Nat)(A:Apart W0.heap.size p bo bm bw):∀(f:Nat) (s:WS) (a:Int) (w:Θ) (c:Nat),s.Ok G.length→0≤a→a<G.length→s.vV (λ_=>1)<f→s.Bd (aw G) c→c+1≤1000000→Ξ W0.heap.size W0 w→fI w p bo bm bw G.length (.slice (some ⟨b,o,none⟩) G.length cap) s→η prog 45 #[.pointer (some ⟨p,0,none⟩),Γ Δ a] w λe w'=>e=.returned (.tuple #[])∧fI w' p bo bm bw G.length (.slice (some ⟨b,o,none⟩) G.length cap) (bW (aw G) f s a.toNat)∧Ξ W0.heap.size W0 w':=by
 intro f
 induction f with
 |zero=>intro s a w c _ _ _ h;omega
 |succ f ih=>
  intro s a w c cg ha0 ha hf kV hc hb hw;have IH:Hid _:=ih;clear ih;obtain⟨n,rfl⟩:=zbD ha0;rw[zbp];have kg:n<G.length:=by omega
  have WV:n<s.met.length:=by rw[cg.lm];exact kg
  have hbn:=kV n;have hnn:=cg.nn n;have UZ:=hw.hit A WV;have hb1:Ξ W0.heap.size W0 (w.setCell ⟨bm,n,none⟩ (Γ Δ (s.met.getD n 0+1))):=hb.setCell A.hm _;obtain⟨c0,c1,c2,c3,rm,Yw,ro⟩:=hw;have hmc:=(rm n WV).1;have hmf:=(rm n WV).2;have BS:Hid _:=cg;have HBD:Hid _:=kV;have hval:∃m:Int,Hid (m=s.met.getD n 0):=⟨_,rfl⟩;obtain⟨m,hm⟩:=hval;have Yx:(s.hit n).met.getD n 0=m+1:=by rw[gZ cg kg,zac rfl,hm.out]
  rw[←hm.out]at hmc hnn hbn hb1 UZ;have VJ:m≤1000000:=by omega
  have je:Hid _:=hb1;have OH:Hid _:=UZ;have Jp:Hid _:=Yx;clear UZ cg kV hb1 rm Yw ro WV hbn Yx;go_enter func45,ntmps45
  go_upto_region 1 with fail
  generalize w.setCell ⟨bm,n,none⟩ (Γ Δ (m+1))=w1 at *;clear c0 c1 c2 c3 hmc hmf;obtain⟨d0,d1,d2,d3,rm,Yw,ro⟩:=OH.out;have WV:n<(s.hit n).met.length:=by rw[(BS.out.hit kg).lm];exact kg
  have hwl:n<(s.hit n).wi.length:=by rw[(BS.out.hit kg).lw];exact kg
  have KM:n<(s.hit n).op.length:=by rw[(BS.out.hit kg).lo];exact kg
  have e0:=(rm n WV).1;rw[Jp.out]at e0;by_cases R1:0<m
  ·have e1:=(Yw n hwl).1;have e2:=(Yw n hwl).2;have e3:=(ro n KM).1;have HA:Hid _:=OH.out.again A hwl;have HBa:Hid _:=λv=>je.out.setCell (p:=⟨bw,n,none⟩) A.hw v;have HF:Hid (bW (aw G) (f+1) s n=(s.hit n).again n):=by show _=_;simp only[bW];rw[zac (by rw[←hm.out];exact R1)]
   rw[show(s.hit n).wi=s.wi from rfl]at e1 HA;rw[show(s.hit n).op=s.op from rfl]at e3 HA;clear rm Yw ro WV hwl KM IH;cases PO:s.wi.getD n false
   ·cases hop:s.op.getD n false
    ·rw[PO]at e1;rw[hop]at e3;rw[PO,hop]at HA;clear PO hop;go_wp2_with fail;go_region;go_wp2_with fail;refine zak (results_none rfl _ _ _) rfl ?_;refine⟨rfl,?_,?_⟩
     ·rw[HF.out];exact HA.out.drew
     ·exact(HBa.out _).drew
    ·rw[PO]at e1;rw[hop]at e3;rw[PO,hop]at HA;clear PO hop;go_wp2_with fail;go_region;go_wp2_with fail;refine zak (results_none rfl _ _ _) rfl ?_;refine⟨rfl,?_,?_⟩
     ·rw[HF.out];exact HA.out.drew
     ·exact(HBa.out _).drew
   ·rw[PO]at e1;rw[PO,Bool.true_or]at HA;clear PO e3;go_wp2_with fail;go_region;go_wp2_with fail;refine zak (results_none rfl _ _ _) rfl ?_;refine⟨rfl,?_,?_⟩
    ·rw[HF.out];exact HA.out.drew
    ·exact(HBa.out _).drew
  ·have Pz:m≤0:=by omega
   have e3:=(ro n KM).1;have e4:=(ro n KM).2;have HE:Hid _:=OH.out.Sn A KM true;have HBe:Hid _:=je.out.setCell (p:=⟨bo,n,none⟩) A.ho (.bool true);have HF:Hid (bW (aw G) (f+1) s n=((aw G n).foldl (bW (aw G) f) ((s.hit n).enter n)).leave n):=by show _=_;simp only[bW];rw[zaa (by rw[←hm.out];exact R1)]
   have HM0:Hid (s.met.getD n 0=0):=by show _=_;rw[←hm.out];omega
   have HS:Hid _:=j9 G gz.out;have acI:=(hG.out n kg).below HBe.out;have HSN:Hid _:=iU G n kg;have HSB:Hid _:=gz.out n kg;have HI0:Hid _:=(hG.out n kg).ints;clear rm Yw ro WV hwl KM hm R1
   go_upto_region 4 with fail
   generalize w1.setCell ⟨bo,n,none⟩ (.bool true)=w2 at *;obtain⟨c0,c1,c2,c3,c4,hi,ht,hs⟩:=acI;have HI:Hid _:=hi;have HL:Hid _:=hs;obtain⟨f0,f1,f2,f3,rm,Yw,ro⟩:=HE.out;clear d0 d1 d2 d3 e0 e3 e4 c0 c1 c2 c3 hi ht hs f1 f2 f3 rm Yw ro je OH Jp;generalize G[n]=x at *;rcases HI0.out with h|⟨sb,so,Fw,hc⟩
   ·have HE0:Hid _:=h;clear h;go_wp2_with fail;go_loopw [64] (λi wr=>∃k:Nat,k≤x.subs.length∧i=Γ Δ k∧Hid (fI wr p bo bm bw G.length (.slice (some ⟨b,o,none⟩) G.length cap) (((aw G n).take k).foldl (bW (aw G) f) ((s.hit n).enter n)))∧Hid (Ξ W0.heap.size W0 wr)) (λi _=>x.subs.length-(ξ i).toNat)
    case atStart=>exact⟨0,zaw _,rfl,HE.out,HBe.out⟩
    case round=>
     obtain⟨k,hk,rfl,Ah,Jn⟩:=hrel;have WA:(aw G n).length=x.subs.length:=by rw[HSN.out];simp
     have PR:Hid _:=WA;clear WA;by_cases hlt:k<x.subs.length
     ·exfalso;rw[HE0.out]at hlt;simp at hlt
     ·have Vd:k=x.subs.length:=by omega
      have hw4:=Ah.out;rw[zbC (by rw[PR.out];omega)]at hw4;have EE:=(sF HS.out f s n c (aw G n).length BS.out kg hf HBD.out HM0.out (zab _)).1;rw[zbC (zab _)]at EE;have KM:n<((aw G n).foldl (bW (aw G) f) ((s.hit n).enter n)).op.length:=by rw[EE.lo];exact kg
      have nU:Hid _:=hw4.Sn A KM false;have oB:Hid _:=Jn.out.setCell (p:=⟨bo,n,none⟩) A.ho (.bool false);have g1:=hw4.c1;obtain⟨g2,g3⟩:=hw4.ro n KM;clear hw4 KM EE Ah Jn;generalize ((aw G n).foldl (bW (aw G) f) ((s.hit n).enter n))=t at *;generalize t.op.getD n false=ob at *;go_wp2_with fail
      go_end0
      refine⟨rfl,?_,oB.out⟩;rw[HF.out];exact nU.out
   ·have HC:Hid _:=hc;rw[Fw]at c4;clear hc Fw;go_wp2_with fail;go_loopw [64] (λi wr=>∃k:Nat,k≤x.subs.length∧i=Γ Δ k∧Hid (fI wr p bo bm bw G.length (.slice (some ⟨b,o,none⟩) G.length cap) (((aw G n).take k).foldl (bW (aw G) f) ((s.hit n).enter n)))∧Hid (Ξ W0.heap.size W0 wr)) (λi _=>x.subs.length-(ξ i).toNat)
    case atStart=>exact⟨0,zaw _,rfl,HE.out,HBe.out⟩
    case round=>
     obtain⟨k,hk,rfl,Ah,Jn⟩:=hrel;have WA:(aw G n).length=x.subs.length:=by rw[HSN.out];simp
     have PR:Hid _:=WA;clear WA;by_cases hlt:k<x.subs.length
     ·have hcell:=bE Jn.out (HC.out k hlt);obtain⟨tok,acJ,tbd,tc⟩:=sF HS.out f s n c k BS.out kg hf HBD.out HM0.out (by rw[PR.out];omega);obtain⟨v0,v1⟩:=nK _ _ HSB.out k hlt;have Yy:(aw G n)[k]'(by rw[PR.out];exact hlt)=(x.subs.getD k 0).toNat:=by
       have e:∀(l:List Nat) (hl:k<l.length),l=x.subs.map Int.toNat→l[k]=(x.subs.getD k 0).toNat:=by
        intro l hl e;subst e;simp[ζ,List.getElem?_eq_getElem hlt]
       exact e _ _ HSN.out
      have Yz:Hid _:=KL (aw G) f ((s.hit n).enter n) (aw G n) k (by rw[PR.out];exact hlt);rw[Yy]at Yz;have dY:c+1-(aw G n).length + k+1≤1000000:=by have:=PR.out;omega
      have HCL:Hid _:=dY;have hsl:x.subs.length≤1000000:=by have:=PR.out;omega
      have TOK:Hid _:=tok;have aeJ:Hid _:=acJ;have TBD:Hid _:=tbd;clear tok acJ tbd tc Yy dY;generalize x.subs.getD k 0=v at *;go_wp2_with fail;refine(IH.out _ v _ _ TOK.out v0 v1 aeJ.out TBD.out HCL.out Jn.out Ah.out).mono ?_;rintro e w3 ⟨rfl,hw3,hb3⟩;rw[←Yz.out]at hw3;have Bv:Hid _:=hw3;have jl:Hid _:=hb3;clear hw3 hb3 Ah Jn hcell;go_wp2_with fail;go_roundw
      case rel=>exact⟨k+1,by omega,by go_num,Bv,jl⟩
      case measure=>simp[ξ];omega
     ·have Vd:k=x.subs.length:=by omega
      have hw4:=Ah.out;rw[zbC (by rw[PR.out];omega)]at hw4;have EE:=(sF HS.out f s n c (aw G n).length BS.out kg hf HBD.out HM0.out (zab _)).1;rw[zbC (zab _)]at EE;have KM:n<((aw G n).foldl (bW (aw G) f) ((s.hit n).enter n)).op.length:=by rw[EE.lo];exact kg
      have nU:Hid _:=hw4.Sn A KM false;have oB:Hid _:=Jn.out.setCell (p:=⟨bo,n,none⟩) A.ho (.bool false);have g1:=hw4.c1;obtain⟨g2,g3⟩:=hw4.ro n KM;clear hw4 KM EE Ah Jn;generalize ((aw G n).foldl (bW (aw G) f) ((s.hit n).enter n))=t at *;generalize t.op.getD n false=ob at *;go_wp2_with fail
      go_end0
      refine⟨rfl,?_,oB.out⟩;rw[HF.out];exact nU.out
end Go.Proofs.YtlhimdjkkiflhaaGreatDoor
namespace Go.Proofs.YtlhimdjkkiflhaaGreatDoor
open Go.RowKit Go.Loop
structure Kept (p q:Nat) (w w':Θ):Prop where
 os:w'.os=w.os
 tape:w'.tape=w.tape
 output:w'.output=w.output
 size:w.heap.size≤w'.heap.size
 block:∀k,k<w.heap.size→k≠p→k≠q→w'.heap[k]?=w.heap[k]?
theorem Kept.refl (p q:Nat)(w:Θ):Kept p q w w:=⟨rfl,rfl,rfl,zab _,λ_ _ _ _=>rfl⟩
def bn (G:List Nd)(x:Nat):Int:=match G[x]? with|some y=>y.kind|none=>0
def lf (G:List Nd)(x:Nat):List UInt8:=match G[x]? with|some y=>fw y|none=>[]
theorem lN (G:List Nd)(x:Nat)(h:x<G.length):bn G x=G[x].kind:=by unfold bn;rw[zaq h]
theorem KN (G:List Nd)(x:Nat)(h:x<G.length):lf G x=fw G[x]:=by unfold lf;rw[zaq h]
theorem qo (G:List Nd)(x:Nat)(h:x<G.length)(k:Nat)(hk:k<G[x].subs.length):(aw G x).getD k 0=(G[x].subs.getD k 0).toNat:=by
 rw[iU G x h];simp[ζ,List.getElem?_eq_getElem hk]
theorem Ai (G:List Nd)(y:Nat)(hy:y<G.length)(hb:aQ G[y]=true)(hk:bn G y=1):(aw G y).length=2:=by
 rw[iU G y hy,zbx];rw[lN G y hy]at hk;unfold aQ at hb;rw[zaa (by omega),zac hk]at hb;simp at hb;exact hb.1
theorem Hz {t:TS}(h:t.long=false)(ho:t.out.length≤400)(a:Nat):need (t.put a)<need t:=by
 have:need (t.put a)=need (t.add (35::(Ω t.next++[61]))):=rfl;rw[this];exact ui h ho (by simp)
end Go.Proofs.YtlhimdjkkiflhaaGreatDoor
namespace Go.Proofs.YtlhimdjkkiflhaaGreatDoor
open Go.Proofs.Tryz
open Go.RowKit Go.Loop
structure cW (w:Θ) (B p bl bL n:Nat) (nv:Φ) (t:TS) (v:Φ):Prop where
 hB:B≤p
 blk:∃q,(q=.pointer none∨q=.pointer (some ⟨p,4,none⟩))∧
  w.heap[p]?=some (.cells #[nv,.slice (some ⟨bL,0,none⟩) n n,.slice (some ⟨bl,0,none⟩) n n,Γ Δ t.next,q,v,.bool t.long] 118 (0,0))
 own:w.ownsRow B 5 1 v (ι t.out).length (ι t.out)
 rl:l4 w bl t.eG
 nb:v.ownBlock≠some bl
 ol:t.out.length≤400
 bl:bl<w.heap.size
structure aY (w w':Θ) (p bl:Nat) (v v':Φ):Prop where
 os:w'.os=w.os
 tape:w'.tape=w.tape
 output:w'.output=w.output
 size:w.heap.size≤w'.heap.size
 block:∀k,k<w.heap.size→k≠p→k≠bl→some k≠v.ownBlock→w'.heap[k]?=w.heap[k]?
 buf:v'.ownBlock=v.ownBlock∨∃k,v'.ownBlock=some k∧w.heap.size≤k
theorem aY.refl (w:Θ)(p bl:Nat)(v:Φ):aY w w p bl v v:=⟨rfl,rfl,rfl,zab _,λ_ _ _ _ _=>rfl,Or.inl rfl⟩
theorem aY.trans {w w' w'':Θ}{p bl:Nat}{v v' v'':Φ}(h:aY w w' p bl v v')(k:aY w' w'' p bl v' v''):aY w w'' p bl v v'':=by
 refine⟨k.os.trans h.os,k.tape.trans h.tape,k.output.trans h.output,zah h.size k.size,λi hi hb hl hv=>?_,?_⟩
 ·have hne:some i≠v'.ownBlock:=by
   rcases h.buf with e|⟨g,e,hg⟩
   ·rw[e];exact hv
   ·rw[e];intro x;simp only[zaG]at x;omega
  exact(k.block i (zaL hi h.size) hb hl hne).trans (h.block i hi hb hl hv)
 ·rcases k.buf with e|⟨g,e,hg⟩
  ·rw[e];exact h.buf
  ·exact Or.inr ⟨g,e,zah h.size hg⟩
theorem aY.aA {w w':Θ}{p bl:Nat}{v:Φ}(h:Ξ w.heap.size w w'):aY w w' p bl v v:=⟨h.os,h.tape,h.output,h.size,λk hk _ _ _=>h.block k hk,Or.inl rfl⟩
theorem aY.acK {w w':Θ}{p bl:Nat}{v v':Φ}(h:iv w w' p v v'):aY w w' p bl v v':=⟨h.os,h.tape,h.output,h.size,λk hk hp _ hv=>h.block k hk hp hv,h.buf⟩
theorem aY.set {w:Θ}{p bl:Nat}{v:Φ}{x:Addr}(hx:x.block=p∨x.block=bl)(u:Φ):aY w (w.setCell x u) p bl v v:=
 ⟨rfl,rfl,rfl,by simp[Θ.setCell],λk _ h1 h2 _=>zau _ _ _ _ (by rcases hx with h|h<;>omega),Or.inl rfl⟩
theorem aY.below {w w':Θ}{B p bl:Nat}{v v':Φ}(h:aY w w' p bl v v')(hB:B≤w.heap.size)(hp:B≤p)(hl:B≤bl)(hv:∀k,v.ownBlock=some k→B≤k):Ξ B w w':=
 ⟨h.os,h.tape,h.output,h.size,λk hk=>h.block k (by omega) (by omega) (by omega) (λe=>by have:=hv k e.symm;omega)⟩
theorem l4.of_block {w w':Θ}{b:Nat}{l:List Int}(h:l4 w b l)(e:w'.heap[b]?=w.heap[b]?):l4 w' b l:=λi hi=>by
 rw[Θ.cell?_of_block (w:=w) (w':=w') (a:=⟨b,i,none⟩) e,Θ.frozen?_of_block (w:=w) (w':=w') (a:=⟨b,i,none⟩) e];exact h i hi
theorem cW.Ss {w:Θ}{B p bl bL n:Nat}{nv:Φ}{t:TS}{v:Φ}(h:cW w B p bl bL n nv t v):∀k,v.ownBlock=some k→B≤k:=λk hk=>(h.own.lt k hk).1
theorem wT:118≠5:=by decide
theorem cW.bld {w:Θ}{B p bl bL n:Nat}{nv:Φ}{t:TS}{v:Φ}(h:cW w B p bl bL n nv t v):∃q,(q=.pointer none∨q=.pointer (some ⟨p,4,none⟩))∧fu w 118 4 B p #[nv,.slice (some ⟨bL,0,none⟩) n n,.slice (some ⟨bl,0,none⟩) n n,Γ Δ t.next,q,v,.bool t.long] v (ι t.out):=by
 obtain⟨q,hq,hb⟩:=h.blk;exact⟨q,hq,h.hB,hb,by rcases hq with rfl|rfl<;>simp,rfl,h.own⟩
theorem cW.mark {w:Θ}{B p bl bL n:Nat}{nv:Φ}{t:TS}{v:Φ}(h:cW w B p bl bL n nv t v)(hne:p≠bl):cW (w.setCell ⟨p,6,none⟩ (.bool true)) B p bl bL n nv { t with long:=true } v:=by
 obtain⟨q,hq,hb⟩:=h.blk;have hn:=Lib.ownBlock_ne h.own hb wT;refine⟨h.hB,⟨q,hq,?_⟩,?_,?_,h.nb,h.ol,?_⟩
 ·have:=heap_setCell_same w p 6 _ _ (.bool true) hb;exact this
 ·exact h.own.kept (row:=some p) ⟨rfl,rfl,rfl,by simp[Θ.setCell],λk _ hk=>zau _ _ _ _ (λe=>hk (by simp[e]))⟩ (Or.inr hn)
 ·exact h.rl.of_block (zau _ _ _ _ (λe=>hne e.symm))
 ·have:=h.bl;simpa[Θ.setCell]using this
theorem cW.wrote {w w':Θ}{B p bl bL n:Nat}{nv:Φ}{t:TS}{v v':Φ}{s:List UInt8}{q:Φ}(h:cW w B p bl bL n nv t v)(hne:p≠bl)(hl:t.long=false)(hs:t.out.length+s.length≤400)
 (h1:fu w' 118 4 B p ((lF 4 p #[nv,.slice (some ⟨bL,0,none⟩) n n,.slice (some ⟨bl,0,none⟩) n n,Γ Δ t.next,q,v,.bool t.long]).setIfInBounds (4+1) v') v' (ι t.out++Lib.strCells ⟨⟨s⟩⟩))
 (h2:iv w w' p v v'):cW w' B p bl bL n nv (t.add s) v'∧aY w w' p bl v v':=by
 rw[j8 hl hs];have e1:ι (t.out++s)=ι t.out++Lib.strCells ⟨⟨s⟩⟩:=by rw[Lib.byteCells_append];rfl
 refine⟨⟨h.hB,⟨_,Or.inr rfl,h1.blk⟩,?_,?_,?_,?_,zaL h.bl h2.size⟩,aY.acK h2⟩
 ·show Θ.ownsRow _ _ _ _ _ (ι (t.out++s)).length (ι (t.out++s));rw[e1];exact h1.own
 ·exact h.rl.of_block (h2.block bl h.bl (λe=>hne e.symm) (λe=>h.nb e.symm))
 ·rcases h2.buf with e|⟨k,e,hk⟩
  ·rw[e];exact h.nb
  ·rw[e];intro x;simp only[zaG]at x;have:=h.bl;omega
 ·show(t.out++s).length≤400;rw[zbg];exact hs
theorem fJ {w:Θ}{B p bl bL n:Nat}{nv:Φ}{t:TS}{v:Φ}(h:cW w B p bl bL n nv t v)(hne:p≠bl)(rz:B≤w.heap.size)(s:List UInt8):η prog 99 #[.pointer (some ⟨p,0,none⟩),.string ⟨⟨s⟩⟩] w λe w'=>e=.returned (.tuple #[])∧∃v',cW w' B p bl bL n nv (t.add s) v'∧aY w w' p bl v v':=by
 obtain⟨q,hq,KO⟩:=h.bld;have HBL:Hid _:=KO;have HW:Hid (cW w B p bl bL n nv t v):=h;have KM:=h.ol;have e0:(ι t.out).length=t.out.length:=Lib.byteCells_length _;have c6:w.cell? ⟨p,6,none⟩=some (.bool t.long):=KO.cell 6;have f6:w.frozen? ⟨p,6,none⟩=false:=KO.frozen 6;clear KO h hq;by_cases hov:400<t.out.length+s.length
 ·have HM:Hid _:=HW.out.mark hne;have HA:Hid (t.add s={ t with long:=true }):=by
   show _=_;cases hl:t.long
   ·rw[lM hl hov]
   ·rw[dH hl,←hl]
  go_enter func99,ntmps99;go_wp2_with (go_at_call 153;refine(sk HBL.out).mono ?_);rintro e w1 ⟨rfl,rfl⟩;rw[e0];go_wp2_with fail
  go_end0
  exact⟨rfl,v,by rw[HA.out];exact HM.out,aY.set (Or.inl rfl) _⟩
 ·cases hl:t.long
  ·rw[hl]at c6;go_enter func99,ntmps99;go_wp2_with (go_at_call 153;refine(sk HBL.out).mono ?_);rintro e w1 ⟨rfl,rfl⟩;rw[e0];go_wp2_with (go_at_call 154;refine(o9 GN wT HBL.out ⟨⟨s⟩⟩ (by show _+s.length≤_;omega) rz).mono ?_);rintro e w2 ⟨rfl,v',h1,h2⟩;have HR:Hid _:=HW.out.wrote hne hl (by omega) h1 h2;clear h1 h2;go_wp2_with fail
   go_end0
   exact⟨rfl,v',HR.out⟩
  ·rw[hl]at c6;have HA:Hid (t.add s=t):=dH hl s;go_enter func99,ntmps99;go_wp2_with (go_at_call 153;refine(sk HBL.out).mono ?_);rintro e w1 ⟨rfl,rfl⟩;rw[e0];go_wp2_with fail
   go_end0
   exact⟨rfl,v,by rw[HA.out];exact HW.out,aY.refl _ _ _ _⟩
def TS.lay (t:TS)(a:Nat):TS:={ t with eG:=t.eG.set a t.next,next:=t.next+1 }
theorem WW (t:TS)(a:Nat):(TS.lay t a).add (35::(Ω t.next++[61]))=t.put a:=by
 cases hl:t.long
 ·by_cases h:400<t.out.length+(35::(Ω t.next++[61])).length
  ·rw[lM (t:=TS.lay t a) hl h];unfold TS.put;rw[lM hl h];rfl
  ·rw[j8 (t:=TS.lay t a) hl (by show t.out.length+_≤400;omega)];unfold TS.put;rw[j8 hl (by omega)];rfl
 ·rw[dH (t:=TS.lay t a) hl];unfold TS.put;rw[dH hl];rfl
theorem cW.lay {w:Θ}{B p bl bL n:Nat}{nv:Φ}{t:TS}{v:Φ}(h:cW w B p bl bL n nv t v)(hne:p≠bl){a:Nat}(ha:a<t.eG.length):cW ((w.setCell ⟨bl,a,none⟩ (Γ Δ t.next)).setCell ⟨p,3,none⟩ (Γ Δ (t.next+1))) B p bl bL n nv (TS.lay t a) v:=by
 obtain⟨q,hq,hb⟩:=h.blk;have hn:=Lib.ownBlock_ne h.own hb wT;have hb1:(w.setCell ⟨bl,a,none⟩ (Γ Δ t.next)).heap[p]?=some (.cells #[nv,.slice (some ⟨bL,0,none⟩) n n,.slice (some ⟨bl,0,none⟩) n n,Γ Δ t.next,q,v,.bool t.long] 118 (0,0)):=
  (zau _ _ _ _ hne).trans hb
 have o1:=h.own.kept (w':=w.setCell ⟨bl,a,none⟩ (Γ Δ t.next)) (row:=some bl) ⟨rfl,rfl,rfl,by simp[Θ.setCell],λk _ hk=>zau _ _ _ _ (λe=>hk (by simp[e]))⟩ (Or.inr h.nb);refine⟨h.hB,⟨q,hq,?_⟩,?_,?_,h.nb,h.ol,?_⟩
 ·have:=heap_setCell_same (w.setCell ⟨bl,a,none⟩ (Γ Δ t.next)) p 3 _ _ (Γ Δ (t.next+1)) hb1;exact this
 ·exact o1.kept (row:=some p) ⟨rfl,rfl,rfl,by simp[Θ.setCell],λk _ hk=>zau _ _ _ _ (λe=>hk (by simp[e]))⟩ (Or.inr hn)
 ·exact(h.rl.set a ha t.next).of_block (zau _ _ _ _ (λe=>hne e.symm))
 ·have:=h.bl;simpa[Θ.setCell]using this
def acL (B:Nat)(w:Θ):Prop:=∀w',Ξ B w w'→Pow w'
theorem cW.drew {w:Θ}{B p bl bL n:Nat}{nv:Φ}{t:TS}{v:Φ}(h:cW w B p bl bL n nv t v):cW w.drew B p bl bL n nv t v:=⟨h.hB,h.blk,h.own,h.rl,h.nb,h.ol,h.bl⟩
theorem cW.lt {w:Θ}{B p bl bL n:Nat}{nv:Φ}{t:TS}{v:Φ}(h:cW w B p bl bL n nv t v):p<w.heap.size:=by
 obtain⟨q,hq,hb⟩:=h.blk;exact(zaf.1 hb).1
theorem cW.below {w w':Θ}{B p bl bL n:Nat}{nv:Φ}{t:TS}{v:Φ}(h:cW w B p bl bL n nv t v)(hb:Ξ w.heap.size w w'):cW w' B p bl bL n nv t v:=by
 obtain⟨q,hq,hk⟩:=h.blk;refine⟨h.hB,⟨q,hq,(hb.block p h.lt).trans hk⟩,?_,h.rl.of_block (hb.block bl h.bl),h.nb,h.ol,zaL h.bl hb.size⟩;exact h.own.kept (row:=none) ⟨hb.os,hb.tape,hb.output,hb.size,λk hk _=>hb.block k hk⟩ (by cases v.ownBlock<;>simp)
theorem WX {w:Θ}{B p bl bL n:Nat}{nv:Φ}{t:TS}{v:Φ}(h:cW w B p bl bL n nv t v)(hne:p≠bl)(rz:B≤w.heap.size)(hn:t.eG.length=n)(BB:t.next≤401)(a:Nat)(ha:a<n)(hBl:B≤bl)(hp:acL B w):η prog 101 #[.pointer (some ⟨p,0,none⟩),Γ Δ a] w λe w'=>e=.returned (.tuple #[])∧∃v',cW w' B p bl bL n nv (t.put a) v'∧aY w w' p bl v v':=by
 have HL:Hid _:=h.lay hne (a:=a) (by omega);have HKL:Hid (aY w ((w.setCell ⟨bl,a,none⟩ (Γ Δ t.next)).setCell ⟨p,3,none⟩ (Γ Δ (t.next+1))) p bl v v):=
  (aY.set (x:=⟨bl,a,none⟩) (Or.inr rfl) _).trans (aY.set (x:=⟨p,3,none⟩) (Or.inl rfl) _)
 obtain⟨q,hq,hb⟩:=h.blk;have c2:w.cell? ⟨p,2,none⟩=some (.slice (some ⟨bl,0,none⟩) n n):=zbt hb 2;have c3:w.cell? ⟨p,3,none⟩=some (Γ Δ t.next):=zbt hb 3;have f3:w.frozen? ⟨p,3,none⟩=false:=Lib.frozen_of_heap hb 3;obtain⟨ca,fa⟩:=h.rl a (by omega);have HP:Hid (acL B w):=hp;have HLW:Hid (cW w B p bl bL n nv t v):=h;have hlen:=um t.next (by omega) (by omega);have ks:=ri;clear hp hb hq h;go_enter func101,ntmps101;go_wp2_with fail;go_region;all_goals
  go_wp2_with (go_at_call 100;refine(qm t.next _ (by omega) (by omega) (HP.out _ (HKL.out.below rz HLW.out.hB hBl HLW.out.Ss).drew)).mono ?_);rintro e w1 ⟨rfl,hb1⟩;have je:Hid (cW w1 B p bl bL n nv (TS.lay t a) v):=HL.out.drew.below hb1;have CN:Hid (aY w w1 p bl v v):=HKL.out.trans (aY.aA (((zad _ _).drew).trans hb1));clear hb1;go_wp2_with (go_at_call 99;refine(fJ je.out hne (zah rz CN.out.size) (35::(Ω t.next++[61]))).mono ?_);rintro e w2 ⟨rfl,v',h2,h3⟩;have H2:Hid (cW w2 B p bl bL n nv (t.put a) v'):=by rw[WW]at h2;exact h2
  have H3:Hid (aY w w2 p bl v v'):=CN.out.trans h3;clear h2 h3;go_wp2_with fail
  go_end0
  exact⟨rfl,v',H2.out,H3.out⟩
structure HJ (G:List Nd) (b o:Nat) (W0:Θ) (p bl bL:Nat) (L:Nat→Bool) (Rc:Nat→Prop) (rk:Nat→Nat):Prop where
 hG:bh W0 b o G
 hk:∀x (h:x<G.length),aQ G[x]=true
 hs:∀x (h:x<G.length),dF G[x].subs G.length=true
 hn:G.length≤150
 hp:W0.heap.size≤p
 hl:W0.heap.size≤bl
 pl:p≠bl
 hL:∀i,i<G.length→W0.cell? ⟨bL,i,none⟩=some (.bool (L i))
 pw:Pow W0
 rc:∀x,Rc x→∀y∈aw G x,Rc y
 rr:∀x,Rc x→∀y∈aw G x,bn G y=1→L y=false→rk y<rk x
def HY (G:List Nd)(b o cap:Nat)(W0:Θ)(p bl bL:Nat)(L:Nat→Bool)(Rc:Nat→Prop)(f:Nat):Prop:=
 ∀(t:TS) (a:Int) (w:Θ) (v:Φ),t.Ok G.length L→0≤a→a<G.length→Rc a.toNat→need t≤f→Ξ W0.heap.size W0 w→cW w W0.heap.size p bl bL G.length (.slice (some ⟨b,o,none⟩) G.length cap) t v→
  η prog 62 #[.pointer (some ⟨p,0,none⟩),Γ Δ a] w λe w'=>e=.returned (.tuple #[])∧
   ∃v',cW w' W0.heap.size p bl bL G.length (.slice (some ⟨b,o,none⟩) G.length cap) (WF (bn G) (aw G) (lf G) L f false t a.toNat) v'∧aY w w' p bl v v'
theorem qp (G:List Nd)(x:Nat)(h:x<G.length)(k:Nat)(hk:k<G[x].subs.length):(G[x].subs.getD k 0).toNat∈aw G x:=by
 rw[iU G x h];simp only[zbc];exact⟨G[x].subs.getD k 0,by simp[ζ,List.getElem?_eq_getElem hk],rfl⟩
theorem aY.box {w w':Θ}{p bl:Nat}{v v':Φ}{cs:Array Φ}{T:π}(h:aY (w.alloc (.cells cs T)) w' p bl v v')(hp:p<w.heap.size)(hl:bl<w.heap.size)(hv:∀k,v.ownBlock=some k→k<w.heap.size):∀i z,cs[i]?=some z→w'.cell? ⟨w.heap.size,i,none⟩=some z:=λi z hz=>by
 have:=h.block w.heap.size (by simp) (by omega) (by omega) (λe=>by have:=hv _ e.symm;omega);rw[zbt (this.trans (zas w _))];exact hz
theorem cW.YA {w:Θ}{B p bl bL n:Nat}{nv:Φ}{t:TS}{v:Φ}(h:cW w B p bl bL n nv t v):∀k,v.ownBlock=some k→k<w.heap.size:=λk hk=>(h.own.lt k hk).2
theorem xd (G:List Nd)(b o cap:Nat)(W0:Θ)(p bl bL:Nat)(L:Nat→Bool)(Rc:Nat→Prop)(rk:Nat→Nat)(C:HJ G b o W0 p bl bL L Rc rk)(f:Nat)(IA:Hid (HY G b o cap W0 p bl bL L Rc f))
 (n:Nat)(kg:n<G.length)(Su:Rc n)(k2:G[n].kind=2)(t:TS)(w:Θ)(v:Φ)(ht:t.Ok G.length L)(hf:need (t.add [35,40])≤f)(hb:Ξ W0.heap.size W0 w)
 (aar:∀x,x<G.length→∀y∈aw G x,y<G.length)(rX:∀x,x<G.length→bn G x=1→(aw G x).length=2)
 (hw:cW w W0.heap.size p bl bL G.length (.slice (some ⟨b,o,none⟩) G.length cap) t v):
 η prog 103 #[.pointer (some ⟨p,0,none⟩),cZ G[n]] w λe w'=>e=.returned (.tuple #[])∧
  ∃v',cW w' W0.heap.size p bl bL G.length (.slice (some ⟨b,o,none⟩) G.length cap) ((gS (WF (bn G) (aw G) (lf G) L f false) (aw G n) (aw G n).length (t.add [35,40])).add [41]) v'∧aY w w' p bl v v':=by
 have HC:Hid (HJ G b o W0 p bl bL L Rc rk):=C;have HB:Hid (Ξ W0.heap.size W0 w):=hb;have HXI:Hid _:=(C.hG n kg).ints;have HXS:Hid _:=C.hs n kg;have YB:Hid _:=C.hk n kg;have HSG:Hid (∀k,k<G[n].subs.length→(aw G n).getD k 0=(G[n].subs.getD k 0).toNat):=λk hk=>qo G n kg k hk;have HRC:Hid (∀k,k<G[n].subs.length→Rc (G[n].subs.getD k 0).toNat):=λk hk=>C.rc n Su _ (qp G n kg k hk);have PR:Hid ((aw G n).length=G[n].subs.length):=by show _=_;rw[iU G n kg];simp
 generalize G[n]=x at *;have Yn:Hid (∀k,need (gS (WF (bn G) (aw G) (lf G) L f false) (aw G n) k (t.add [35,40]))≤f):=λk=>zah (uk (λt y=>ia f false t y) _ _ _) hf;have HOV:Hid (∀k,k≤x.subs.length→(gS (WF (bn G) (aw G) (lf G) L f false) (aw G n) k (t.add [35,40])).Ok G.length L):=λk hk=>
  KH (λt y ht hy=>uh aar rX f false t y ht hy) (aw G n) (aar n kg) k _ (by rw[PR.out];exact hk) (ht.add _)
 have hlen:x.subs.length≤20:=by have:=YB.out;unfold aQ at this;rw[zaa (by omega),zaa (by omega),zac k2]at this;simp at this;exact this.1
 have HBX:Hid (cW (w.alloc (.cells #[Γ Δ x.kind,.string ⟨⟨x.text⟩⟩,Γ Δ x.n,Γ Δ x.d,.slice x.sa x.subs.length x.cap] 45)) W0.heap.size p bl bL G.length (.slice (some ⟨b,o,none⟩) G.length cap) t v):=hw.below az;have BU:Hid _:=(⟨hw.lt,hw.bl,hw.YA⟩:p<w.heap.size∧bl<w.heap.size∧∀k,v.ownBlock=some k→k<w.heap.size);have hsz:=hb.size;have hne:=C.pl;have Jq:Hid (∀w' v',aY w w' p bl v v'→Ξ W0.heap.size W0 w'):=λw' v' h=>hb.trans (h.below hsz C.hp C.hl hw.Ss);clear k2 C hb ht hf hw aar rX Su;unfold cZ;go_enter func103,ntmps103;go_wp2_with (go_at_call 99;refine(fJ HBX.out hne (by simp;omega) [35,40]).mono ?_);rintro e w1 ⟨rfl,v1,h1,h2⟩;have r4:=h2.box BU.out.1 BU.out.2.1 BU.out.2.2 4 _ rfl;have H1:Hid (cW w1 W0.heap.size p bl bL G.length (.slice (some ⟨b,o,none⟩) G.length cap) (t.add [35,40]) v1):=h1;have H2:Hid (aY w w1 p bl v v1):=(aY.aA az).trans h2;clear h1 h2;rcases HXI.out with h|⟨sb,so,Fw,hc⟩
 ·have HE0:Hid (x.subs.length=0):=by show _=_;rw[h];rfl
  clear h HXI;go_wp2_with fail;go_loopw [11] (λi wr=>∃(k:Nat) (vk:Φ),k≤x.subs.length∧i=Γ Δ k∧Hid (cW wr W0.heap.size p bl bL G.length (.slice (some ⟨b,o,none⟩) G.length cap) (gS (WF (bn G) (aw G) (lf G) L f false) (aw G n) k (t.add [35,40])) vk)∧Hid (aY w wr p bl v vk)) (λi _=>x.subs.length-(ξ i).toNat)
  case atStart=>exact⟨0,v1,zaw _,rfl,H1.out,H2.out⟩
  case round=>
   obtain⟨k,vk,hk,rfl,Ah,en⟩:=hrel;have HBK:Hid (Ξ W0.heap.size W0 wr):=Jq.out _ _ en.out;have EH:W0.heap.size≤wr.heap.size:=HBK.out.size;by_cases hlt:k<x.subs.length
   ·exfalso;have:=HE0.out;omega
   ·have Vd:k=x.subs.length:=by omega
    go_wp2_with (go_at_call 99;refine(fJ Ah.out hne EH [41]).mono ?_);rintro e w5 ⟨rfl,v5,KP,CO⟩;rw[Vd,←PR.out]at KP;have u7:Hid _:=KP;have Mv:Hid _:=en.out.trans CO;clear KP CO Ah en;go_wp2_with fail
    go_end0
    exact⟨rfl,v5,u7.out,Mv.out⟩
 ·have HCE:Hid (∀w':Θ,Ξ W0.heap.size W0 w'→∀k,k<x.subs.length→w'.cell? ⟨sb,so+k,none⟩=some (Γ Δ (x.subs.getD k 0))):=λw' hb' k hk=>bE hb' (hc k hk);clear hc HXI;rw[Fw]at r4;go_wp2_with fail;go_loopw [11] (λi wr=>∃(k:Nat) (vk:Φ),k≤x.subs.length∧i=Γ Δ k∧Hid (cW wr W0.heap.size p bl bL G.length (.slice (some ⟨b,o,none⟩) G.length cap) (gS (WF (bn G) (aw G) (lf G) L f false) (aw G n) k (t.add [35,40])) vk)∧Hid (aY w wr p bl v vk)) (λi _=>x.subs.length-(ξ i).toNat)
  case atStart=>exact⟨0,v1,zaw _,rfl,H1.out,H2.out⟩
  case round=>
   obtain⟨k,vk,hk,rfl,Ah,en⟩:=hrel;have HBK:Hid (Ξ W0.heap.size W0 wr):=Jq.out _ _ en.out;have EH:W0.heap.size≤wr.heap.size:=HBK.out.size;by_cases hlt:k<x.subs.length
   ·have hcell:=HCE.out _ HBK.out k hlt;have hv:=nK _ _ HXS.out k hlt;have HR:Hid _:=HRC.out k hlt;have HGK:Hid _:=HSG.out k hlt;have BS:Hid _:=HOV.out k hk;have HND:Hid _:=Yn.out k;by_cases NR:k=0
    ·have HST:Hid (gS (WF (bn G) (aw G) (lf G) L f false) (aw G n) (k+1) (t.add [35,40])=WF (bn G) (aw G) (lf G) L f false (gS (WF (bn G) (aw G) (lf G) L f false) (aw G n) k (t.add [35,40])) (x.subs.getD k 0).toNat):=by
      show _=_;rw[←HGK.out];simp only[gS];rw[zac NR]
     generalize gS (WF (bn G) (aw G) (lf G) L f false) (aw G n) k (t.add [35,40])=tk at *;generalize x.subs.getD k 0=sv at *;have hkz:(k:Int)≤0:=by omega
     have tZ:Hid _:=NR;clear NR;go_wp2_with (go_at_call 62;refine(IA.out _ sv _ _ BS.out hv.1 hv.2 HR.out HND.out HBK.out Ah.out).mono ?_);rintro e w4 ⟨rfl,v4,hw4,hk4⟩;rw[←HST.out]at hw4;have BN:Hid _:=hw4;have xV:Hid _:=en.out.trans hk4;clear hw4 hk4 Ah en hcell HBK;go_wp2_with fail;go_roundw
     case rel=>exact⟨k+1,v4,by omega,by go_num,BN,xV⟩
     case measure=>simp[ξ];omega
    ·have HST:Hid (gS (WF (bn G) (aw G) (lf G) L f false) (aw G n) (k+1) (t.add [35,40])=WF (bn G) (aw G) (lf G) L f false ((gS (WF (bn G) (aw G) (lf G) L f false) (aw G n) k (t.add [35,40])).add [32]) (x.subs.getD k 0).toNat):=by
      show _=_;rw[←HGK.out];simp only[gS];rw[zaa NR]
     generalize gS (WF (bn G) (aw G) (lf G) L f false) (aw G n) k (t.add [35,40])=tk at *;generalize x.subs.getD k 0=sv at *;have hkz:(0:Int)<(k:Int):=by omega
     have aeK:Hid _:=BS.out.add [32];have aeL:Hid _:=zah (eD tk [32]) HND.out;go_wp2_with (go_at_call 99;refine(fJ Ah.out hne EH [32]).mono ?_);rintro e w3 ⟨rfl,v3,hw3,hk3⟩;have Bv:Hid _:=hw3;have oy:Hid _:=en.out.trans hk3;have jl:Hid (Ξ W0.heap.size W0 w3):=Jq.out _ _ oy.out;clear hw3 hk3 Ah en hcell HBK;go_wp2_with (go_at_call 62;refine(IA.out _ sv _ _ aeK.out hv.1 hv.2 HR.out aeL.out jl.out Bv.out).mono ?_);rintro e w4 ⟨rfl,v4,hw4,hk4⟩;rw[←HST.out]at hw4;have BN:Hid _:=hw4;have xV:Hid _:=oy.out.trans hk4;clear hw4 hk4;go_wp2_with fail;go_roundw
     case rel=>exact⟨k+1,v4,by omega,by go_num,BN,xV⟩
     case measure=>simp[ξ];omega
   ·have Vd:k=x.subs.length:=by omega
    go_wp2_with (go_at_call 99;refine(fJ Ah.out hne EH [41]).mono ?_);rintro e w5 ⟨rfl,v5,KP,CO⟩;rw[Vd,←PR.out]at KP;have u7:Hid _:=KP;have Mv:Hid _:=en.out.trans CO;clear KP CO Ah en;go_wp2_with fail
    go_end0
    exact⟨rfl,v5,u7.out,Mv.out⟩
end Go.Proofs.YtlhimdjkkiflhaaGreatDoor
namespace Go.Proofs.YtlhimdjkkiflhaaGreatDoor
open Go.RowKit Go.Loop
theorem Sv (l:List Bool)(a:Nat):l.set a (l.getD a false)=l:=by
 apply List.ext_getElem?
 intro i;rw[List.getElem?_set];by_cases e:a=i
 ·subst e;rw[zac rfl];by_cases h:a<l.length
  ·rw[zac h,zaq h];simp[ζ,List.getElem?_eq_getElem h]
  ·rw[zaa h,zcE (by omega)]
 ·rw[zaa e]
end Go.Proofs.YtlhimdjkkiflhaaGreatDoor
namespace Go.Proofs.YtlhimdjkkiflhaaGreatDoor
open Go.Proofs.Tryz
open Go.RowKit Go.Loop
theorem H5:(prog.info? 4).map (λi=>(i.zero,i.size,i.bytes))=some (some (.bool false),1,1):=by kernel_rfl
theorem MH:(prog.info? 3).map (λi=>(i.zero,i.size,i.bytes))=some (some (Γ Δ 0),1,8):=by kernel_rfl
theorem rj (w:Θ):w.drew.heap=w.heap:=rfl
theorem oK (w:Θ)(o:Obj)(k:Nat):(w.alloc o).heap[k]?=if k=w.heap.size then some o else w.heap[k]?:=by
 show(w.heap.push o)[k]?=_;rw[zcc]
theorem vX {w:Θ}{k n:Nat}{t:π}(h:w.heap[k]?=some (.cells (θ #[.bool false] n) t)):iA w k (Λ n false):=by
 intro i hi;rw[List.length_replicate]at hi;have hl:(θ #[Φ.bool false] n)[i]?=some (.bool false):=by
  rw[←zbq,toList_madeCells_one,zcH,zac hi]
 refine⟨?_,?_⟩
 ·unfold Θ.cell?;simp only[h];rw[eX];simpa using hl
 ·unfold Θ.frozen?;simp[h]
theorem CV {w:Θ}{k n:Nat}{t:π}(h:w.heap[k]?=some (.cells (θ #[Γ Δ 0] n) t)):l4 w k (Λ n 0):=by
 intro i hi;rw[List.length_replicate]at hi;have hl:(θ #[Φ.int .i64 0] n)[i]?=some (Γ Δ 0):=by
  rw[←zbq,toList_madeCells_one,zcH,zac hi]
 refine⟨?_,?_⟩
 ·unfold Θ.cell?;simp only[h];rw[eX];simpa using hl
 ·unfold Θ.frozen?;simp[h]
theorem OI {w:Θ}{p bo bm bw n:Nat}{nv:Φ}{t1 t2 t3 t4:π}
 (hp:w.heap[p]?=some (.cells #[nv,.slice (some ⟨bo,0,none⟩) n n,.slice (some ⟨bm,0,none⟩) n n,.slice (some ⟨bw,0,none⟩) n n] t1))
 (ho:w.heap[bo]?=some (.cells (θ #[.bool false] n) t2))(hm:w.heap[bm]?=some (.cells (θ #[Γ Δ 0] n) t3))(hw:w.heap[bw]?=some (.cells (θ #[.bool false] n) t4)):
 fI w p bo bm bw n nv (WS.start n):=by
 refine⟨?_,?_,?_,?_,CV hm,vX hw,vX ho⟩;all_goals (unfold Θ.cell?;simp[hp])
theorem Sw (S:Nat→List Nat)(n:Nat):(WS.start n).Bd S ((WS.start n).vV (λx=>(S x).length)):=by
 intro i;show(Λ n (0:Int)).getD i 0+_≤_;rw[eX];omega
theorem MI (g:Nat→Nat)(M:Nat)(h:∀x,g x≤M):∀(n i:Nat),vU g i (Λ n 0)≤n*M
 |0,_=>by simp[vU]
 |n+1,i=>by
  have:=MI g M h n (i+1);have:=h i;simp only[zcv,vU,if_true];rw[Nat.succ_mul];omega
theorem OJ (S:Nat→List Nat)(M:Nat)(h:∀x,(S x).length≤M)(n:Nat):(WS.start n).vV (λx=>(S x).length)≤n*M:=MI _ M h n 0
theorem mn (G:List Nd)(b o cap:Nat)(w:Θ)(hG:bh w b o G)(hn:G.length≤150)(h1:1≤G.length)(gz:∀x (h:x<G.length),dF G[x].subs G.length=true)(Sx:∀x,(aw G x).length≤20):η prog 27 #[.slice (some ⟨b,o,none⟩) G.length cap] w λe w'=>∃bm bw,e=.returned (.agg #[.slice (some ⟨bm,0,none⟩) G.length G.length,.slice (some ⟨bw,0,none⟩) G.length G.length])∧l4 w' bm (eY (aw G) G.length).met∧iA w' bw (eY (aw G) G.length).wi∧Ξ w.heap.size w w':=by
 have HG:Hid _:=hG;have HS:Hid _:=gz;clear hG gz;have mkb:=run_make_row' (P:=prog) 66 4 (.bool false) 1 underlying66 H5 rfl .i64 .i64 G.length (by omega) (by omega);have mki:=run_make_row' (P:=prog) 43 3 (Γ Δ 0) 8 underlying43 MH rfl .i64 .i64 G.length (by omega) (by omega);go_enter func27,ntmps27
 go_upto_region 1 with fail
 go_cut [3,7,10,13] (λx3 x7 x10 x13 wc=>∃p bo bm bw:Nat,x3=.pointer (some ⟨p,0,none⟩)∧x7=.slice (some ⟨bo,0,none⟩) G.length G.length∧x10=.slice (some ⟨bm,0,none⟩) G.length G.length∧x13=.slice (some ⟨bw,0,none⟩) G.length G.length∧
  Hid (Apart (w.heap.size+1) p bo bm bw∧fI wc p bo bm bw G.length (.slice (some ⟨b,o,none⟩) G.length cap) (WS.start G.length)∧Ξ (w.heap.size+1) (w.alloc (.cells #[.slice none 0 0,.slice none 0 0] 68)) wc))
 case first=>
  go_region;all_goals
   go_wp2_with fail
   go_meet
   case rel=>
    refine⟨_,_,_,_,rfl,rfl,rfl,rfl,?_⟩;refine⟨⟨by omega,by omega,by omega,by omega,by omega,by omega,by omega,by omega,by omega,by omega⟩,OI (t1:=90) (t2:=4) (t3:=3) (t4:=4) ?_ ?_ ?_ ?_,?_⟩
    ·rw[rj];simp only[oK,Θ.size_alloc];repeat' (first|rfl|(exfalso;omega)|split)
    ·rw[rj];simp only[oK,Θ.size_alloc];repeat' (first|rfl|(exfalso;omega)|split)
    ·rw[rj];simp only[oK,Θ.size_alloc];repeat' (first|rfl|(exfalso;omega)|split)
    ·rw[rj];simp only[oK,Θ.size_alloc];repeat' (first|rfl|(exfalso;omega)|split)
    ·exact(((((zad _ _).alloc (by simp) _).alloc (by simp) _).alloc (by simp) _).alloc (by simp) _).drew
 case rest=>
  obtain⟨p,bo,bm,bw,rfl,rfl,rfl,rfl,hcu⟩:=hcut;have hbx:bh (w.alloc (.cells #[.slice none 0 0,.slice none 0 0] 68)) b o G:=bh.below HG.out az;have hsz:(w.alloc (.cells #[.slice none 0 0,.slice none 0 0] 68)).heap.size=w.heap.size+1:=Θ.size_alloc ..;have HA:Hid (Apart (w.alloc (.cells #[.slice none 0 0,.slice none 0 0] 68)).heap.size p bo bm bw):=by show Apart _ _ _ _ _;rw[hsz];exact hcu.out.1
  have HW:Hid (fI wc p bo bm bw G.length (.slice (some ⟨b,o,none⟩) G.length cap) (WS.start G.length)):=hcu.out.2.1;have HB:Hid (Ξ (w.alloc (.cells #[.slice none 0 0,.slice none 0 0] 68)).heap.size (w.alloc (.cells #[.slice none 0 0,.slice none 0 0] 68)) wc):=by show Ξ _ _ _;rw[hsz];exact hcu.out.2.2
  have HX:Hid (bh (w.alloc (.cells #[.slice none 0 0,.slice none 0 0] 68)) b o G):=hbx;have aeM:=OJ (aw G) 20 Sx G.length;have HP:Hid ((WS.start G.length).vV (λx=>(aw G x).length)+1≤1000000):=by show _≤_;omega
  have YC:Hid (∀x (h:x<G.length),dF G[x].subs G.length=true):=HS.out;clear hcu hbx mkb mki aeM Sx HS;go_wp2_with fail;refine(Sr G b o cap _ HX hn YC p bo bm bw HA.out (G.length+1) (WS.start G.length) 0 wc _
   (lK _) (by omega) (by omega) (by show vU (λ_=>1) 0 (Λ G.length 0)<_;rw[Hs];omega) (Sw _ _) HP.out HB.out HW.out).mono ?_
  rintro e w2 ⟨rfl,hw2,hb2⟩;obtain⟨hcell,P6⟩:=CU hb2;have iu:Hid _:=hb2;have Bu:Hid _:=hw2;obtain⟨q0,q1,q2,q3,_,_,_⟩:=hw2;clear hb2 q0 q1;go_wp2_with fail;refine zak (by simp[results,results27,go_sem,hcell];rfl) rfl ?_;have a1:=HA.out.hm;have a2:=HA.out.hw;rw[hsz]at a1 a2;have b1:(⟨w.heap.size,0,none⟩:Addr).block≠bm:=by show w.heap.size≠bm;omega
  have b2:(⟨w.heap.size,0,none⟩:Addr).block≠bw:=by show w.heap.size≠bw;omega
  have b3:(⟨w.heap.size,1,none⟩:Addr).block≠bm:=by show w.heap.size≠bm;omega
  have b4:(⟨w.heap.size,1,none⟩:Addr).block≠bw:=by show w.heap.size≠bw;omega
  have PL:Ξ w.heap.size w w2:=az.trans (iu.out.mono (by simp));exact⟨bm,bw,rfl,(Bu.out.rm.far b1 _).far b3 _,(Bu.out.rw.far b2 _).far b4 _,(PL.setCell (zab _) _).setCell (zab _) _⟩
end Go.Proofs.YtlhimdjkkiflhaaGreatDoor
namespace Go.Proofs.YtlhimdjkkiflhaaGreatDoor
open Go.RowKit Go.Loop
def mJ (G:List Nd)(mode:Int)(i:Nat):Bool:=
 if mode=1 then(eY (aw G) G.length).wi.getD i false
 else if mode=2 then decide (1<(eY (aw G) G.length).met.getD i 0)&&decide (1≤bn G i∧bn G i≤3)else false
def kC (G:List Nd):Bool:=(List.range G.length).any λi=>(eY (aw G) G.length).wi.getD i false
def cL (n:Nat):TS:=⟨Λ n (-1),0,[],false⟩
def cV (G:List Nd)(mode:Int)(F:Nat):TS:=WF (bn G) (aw G) (lf G) (mJ G mode) F false (cL G.length) 0
def cK (G:List Nd)(mode:Int)(F:Nat):List UInt8×Int:=
 if mode<0∨2<mode then([],1)else if cJ G=false then([],8)else if mode=0∧kC G=true then([],9)else if(cV G mode F).long=true then([],2)else((cV G mode F).out,0)
theorem CW (n:Nat)(L:Nat→Bool):(cL n).Ok n L:=
 ⟨by simp[cL],λ_=>by simp[cL],λi=>by show -1≤(Λ n (-1:Int)).getD i (-1)∧(Λ n (-1:Int)).getD i (-1)<_;rw[eX];simp[cL],λi hi=>by
   change 0≤(Λ n (-1:Int)).getD i (-1)at hi;rw[eX]at hi;omega,λ_=>by simp[cL],by simp[cL]⟩
theorem ki (G:List Nd)(h:cJ G=true):1≤G.length∧G.length≤150∧(∀x (hx:x<G.length),aQ G[x]=true)∧(∀x (hx:x<G.length),dF G[x].subs G.length=true)∧(∀x,(aw G x).length≤20):=by
 unfold cJ at h;simp only[zaj,zaQ]at h;obtain⟨⟨h1,h2⟩,h3⟩:=h;have hk:∀x (hx:x<G.length),aQ G[x]=true∧dF G[x].subs G.length=true:=λx hx=>by
  have:=zaI.1 h3 G[x] (zbd hx);simpa using this
 refine⟨h1,h2,λx hx=>(hk x hx).1,λx hx=>(hk x hx).2,λx=>?_⟩;by_cases hx:x<G.length
 ·rw[iU G x hx,zbx];have hb:=(hk x hx).1;unfold aQ at hb;by_cases k0:G[x].kind=0
  ·rw[zac k0]at hb;simp at hb;rw[hb.2.2.2];simp
  rw[zaa k0]at hb;by_cases k1:G[x].kind=1
  ·rw[zac k1]at hb;simp at hb;omega
  rw[zaa k1]at hb;by_cases k2:G[x].kind=2
  ·rw[zac k2]at hb;simp at hb;omega
  rw[zaa k2]at hb;by_cases k3:G[x].kind=3
  ·rw[zac k3]at hb;simp at hb;rw[hb.2.2.2];simp
  rw[zaa k3]at hb;by_cases k4:G[x].kind=4
  ·rw[zac k4]at hb;simp at hb;rw[hb.1.2.2];simp
  rw[zaa k4]at hb;by_cases k5:G[x].kind=5
  ·rw[zac k5]at hb;simp at hb;rw[hb.2.2];simp
  rw[zaa k5]at hb;by_cases k6:G[x].kind=6
  ·rw[zac k6]at hb;simp at hb;rw[hb.2.2.2];simp
  rw[zaa k6]at hb;by_cases k7:G[x].kind=7
  ·rw[zac k7]at hb;simp at hb;rw[hb.2.2.2];simp
  rw[zaa k7]at hb;exact absurd hb (by simp)
 ·unfold aw;rw[zcE (by omega)];simp
theorem kQ {a a':List UInt8}{n n':Int}(h1:a=a')(h2:n=n'):Ending.returned (.tuple #[.string ⟨⟨a⟩⟩,Γ Δ n])=.returned (.tuple #[.string ⟨⟨a'⟩⟩,Γ Δ n']):=by rw[h1,h2]
end Go.Proofs.YtlhimdjkkiflhaaGreatDoor
namespace Go.Proofs.YtlhimdjkkiflhaaGreatDoor
open Go.Proofs.Tryz
open Go.RowKit Go.Loop
theorem KQ {K:Nat→Int}{S:Nat→List Nat}{At:Nat→List UInt8}{L:Nat→Bool}{g m:Nat}{t:TS}(ho:t.long=false→t.out.length≤400)(hg:need t≤g)(hk:K m=1)(hL:L m=false):∃g',g'≤g∧need (t.add [32])≤g'∧WF K S At L g true t m=WF K S At L g' true (WF K S At L g' false (t.add [32]) ((S m).getD 0 0)) ((S m).getD 1 0):=by
 cases hl:t.long
 ·have h1:=ui hl (ho hl) (p:=[32]) (by simp);have h2:=uj (t.add [32]);obtain⟨g',rfl⟩:∃g',g=g'+1:=⟨g-1,by omega⟩;refine⟨g',by omega,by omega,?_⟩
  conv=>lhs;rw[WF]
  rw[zac ⟨hk,hL⟩]
 ·refine⟨g,zab _,by rw[dH hl];exact hg,?_⟩;rw[dH hl,kP g true t m hl,kP g false t _ hl,kP g true t _ hl]
theorem Sy {K:Nat→Int}{S:Nat→List Nat}{At:Nat→List UInt8}{L:Nat→Bool}{g m:Nat}{t:TS}(ho:t.long=false→t.out.length≤400)(hg:need t≤g)(hn:¬(K m=1∧L m=false))(hk:K m≠0):∃g',g'≤g∧need (t.add [32,46,32])≤g'∧WF K S At L g true t m=(WF K S At L g' false (t.add [32,46,32]) m).add [41]:=by
 cases hl:t.long
 ·have h1:=ui hl (ho hl) (p:=[32,46,32]) (by simp);have h2:=uj (t.add [32,46,32]);obtain⟨g',rfl⟩:∃g',g=g'+1:=⟨g-1,by omega⟩;refine⟨g',by omega,by omega,?_⟩
  conv=>lhs;rw[WF]
  rw[zaa hn,zaa hk]
 ·refine⟨g,zab _,by rw[dH hl];exact hg,?_⟩;rw[dH hl,kP g true t m hl,kP g false t _ hl,dH hl]
theorem SB {K:Nat→Int}{S:Nat→List Nat}{At:Nat→List UInt8}{L:Nat→Bool}{g m:Nat}{t:TS}(hg:need t≤g)(hk:K m=0):WF K S At L g true t m=t.add [41]:=by
 have h2:=uj t;obtain⟨g',rfl⟩:∃g',g=g'+1:=⟨g-1,by omega⟩;rw[WF,zaa (by omega),zac hk]
def EI (K:Nat→Int)(L:Nat→Bool)(rk:Nat→Nat)(m:Nat):Nat:=if K m=1∧L m=false then rk m+1 else 0
theorem OL {K:Nat→Int}{L:Nat→Bool}{rk:Nat→Nat}{m z:Nat}(hm:K m=1∧L m=false)(h:K z=1→L z=false→rk z<rk m):EI K L rk z<EI K L rk m:=by
 unfold EI;rw[zac hm];split
 ·rename_i hz;have:=h hz.1 hz.2;omega
 ·omega
theorem cW.cells {w:Θ}{B p bl bL n:Nat}{nv:Φ}{t:TS}{v:Φ}(h:cW w B p bl bL n nv t v):w.cell? ⟨p,0,none⟩=some nv∧w.cell? ⟨p,1,none⟩=some (.slice (some ⟨bL,0,none⟩) n n)∧w.cell? ⟨p,2,none⟩=some (.slice (some ⟨bl,0,none⟩) n n)∧w.cell? ⟨p,6,none⟩=some (.bool t.long):=by
 obtain⟨q,hq,hb⟩:=h.blk;exact⟨zbt hb 0,zbt hb 1,zbt hb 2,zbt hb 6⟩
theorem CX (G:List Nd)(b o cap:Nat)(W0:Θ)(p bl bL:Nat)(L:Nat→Bool)(Rc:Nat→Prop)(rk:Nat→Nat)(C:HJ G b o W0 p bl bL L Rc rk)(f:Nat)(IA:Hid (∀g,g≤f→HY G b o cap W0 p bl bL L Rc g))
 (n:Nat)(kg:n<G.length)(Su:Rc n)(k1:G[n].kind=1)(t:TS)(w:Θ)(v:Φ)(ht:t.Ok G.length L)(hf:need (t.add [40])≤f)(hb:Ξ W0.heap.size W0 w)
 (hw:cW w W0.heap.size p bl bL G.length (.slice (some ⟨b,o,none⟩) G.length cap) t v):
 η prog 102 #[.pointer (some ⟨p,0,none⟩),cZ G[n]] w λe w'=>e=.returned (.tuple #[])∧
  ∃v',cW w' W0.heap.size p bl bL G.length (.slice (some ⟨b,o,none⟩) G.length cap) (WF (bn G) (aw G) (lf G) L f true (WF (bn G) (aw G) (lf G) L f false (t.add [40]) ((aw G n).getD 0 0)) ((aw G n).getD 1 0)) v'∧aY w w' p bl v v':=by
 have HC:Hid (HJ G b o W0 p bl bL L Rc rk):=C;have OM:Hid (∀y,y<G.length→∀z∈aw G y,z<G.length):=j9 G C.hs;have YD:Hid (∀y,y<G.length→bn G y=1→(aw G y).length=2):=λy hy hk=>Ai G y hy (C.hk y hy) hk;have hl2:G[n].subs.length=2:=by have:=YD.out n kg (by rw[lN G n kg];exact k1);rw[iU G n kg]at this;simpa using this
 have HXS:Hid _:=C.hs n kg;have hs0:=qo G n kg 0 (by omega);have hs1:=qo G n kg 1 (by omega);have hv0:=nK _ _ HXS.out 0 (by omega);have Mi:=nK _ _ HXS.out 1 (by omega);have sR:Hid _:=C.rc n Su _ (qp G n kg 0 (by omega));have ou:Hid _:=C.rc n Su _ (qp G n kg 1 (by omega));have WY:Hid (∀y,y=(G[n].subs.getD 1 0).toNat→bn G y=1→L y=false→rk y<rk n):=λy hy=>by subst hy;exact C.rr n Su _ (qp G n kg 1 (by omega))
 have HXI:Hid _:=(C.hG n kg).ints;rw[hs0,hs1];clear hs0 hs1;generalize G[n]=x at *;have HBX:Hid (cW (w.alloc (.cells #[Γ Δ x.kind,.string ⟨⟨x.text⟩⟩,Γ Δ x.n,Γ Δ x.d,.slice x.sa x.subs.length x.cap] 45)) W0.heap.size p bl bL G.length (.slice (some ⟨b,o,none⟩) G.length cap) t v):=hw.below az;have BU:Hid _:=(⟨hw.lt,hw.bl,hw.YA⟩:p<w.heap.size∧bl<w.heap.size∧∀k,v.ownBlock=some k→k<w.heap.size);have hsz:=hb.size;have hne:=C.pl;have Jq:Hid (∀w' v',aY w w' p bl v v'→Ξ W0.heap.size W0 w'):=λw' v' h=>hb.trans (h.below hsz C.hp C.hl hw.Ss);have HF:Hid (need (t.add [40])≤f):=hf;have HT:Hid ((t.add [40]).Ok G.length L):=ht.add _;clear k1 C hb ht hf hw Su;rcases HXI.out with h|⟨sb,so,Fw,hc⟩
 ·exfalso;rw[h]at hl2;simp at hl2
 have HCE:Hid (∀w':Θ,Ξ W0.heap.size W0 w'→∀k,k<x.subs.length→w'.cell? ⟨sb,so+k,none⟩=some (Γ Δ (x.subs.getD k 0))):=λw' hb' k hk=>bE hb' (hc k hk);have HC0:Hid (∀w':Θ,Ξ W0.heap.size W0 w'→w'.cell? ⟨sb,so,none⟩=some (Γ Δ (x.subs.getD 0 0))):=λw' hb'=>HCE.out w' hb' 0 (by omega);have HC1:Hid (∀w':Θ,Ξ W0.heap.size W0 w'→w'.cell? ⟨sb,so+1,none⟩=some (Γ Δ (x.subs.getD 1 0))):=λw' hb'=>HCE.out w' hb' 1 (by omega);clear hc HXI HCE;rw[hl2,Fw]at HBX;generalize x.subs.getD 0 0=s0 at *;generalize x.subs.getD 1 0=s1 at *;obtain⟨m1,rfl⟩:=zbD Mi.1;rw[zbp]at ou ⊢;obtain⟨t1,oo⟩:∃t1,Hid (t1=WF (bn G) (aw G) (lf G) L f false (t.add [40]) s0.toNat):=⟨_,rfl⟩;rw[←oo.out];unfold cZ;rw[hl2,Fw];go_enter func102,ntmps102;go_wp2_with (go_at_call 99;refine(fJ HBX.out hne (by simp;omega) [40]).mono ?_);rintro e w1 ⟨rfl,v1,h1,h2⟩;have r4:w1.cell? ⟨w.heap.size,4,none⟩=some (.slice (some ⟨sb,so,none⟩) 2 x.cap):=h2.box BU.out.1 BU.out.2.1 BU.out.2.2 4 _ rfl;have HA2:Hid _:=h2;have H1:Hid _:=h1;have H2:Hid (aY w w1 p bl v v1):=(aY.aA az).trans h2;have je:Hid (Ξ W0.heap.size W0 w1):=Jq.out _ _ H2.out;have q0:=HC0.out _ je.out;clear h1 h2;go_wp2_with (go_at_call 62;refine(IA.out f (zab _) _ s0 _ _ HT.out hv0.1 hv0.2 sR.out HF.out je.out H1.out).mono ?_);rintro e w2 ⟨rfl,v2,h3,h4⟩;rw[←oo.out]at h3;have r4':w2.cell? ⟨w.heap.size,4,none⟩=some (.slice (some ⟨sb,so,none⟩) 2 x.cap):=(HA2.out.trans h4).box BU.out.1 BU.out.2.1 BU.out.2.2 4 _ rfl;have H3:Hid _:=h3;have H4:Hid (aY w w2 p bl v v2):=H2.out.trans h4;have iu:Hid (Ξ W0.heap.size W0 w2):=Jq.out _ _ H4.out;have q1:=HC1.out _ iu.out;clear h3 h4 r4 q0;have MJ:Hid ((WF (bn G) (aw G) (lf G) L f false (t.add [40]) s0.toNat).Ok G.length L):=uh OM.out YD.out f false _ _ HT.out (by omega);have HN1:Hid (need (WF (bn G) (aw G) (lf G) L f false (t.add [40]) s0.toNat)≤f):=zah (ia f false _ _) HF.out;rw[←oo.out]at MJ HN1;have VJ:m1<G.length:=by omega
 go_wp2_with fail;go_loopw [4] (λi wr=>∃(m g:Nat) (tk:TS) (vk:Φ),m<G.length∧i=Γ Δ m∧Hid (Rc m)∧g≤f∧Hid (need tk≤g)∧Hid (tk.Ok G.length L)∧Hid (WF (bn G) (aw G) (lf G) L f true t1 m1=WF (bn G) (aw G) (lf G) L g true tk m)∧
  Hid (cW wr W0.heap.size p bl bL G.length (.slice (some ⟨b,o,none⟩) G.length cap) tk vk)∧Hid (aY w wr p bl v vk)) (λi _=>EI (bn G) L rk (ξ i).toNat)
 case atStart=>exact⟨m1,f,t1,v2,VJ,rfl,ou.out,zab _,HN1.out,MJ.out,rfl,H3.out,H4.out⟩
 case round=>
  obtain⟨m,g,tk,vk,hm,rfl,HRm,hgf,HNm,HTm,HEm,HWm,HKm⟩:=hrel;have HBm:Hid (Ξ W0.heap.size W0 wr):=Jq.out _ _ HKm.out;have EH:W0.heap.size≤wr.heap.size:=HBm.out.size;obtain⟨y0,y1,y2,y3,y4,yi,yt,ys⟩:=(HC.out.hG m hm).below HBm.out;have MK:Hid _:=lN G m hm;have HLm:Hid (∀w',Ξ W0.heap.size W0 w'→w'.cell? ⟨bL,m,none⟩=some (.bool (L m))):=λw' hb'=>bE hb' (HC.out.hL m hm);have Ve:=HLm.out _ HBm.out;obtain⟨c0,c1,c2,c6⟩:=HWm.out.cells;have YB:Hid _:=HC.out.hk m hm;have WZ:Hid _:=HC.out.hs m hm;have aas:Hid _:=qo G m hm 0;have aat:Hid _:=qo G m hm 1;have HMM:Hid _:=qp G m hm;have HL2:Hid (bn G m=1→G[m].subs.length=2):=λhk=>by have:=YD.out m hm hk;rw[iU G m hm]at this;simpa using this
  have HIN:Hid _:=(HC.out.hG m hm).ints;have HY4:Hid (∀w',Ξ W0.heap.size W0 w'→w'.cell? ⟨b,o+m*5+4,none⟩=some (.slice G[m].sa G[m].subs.length G[m].cap)):=λw' hb'=>bE hb' (HC.out.hG m hm).subs;generalize G[m]=y at *;clear yi yt ys y1 y2 y3 c2 c6;by_cases OO:y.kind=1∧L m=false
  ·have hb1:(y.kind==1)=true:=by rw[zaJ];exact OO.1
   have hLm:=OO.2;rw[hLm]at Ve;obtain⟨g',uZ,SC,hE⟩:=KQ (K:=bn G) (S:=aw G) (At:=lf G) (L:=L) (m:=m) HTm.out.lo HNm.out (by rw[MK.out];exact OO.1) OO.2;have hy2:=HL2.out (by rw[MK.out];exact OO.1);rcases HIN.out with h|⟨yb,yo,hya,NB⟩
   ·exfalso;rw[h]at hy2;simp at hy2
   have aeN:Hid (∀w':Θ,Ξ W0.heap.size W0 w'→w'.cell? ⟨yb,yo,none⟩=some (Γ Δ (y.subs.getD 0 0))):=λw' hb'=>bE hb' (NB 0 (by omega));have aeO:Hid (∀w':Θ,Ξ W0.heap.size W0 w'→w'.cell? ⟨yb,yo+1,none⟩=some (Γ Δ (y.subs.getD 1 0))):=λw' hb'=>bE hb' (NB 1 (by omega));rw[aas.out (by omega),aat.out (by omega)]at hE;have hz0:=nK _ _ WZ.out 0 (by omega);have hz1:=nK _ _ WZ.out 1 (by omega);have aeP:Hid _:=HC.out.rc m HRm.out _ (HMM.out 0 (by omega));have acM:Hid _:=HC.out.rc m HRm.out _ (HMM.out 1 (by omega));have HRk:Hid _:=OL (K:=bn G) ⟨by rw[MK.out];exact OO.1,OO.2⟩ (HC.out.rr m HRm.out _ (HMM.out 1 (by omega)));have HE:Hid _:=hE;have HNG:Hid _:=SC;rw[hy2,hya]at HY4 y4;clear NB HIN WZ aas aat HMM HL2 YB OO hE SC hLm;generalize y.subs.getD 0 0=z0 at *;generalize y.subs.getD 1 0=z1 at *;go_wp2_with (go_at_call 99;refine(fJ HWm.out hne EH [32]).mono ?_);rintro e w3 ⟨rfl,v3,hw3,hk3⟩;have Bv:Hid _:=hw3;have oy:Hid (aY w w3 p bl v v3):=HKm.out.trans hk3;have jl:Hid (Ξ W0.heap.size W0 w3):=Jq.out _ _ oy.out;obtain⟨d0,d1,d2,d6⟩:=hw3.cells;have d4:=HY4.out _ jl.out;have d5:=aeN.out _ jl.out;have SD:Hid _:=HTm.out.add [32];clear hw3 hk3 d1 d2 d6 c0 c1 y0 y4 Ve;go_wp2_with (go_at_call 62;refine(IA.out g' (by omega) _ z0 _ _ SD.out hz0.1 hz0.2 aeP.out HNG.out jl.out Bv.out).mono ?_);rintro e w4 ⟨rfl,v4,hw4,hk4⟩;have BN:Hid _:=hw4;have xV:Hid (aY w w4 p bl v v4):=oy.out.trans hk4;have oB:Hid (Ξ W0.heap.size W0 w4):=Jq.out _ _ xV.out;obtain⟨e0,e1,e2,e6⟩:=hw4.cells;have e4:=HY4.out _ oB.out;have e5:=aeO.out _ oB.out;have aeQ:Hid _:=uh (At:=lf G) OM.out YD.out g' false _ _ SD.out (show z0.toNat<G.length by omega);have HN4:Hid _:=zah (ia (K:=bn G) (S:=aw G) (At:=lf G) (L:=L) g' false (tk.add [32]) z0.toNat) HNG.out;clear hw4 hk4 e1 e2 e6 d0 d4 d5;obtain⟨mz,rfl⟩:=zbD hz1.1;rw[zbp]at HE acM HRk;go_wp2_with fail;go_roundw
   case rel=>exact⟨mz,g',_,v4,by omega,rfl,acM,by omega,HN4,aeQ,by show _=_;rw[HEm.out];exact HE.out,BN,xV⟩
   case measure=>exact HRk.out
  ·have HPR:Hid (¬(bn G m=1∧L m=false)):=by rw[MK.out];exact OO
   clear HIN WZ aas aat HMM HL2 YB HY4 y4;by_cases k0:y.kind=0
   ·have hb0:(y.kind==0)=true:=by rw[zaJ];exact k0
    have hb1:(y.kind==1)=false:=by rw[zai];omega
    have HE:Hid _:=SB (K:=bn G) (S:=aw G) (At:=lf G) (L:=L) (m:=m) HNm.out (by rw[MK.out];exact k0);clear k0 OO Ve c1;go_wp2_with (go_at_call 99;refine(fJ HWm.out hne EH [41]).mono ?_);rintro e w3 ⟨rfl,v3,hw3,hk3⟩;rw[←HE.out,←HEm.out]at hw3;have Bv:Hid _:=hw3;have oy:Hid (aY w w3 p bl v v3):=HKm.out.trans hk3;clear hw3 hk3;go_wp2_with fail
    go_end0
    exact⟨rfl,v3,Bv.out,oy.out⟩
   ·have hb0:(y.kind==0)=false:=by rw[zai];exact k0
    obtain⟨g',uZ,SC,hE⟩:=Sy (K:=bn G) (S:=aw G) (At:=lf G) (L:=L) (m:=m) HTm.out.lo HNm.out HPR.out (by rw[MK.out];exact k0);have HE:Hid _:=hE;have HNG:Hid _:=SC;have SD:Hid _:=HTm.out.add [32,46,32];clear hE SC k0;by_cases k1:y.kind=1
    ·have hb1:(y.kind==1)=true:=by rw[zaJ];exact k1
     have hLm:L m=true:=by cases h:L m;exact absurd ⟨k1,h⟩ OO;rfl
     rw[hLm]at Ve;clear k1 OO hLm;go_wp2_with (go_at_call 99;refine(fJ HWm.out hne EH [32,46,32]).mono ?_);rintro e w3 ⟨rfl,v3,hw3,hk3⟩;have Bv:Hid _:=hw3;have oy:Hid (aY w w3 p bl v v3):=HKm.out.trans hk3;have jl:Hid (Ξ W0.heap.size W0 w3):=Jq.out _ _ oy.out;clear hw3 hk3;go_wp2_with (go_at_call 62;refine(IA.out g' (by omega) _ (m:Int) _ _ SD.out (by omega) (by omega) (by rw[zbp];exact HRm.out) HNG.out jl.out Bv.out).mono ?_);rintro e w4 ⟨rfl,v4,hw4,hk4⟩;rw[zbp]at hw4;have BN:Hid _:=hw4;have xV:Hid (aY w w4 p bl v v4):=oy.out.trans hk4;have aau:W0.heap.size≤w4.heap.size:=(Jq.out _ _ xV.out).size;clear hw4 hk4;go_wp2_with (go_at_call 99;refine(fJ BN.out hne aau [41]).mono ?_);rintro e w5 ⟨rfl,v5,KP,CO⟩;rw[←HE.out,←HEm.out]at KP;have u7:Hid _:=KP;have Mv:Hid (aY w w5 p bl v v5):=xV.out.trans CO;clear KP CO;go_wp2_with fail
     go_end0
     exact⟨rfl,v5,u7.out,Mv.out⟩
    ·have hb1:(y.kind==1)=false:=by rw[zai];exact k1
     clear k1 OO Ve c1;go_wp2_with (go_at_call 99;refine(fJ HWm.out hne EH [32,46,32]).mono ?_);rintro e w3 ⟨rfl,v3,hw3,hk3⟩;have Bv:Hid _:=hw3;have oy:Hid (aY w w3 p bl v v3):=HKm.out.trans hk3;have jl:Hid (Ξ W0.heap.size W0 w3):=Jq.out _ _ oy.out;clear hw3 hk3;go_wp2_with (go_at_call 62;refine(IA.out g' (by omega) _ (m:Int) _ _ SD.out (by omega) (by omega) (by rw[zbp];exact HRm.out) HNG.out jl.out Bv.out).mono ?_);rintro e w4 ⟨rfl,v4,hw4,hk4⟩;rw[zbp]at hw4;have BN:Hid _:=hw4;have xV:Hid (aY w w4 p bl v v4):=oy.out.trans hk4;have aau:W0.heap.size≤w4.heap.size:=(Jq.out _ _ xV.out).size;clear hw4 hk4;go_wp2_with (go_at_call 99;refine(fJ BN.out hne aau [41]).mono ?_);rintro e w5 ⟨rfl,v5,KP,CO⟩;rw[←HE.out,←HEm.out]at KP;have u7:Hid _:=KP;have Mv:Hid (aY w w5 p bl v v5):=xV.out.trans CO;clear KP CO;go_wp2_with fail
     go_end0
     exact⟨rfl,v5,u7.out,Mv.out⟩
theorem H6 (x:Nd)(w:Θ)(hb:aQ x=true)(h1:x.kind≠1)(h2:x.kind≠2)(hp:Pow w):η prog 104 #[cZ x] w λe w'=>e=.returned (.string ⟨⟨fw x⟩⟩)∧Ξ w.heap.size w w':=by
 have hk:x.kind=0∨x.kind=3∨x.kind=4∨x.kind=5∨x.kind=6∨x.kind=7:=by
  by_cases h:x.kind<0∨7<x.kind
  ·unfold aQ at hb;rw[zaa (by omega),zaa (by omega),zaa (by omega),zaa (by omega),zaa (by omega),zaa (by omega),zaa (by omega),zaa (by omega)]at hb;exact absurd hb (by simp)
  ·omega
 rcases hk with h|h|h|h|h|h
 ·exact aal x w h
 ·have:x.text.length≤400:=by
   unfold aQ at hb;rw[zaa (by omega),zaa (by omega),zaa (by omega),zac h]at hb;simp at hb;exact hb.1
  exact aam x w this h
 ·exact aan x w h
 ·have:xx x.n x.d=true:=by
   unfold aQ at hb;rw[zaa (by omega),zaa (by omega),zaa (by omega),zaa (by omega),zaa (by omega),zac h]at hb;simp at hb;exact hb.1
  unfold xx at this;simp at this;exact aao x w (by omega) (by omega) (by omega) (by omega) hp h
 ·exact aap x w h
 ·have:tL x.n=true:=by
   unfold aQ at hb;rw[zaa (by omega),zaa (by omega),zaa (by omega),zaa (by omega),zaa (by omega),zaa (by omega),zaa (by omega),zac h]at hb;simp at hb;exact hb.1
  exact aaq x w this h
theorem OP (G:List Nd)(b o cap:Nat)(W0:Θ)(p bl bL:Nat)(L:Nat→Bool)(Rc:Nat→Prop)(rk:Nat→Nat)(C:HJ G b o W0 p bl bL L Rc rk)(f:Nat)(IA:Hid (∀g,g≤f→HY G b o cap W0 p bl bL L Rc g)):HY G b o cap W0 p bl bL L Rc (f+1):=by
 intro t a w v ht ha0 ha Su hf hb hw;obtain⟨n,rfl⟩:=zbD ha0;rw[zbp]at Su ⊢;have kg:n<G.length:=by omega
 have HC:Hid (HJ G b o W0 p bl bL L Rc rk):=C;have HT:Hid (t.Ok G.length L):=ht;have HB:Hid (Ξ W0.heap.size W0 w):=hb;have HW:Hid (cW w W0.heap.size p bl bL G.length (.slice (some ⟨b,o,none⟩) G.length cap) t v):=hw;have HF:Hid (need t≤f+1):=hf;have HR:Hid (Rc n):=Su;obtain⟨c0,c1,c2,c6⟩:=hw.cells;obtain⟨hlc,_⟩:=hw.rl n (by rw[ht.ll];exact kg);have Ve:=bE hb (C.hL n kg);have hsz:=hb.size;have hne:=C.pl;have Jq:Hid (∀w' v',aY w w' p bl v v'→Ξ W0.heap.size W0 w'):=λw' v' h=>hb.trans (h.below hsz C.hp C.hl hw.Ss);have HPW:Hid (∀w',Ξ W0.heap.size W0 w'→Pow w'):=λw' h=>C.pw.on h;have hg:t.eG.getD n 0=t.eG.getD n (-1):=by
  have:=ht.ll;simp[ζ,List.getElem?_eq_getElem (show n<t.eG.length by omega)]
 rw[hg]at hlc;have BB:=ht.n2;have hln:=ht.ln n;clear C ht hb hw hf Su hg;cases dZ:t.long
 ·rw[dZ]at c6;by_cases Kv:0≤t.eG.getD n (-1)
  ·have HV:Hid (WF (bn G) (aw G) (lf G) L (f+1) false t n=t.add (35::(Ω (t.eG.getD n (-1))++[35]))):=by
    show _=_;simp only[WF];rw[zaa (by simp[dZ]),zac Kv]
   generalize t.eG.getD n (-1)=lv at *;have hil:=um lv (by omega) (by omega);have ks:=ri;have RD:(lv==-1)=false:=by rw[zai];omega
   go_enter func62,ntmps62;go_wp2_with fail;refine(qm lv _ (by omega) (by omega) (HPW.out _ HB.out)).mono ?_;rintro e w1 ⟨rfl,hb1⟩;have OH:Hid _:=HW.out.below hb1;have CN:Hid (aY w w1 p bl v v):=aY.aA hb1;have hs1:=zah hsz hb1.size;clear hb1 Ve hlc c0 c1 c2 c6;go_wp2_with fail;refine(fJ OH.out hne hs1 (35::(Ω lv++[35]))).mono ?_;rintro e w2 ⟨rfl,v2,hw2,hk2⟩;rw[←HV.out]at hw2;have Bu:Hid _:=hw2;have rM:Hid (aY w w2 p bl v v2):=CN.out.trans hk2;clear hw2 hk2;go_wp2_with fail;refine zak (results_none rfl _ _ _) rfl ?_;exact⟨rfl,v2,Bu.out,rM.out⟩
  ·have aeR:Hid (¬0≤t.eG.getD n (-1)):=Kv;have hlv:t.eG.getD n (-1)=-1:=by omega
   rw[hlv]at hlc;obtain⟨t1,oo⟩:∃t1,Hid (t1=if L n then t.put n else t):=⟨_,rfl⟩;have MJ:Hid (t1.Ok G.length L):=by
    show t1.Ok _ _;rw[oo.out];split
    ·rename_i e;exact HT.out.put kg e dZ
    ·exact HT.out
   have SE:Hid (∀q:List UInt8,1≤q.length→need (t1.add q)≤f):=by
    intro q hq;have ho:=HT.out.lo dZ;have h1:=HF.out;rw[oo.out];split
    ·have h2:=Hz dZ ho n;have h3:=eD (t.put n) q;omega
    ·have h2:=ui dZ ho hq;omega
   have HWF:Hid (WF (bn G) (aw G) (lf G) L (f+1) false t n=
    if bn G n=1 then WF (bn G) (aw G) (lf G) L f true (WF (bn G) (aw G) (lf G) L f false (t1.add [40]) ((aw G n).getD 0 0)) ((aw G n).getD 1 0)
    else if bn G n=2 then(gS (WF (bn G) (aw G) (lf G) L f false) (aw G n) (aw G n).length (t1.add [35,40])).add [41]
    else t1.add (lf G n)):=by
    show _=_;rw[oo.out];simp only[WF];rw[zaa (by simp[dZ]),zaa (by have:=aeR.out;omega)]
   clear Kv hlv hln;cases hL:L n
   ·have HL0:Hid (t=t1):=by show _=_;rw[oo.out,hL];rfl
    rw[hL]at Ve;have OH:Hid (cW w W0.heap.size p bl bL G.length (.slice (some ⟨b,o,none⟩) G.length cap) t1 v):=by rw[←HL0.out];exact HW.out
    obtain⟨v1,Mi⟩:∃v1,v1=v:=⟨v,rfl⟩;have CN:Hid (aY w w p bl v v1):=by rw[Mi];exact aY.refl _ _ _ _
    rw[←Mi]at OH;clear Mi;go_enter func62,ntmps62;have W9:Hid (Ξ W0.heap.size W0 w):=Jq.out _ _ CN.out;obtain⟨x0,x1,x2,x3,x4,xi,xt,xs⟩:=(HC.out.hG n kg).below W9.out;have YB:Hid _:=HC.out.hk n kg;have MK:Hid _:=lN G n kg;have HAN:Hid _:=KN G n kg;have Xa:Hid (G[n].kind=2→_):=λk2=>xd G b o cap W0 p bl bL L Rc rk HC.out f (show Hid _ from IA.out f (zab _)) n kg HR.out k2;have Xb:Hid (G[n].kind=1→_):=λk1=>CX G b o cap W0 p bl bL L Rc rk HC.out f IA n kg HR.out k1;have OM:Hid (∀y,y<G.length→∀z∈aw G y,z<G.length):=j9 G HC.out.hs;have YD:Hid (∀y,y<G.length→bn G y=1→(aw G y).length=2):=λy hy hk=>Ai G y hy (HC.out.hk y hy) hk;obtain⟨d0,d1,d2,d6⟩:=OH.out.cells;have HBB:Hid (∀ob:Obj,Ξ W0.heap.size W0 (w.alloc ob)):=λob=>W9.out.alloc W9.out.size ob;have HWB:Hid (∀ob:Obj,cW (w.alloc ob) W0.heap.size p bl bL G.length (.slice (some ⟨b,o,none⟩) G.length cap) t1 v1):=λob=>OH.out.below az;have HKo:Hid (∀ob:Obj,aY w (w.alloc ob) p bl v v1):=λob=>CN.out.trans (aY.aA az);generalize G[n]=x at *;clear xi xt xs d1 d2 d6;by_cases k1:x.kind=1
    ·have hb1:(x.kind==1)=true:=by rw[zaJ];exact k1
     have HV:Hid _:=HWF.out;rw[MK.out,zac k1]at HV;have HPP:Hid _:=Xb.out k1;clear k1 Xa Xb;go_wp2_with fail;refine(HPP.out t1 _ v1 MJ.out (SE.out [40] (by simp)) (HBB.out _) (HWB.out _)).mono ?_;rintro e w2 ⟨rfl,v2,hw2,hk2⟩;rw[←HV.out]at hw2;have Bu:Hid _:=hw2;have rM:Hid (aY w w2 p bl v v2):=(HKo.out _).trans hk2;clear hw2 hk2;go_wp2_with fail
     go_end0
     exact⟨rfl,v2,Bu.out,rM.out⟩
    ·have hb1:(x.kind==1)=false:=by rw[zai];exact k1
     by_cases k2:x.kind=2
     ·have hb2:(x.kind==2)=true:=by rw[zaJ];exact k2
      have HV:Hid _:=HWF.out;rw[MK.out,zaa k1,zac k2]at HV;have HPP:Hid _:=Xa.out k2;clear k1 k2 Xa Xb;go_wp2_with fail;refine(HPP.out t1 _ v1 MJ.out (SE.out [35,40] (by simp)) (HBB.out _) OM.out YD.out (HWB.out _)).mono ?_;rintro e w2 ⟨rfl,v2,hw2,hk2⟩;rw[←HV.out]at hw2;have Bu:Hid _:=hw2;have rM:Hid (aY w w2 p bl v v2):=(HKo.out _).trans hk2;clear hw2 hk2;go_wp2_with fail
      go_end0
      exact⟨rfl,v2,Bu.out,rM.out⟩
     ·have hb2:(x.kind==2)=false:=by rw[zai];exact k2
      have HV:Hid _:=HWF.out;rw[MK.out,zaa k1,zaa k2,HAN.out]at HV;have aav:Hid _:=k1;have aaw:Hid _:=k2;have aeS:W0.heap.size≤w.heap.size:=W9.out.size;clear k1 k2 Xa Xb;go_wp2_with fail;refine(H6 x _ YB.out (by exact aav.out) (by exact aaw.out) (HPW.out _ (HBB.out _))).mono ?_;rintro e w4 ⟨rfl,hb4⟩;have BN:Hid _:=(HWB.out _).below hb4;have xV:Hid _:=(HKo.out _).trans (aY.aA hb4);have Re:W0.heap.size≤w4.heap.size:=by have:=hb4.size;simp at this;omega
      clear hb4;go_wp2_with fail;refine(fJ BN.out hne Re (fw x)).mono ?_;rintro e w2 ⟨rfl,v2,hw2,hk2⟩;rw[←HV.out]at hw2;have Bu:Hid _:=hw2;have rM:Hid (aY w w2 p bl v v2):=xV.out.trans hk2;clear hw2 hk2;go_wp2_with fail
      go_end0
      exact⟨rfl,v2,Bu.out,rM.out⟩
   ·have HL0:Hid (t.put n=t1):=by show _=_;rw[oo.out,hL];rfl
    rw[hL]at Ve;go_enter func62,ntmps62;go_wp2_with fail;refine(WX HW.out hne hsz HT.out.ll BB n kg HC.out.hl (λw' h=>HPW.out w' (HB.out.trans h))).mono ?_;rintro e w1 ⟨rfl,v1,h1,h2⟩;rw[HL0.out]at h1;have OH:Hid _:=h1;have CN:Hid (aY w w1 p bl v v1):=h2;clear h1 h2 c0 c1 c2 c6 hlc Ve;have W9:Hid (Ξ W0.heap.size W0 w1):=Jq.out _ _ CN.out;obtain⟨x0,x1,x2,x3,x4,xi,xt,xs⟩:=(HC.out.hG n kg).below W9.out;have YB:Hid _:=HC.out.hk n kg;have MK:Hid _:=lN G n kg;have HAN:Hid _:=KN G n kg;have Xa:Hid (G[n].kind=2→_):=λk2=>xd G b o cap W0 p bl bL L Rc rk HC.out f (show Hid _ from IA.out f (zab _)) n kg HR.out k2;have Xb:Hid (G[n].kind=1→_):=λk1=>CX G b o cap W0 p bl bL L Rc rk HC.out f IA n kg HR.out k1;have OM:Hid (∀y,y<G.length→∀z∈aw G y,z<G.length):=j9 G HC.out.hs;have YD:Hid (∀y,y<G.length→bn G y=1→(aw G y).length=2):=λy hy hk=>Ai G y hy (HC.out.hk y hy) hk;obtain⟨d0,d1,d2,d6⟩:=OH.out.cells;have HBB:Hid (∀ob:Obj,Ξ W0.heap.size W0 (w1.alloc ob)):=λob=>W9.out.alloc W9.out.size ob;have HWB:Hid (∀ob:Obj,cW (w1.alloc ob) W0.heap.size p bl bL G.length (.slice (some ⟨b,o,none⟩) G.length cap) t1 v1):=λob=>OH.out.below az;have HKo:Hid (∀ob:Obj,aY w (w1.alloc ob) p bl v v1):=λob=>CN.out.trans (aY.aA az);generalize G[n]=x at *;clear xi xt xs d1 d2 d6;by_cases k1:x.kind=1
    ·have hb1:(x.kind==1)=true:=by rw[zaJ];exact k1
     have HV:Hid _:=HWF.out;rw[MK.out,zac k1]at HV;have HPP:Hid _:=Xb.out k1;clear k1 Xa Xb;go_wp2_with fail;refine(HPP.out t1 _ v1 MJ.out (SE.out [40] (by simp)) (HBB.out _) (HWB.out _)).mono ?_;rintro e w2 ⟨rfl,v2,hw2,hk2⟩;rw[←HV.out]at hw2;have Bu:Hid _:=hw2;have rM:Hid (aY w w2 p bl v v2):=(HKo.out _).trans hk2;clear hw2 hk2;go_wp2_with fail
     go_end0
     exact⟨rfl,v2,Bu.out,rM.out⟩
    ·have hb1:(x.kind==1)=false:=by rw[zai];exact k1
     by_cases k2:x.kind=2
     ·have hb2:(x.kind==2)=true:=by rw[zaJ];exact k2
      have HV:Hid _:=HWF.out;rw[MK.out,zaa k1,zac k2]at HV;have HPP:Hid _:=Xa.out k2;clear k1 k2 Xa Xb;go_wp2_with fail;refine(HPP.out t1 _ v1 MJ.out (SE.out [35,40] (by simp)) (HBB.out _) OM.out YD.out (HWB.out _)).mono ?_;rintro e w2 ⟨rfl,v2,hw2,hk2⟩;rw[←HV.out]at hw2;have Bu:Hid _:=hw2;have rM:Hid (aY w w2 p bl v v2):=(HKo.out _).trans hk2;clear hw2 hk2;go_wp2_with fail
      go_end0
      exact⟨rfl,v2,Bu.out,rM.out⟩
     ·have hb2:(x.kind==2)=false:=by rw[zai];exact k2
      have HV:Hid _:=HWF.out;rw[MK.out,zaa k1,zaa k2,HAN.out]at HV;have aav:Hid _:=k1;have aaw:Hid _:=k2;have aeS:W0.heap.size≤w1.heap.size:=W9.out.size;clear k1 k2 Xa Xb;go_wp2_with fail;refine(H6 x _ YB.out (by exact aav.out) (by exact aaw.out) (HPW.out _ (HBB.out _))).mono ?_;rintro e w4 ⟨rfl,hb4⟩;have BN:Hid _:=(HWB.out _).below hb4;have xV:Hid _:=(HKo.out _).trans (aY.aA hb4);have Re:W0.heap.size≤w4.heap.size:=by have:=hb4.size;simp at this;omega
      clear hb4;go_wp2_with fail;refine(fJ BN.out hne Re (fw x)).mono ?_;rintro e w2 ⟨rfl,v2,hw2,hk2⟩;rw[←HV.out]at hw2;have Bu:Hid _:=hw2;have rM:Hid (aY w w2 p bl v v2):=xV.out.trans hk2;clear hw2 hk2;go_wp2_with fail
      go_end0
      exact⟨rfl,v2,Bu.out,rM.out⟩
 ·rw[dZ]at c6;have HV:Hid (WF (bn G) (aw G) (lf G) L (f+1) false t n=t):=kP _ _ _ _ dZ;go_enter func62,ntmps62;go_wp2_with fail;refine zak (results_none rfl _ _ _) rfl ?_;exact⟨rfl,v,by rw[HV.out];exact HW.out,aY.refl _ _ _ _⟩
theorem Aj {G:List Nd}{b o cap:Nat}{W0:Θ}{p bl bL:Nat}{L:Nat→Bool}{Rc:Nat→Prop}{rk:Nat→Nat}(C:HJ G b o W0 p bl bL L Rc rk):∀f g,g≤f→HY G b o cap W0 p bl bL L Rc g
 |0,g,hg=>by
  intro t a w v _ _ _ _ hf;have:=uj t;omega
 |f+1,g,hg=>by
  rcases zay f g with h|h
  ·have:g=f+1:=by omega
   subst this;exact OP G b o cap W0 p bl bL L Rc rk C f (λg hg=>Aj C f g hg)
  ·exact Aj C f g h
def xD (t:TS):List UInt8:=if t.long then[]else t.out
def Fq (t:TS):Bool:=!t.long
def iV (n k:Nat):List Int:=Λ k (-1)++Λ (n-k) 0
theorem Ak (n k:Nat)(h:k≤n):(iV n k).length=n:=by simp[iV];omega
theorem KR (n k:Nat)(h:k<n):(iV n k).set k (-1)=iV n (k+1):=by
 apply List.ext_getElem?
 intro i;unfold iV;rw[List.getElem?_set];simp only[List.getElem?_append,zcH,zbg,List.length_replicate];repeat' split
 all_goals first|rfl|omega|(simp;omega)
theorem KS (n:Nat):iV n n=Λ n (-1):=by simp[iV]
theorem cW.aax {w:Θ}{B p bl bL n:Nat}{nv:Φ}{t:TS}{v:Φ}(h:cW w B p bl bL n nv t v)(hne:p≠bl){a:Nat}(ha:a<t.eG.length)(z:Int):cW (w.setCell ⟨bl,a,none⟩ (Γ Δ z)) B p bl bL n nv { t with eG:=t.eG.set a z } v:=by
 obtain⟨q,hq,hb⟩:=h.blk;refine⟨h.hB,⟨q,hq,(zau _ _ _ _ hne).trans hb⟩,?_,h.rl.set a ha z,h.nb,h.ol,?_⟩
 ·exact h.own.kept (row:=some bl) ⟨rfl,rfl,rfl,by simp[Θ.setCell],λk _ hk=>zau _ _ _ _ (λe=>hk (by simp[e]))⟩ (Or.inr h.nb)
 ·have:=h.bl;simpa[Θ.setCell]using this
theorem xE (G:List Nd)(b o cap:Nat)(W:Θ)(bL:Nat)(L:Nat→Bool)(Rc:Nat→Prop)(rk:Nat→Nat)(C:∀p bl,W.heap.size≤p→W.heap.size≤bl→p≠bl→HJ G b o W p bl bL L Rc rk)(h0:Rc 0)(Py:0<G.length)(hn:G.length≤150)(F:Nat)(hF:403≤F)(hout:(WF (bn G) (aw G) (lf G) L F false (cL G.length) 0).long=false→(WF (bn G) (aw G) (lf G) L F false (cL G.length) 0).out≠[]):η prog 39 #[.slice (some ⟨b,o,none⟩) G.length cap,.slice (some ⟨bL,0,none⟩) G.length G.length] W λe w'=>
  e=.returned (.tuple #[.string ⟨⟨xD (WF (bn G) (aw G) (lf G) L F false (cL G.length) 0)⟩⟩,.bool (Fq (WF (bn G) (aw G) (lf G) L F false (cL G.length) 0))])∧Ξ W.heap.size W w':=by
 obtain⟨tf,htf⟩:∃tf,Hid (tf=WF (bn G) (aw G) (lf G) L F false (cL G.length) 0):=⟨_,rfl⟩;rw[←htf.out]at hout ⊢;have HC:Hid _:=C;clear C;have mki:=run_make_row' (P:=prog) 43 3 (Γ Δ 0) 8 underlying43 MH rfl .i64 .i64 G.length (by omega) (by omega);go_enter func39,ntmps39;have HS:Hid (cW ((W.alloc (Obj.cells (θ #[Φ.int IntKind.i64 0] G.length) 3)).alloc (Obj.cells #[.slice (some ⟨b,o,none⟩) G.length cap,.slice (some ⟨bL,0,none⟩) G.length G.length,.slice (some ⟨W.heap.size,0,none⟩) G.length G.length,Γ Δ 0,.pointer none,.slice none 0 0,.bool false] 118))
  W.heap.size (W.heap.size+1) W.heap.size bL G.length (.slice (some ⟨b,o,none⟩) G.length cap) ⟨iV G.length 0,0,[],false⟩ (.slice none 0 0)):=by
  have hz:iV G.length 0=Λ G.length 0:=by simp[iV]
  refine⟨by omega,⟨_,Or.inl rfl,?_⟩,zbO _ _ _ _,?_,by simp[Φ.ownBlock],by simp,by simp;omega⟩
  ·have:=zas (W.alloc (Obj.cells (θ #[Φ.int IntKind.i64 0] G.length) 3)) (Obj.cells #[.slice (some ⟨b,o,none⟩) G.length cap,.slice (some ⟨bL,0,none⟩) G.length G.length,.slice (some ⟨W.heap.size,0,none⟩) G.length G.length,Γ Δ 0,.pointer none,.slice none 0 0,.bool false] 118);rw[Θ.size_alloc]at this;exact this
  ·show l4 _ _ (iV G.length 0);rw[hz];exact CV ((zaK _ _ _ (by simp)).trans (zas W _))
 have HSB:Hid (Ξ W.heap.size W ((W.alloc (Obj.cells (θ #[Φ.int IntKind.i64 0] G.length) 3)).alloc (Obj.cells #[.slice (some ⟨b,o,none⟩) G.length cap,.slice (some ⟨bL,0,none⟩) G.length G.length,.slice (some ⟨W.heap.size,0,none⟩) G.length G.length,Γ Δ 0,.pointer none,.slice none 0 0,.bool false] 118))):=
  ((zad _ _).alloc (zab _) _).alloc (by simp) _
 go_wp2_with fail;go_loopw [20] (λi wr=>∃k:Nat,k≤G.length∧i=Γ Δ k∧Hid (cW wr W.heap.size (W.heap.size+1) W.heap.size bL G.length (.slice (some ⟨b,o,none⟩) G.length cap) ⟨iV G.length k,0,[],false⟩ (.slice none 0 0))∧Hid (Ξ W.heap.size W wr)) (λi _=>G.length-(ξ i).toNat)
 case atStart=>exact⟨0,zaw _,rfl,HS.out,HSB.out⟩
 case round=>
  obtain⟨k,hk,rfl,Ah,Jn⟩:=hrel;obtain⟨c0,c1,c2,c6⟩:=Ah.out.cells;by_cases hlt:k<G.length
  ·obtain⟨RD,hl2⟩:=Ah.out.rl k (by show k<(iV G.length k).length;rw[Ak _ _ hk];exact hlt);have HN:Hid _:=Ah.out.aax (by omega) (a:=k) (by show k<(iV G.length k).length;rw[Ak _ _ hk];exact hlt) (-1);have HNB:Hid (Ξ W.heap.size W (wr.setCell ⟨W.heap.size,k,none⟩ (Γ Δ (-1)))):=Jn.out.setCell (p:=⟨W.heap.size,k,none⟩) (zab _) _;simp only[KR _ _ hlt]at HN;go_wp2_with fail;go_roundw
   case rel=>exact⟨k+1,by omega,by go_num,HN,HNB⟩
   case measure=>simp[ξ];omega
  ·have Vd:k=G.length:=by omega
   have Z7:Hid (cW wr W.heap.size (W.heap.size+1) W.heap.size bL G.length (.slice (some ⟨b,o,none⟩) G.length cap) (cL G.length) (.slice none 0 0)):=by
    have:=Ah.out;rw[Vd,KS]at this;exact this
   have HCC:Hid _:=HC.out (W.heap.size+1) W.heap.size (by omega) (zab _) (by omega);clear c0 c1 c2 c6 Ah mki;go_wp2_with fail;refine(Aj (cap:=cap) HCC.out F F (zab _) (cL G.length) 0 _ _ (CW _ _) (by omega) (by omega) h0 (by show need (cL G.length)≤F;unfold need cL;simp;omega) Jn.out Z7.out).mono ?_;rintro e w2 ⟨rfl,v2,hw2,hk2⟩;have aay:cW w2 W.heap.size (W.heap.size+1) W.heap.size bL G.length (.slice (some ⟨b,o,none⟩) G.length cap) tf v2:=by rw[htf.out];exact hw2
   obtain⟨d0,d1,d2,d6⟩:=aay.cells;have Bu:Hid _:=aay;have iu:Hid (Ξ W.heap.size W w2):=Jn.out.trans (hk2.below Jn.out.size (by omega) (zab _) (by simp[Φ.ownBlock]));clear hw2 aay hk2 d0 d1 d2;cases dZ:tf.long
   ·rw[dZ]at d6;have HL1:Hid (xD tf=tf.out):=by show _=_;unfold xD;rw[dZ];rfl
    have HL2:Hid (Fq tf=true):=by show _=_;unfold Fq;rw[dZ];rfl
    obtain⟨q,hq,KO⟩:=Bu.out.bld;have HO:Hid _:=hout dZ;have HBD:Hid _:=KO;clear KO;go_wp2_with fail;refine(mI HBD.out HO.out).mono ?_;rintro e w3 ⟨rfl,h3⟩;have jl:Hid (Ξ W.heap.size W w3):=iu.out.trans (h3.below iu.out.size (by omega) Bu.out.Ss);clear h3;go_wp2_with fail;go_ret2;exact⟨by rw[HL1.out,HL2.out];rfl,jl.out⟩
   ·rw[dZ]at d6;have HL1:Hid (xD tf=[]):=by show _=_;unfold xD;rw[dZ];rfl
    have HL2:Hid (Fq tf=false):=by show _=_;unfold Fq;rw[dZ];rfl
    go_wp2_with fail;go_ret2;exact⟨by rw[HL1.out,HL2.out];rfl,iu.out⟩
end Go.Proofs.YtlhimdjkkiflhaaGreatDoor
namespace Go.Loop
def WS.Tw (s:WS):Prop:=∀x,s.wi.getD x false=true→1<s.met.getD x 0
theorem Tw.meet {n:Nat}{S:Nat→List Nat}(hS:∀x,x<n→∀y∈S x,y<n):∀(f:Nat) (s:WS) (a:Nat),s.Ok n→a<n→s.Tw→(bW S f s a).Tw
 |0,s,a,h,ha,ht=>ht
 |f+1,s,a,h,ha,ht=>by
  have hh:∀x,1<s.met.getD x 0→1<(s.hit a).met.getD x 0:=λx hx=>by
   rw[gZ h ha];split<;>(try subst_vars)<;>omega
  simp only[bW];split
  ·rename_i hm;intro x hx;change(s.wi.set a (s.wi.getD a false||s.op.getD a false)).getD x false=true at hx;show 1<(s.hit a).met.getD x 0;rw[dG _ _ _ _ _ (by rw[h.lw];exact ha)]at hx;split at hx
   ·rename_i e;subst e;rw[gZ h ha,zac rfl];omega
   ·exact hh x (ht x hx)
  ·have h2:((s.hit a).enter a).Ok n:=(h.hit ha).enter ha (mm h ha);have t2:((s.hit a).enter a).Tw:=λx hx=>hh x (ht x hx);have:∀(l:List Nat) (t:WS),(∀y∈l,y<n)→t.Ok n→t.Tw→(l.foldl (bW S f) t).Tw:=by
    intro l
    induction l with
    |nil=>intro t _ _ ht;exact ht
    |cons y r ih=>intro t hl ht hw;exact ih _ (λz hz=>hl z (zap _ hz)) (Ok.meet hS f t y ht (hl y zam)) (Tw.meet hS f t y ht (hl y zam) hw)
   exact this _ _ (hS a ha) h2 t2
theorem Xc {n:Nat}{S:Nat→List Nat}(hn:0<n)(hS:∀x,x<n→∀y∈S x,y<n):(eY S n).Tw:=
 Tw.meet hS _ _ _ (lK n) hn (λx hx=>by change(Λ n false).getD x false=true at hx;rw[eX]at hx;exact absurd hx (by simp))
theorem H7 {t:TS}(hn:need t≤403)(ho:t.long=false→t.out.length≤400){p:List UInt8}(hp:1≤p.length):need (t.add p)<403:=by
 cases h:t.long
 ·exact zaL (ui h (ho h) hp) hn
 ·rw[dH h];unfold need;rw[zac h];omega
end Go.Loop
namespace Go.Proofs.YtlhimdjkkiflhaaGreatDoor
open Go.RowKit Go.Loop
theorem Xd (n:Int):1≤(Ω n).length:=by
 have hd:∀u:Nat,1≤(φ u).length:=λu=>by
  rw[Lib.decDigits_length];rw[Lib.nDigits];split<;>omega
 unfold Ω;split
 ·simp
 ·exact hd _
theorem Xe (x:Nd)(hb:aQ x=true)(h1:x.kind≠1)(h2:x.kind≠2):1≤(fw x).length:=by
 unfold aQ at hb;unfold fw;by_cases k0:x.kind=0
 ·rw[zac k0];simp
 rw[zaa k0]at hb ⊢;rw[zaa h1,zaa h2]at hb;by_cases k3:x.kind=3
 ·rw[zac k3];unfold Ag;simp
 rw[zaa k3]at hb ⊢;by_cases k4:x.kind=4
 ·rw[zac k4]at hb ⊢;simp only[zaj]at hb;have:=hb.2;unfold oY at this;cases hx:x.text
  ·rw[hx]at this;simp at this
  ·simp
 rw[zaa k4]at hb ⊢;by_cases k5:x.kind=5
 ·rw[zac k5];unfold iz;have:=Xd x.n;split
  ·exact this
  ·simp only[zbg,zar];omega
 rw[zaa k5]at hb ⊢;by_cases k6:x.kind=6
 ·rw[zac k6];split<;>simp
 rw[zaa k6];unfold Hw;simp
theorem H8 (G:List Nd)(hr:cJ G=true)(L:Nat→Bool)(F:Nat)(hF:1≤F):(WF (bn G) (aw G) (lf G) L F false (cL G.length) 0).long=false→(WF (bn G) (aw G) (lf G) L F false (cL G.length) 0).out≠[]:=by
 obtain⟨h1,vY,hk,hs,Sx⟩:=ki G hr;intro hl ho;have key:need (WF (bn G) (aw G) (lf G) L F false (cL G.length) 0)<403:=by
  obtain⟨f,rfl⟩:∃f,F=f+1:=⟨F-1,by omega⟩;have e0:(cL G.length).eG.getD 0 (-1)=-1:=by show(Λ G.length (-1:Int)).getD 0 (-1)=-1;exact eX _ _ _
  have cg:=CW G.length L;have n0:need (cL G.length)≤403:=by unfold need cL;simp
  have h2:(if L 0 then(cL G.length).put 0 else cL G.length).Ok G.length L:=by
   split
   ·rename_i e;exact cg.put (by omega) e rfl
   ·exact cg
  have n2:need (if L 0 then(cL G.length).put 0 else cL G.length)≤403:=by
   split
   ·exact zah (Hv _ _) n0
   ·exact n0
  generalize hu:(if L 0 then(cL G.length).put 0 else cL G.length)=u at h2 n2;simp only[WF];rw[zaa (by simp[cL]),e0,zaa (by omega),hu];have Ri:∀p:List UInt8,1≤p.length→need (u.add p)<403:=λp hp=>H7 n2 h2.lo hp;by_cases k1:bn G 0=1
  ·rw[zac k1];exact zcD (ia f true _ _) (zcD (ia f false _ _) (Ri _ (by simp)))
  ·rw[zaa k1];by_cases k2:bn G 0=2
   ·rw[zac k2];exact zcD (eD _ _) (zcD (uk (λt y=>ia f false t y) _ _ _) (Ri _ (by simp)))
   ·rw[zaa k2];rw[lN G 0 (by omega)]at k1 k2;exact Ri _ (by rw[KN G 0 (by omega)];exact Xe _ (hk 0 (by omega)) k1 k2)
 unfold need at key;rw[zaa (by rw[hl];simp),ho]at key;simp at key
theorem CY (G:List Nd)(hr:cJ G=true)(mode:Int)(hm:mode=0∨mode=1∨mode=2)(hc:mode=0→kC G=false):∃(Rc:Nat→Prop) (rk:Nat→Nat),Rc 0∧(∀x,Rc x→∀y∈aw G x,Rc y)∧(∀x,Rc x→∀y∈aw G x,bn G y=1→mJ G mode y=false→rk y<rk x):=by
 obtain⟨h1,vY,hk,hs,Sx⟩:=ki G hr;have hS:=j9 G hs;obtain⟨R,r,_,h0,dY,SG⟩:=OE (n:=G.length) (S:=aw G) (by omega) hS;refine⟨reach (aw G) G.length,r,h0,dY,λx hx y hy wR hl=>SG x hx y hy ?_⟩;cases hw:(eY (aw G) G.length).wi.getD y false
 ·rfl
 ·exfalso;unfold mJ at hl;rcases hm with rfl|rfl|rfl
  ·have:=hc rfl;unfold kC at this;rw[List.any_eq_false]at this;by_cases hy2:y<G.length
   ·exact this y (zbW.2 hy2) hw
   ·have cg:(eY (aw G) G.length).Ok G.length:=Ok.meet hS _ _ _ (lK _) (by omega);have:(eY (aw G) G.length).wi.getD y false=false:=by
     simp only[ζ];rw[zcE (by rw[cg.lw];omega)];rfl
    rw[this]at hw;exact absurd hw (by simp)
  ·rw[zac rfl,hw]at hl;exact absurd hl (by simp)
  ·have:=Xc (n:=G.length) (S:=aw G) (by omega) hS y hw;rw[zaa (by omega),zac rfl,zbi this,wR]at hl;simp at hl
def jr (x:Nd):Nd:={ x with sa:=none,cap:=0 }
theorem Al (G:List Nd):bn (G.map jr)=bn G:=by
 funext x;unfold bn;rw[zbG];cases G[x]?<;>rfl
theorem SH (G:List Nd):lf (G.map jr)=lf G:=by
 funext x;unfold lf;rw[zbG];cases G[x]?<;>rfl
theorem sG (G:List Nd):aw (G.map jr)=aw G:=by
 funext x;unfold aw;rw[zbG];cases G[x]?<;>rfl
theorem xe (G:List Nd):cJ (G.map jr)=cJ G:=by
 unfold cJ;rw[zbx,List.all_map];rfl
theorem OQ (G:List Nd)(mode:Int):mJ (G.map jr) mode=mJ G mode:=by
 funext i;unfold mJ;rw[sG,Al,zbx]
theorem CZ (G:List Nd):kC (G.map jr)=kC G:=by
 unfold kC;rw[sG,zbx]
theorem H9 (G:List Nd)(mode:Int)(F:Nat):cV (G.map jr) mode F=cV G mode F:=by
 unfold cV;rw[sG,Al,SH,OQ,zbx]
theorem qu (G:List Nd)(mode:Int)(F:Nat):cK (G.map jr) mode F=cK G mode F:=by
 unfold cK;rw[xe,CZ,H9]
theorem Ia (G H:List Nd)(h:G.map jr=H.map jr)(mode:Int)(F:Nat):cK G mode F=cK H mode F:=by
 rw[←qu G,←qu H,h]
end Go.Proofs.YtlhimdjkkiflhaaGreatDoor
namespace Go.Proofs.YtlhimdjkkiflhaaGreatDoor
open Go.Proofs.Tryz
open Go.RowKit Go.Loop
theorem KT (k:Int)(w:Θ):η prog 64 #[Γ Δ k] w λe w'=>e=.returned (.bool (decide (1≤k∧k≤3)))∧w'=w:=by
 go_enter func64,ntmps64
 go_wp2
 all_goals
  go_ret;refine⟨ay ?_,rfl⟩;rw[zaP];simp;omega
def iw (G:List Nd)(mode:Int):Nat→List Bool
 |0=>Λ G.length false
 |k+1=>(iw G mode k).set k (mJ G mode k)
theorem nL (G:List Nd)(mode:Int):∀k,(iw G mode k).length=G.length
 |0=>by simp[iw]
 |k+1=>by simp[iw,nL G mode k]
theorem vZ (G:List Nd)(mode:Int):∀k,k≤G.length→∀i,(iw G mode k).getD i false=if i<k then mJ G mode i else false
 |0,_,i=>by simp only[iw];rw[eX,zaa (by omega)]
 |k+1,hk,i=>by
  simp only[iw];rw[dG _ _ _ _ _ (by rw[nL];omega),vZ G mode k (by omega) i];by_cases e:i=k
  ·subst e;rw[zac rfl,zac (by omega)]
  ·rw[zaa e];by_cases h:i<k
   ·rw[zac h,zac (by omega)]
   ·rw[zaa h,zaa (by omega)]
theorem KU (G:List Nd)(mode:Int)(k:Nat)(hk:k<G.length)(h:mJ G mode k=false):iw G mode (k+1)=iw G mode k:=by
 show(iw G mode k).set k (mJ G mode k)=_;rw[h];have:=Sv (iw G mode k) k;rw[vZ G mode k (by omega) k,zaa (by omega)]at this;exact this
theorem OS (l:List Bool)(bw n:Nat)(hl:l.length=n)(hn:n≤150)(w:Θ)(hr:iA w bw l):η prog 77 #[.slice (some ⟨bw,0,none⟩) n n,.bool true] w λe w'=>(∃z:Int,e=.returned (Γ Δ z)∧(0≤z↔l.any id=true))∧w'=w:=by
 have HR:Hid _:=hr;clear hr;go_enter func77,ntmps77;go_wp2_with fail;go_loopw [8] (λi wr=>∃k:Nat,k≤n∧i=Γ Δ k∧wr=w∧Hid (∀j,j<k→l.getD j false=false)) (λi _=>n-(ξ i).toNat)
 case atStart=>exact⟨0,zaw _,rfl,rfl,λj hj=>by omega⟩
 case round=>
  obtain⟨k,hk,rfl,rfl,hz⟩:=hrel;by_cases hlt:k<n
  ·obtain⟨c,_⟩:=HR.out k (by omega);cases hv:l.getD k false
   ·rw[hv]at c;have HV:Hid _:=hv;clear hv;go_wp2_with fail;go_roundw
    case rel=>exact⟨k+1,by omega,by go_num,trivial,λj hj=>by
     rcases zay j k with h|h
     ·exact hz.out j h
     ·obtain rfl:j=k:=by omega
      exact HV.out⟩
    case measure=>simp[ξ];omega
   ·rw[hv]at c;have HV:Hid (l.any id=true):=by
     rw[zcl];have Vd:k<l.length:=by omega
     refine⟨l[k],zbd Vd,?_⟩;simp only[ζ,zaq Vd,zbl]at hv;exact hv
    clear hv;go_wp2_with fail;go_ret;exact⟨⟨_,rfl,⟨λ_=>HV.out,λ_=>by omega⟩⟩,rfl⟩
  ·have HV:Hid (l.any id=false):=by
    rw[List.any_eq_false];intro x hx;obtain⟨j,hj,rfl⟩:=List.mem_iff_getElem.1 hx;have:=hz.out j (by omega);simp only[ζ,zaq hj,zbl]at this;simp[this]
   go_wp2_with fail;go_ret;exact⟨⟨_,rfl,⟨λh=>by omega,λh=>by rw[HV.out]at h;exact absurd h (by simp)⟩⟩,rfl⟩
theorem C0 (l:List Bool)(bw n:Nat)(hl:l.length=n)(hn:n≤150)(vm:Φ)(hvm:∃a c d,vm=.slice a c d)(w:Θ)(hr:iA w bw l):η prog 28 #[.agg #[vm,.slice (some ⟨bw,0,none⟩) n n]] w λe w'=>e=.returned (.bool (l.any id))∧Ξ w.heap.size w w':=by
 obtain⟨a,c,d,rfl⟩:=hvm;have HR:Hid (iA (w.alloc (.cells #[.slice a c d,.slice (some ⟨bw,0,none⟩) n n] 68)) bw l):=λi hi=>by
  obtain⟨h1,h2⟩:=hr i hi;have hb:bw<w.heap.size:=ml h1;rw[az.cell (p:=⟨bw,i,none⟩) hb,az.frozen (p:=⟨bw,i,none⟩) hb];exact⟨h1,h2⟩
 clear hr;have hcon:η prog 46 #[.slice (some ⟨bw,0,none⟩) n n,.bool true] (w.alloc (.cells #[.slice a c d,.slice (some ⟨bw,0,none⟩) n n] 68)) λe w'=>e=.returned (.bool (l.any id))∧w'=(w.alloc (.cells #[.slice a c d,.slice (some ⟨bw,0,none⟩) n n] 68)):=by
  generalize w.alloc (.cells #[.slice a c d,.slice (some ⟨bw,0,none⟩) n n] 68)=w1 at *;go_enter func46,ntmps46;go_wp2_with fail;refine(OS l bw n hl hn _ HR.out).mono ?_;rintro e w2 ⟨⟨z,rfl,hz⟩,rfl⟩;have HZ:Hid _:=hz;clear hz;go_wp2_with fail;go_ret;refine⟨ay ?_,rfl⟩;rw[zaP];simp[←HZ.out]
 have HC:Hid _:=hcon;clear hcon HR;go_enter func28,ntmps28;go_wp2_with fail;refine zae HC.out ?_;rintro e w2 ⟨rfl,rfl⟩;go_wp2_with fail;go_ret;exact⟨rfl,az⟩
theorem iA.below {w w':Θ}{b:Nat}{l:List Bool}{B:Nat}(h:iA w b l)(hb:Ξ B w w')(hB:b<B):iA w' b l:=λi hi=>by
 rw[hb.cell (p:=⟨b,i,none⟩) hB,hb.frozen (p:=⟨b,i,none⟩) hB];exact h i hi
theorem l4.below {w w':Θ}{b:Nat}{l:List Int}{B:Nat}(h:l4 w b l)(hb:Ξ B w w')(hB:b<B):l4 w' b l:=λi hi=>by
 rw[hb.cell (p:=⟨b,i,none⟩) hB,hb.frozen (p:=⟨b,i,none⟩) hB];exact h i hi
theorem EJ (G:List Nd)(b o cap:Nat)(mode:Int)(hm:mode=0∨mode=1∨mode=2)(bm bw:Nat)(w:Θ)(hG:bh w b o G)(hn:G.length≤150)(cg:(eY (aw G) G.length).Ok G.length)
 (Jr:l4 w bm (eY (aw G) G.length).met)(EK:iA w bw (eY (aw G) G.length).wi):
 η prog 40 #[.slice (some ⟨b,o,none⟩) G.length cap,Γ Δ mode,.agg #[.slice (some ⟨bm,0,none⟩) G.length G.length,.slice (some ⟨bw,0,none⟩) G.length G.length]] w
  λe w'=>∃bL,e=.returned (.slice (some ⟨bL,0,none⟩) G.length G.length)∧iA w' bL (iw G mode G.length)∧Ξ w.heap.size w w':=by
 have HG:Hid _:=hG;have HM:Hid _:=Jr;have HW:Hid _:=EK;have HO:Hid _:=cg;have HMD:Hid _:=hm;clear hG Jr EK cg hm;have mkb:=run_make_row' (P:=prog) 66 4 (.bool false) 1 underlying66 H5 rfl .i64 .i64 G.length (by omega) (by omega);have sR:Hid (iA ((w.alloc (.cells #[.slice (some ⟨bm,0,none⟩) G.length G.length,.slice (some ⟨bw,0,none⟩) G.length G.length] 68)).alloc (.cells (θ #[.bool false] G.length) 4)) (w.heap.size+1) (iw G mode 0)):=by
  have:=zas (w.alloc (.cells #[.slice (some ⟨bm,0,none⟩) G.length G.length,.slice (some ⟨bw,0,none⟩) G.length G.length] 68)) (.cells (θ #[.bool false] G.length) 4);rw[Θ.size_alloc]at this;exact vX this
 have HB0:Hid (Ξ (w.heap.size+1) (w.alloc (.cells #[.slice (some ⟨bm,0,none⟩) G.length G.length,.slice (some ⟨bw,0,none⟩) G.length G.length] 68)) ((w.alloc (.cells #[.slice (some ⟨bm,0,none⟩) G.length G.length,.slice (some ⟨bw,0,none⟩) G.length G.length] 68)).alloc (.cells (θ #[.bool false] G.length) 4))):=
  (zad _ _).alloc (by simp) _
 obtain⟨wa,UR⟩:∃wa,Hid (wa=w.alloc (.cells #[.slice (some ⟨bm,0,none⟩) G.length G.length,.slice (some ⟨bw,0,none⟩) G.length G.length] 68)):=⟨_,rfl⟩;go_enter func40,ntmps40;go_wp2_with fail;go_loopw [14] (λi wr=>∃k:Nat,k≤G.length∧i=Γ Δ k∧Hid (iA wr (w.heap.size+1) (iw G mode k))∧Hid (Ξ (w.heap.size+1) wa wr)) (λi _=>G.length-(ξ i).toNat)
 case atStart=>exact⟨0,zaw _,rfl,sR.out,by show Ξ _ _ _;rw[UR.out];exact HB0.out⟩
 case round=>
  obtain⟨k,hk,rfl,hr,hb⟩:=hrel;have PL:Ξ w.heap.size w wr:=az.trans ((UR.out▸hb.out).mono (by omega));by_cases hlt:k<G.length
  ·have q0:wr.cell? ⟨w.heap.size,0,none⟩=some (.slice (some ⟨bm,0,none⟩) G.length G.length):=by
    rw[hb.out.cell (p:=⟨w.heap.size,0,none⟩) (show w.heap.size<w.heap.size+1 by omega),UR.out,Θ.cell?_alloc_at _ _ _ _ rfl];rfl
   have q1:wr.cell? ⟨w.heap.size,1,none⟩=some (.slice (some ⟨bw,0,none⟩) G.length G.length):=by
    rw[hb.out.cell (p:=⟨w.heap.size,1,none⟩) (show w.heap.size<w.heap.size+1 by omega),UR.out,Θ.cell?_alloc_at _ _ _ _ rfl];rfl
   obtain⟨cm,_⟩:=HM.out k (by rw[HO.out.lm];exact hlt);obtain⟨cw,_⟩:=HW.out k (by rw[HO.out.lw];exact hlt);have cm':=bE PL cm;have cw':=bE PL cw;obtain⟨ch,cf⟩:=hr.out k (by rw[nL];exact hlt);have n0:=((HG.out k hlt).below PL).kind;have HKD:Hid _:=lN G k hlt;have HLB:Hid (mJ G mode k=if mode=1 then(eY (aw G) G.length).wi.getD k false else if mode=2 then decide (1<(eY (aw G) G.length).met.getD k 0)&&decide (1≤bn G k∧bn G k≤3)else false):=rfl;rw[HKD.out]at HLB;have SI:∀v,Hid (iA (wr.setCell ⟨w.heap.size+1,k,none⟩ (.bool v)) (w.heap.size+1) ((iw G mode k).set k v)):=λv=>hr.out.set k (by rw[nL];exact hlt) v;have HBS:∀v,Hid (Ξ (w.heap.size+1) wa (wr.setCell ⟨w.heap.size+1,k,none⟩ (.bool v))):=λv=>hb.out.setCell (p:=⟨w.heap.size+1,k,none⟩) (zab _) _;have HSM:Hid (mJ G mode k=false→iw G mode (k+1)=iw G mode k):=KU G mode k hlt;have HST:Hid (iw G mode (k+1)=(iw G mode k).set k (mJ G mode k)):=rfl;clear cm cw HKD PL mkb sR HB0;generalize (eY (aw G) G.length).wi.getD k false=wv at *;generalize (eY (aw G) G.length).met.getD k 0=mv at *;generalize G[k].kind=kd at *;generalize (iw G mode k).getD k false=hv at *;rcases HMD.out with h0|h0|h0
   ·have e1:(mode==1)=false:=by rw[h0];decide
    have e2:(mode==2)=false:=by rw[h0];decide
    have HL:Hid (mJ G mode k=false):=by show _=_;rw[HLB.out,zaa (by omega),zaa (by omega)]
    have HE:Hid _:=HSM.out HL.out;clear h0 SI HBS;go_wp2_with fail;go_roundw
    case rel=>exact⟨k+1,by omega,by go_num,by show iA _ _ _;rw[HE.out];exact hr.out,hb⟩
    case measure=>simp[ξ];omega
   ·have e1:(mode==1)=true:=by rw[h0];decide
    have HL:Hid (mJ G mode k=wv):=by show _=_;rw[HLB.out,zac h0]
    have SJ:=SI wv;have je:=HBS wv;clear h0 SI HBS;go_wp2_with fail;go_roundw
    case rel=>exact⟨k+1,by omega,by go_num,by show iA _ _ _;rw[HST.out,HL.out];exact SJ.out,je⟩
    case measure=>simp[ξ];omega
   ·have e1:(mode==1)=false:=by rw[h0];decide
    have e2:(mode==2)=true:=by rw[h0];decide
    have HL:Hid (mJ G mode k=(decide (1<mv)&&decide (1≤kd∧kd≤3))):=by show _=_;rw[HLB.out,zaa (by omega),zac h0]
    have SJ:=SI (decide (1<mv)&&decide (1≤kd∧kd≤3));have je:=HBS (decide (1<mv)&&decide (1≤kd∧kd≤3));clear h0 SI HBS;by_cases hmv:1<mv
    ·rw[zbi hmv,zbL,Bool.decide_and]at SJ je HL;go_wp2_with (go_at_call 64;refine(KT _ _).mono ?_;rintro e w' ⟨rfl,rfl⟩);go_roundw
     case rel=>exact⟨k+1,by omega,by go_num,by show iA _ _ _;rw[HST.out,HL.out];exact SJ.out,je⟩
     case measure=>simp[ξ];omega
    ·have afW:mv≤1:=by omega
     rw[zaY hmv,Bool.false_and]at SJ je HL;clear hmv;go_wp2_with fail;go_roundw
     case rel=>exact⟨k+1,by omega,by go_num,by show iA _ _ _;rw[HST.out,HL.out];exact SJ.out,je⟩
     case measure=>simp[ξ];omega
  ·obtain rfl:k=G.length:=by omega
   have HF:Hid (Ξ w.heap.size w wr):=PL;go_wp2_with fail;go_ret;exact⟨_,rfl,hr.out,HF.out⟩
theorem ML (G:List Nd)(h:(eY (aw G) G.length).Ok G.length):(eY (aw G) G.length).wi.any id=kC G:=by
 have hl:=h.lw;unfold kC;rw[zaP,zcl,zcl];constructor
 ·rintro ⟨x,hx,hv⟩;obtain⟨j,hj,rfl⟩:=List.mem_iff_getElem.1 hx;refine⟨j,zbW.2 (by omega),?_⟩;simp only[ζ,zaq hj,zbl];exact hv
 ·rintro ⟨j,hj,hv⟩;have Vf:j<(eY (aw G) G.length).wi.length:=by rw[hl];exact zbW.1 hj
  refine⟨_,zbd Vf,?_⟩;simp only[ζ,zaq Vf,zbl]at hv;exact hv
theorem Pow.on' {w w':Θ}(h:Pow w)(hb:Ξ w.heap.size w w'):Pow w':=h.on hb
theorem Am (G:List Nd)(b o cap:Nat)(mode:Int)(hm:mode=0∨mode=1∨mode=2)(F:Nat)(hF:403≤F)(w:Θ)(bm bw:Nat)(hr:cJ G=true)(hG:bh w b o G)(hp:Pow w)
 (Jr:l4 w bm (eY (aw G) G.length).met)(EK:iA w bw (eY (aw G) G.length).wi)(hc:mode=0→kC G=false):
 η prog 40 #[.slice (some ⟨b,o,none⟩) G.length cap,Γ Δ mode,.agg #[.slice (some ⟨bm,0,none⟩) G.length G.length,.slice (some ⟨bw,0,none⟩) G.length G.length]] w
  λe w1=>∃bL,e=.returned (.slice (some ⟨bL,0,none⟩) G.length G.length)∧Ξ w.heap.size w w1∧
   η prog 39 #[.slice (some ⟨b,o,none⟩) G.length cap,.slice (some ⟨bL,0,none⟩) G.length G.length] w1 λe w'=>e=.returned (.tuple #[.string ⟨⟨xD (cV G mode F)⟩⟩,.bool (Fq (cV G mode F))])∧Ξ w1.heap.size w1 w':=by
 obtain⟨h1,vY,hk,hs,Sx⟩:=ki G hr;have cg:(eY (aw G) G.length).Ok G.length:=Ok.meet (j9 G hs) _ _ _ (lK _) (by omega);refine(EJ G b o cap mode hm bm bw w hG vY cg Jr EK).mono ?_;rintro e w1 ⟨bL,rfl,hrl,hb⟩;obtain⟨Rc,rk,r0,r1,r2⟩:=CY G hr mode hm hc;refine⟨bL,rfl,hb,?_⟩;refine xE G b o cap w1 bL (mJ G mode) Rc rk (λp bl BC Wj hp3=>⟨hG.below hb,hk,hs,vY,BC,Wj,hp3,λi hi=>?_,hp.on hb,r1,r2⟩) r0 (by omega) vY F hF (H8 G hr (mJ G mode) F (by omega));have:=(hrl i (by rw[nL];exact hi)).1;rw[vZ G mode _ (zab _) i,zac hi]at this;exact this
theorem uo (G:List Nd)(b o cap:Nat)(mode:Int)(F:Nat)(hF:403≤F)(w:Θ)(hlen:G.length≤υ)(hG:bh w b o G)(hp:Pow w):η prog 19 #[(.slice (some ⟨b,o,none⟩) G.length cap),Γ Δ mode] w λe w'=>e=.returned (.tuple #[.string ⟨⟨(cK G mode F).1⟩⟩,Γ Δ (cK G mode F).2])∧Ξ w.heap.size w w':=by
 have HG:Hid (bh w b o G):=hG;have HP:Hid (Pow w):=hp;have HLM:Hid (G.length≤υ):=hlen;clear hG hp hlen;by_cases hm:mode<0∨2<mode
 ·have HV:Hid (cK G mode F=([],1)):=by show _=_;unfold cK;rw[zac hm]
  have m0:(mode != 0)=true:=by simp;omega
  have m1:(mode != 1)=true:=by simp;omega
  have m2:(mode != 2)=true:=by simp;omega
  go_enter func19,ntmps19;go_wp2_with fail;go_ret2;exact⟨kQ (a:=[]) (by rw[HV.out]) (by rw[HV.out]),zad _ _⟩
 ·have MM:mode=0∨mode=1∨mode=2:=by omega
  have HM:Hid (¬(mode<0∨2<mode)):=hm;have HMD:Hid _:=MM;clear hm;cases hr:cJ G
  ·have HV:Hid (cK G mode F=([],8)):=by show _=_;unfold cK;rw[zaa HM.out,zac hr]
   rcases MM with rfl|rfl|rfl
   all_goals
    go_enter func19,ntmps19;go_wp2_with fail;refine(rh G b o cap _ HLM.out HG.out).mono ?_;rw[hr];rintro e w2 ⟨rfl,hb2⟩;go_wp2_with fail;go_ret2;exact⟨kQ (a:=[]) (by rw[HV.out]) (by rw[HV.out]),hb2⟩
  ·obtain⟨h1,vY,hk,hs,Sx⟩:=ki G hr;have HKK:Hid (∀x (hx:x<G.length),aQ G[x]=true):=hk;have YC:Hid (∀x (hx:x<G.length),dF G[x].subs G.length=true):=hs;have H20:Hid (∀x,(aw G x).length≤20):=Sx;have BS:Hid ((eY (aw G) G.length).Ok G.length):=Ok.meet (j9 G hs) _ _ _ (lK _) (by omega);have HR:Hid (cJ G=true):=hr;have WY:Hid ((mode=0→kC G=false)→∃(Rc:Nat→Prop) (rk:Nat→Nat),Rc 0∧(∀x,Rc x→∀y∈aw G x,Rc y)∧(∀x,Rc x→∀y∈aw G x,bn G y=1→mJ G mode y=false→rk y<rk x)):=CY G hr mode MM;have HOT:Hid _:=H8 G hr (mJ G mode) F (by omega);clear hk hs Sx;by_cases h0:mode=0
   ·subst h0;go_enter func19,ntmps19;go_wp2_with fail;refine(rh G b o cap _ HLM.out HG.out).mono ?_;rw[hr];rintro e w2 ⟨rfl,hb2⟩;have YE:Hid (bh w2 b o G):=bh.below HG.out hb2;have iu:Hid (Ξ w.heap.size w w2):=hb2;clear hb2;go_wp2_with fail;refine(mn G b o cap _ YE.out vY h1 YC.out H20.out).mono ?_;rintro e w3 ⟨bm,bw,rfl,Jr,EK,hb3⟩;have HRM:Hid _:=Jr;have Js:Hid _:=EK;have HG3:Hid (bh w3 b o G):=bh.below YE.out hb3;have jl:Hid (Ξ w.heap.size w w3):=iu.out.trans (hb3.mono iu.out.size);have hbm:bm<w3.heap.size:=ml (Jr 0 (by rw[BS.out.lm];omega)).1;have C1:bw<w3.heap.size:=ml (EK 0 (by rw[BS.out.lw];omega)).1;clear Jr EK hb3;go_wp2_with fail;obtain⟨w4,hw4⟩:∃w4,w4=w3.alloc (.cells #[.slice (some ⟨bm,0,none⟩) G.length G.length,.slice (some ⟨bw,0,none⟩) G.length G.length] 68):=⟨_,rfl⟩;rw[←hw4];have hx:Ξ w3.heap.size w3 w4:=by rw[hw4];exact az
    have dY:∀j,w4.cell? ⟨w3.heap.size,j,none⟩=(#[.slice (some ⟨bm,0,none⟩) G.length G.length,.slice (some ⟨bw,0,none⟩) G.length G.length]:Array Φ)[j]?:=λj=>by rw[hw4,Θ.cell?_alloc_at _ _ _ _ rfl]
    have h4:w3.heap.size<w4.heap.size:=by rw[hw4];simp
    refine(C0 _ bw G.length BS.out.lw vY _ ⟨_,_,_,rfl⟩ _ (iA.below Js.out hx C1)).mono ?_;rw[ML G BS.out];cases Xf:kC G
    ·rintro e w5 ⟨rfl,mF⟩;have d0:w5.cell? ⟨w3.heap.size,0,none⟩=some (.slice (some ⟨bm,0,none⟩) G.length G.length):=by rw[mF.cell (p:=⟨w3.heap.size,0,none⟩) h4,dY];rfl
     have d1:w5.cell? ⟨w3.heap.size,1,none⟩=some (.slice (some ⟨bw,0,none⟩) G.length G.length):=by rw[mF.cell (p:=⟨w3.heap.size,1,none⟩) h4,dY];rfl
     have OT:Ξ w3.heap.size w3 w5:=hx.trans (mF.mono (by omega));have HT:Hid _:=Am G b o cap 0 (by omega) F hF w5 bm bw HR.out (bh.below HG3.out OT) (HP.out.on' (jl.out.trans (OT.mono jl.out.size))) (l4.below HRM.out OT hbm) (iA.below Js.out OT C1) (λ_=>Xf);have sU:Hid (Ξ w.heap.size w w5):=jl.out.trans (OT.mono jl.out.size);have HM:Hid (¬((0:Int)<0∨(2:Int)<0)):=by show ¬_;omega
     clear dY hx h4 mF OT hw4;go_wp2_with fail;refine zae HT.out ?_;rintro e w6 ⟨bL,rfl,nz,hwr⟩;have YF:Hid _:=hwr;have nV:Hid (Ξ w.heap.size w w6):=sU.out.trans (nz.mono sU.out.size);clear nz hwr HT;go_wp2_with fail;refine zae YF.out ?_;rintro e w7 ⟨rfl,xY⟩;have sA:Hid (Ξ w.heap.size w w7):=nV.out.trans (xY.mono nV.out.size);clear xY YF;cases Ib:(cV G 0 F).long
     ·have HV:Hid (cK G 0 F=((cV G 0 F).out,0)):=by show _=_;unfold cK;rw[zaa HM.out,zaa (by rw[HR.out];simp),zaa (show ¬((0:Int)=0∧kC G=true) from λh=>by rw[Xf]at h;exact absurd h.2 (by simp)),zaa (by rw[Ib];simp)]
      have HO:Hid (xD (cV G 0 F)=(cV G 0 F).out):=by show _=_;unfold xD;rw[Ib];rfl
      have ho:Fq (cV G 0 F)=true:=by unfold Fq;rw[Ib];rfl
      rw[ho];clear ho;go_wp2_with fail;go_ret2;exact⟨kQ (by rw[HV.out,HO.out]) (by rw[HV.out]),sA.out⟩
     ·have HV:Hid (cK G 0 F=([],2)):=by show _=_;unfold cK;rw[zaa HM.out,zaa (by rw[HR.out];simp),zaa (show ¬((0:Int)=0∧kC G=true) from λh=>by rw[Xf]at h;exact absurd h.2 (by simp)),zac Ib]
      have ho:Fq (cV G 0 F)=false:=by unfold Fq;rw[Ib];rfl
      rw[ho];clear ho;go_wp2_with fail;go_ret2;exact⟨kQ (a:=[]) (by rw[HV.out]) (by rw[HV.out]),sA.out⟩
    ·rintro e w5 ⟨rfl,mF⟩;have sU:Hid (Ξ w.heap.size w w5):=jl.out.trans ((hx.trans (mF.mono (by omega))).mono jl.out.size);have HV:Hid (cK G 0 F=([],9)):=by show _=_;unfold cK;rw[zaa (by omega),zaa (by rw[HR.out];simp),zac ⟨rfl,Xf⟩]
     clear dY hx h4 mF hw4;go_wp2_with fail;go_ret2;exact⟨kQ (a:=[]) (by rw[HV.out]) (by rw[HV.out]),sU.out⟩
   ·have acN:mode=1∨mode=2:=by omega
    have HNC:Hid (¬(mode=0∧kC G=true)):=λh=>h0 h.1;have HN0:Hid (mode=0→kC G=false):=λh=>absurd h h0;have m0:(mode==0)=false:=by simp;omega
    have afX:Hid _:=acN;clear MM;have afY:(mode != 0&&(mode != 1&&mode != 2))=false:=by
     rcases acN with rfl|rfl<;>rfl
    have m0':(mode != 0)=true:=by simp;omega
    by_cases VJ:mode=1
    ·subst VJ;go_enter func19,ntmps19;go_wp2_with fail;refine(rh G b o cap _ HLM.out HG.out).mono ?_;rw[hr];rintro e w2 ⟨rfl,hb2⟩;have YE:Hid (bh w2 b o G):=bh.below HG.out hb2;have iu:Hid (Ξ w.heap.size w w2):=hb2;clear hb2;go_wp2_with fail;refine(mn G b o cap _ YE.out vY h1 YC.out H20.out).mono ?_;rintro e w3 ⟨bm,bw,rfl,Jr,EK,hb3⟩;have hbm:bm<w3.heap.size:=ml (Jr 0 (by rw[BS.out.lm];omega)).1;have C1:bw<w3.heap.size:=ml (EK 0 (by rw[BS.out.lw];omega)).1;have jl:Hid (Ξ w.heap.size w w3):=iu.out.trans (hb3.mono iu.out.size);have HT:Hid _:=Am G b o cap 1 (by omega) F hF (w3.alloc (.cells #[.slice (some ⟨bm,0,none⟩) G.length G.length,.slice (some ⟨bw,0,none⟩) G.length G.length] 68)) bm bw HR.out (bh.below (bh.below YE.out hb3) az) (HP.out.on (jl.out.trans (az.mono jl.out.size))) (l4.below Jr az hbm) (iA.below EK az C1) (λh=>by omega);have sU:Hid (Ξ w.heap.size w (w3.alloc (.cells #[.slice (some ⟨bm,0,none⟩) G.length G.length,.slice (some ⟨bw,0,none⟩) G.length G.length] 68))):=jl.out.trans (az.mono jl.out.size);clear Jr EK hb3 hbm C1;go_wp2_with fail;refine zae HT.out ?_;rintro e w6 ⟨bL,rfl,nz,hwr⟩;have YF:Hid _:=hwr;have nV:Hid (Ξ w.heap.size w w6):=sU.out.trans (nz.mono sU.out.size);clear nz hwr HT;go_wp2_with fail;refine zae YF.out ?_;rintro e w7 ⟨rfl,xY⟩;have sA:Hid (Ξ w.heap.size w w7):=nV.out.trans (xY.mono nV.out.size);clear xY YF;cases Ib:(cV G 1 F).long
     ·have HV:Hid (cK G 1 F=((cV G 1 F).out,0)):=by show _=_;unfold cK;rw[zaa HM.out,zaa (by rw[HR.out];simp),zaa HNC.out,zaa (by rw[Ib];simp)]
      have HO:Hid (xD (cV G 1 F)=(cV G 1 F).out):=by show _=_;unfold xD;rw[Ib];rfl
      have ho:Fq (cV G 1 F)=true:=by unfold Fq;rw[Ib];rfl
      rw[ho];clear ho;go_wp2_with fail;go_ret2;exact⟨kQ (by rw[HV.out,HO.out]) (by rw[HV.out]),sA.out⟩
     ·have HV:Hid (cK G 1 F=([],2)):=by show _=_;unfold cK;rw[zaa HM.out,zaa (by rw[HR.out];simp),zaa HNC.out,zac Ib]
      have ho:Fq (cV G 1 F)=false:=by unfold Fq;rw[Ib];rfl
      rw[ho];clear ho;go_wp2_with fail;go_ret2;exact⟨kQ (a:=[]) (by rw[HV.out]) (by rw[HV.out]),sA.out⟩
    ·obtain rfl:mode=2:=by omega
     go_enter func19,ntmps19;go_wp2_with fail;refine(rh G b o cap _ HLM.out HG.out).mono ?_;rw[hr];rintro e w2 ⟨rfl,hb2⟩;have YE:Hid (bh w2 b o G):=bh.below HG.out hb2;have iu:Hid (Ξ w.heap.size w w2):=hb2;clear hb2;go_wp2_with fail;refine(mn G b o cap _ YE.out vY h1 YC.out H20.out).mono ?_;rintro e w3 ⟨bm,bw,rfl,Jr,EK,hb3⟩;have hbm:bm<w3.heap.size:=ml (Jr 0 (by rw[BS.out.lm];omega)).1;have C1:bw<w3.heap.size:=ml (EK 0 (by rw[BS.out.lw];omega)).1;have jl:Hid (Ξ w.heap.size w w3):=iu.out.trans (hb3.mono iu.out.size);have HT:Hid _:=Am G b o cap 2 (by omega) F hF (w3.alloc (.cells #[.slice (some ⟨bm,0,none⟩) G.length G.length,.slice (some ⟨bw,0,none⟩) G.length G.length] 68)) bm bw HR.out (bh.below (bh.below YE.out hb3) az) (HP.out.on (jl.out.trans (az.mono jl.out.size))) (l4.below Jr az hbm) (iA.below EK az C1) (λh=>by omega);have sU:Hid (Ξ w.heap.size w (w3.alloc (.cells #[.slice (some ⟨bm,0,none⟩) G.length G.length,.slice (some ⟨bw,0,none⟩) G.length G.length] 68))):=jl.out.trans (az.mono jl.out.size);clear Jr EK hb3 hbm C1;go_wp2_with fail;refine zae HT.out ?_;rintro e w6 ⟨bL,rfl,nz,hwr⟩;have YF:Hid _:=hwr;have nV:Hid (Ξ w.heap.size w w6):=sU.out.trans (nz.mono sU.out.size);clear nz hwr HT;go_wp2_with fail;refine zae YF.out ?_;rintro e w7 ⟨rfl,xY⟩;have sA:Hid (Ξ w.heap.size w w7):=nV.out.trans (xY.mono nV.out.size);clear xY YF;cases Ib:(cV G 2 F).long
     ·have HV:Hid (cK G 2 F=((cV G 2 F).out,0)):=by show _=_;unfold cK;rw[zaa HM.out,zaa (by rw[HR.out];simp),zaa HNC.out,zaa (by rw[Ib];simp)]
      have HO:Hid (xD (cV G 2 F)=(cV G 2 F).out):=by show _=_;unfold xD;rw[Ib];rfl
      have ho:Fq (cV G 2 F)=true:=by unfold Fq;rw[Ib];rfl
      rw[ho];clear ho;go_wp2_with fail;go_ret2;exact⟨kQ (by rw[HV.out,HO.out]) (by rw[HV.out]),sA.out⟩
     ·have HV:Hid (cK G 2 F=([],2)):=by show _=_;unfold cK;rw[zaa HM.out,zaa (by rw[HR.out];simp),zaa HNC.out,zac Ib]
      have ho:Fq (cV G 2 F)=false:=by unfold Fq;rw[Ib];rfl
      rw[ho];clear ho;go_wp2_with fail;go_ret2;exact⟨kQ (a:=[]) (by rw[HV.out]) (by rw[HV.out]),sA.out⟩
end Go.Proofs.YtlhimdjkkiflhaaGreatDoor
namespace Go.Proofs.YtlhimdjkkiflhaaGreatDoor
open Go.RowKit Go.Loop
def Ao (x:mb):Φ→Nd
 |.slice a _ c=>⟨x.kind,x.text,x.n,x.d,x.subs.map λk:Nat=>(k:Int),a,c⟩
 |_=>⟨x.kind,x.text,x.n,x.d,x.subs.map λk:Nat=>(k:Int),none,0⟩
def bF (x:mb):Nd:=⟨x.kind,x.text,x.n,x.d,x.subs.map λk:Nat=>(k:Int),none,0⟩
def eE:List mb→List Φ→List Nd
 |x::l,sv::bC=>Ao x sv::eE l bC
 |_,_=>[]
theorem uq:∀(l:List mb) (bC:List Φ),bC.length=l.length→(eE l bC).length=l.length
 |[],_,_=>by simp[eE]
 |x::l,[],h=>by simp at h
 |x::l,sv::bC,h=>by
  have:=uq l bC (by simpa using h);simp[eE,this]
theorem OU (x:mb)(sv:Φ):jr (Ao x sv)=bF x:=by
 cases sv<;>rfl
theorem Ap:∀(l:List mb) (bC:List Φ),bC.length=l.length→(eE l bC).map jr=l.map bF
 |[],_,_=>by simp[eE]
 |x::l,[],h=>by simp at h
 |x::l,sv::bC,h=>by
  have:=Ap l bC (by simpa using h);simp[eE,this,OU]
theorem C2:∀(l:List mb) (bC:List Φ) (i:Nat),bC.length=l.length→i<l.length→∃x sv,l[i]?=some x∧bC[i]?=some sv∧(eE l bC)[i]?=some (Ao x sv)∧∀j,j<5→(xC l bC)[i*5+j]?=(sS x sv)[j]?
 |[],_,i,_,h=>by simp at h
 |x::l,[],_,h,_=>by simp at h
 |x::l,sv::bC,0,h,_=>by
  refine⟨x,sv,rfl,rfl,rfl,λj hj=>?_⟩;simp only[xC,Nat.zero_mul,zcd];rw[zbF (by simp[sS];omega)]
 |x::l,sv::bC,i+1,h,hi=>by
  obtain⟨y,sy,h1,h2,h3,h4⟩:=C2 l bC i (by simpa using h) (by simpa using hi);refine⟨y,sy,by simpa using h1,by simpa using h2,by simpa[eE]using h3,λj hj=>?_⟩;rw[←h4 j hj];simp only[xC];rw[zbw (by simp[sS];omega)]
  congr 1
  simp[sS];omega
theorem sH {w:Θ}{lo:Nat}{nv:Φ}{bC:List Φ}{nodes:List mb}(h:bJ w lo nv bC nodes)(hne:nodes≠[])(hlen:∀x∈nodes,x.text.length≤υ∧x.subs.length≤υ):∃b cap,nv=.slice (some ⟨b,0,none⟩) (eE nodes bC).length cap∧(eE nodes bC).length=nodes.length∧bh w b 0 (eE nodes bC)∧(eE nodes bC).map jr=nodes.map bF:=by
 obtain⟨hrow,hl,gz⟩:=h;have hL:=uq nodes bC hl;rcases hrow.2 with⟨_,h0⟩|⟨g,cap,cur,rfl,h1,h2,h3,h4,h5,h6⟩
 ·exact absurd (List.length_eq_zero_iff.1 h0) hne
 ·refine⟨g,cap,by rw[hL],hL,λi hi=>?_,Ap nodes bC hl⟩;rw[hL]at hi;obtain⟨x,sv,k1,k2,k3,k4⟩:=C2 nodes bC i hl hi;have hx:(eE nodes bC)[i]=Ao x sv:=by
   have:=zaq (by rw[hL];exact hi:i<(eE nodes bC).length);rw[this]at k3;exact zaF k3
  rw[hx];have hc:∀j,j<5→w.cell? ⟨g,0+i*5+j,none⟩=(sS x sv)[j]?:=λj hj=>by
   rw[←k4 j hj,zcd];exact Θ.ownsRow.cellAt hrow _ (by omega)
  have hb:=hlen x (zcC k1);have hs:=gz i x sv k1 k2;have c0:=hc 0 (by omega);have c1:=hc 1 (by omega);have c2:=hc 2 (by omega);have c3:=hc 3 (by omega);have c4:=hc 4 (by omega);simp only[sS,List.getElem?_cons_zero,List.getElem?_cons_succ,Nat.add_zero]at c0 c1 c2 c3 c4;rcases hs with⟨rfl,he⟩|⟨b,rfl,_,hblk⟩
  ·refine⟨c0,c1,c2,c3,?_,.inl ?_,hb.1,?_⟩
   ·simpa[Ao,he]using c4
   ·simp[Ao,he]
   ·simpa[Ao]using hb.2
  ·refine⟨c0,c1,c2,c3,?_,.inr ⟨b,0,rfl,λj hj=>?_⟩,hb.1,?_⟩
   ·simpa[Ao]using c4
   ·simp only[Ao,zbx]at hj;simp only[Θ.cell?,hblk,Ao];simp[hj]
   ·simpa[Ao]using hb.2
end Go.Proofs.YtlhimdjkkiflhaaGreatDoor
namespace Go.Ren
open Go Go.Conc Go.ConcX Go.RowKit Go.Proofs Go.Loop Go.Proofs.YtlhimdjkkiflhaaGreatDoor
theorem Pow.Ic {w w':Θ}(h:Pow w)(hb:ak w w'):Pow w':=by
 have hb':Ξ w.heap.size w { w with heap:=w'.heap }:=⟨rfl,rfl,rfl,hb.1,hb.2⟩;have:=Pow.on h hb';unfold YtlhimdjkkiflhaaGreatDoor.Pow Lib.TabIs Θ.var? at this ⊢;exact this
theorem _root_.Go.Proofs.YtlhimdjkkiflhaaGreatDoor.bh.SK {w w':Θ}{b o:Nat}{G:List Nd}(h:bh w b o G)(e:w'.heap=w.heap):bh w' b o G:=λi hi=>by
 have hc:∀a,w'.cell? a=w.cell? a:=λa=>by unfold Θ.cell?;rw[e]
 have hn:=h i hi;refine⟨by rw[hc];exact hn.kind,by rw[hc];exact hn.text,by rw[hc];exact hn.n,by rw[hc];exact hn.d,by rw[hc];exact hn.subs,?_,hn.acE,hn.acF⟩;rcases hn.ints with h0|⟨b1,o1,e1,h1⟩
 ·exact .inl h0
 ·exact .inr ⟨b1,o1,e1,λj hj=>by rw[hc];exact h1 j hj⟩
end Go.Ren
namespace Go.Loop
def SL (T:List Tok)(dp:Nat):Bool:=
 match aO T dp 2000 ⟨0,false,[]⟩ ⟨0,0,[]⟩with
 |.ok d _=>aW d d&&(match iy d 100000 d ⟨[],[]⟩with
  |some g=>decide (g.2.nodes.length≤999999)
  |none=>false)
 |_=>true
theorem KV {T:List Tok}{dp:Nat}(h:SL T dp=true)(d:Dt)(s':gK)(hr:aO T dp 2000 ⟨0,false,[]⟩ ⟨0,0,[]⟩=.ok d s'):aW d d=true∧∃k g,iy d 100000 d ⟨[],[]⟩=some (k,g)∧g.nodes.length≤999999:=by
 unfold SL at h;rw[hr]at h;simp only[zaj]at h;refine⟨h.1,?_⟩;have h2:=h.2;cases hn:iy d 100000 d ⟨[],[]⟩with
 |none=>rw[hn]at h2;cases h2
 |some g=>
  rw[hn]at h2;exact⟨g.1,g.2,rfl,of_decide_eq_true h2⟩
set_option maxRecDepth 1000000
def qw:List UInt8:=[35,55,61,40,97,32,46,32,35,55,35,41,32,98]
def gi:List mb:=[⟨1,[],0,0,[1,0]⟩,⟨4,[97],0,0,[]⟩]
theorem KW:SL (aG (qw.length+1) qw 0) 5=true:=by decide +kernel
theorem KX:lG qw 5=some (gi,12,0):=by decide +kernel
end Go.Loop
