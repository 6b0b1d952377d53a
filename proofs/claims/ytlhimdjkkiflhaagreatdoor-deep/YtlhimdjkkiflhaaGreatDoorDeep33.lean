import Derived.Test.YtlhimdjkkiflhaaGreatDoorDeep22
import Derived.Test.YtlhimdjkkiflhaaGreatDoorDeep32
namespace Go.Loop
structure WS where
 met:List Int
 wi:List Bool
 op:List Bool
def WS.hit (s:WS)(a:Nat):WS:={ s with met:=s.met.set a (s.met.getD a 0+1) }
def WS.again (s:WS)(a:Nat):WS:={ s with wi:=s.wi.set a (s.wi.getD a false||s.op.getD a false) }
def WS.enter (s:WS)(a:Nat):WS:={ s with op:=s.op.set a true }
def WS.leave (s:WS)(a:Nat):WS:={ s with op:=s.op.set a false }
def meetF (S:Nat→List Nat):Nat→WS→Nat→WS
 |0,s,_=>s
 |f+1,s,a=>if 0<s.met.getD a 0 then(s.hit a).again a else((S a).foldl (meetF S f) ((s.hit a).enter a)).leave a
structure WS.Ok (n:Nat) (s:WS):Prop where
 lm:s.met.length=n
 lw:s.wi.length=n
 lo:s.op.length=n
 nn:∀ i,0≤s.met.getD i 0
 om:∀ i,s.op.getD i false=true→0<s.met.getD i 0
theorem getD_set {α:Type}(l:List α)(a i:Nat)(v d:α)(h:a<l.length):(l.set a v).getD i d=if i=a then v else l.getD i d:=by
 simp only[List.getD,List.getElem?_set]
 by_cases e:a=i
 ·subst e;simp[h]
 ·rw[if_neg e,if_neg (fun x=>e x.symm)]
theorem WS.Ok.hit {n:Nat}{s:WS}(h:s.Ok n){a:Nat}(ha:a<n):(s.hit a).Ok n:=by
 refine⟨by simp[WS.hit,h.lm],h.lw,h.lo,fun i=>?_,fun i hi=>?_⟩
 ·simp only[WS.hit];rw[getD_set _ _ _ _ _ (by rw[h.lm];exact ha)]
  split
  ·have:=h.nn a;omega
  ·exact h.nn i
 ·simp only[WS.hit];rw[getD_set _ _ _ _ _ (by rw[h.lm];exact ha)]
  split
  ·have:=h.nn a;omega
  ·exact h.om i hi
theorem WS.Ok.again {n:Nat}{s:WS}(h:s.Ok n)(a:Nat):(s.again a).Ok n:=⟨h.lm,by simp[WS.again,h.lw],h.lo,h.nn,h.om⟩
theorem WS.Ok.leave {n:Nat}{s:WS}(h:s.Ok n){a:Nat}(ha:a<n):(s.leave a).Ok n:=by
 refine⟨h.lm,h.lw,by simp[WS.leave,h.lo],h.nn,fun i hi=>?_⟩
 simp only[WS.leave] at hi;rw[getD_set _ _ _ _ _ (by rw[h.lo];exact ha)] at hi
 split at hi
 ·exact absurd hi (by simp)
 ·exact h.om i hi
theorem WS.Ok.enter {n:Nat}{s:WS}(h:s.Ok n){a:Nat}(ha:a<n)(hm:0<s.met.getD a 0):(s.enter a).Ok n:=by
 refine⟨h.lm,h.lw,by simp[WS.enter,h.lo],h.nn,fun i hi=>?_⟩
 simp only[WS.enter] at hi;rw[getD_set _ _ _ _ _ (by rw[h.lo];exact ha)] at hi
 split at hi
 ·rename_i e;subst e;exact hm
 ·exact h.om i hi
theorem hit_met {n:Nat}{s:WS}(h:s.Ok n){a:Nat}(ha:a<n)(i:Nat):(s.hit a).met.getD i 0=if i=a then s.met.getD a 0+1 else s.met.getD i 0:=by
 simp only[WS.hit];rw[getD_set _ _ _ _ _ (by rw[h.lm];exact ha)]
theorem hit_pos {n:Nat}{s:WS}(h:s.Ok n){a:Nat}(ha:a<n):0<(s.hit a).met.getD a 0:=by
 rw[hit_met h ha,if_pos rfl];have:=h.nn a;omega
theorem Ok.meet {n:Nat}{S:Nat→List Nat}(hS:∀ x,x<n→∀ y∈S x,y<n):∀ (f:Nat) (s:WS) (a:Nat),s.Ok n→a<n→(meetF S f s a).Ok n
 |0,s,a,h,ha=>h
 |f+1,s,a,h,ha=>by
  simp only[meetF]
  split
  ·exact(h.hit ha).again a
  ·refine WS.Ok.leave ?_ ha
   have h2:((s.hit a).enter a).Ok n:=(h.hit ha).enter ha (hit_pos h ha)
   have:∀ (l:List Nat) (t:WS),(∀ y∈l,y<n)→t.Ok n→(l.foldl (meetF S f) t).Ok n:=by
    intro l
    induction l with
    |nil=>intro t _ ht;exact ht
    |cons y r ih=>intro t hl ht;exact ih _ (fun z hz=>hl z (List.mem_cons_of_mem _ hz)) (Ok.meet hS f t y ht (hl y List.mem_cons_self))
   exact this _ _ (hS a ha) h2
def potL (g:Nat→Nat):Nat→List Int→Nat
 |_,[]=>0
 |i,m::r=>(if m=0 then g i else 0)+potL g (i+1) r
theorem potL_set (g:Nat→Nat):∀ (met:List Int) (i a:Nat) (v:Int),v≠0→a<met.length→potL g i (met.set a v)+(if met.getD a 0=0 then g (i+a) else 0)=potL g i met
 |[],_,_,_,_,h=>by simp at h
 |m::r,i,0,v,hv,_=>by simp[potL,List.set,hv];omega
 |m::r,i,a+1,v,hv,h=>by
  have ih:=potL_set g r (i+1) a v hv (by simpa using h)
  simp only[List.set,potL,List.getD_cons_succ]
  rw[show i+(a+1)=i+1+a by omega];omega
def WS.pot (s:WS)(g:Nat→Nat):Nat:=potL g 0 s.met
theorem pot_hit {n:Nat}{s:WS}(h:s.Ok n){a:Nat}(ha:a<n)(g:Nat→Nat):(s.hit a).pot g+(if s.met.getD a 0=0 then g a else 0)=s.pot g:=by
 have:=potL_set g s.met 0 a (s.met.getD a 0+1) (by have:=h.nn a;omega) (by rw[h.lm];exact ha)
 rw[Nat.zero_add] at this;exact this
def WS.Bd (S:Nat→List Nat)(c:Nat)(s:WS):Prop:=∀ i,s.met.getD i 0+(s.pot (fun x=>(S x).length):Nat)≤c
theorem Bd.meet {n:Nat}{S:Nat→List Nat}(hS:∀ x,x<n→∀ y∈S x,y<n):∀ (f:Nat) (s:WS) (a c:Nat),s.Ok n→a<n→s.Bd S c→(meetF S f s a).Bd S (c+1)
 |0,s,a,c,h,ha,hb=>fun i=>by have:=hb i;simp only[meetF];omega
 |f+1,s,a,c,h,ha,hb=>by
  simp only[meetF]
  have hp:=pot_hit h ha (fun x=>(S x).length)
  split
  ·rename_i hm
   intro i
   show(s.hit a).met.getD i 0+((s.hit a).pot (fun x=>(S x).length):Nat)≤_
   rw[hit_met h ha]
   rw[if_neg (by omega)] at hp
   have h1:=hb i;have h2:=hb a
   split<;>omega
  ·rename_i hm
   have hm0:s.met.getD a 0=0:=by have:=h.nn a;omega
   rw[if_pos hm0] at hp
   have h2:((s.hit a).enter a).Ok n:=(h.hit ha).enter ha (hit_pos h ha)
   have hc:(S a).length≤c:=by have:=hb a;omega
   have hb2:((s.hit a).enter a).Bd S (c+1-(S a).length):=by
    intro i
    show(s.hit a).met.getD i 0+((s.hit a).pot (fun x=>(S x).length):Nat)≤_
    rw[hit_met h ha]
    have h1:=hb i;have h3:=hb a
    split<;>omega
   have:∀ (l:List Nat) (t:WS) (k:Nat),(∀ y∈l,y<n)→t.Ok n→t.Bd S k→(l.foldl (meetF S f) t).Bd S (k+l.length):=by
    intro l
    induction l with
    |nil=>intro t k _ _ ht;exact ht
    |cons y r ih=>
     intro t k hl ht hk
     have:=ih (meetF S f t y) (k+1) (fun z hz=>hl z (List.mem_cons_of_mem _ hz)) (Ok.meet hS f t y ht (hl y List.mem_cons_self)) (Bd.meet hS f t y k ht (hl y List.mem_cons_self) hk)
     simp only[List.foldl_cons,List.length_cons]
     rw[show k+(r.length+1)=k+1+r.length by omega];exact this
   have h4:=this (S a) _ _ (hS a ha) h2 hb2
   rw[show c+1-(S a).length + (S a).length=c+1 by omega] at h4
   exact h4
theorem pot_meet {n:Nat}{S:Nat→List Nat}(hS:∀ x,x<n→∀ y∈S x,y<n)(g:Nat→Nat):∀ (f:Nat) (s:WS) (a:Nat),s.Ok n→a<n→(meetF S f s a).pot g≤s.pot g
 |0,s,a,_,_=>Nat.le_refl _
 |f+1,s,a,h,ha=>by
  simp only[meetF]
  have hp:=pot_hit h ha g
  split
  ·show(s.hit a).pot g≤_;omega
  ·have h2:((s.hit a).enter a).Ok n:=(h.hit ha).enter ha (hit_pos h ha)
   have:∀ (l:List Nat) (t:WS),(∀ y∈l,y<n)→t.Ok n→(l.foldl (meetF S f) t).pot g≤t.pot g:=by
    intro l
    induction l with
    |nil=>intro t _ _;exact Nat.le_refl _
    |cons y r ih=>intro t hl ht;exact Nat.le_trans (ih _ (fun z hz=>hl z (List.mem_cons_of_mem _ hz)) (Ok.meet hS f t y ht (hl y List.mem_cons_self))) (pot_meet hS g f t y ht (hl y List.mem_cons_self))
   have h4:=this (S a) _ (hS a ha) h2
   have h5:((s.hit a).enter a).pot g=(s.hit a).pot g:=rfl
   show(((S a).foldl (meetF S f) ((s.hit a).enter a))).pot g≤_
   omega
def ClosedIn (S:Nat→List Nat)(wi:List Bool)(fin:List Nat):Prop:=
 ∀ (i x:Nat),fin[i]? =some x→∀ y∈S x,wi.getD y false=true∨∃ j:Nat,j<i∧fin[j]? =some y
structure Fnd (S:Nat→List Nat) (s:WS) (fin:List Nat):Prop where
 cl:∀ x,0<s.met.getD x 0→s.op.getD x false=true∨x∈fin
 q:ClosedIn S s.wi fin
 wm:∀ x,s.wi.getD x false=true→0<s.met.getD x 0
 fm:∀ x∈fin,0<s.met.getD x 0
structure Met (S:Nat→List Nat) (s s':WS) (fin fin':List Nat) (a:Nat):Prop where
 fnd:Fnd S s' fin'
 pre:∃ ext,fin'=fin++ext
 op:∀ i,s'.op.getD i false=s.op.getD i false
 wi:∀ i,s.wi.getD i false=true→s'.wi.getD i false=true
 met:∀ i,0<s.met.getD i 0→0<s'.met.getD i 0
 here:s'.wi.getD a false=true∨a∈fin'
 hit:0<s'.met.getD a 0
theorem ClosedIn.mono {S:Nat→List Nat}{wi wi':List Bool}{fin:List Nat}(h:ClosedIn S wi fin)(hw:∀ i,wi.getD i false=true→wi'.getD i false=true):ClosedIn S wi' fin:=
 fun i x hx y hy=>(h i x hx y hy).imp (hw y) id
theorem met_fin {n:Nat}{S:Nat→List Nat}(hS:∀ x,x<n→∀ y∈S x,y<n):∀ (f:Nat) (s:WS) (a:Nat) (fin:List Nat),s.Ok n→a<n→s.pot (fun _=>1)<f→Fnd S s fin→
 ∃ fin',Met S s (meetF S f s a) fin fin' a
 |0,s,a,fin,_,_,h,_=>by omega
 |f+1,s,a,fin,h,ha,hf,hF=>by
  have hp:=pot_hit h ha (fun _=>1)
  simp only[meetF]
  split
  ·rename_i hm
   have hwi:∀ i,s.wi.getD i false=true→((s.hit a).again a).wi.getD i false=true:=by
    intro i hi
    show(s.wi.set a (s.wi.getD a false||s.op.getD a false)).getD i false=true
    rw[getD_set _ _ _ _ _ (by rw[h.lw];exact ha)]
    split
    ·rename_i e;subst e;rw[hi];rfl
    ·exact hi
   have hmt:∀ i,0<s.met.getD i 0→0<((s.hit a).again a).met.getD i 0:=by
    intro i hi
    show 0<(s.hit a).met.getD i 0
    rw[hit_met h ha];split<;>omega
   refine⟨fin,⟨fun x hx=>?_,hF.q.mono hwi,fun x hx=>?_,fun x hx=>hmt x (hF.fm x hx)⟩,⟨[],by simp⟩,fun i=>rfl,hwi,hmt,?_,hmt a hm⟩
   ·change 0<(s.hit a).met.getD x 0 at hx
    rw[hit_met h ha] at hx
    split at hx
    ·rename_i e;subst e;exact hF.cl x hm
    ·exact hF.cl x hx
   ·change(s.wi.set a (s.wi.getD a false||s.op.getD a false)).getD x false=true at hx
    rw[getD_set _ _ _ _ _ (by rw[h.lw];exact ha)] at hx
    split at hx
    ·rename_i e;subst e;exact hmt x hm
    ·exact hmt x (hF.wm x hx)
   ·rcases hF.cl a hm with ho|hi
    ·left
     show(s.wi.set a (s.wi.getD a false||s.op.getD a false)).getD a false=true
     rw[getD_set _ _ _ _ _ (by rw[h.lw];exact ha),if_pos rfl,ho];simp
    ·exact Or.inr hi
  ·rename_i hm
   have hm0:s.met.getD a 0=0:=by have:=h.nn a;omega
   rw[if_pos hm0] at hp
   have hoa:s.op.getD a false=false:=by
    cases e:s.op.getD a false
    ·rfl
    ·have:=h.om a e;omega
   have h2:((s.hit a).enter a).Ok n:=(h.hit ha).enter ha (hit_pos h ha)
   have hop2:∀ i,((s.hit a).enter a).op.getD i false=if i=a then true else s.op.getD i false:=by
    intro i
    show(s.op.set a true).getD i false=_
    rw[getD_set _ _ _ _ _ (by rw[h.lo];exact ha)]
   have hF2:Fnd S ((s.hit a).enter a) fin:=by
    have hmt:∀ i,0<s.met.getD i 0→0<((s.hit a).enter a).met.getD i 0:=by
     intro i hi
     show 0<(s.hit a).met.getD i 0
     rw[hit_met h ha];split<;>omega
    refine⟨fun x hx=>?_,hF.q,fun x hx=>hmt x (hF.wm x hx),fun x hx=>hmt x (hF.fm x hx)⟩
    change 0<(s.hit a).met.getD x 0 at hx
    rw[hit_met h ha] at hx
    rw[hop2]
    by_cases e:x=a
    ·left;rw[if_pos e]
    ·rw[if_neg e] at hx;rw[if_neg e];exact hF.cl x hx
   have key:∀ (l:List Nat) (t:WS) (fn:List Nat),(∀ y∈l,y<n)→t.Ok n→t.pot (fun _=>1)<f→Fnd S t fn→
    ∃ fn',Fnd S (l.foldl (meetF S f) t) fn'∧(∃ ext,fn'=fn++ext)∧(∀ i,(l.foldl (meetF S f) t).op.getD i false=t.op.getD i false)∧(∀ i,t.wi.getD i false=true→(l.foldl (meetF S f) t).wi.getD i false=true)
      ∧(∀ i,0<t.met.getD i 0→0<(l.foldl (meetF S f) t).met.getD i 0)∧(∀ y∈l,(l.foldl (meetF S f) t).wi.getD y false=true∨y∈fn'):=by
    intro l
    induction l with
    |nil=>intro t fn _ _ _ hT;exact⟨fn,hT,⟨[],by simp⟩,fun _=>rfl,fun _ h=>h,fun _ h=>h,fun y hy=>by simp at hy⟩
    |cons y r ih=>
     intro t fn hl ht hpt hT
     have hy:=hl y List.mem_cons_self
     obtain⟨fn1,m1⟩:=met_fin hS f t y fn ht hy hpt hT
     obtain⟨e1,rfl⟩:=m1.pre
     obtain⟨fn2,k1,⟨e2,rfl⟩,k3,k4,k5,k6⟩:=ih (meetF S f t y) _ (fun z hz=>hl z (List.mem_cons_of_mem _ hz)) (Ok.meet hS f t y ht hy) (Nat.lt_of_le_of_lt (pot_meet hS _ f t y ht hy) hpt) m1.fnd
     refine⟨_,k1,⟨e1++e2,by simp⟩,fun i=>(k3 i).trans (m1.op i),fun i hi=>k4 i (m1.wi i hi),fun i hi=>k5 i (m1.met i hi),fun z hz=>?_⟩
     rcases List.mem_cons.1 hz with rfl|hz
     ·rcases m1.here with h|h
      ·exact Or.inl (k4 _ h)
      ·exact Or.inr (List.mem_append_left _ h)
     ·exact k6 z hz
   obtain⟨fn,k1,⟨ext,rfl⟩,k3,k4,k5,k6⟩:=key (S a) ((s.hit a).enter a) fin (hS a ha) h2 (by show(s.hit a).pot (fun _=>1)<f;omega) hF2
   have hokt:((S a).foldl (meetF S f) ((s.hit a).enter a)).Ok n:=by
    have:∀ (l:List Nat) (t:WS),(∀ y∈l,y<n)→t.Ok n→(l.foldl (meetF S f) t).Ok n:=by
     intro l
     induction l with
     |nil=>intro t _ ht;exact ht
     |cons y r ih=>intro t hl ht;exact ih _ (fun z hz=>hl z (List.mem_cons_of_mem _ hz)) (Ok.meet hS f t y ht (hl y List.mem_cons_self))
    exact this _ _ (hS a ha) h2
   generalize (S a).foldl (meetF S f) ((s.hit a).enter a)=t at *
   have hopl:∀ i,(t.leave a).op.getD i false=if i=a then false else t.op.getD i false:=by
    intro i
    show(t.op.set a false).getD i false=_
    rw[getD_set _ _ _ _ _ (by rw[hokt.lo];exact ha)]
   refine⟨fin++ext++[a],⟨fun x hx=>?_,fun i x hx y hy=>?_,k1.wm,fun x hx=>?_⟩,⟨ext++[a],by simp⟩,fun i=>?_,fun i hi=>k4 i hi,fun i hi=>k5 i ?_,Or.inr (by simp),k5 a (hit_pos h ha)⟩
   ·by_cases e:x=a
    ·right;simp[e]
    ·rcases k1.cl x hx with ho|hi
     ·left;rw[hopl,if_neg e];exact ho
     ·right;exact List.mem_append_left _ hi
   ·by_cases hi:i<(fin++ext).length
    ·rw[List.getElem?_append_left hi] at hx
     rcases k1.q i x hx y hy with hw|⟨j,hj,hjy⟩
     ·exact Or.inl hw
     ·refine Or.inr ⟨j,hj,?_⟩
      rw[List.getElem?_append_left (by omega)];exact hjy
    ·rw[List.getElem?_append_right (by omega)] at hx
     have hia:i-(fin++ext).length=0:=by
      rcases Nat.eq_zero_or_pos (i-(fin++ext).length) with h|h
      ·exact h
      ·rw[List.getElem?_eq_none (by simp only[List.length_cons,List.length_nil];omega)] at hx;simp at hx
     rw[hia] at hx
     simp at hx
     subst hx
     rcases k6 y hy with hw|hm
     ·exact Or.inl hw
     ·obtain⟨j,hj,hjy⟩:=List.getElem_of_mem hm
      refine Or.inr ⟨j,by omega,?_⟩
      rw[List.getElem?_append_left hj,List.getElem?_eq_getElem hj,hjy]
   ·rcases List.mem_append.1 hx with hx|hx
    ·exact k1.fm x hx
    ·rw[List.mem_singleton.1 hx];exact k5 a (hit_pos h ha)
   ·rw[hopl]
    split
    ·rename_i e;rw[e,hoa]
    ·rename_i e;rw[k3,hop2,if_neg e]
   ·change 0<(s.hit a).met.getD i 0
    rw[hit_met h ha];split<;>omega
def WS.start (n:Nat):WS:=⟨List.replicate n 0,List.replicate n false,List.replicate n false⟩
theorem getD_rep {α:Type}(n i:Nat)(v:α):(List.replicate n v).getD i v=v:=by
 simp[List.getD,List.getElem?_replicate]
 split<;>rfl
theorem start_ok (n:Nat):(WS.start n).Ok n:=
 ⟨by simp[WS.start],by simp[WS.start],by simp[WS.start],fun i=>by show 0≤(List.replicate n (0:Int)).getD i 0;rw[getD_rep];omega,fun i hi=>by
   change(List.replicate n false).getD i false=true at hi;rw[getD_rep] at hi;exact absurd hi (by simp)⟩
theorem potL_one (n:Nat):∀ i,potL (fun _=>1) i (List.replicate n 0)=n:=by
 induction n with
 |zero=>intro i;rfl
 |succ n ih=>intro i;simp[List.replicate_succ,potL,ih];omega
theorem start_fnd (n:Nat)(S:Nat→List Nat):Fnd S (WS.start n) []:=
 ⟨fun x hx=>by change 0<(List.replicate n (0:Int)).getD x 0 at hx;rw[getD_rep] at hx;omega,fun i x hx=>by simp at hx,
   fun x hx=>by change(List.replicate n false).getD x false=true at hx;rw[getD_rep] at hx;exact absurd hx (by simp),fun x hx=>by simp at hx⟩
theorem idxOf_le:∀ (l:List Nat) (j:Nat) (h:j<l.length),l.idxOf l[j]≤j
 |c::r,0,_=>by simp
 |c::r,j+1,h=>by
  have hj:j<r.length:=by simpa using h
  have ih:=idxOf_le r j hj
  rw[List.idxOf_cons]
  simp only[List.getElem_cons_succ]
  cases (c==r[j])<;>simp<;>omega
def walkS (S:Nat→List Nat)(n:Nat):WS:=meetF S (n+1) (WS.start n) 0
def reach (S:Nat→List Nat)(n:Nat)(x:Nat):Prop:=0<(walkS S n).met.getD x 0
theorem walk_rank {n:Nat}{S:Nat→List Nat}(hn:0<n)(hS:∀ x,x<n→∀ y∈S x,y<n):
 ∃ (R:Nat) (r:Nat→Nat),(∀ x,r x≤R)∧reach S n 0∧(∀ x,reach S n x→∀ y∈S x,reach S n y)∧
   (∀ x,reach S n x→∀ y∈S x,(walkS S n).wi.getD y false=false→r y<r x):=by
 obtain⟨fin,m⟩:=met_fin hS (n+1) (WS.start n) 0 [] (start_ok n) hn (by show potL (fun _=>1) 0 (List.replicate n 0)<n+1;rw[potL_one];omega) (start_fnd n S)
 have hcl:∀ x,reach S n x→x∈fin:=by
  intro x hx
  rcases m.fnd.cl x hx with h|h
  ·rw[m.op] at h
   change(List.replicate n false).getD x false=true at h
   rw[getD_rep] at h;exact absurd h (by simp)
  ·exact h
 refine⟨fin.length,fun x=>fin.idxOf x,fun x=>List.idxOf_le_length,m.hit,fun x hx y hy=>?_,fun x hx y hy hw=>?_⟩
 ·have hi:=hcl x hx
  have hlt:=List.idxOf_lt_length_of_mem hi
  have hg:fin[fin.idxOf x]? =some x:=by rw[List.getElem?_eq_getElem hlt,List.getElem_idxOf hlt]
  rcases m.fnd.q _ _ hg y hy with h|⟨j,_,hj⟩
  ·exact m.fnd.wm y h
  ·exact m.fnd.fm y (List.mem_of_getElem? hj)
 ·have hi:=hcl x hx
  have hlt:=List.idxOf_lt_length_of_mem hi
  have hg:fin[fin.idxOf x]? =some x:=by rw[List.getElem?_eq_getElem hlt,List.getElem_idxOf hlt]
  rcases m.fnd.q _ _ hg y hy with h|⟨j,hj,hjy⟩
  ·rw[show(meetF S (n+1) (WS.start n) 0)=walkS S n from rfl,hw] at h;exact absurd h (by simp)
  ·have hjl:j<fin.length:=by
    rcases Nat.lt_or_ge j fin.length with h|h
    ·exact h
    ·rw[List.getElem?_eq_none h] at hjy;simp at hjy
   rw[List.getElem?_eq_getElem hjl] at hjy
   have:fin.idxOf y≤j:=by
    rw[←Option.some.inj hjy]
    exact idxOf_le fin j hjl
   show fin.idxOf y<fin.idxOf x
   omega
structure TS where
 lab:List Int
 next:Nat
 out:List UInt8
 long:Bool
def TS.add (t:TS)(p:List UInt8):TS:=if t.long then t else if 400<t.out.length+p.length then { t with long:=true } else { t with out:=t.out++p }
def TS.put (t:TS)(a:Nat):TS:={ t.add (35::(Lib.itoa t.next++[61])) with lab:=t.lab.set a t.next,next:=t.next+1 }
def vecTo (node:TS→Nat→TS)(l:List Nat):Nat→TS→TS
 |0,t=>t
 |k+1,t=>node (if k=0 then vecTo node l k t else(vecTo node l k t).add [32]) (l.getD k 0)
def WF (K:Nat→Int)(S:Nat→List Nat)(At:Nat→List UInt8)(L:Nat→Bool):Nat→Bool→TS→Nat→TS
 |0,_,t,_=>t
 |f+1,false,t,a=>
  if t.long then t
  else if 0≤t.lab.getD a (-1) then t.add (35::(Lib.itoa (t.lab.getD a (-1))++[35]))
  else
   if K a=1 then WF K S At L f true (WF K S At L f false (((if L a then t.put a else t)).add [40]) ((S a).getD 0 0)) ((S a).getD 1 0)
   else if K a=2 then(vecTo (WF K S At L f false) (S a) (S a).length ((if L a then t.put a else t).add [35,40])).add [41]
   else(if L a then t.put a else t).add (At a)
 |f+1,true,t,r=>
  if K r=1∧L r=false then WF K S At L f true (WF K S At L f false (t.add [32]) ((S r).getD 0 0)) ((S r).getD 1 0)
  else if K r=0 then t.add [41]
  else(WF K S At L f false (t.add [32,46,32]) r).add [41]
structure TS.Ok (n:Nat) (L:Nat→Bool) (t:TS):Prop where
 ll:t.lab.length=n
 lo:t.long=false→t.out.length≤400
 ln:∀ i,-1≤t.lab.getD i (-1)∧t.lab.getD i (-1)<t.next
 lL:∀ i,0≤t.lab.getD i (-1)→L i=true
 nx:t.long=false→t.next≤t.out.length
 n2:t.next≤401
theorem add_long {t:TS}(h:t.long=true)(p:List UInt8):t.add p=t:=by unfold TS.add;rw[if_pos h]
theorem add_over {t:TS}(h:t.long=false){p:List UInt8}(hp:400<t.out.length+p.length):t.add p={ t with long:=true }:=by unfold TS.add;rw[if_neg (by simp[h]),if_pos hp]
theorem add_fits {t:TS}(h:t.long=false){p:List UInt8}(hp:t.out.length+p.length≤400):t.add p={ t with out:=t.out++p }:=by unfold TS.add;rw[if_neg (by simp[h]),if_neg (by omega)]
theorem add_lab (t:TS)(p:List UInt8):(t.add p).lab=t.lab:=by
 unfold TS.add;repeat' split
 all_goals rfl
theorem add_next (t:TS)(p:List UInt8):(t.add p).next=t.next:=by
 unfold TS.add;repeat' split
 all_goals rfl
theorem TS.Ok.add {n:Nat}{L:Nat→Bool}{t:TS}(h:t.Ok n L)(p:List UInt8):(t.add p).Ok n L:=by
 refine⟨by rw[add_lab];exact h.ll,fun hl=>?_,by rw[add_lab,add_next];exact h.ln,by rw[add_lab];exact h.lL,fun hl=>?_,by rw[add_next];exact h.n2⟩
 all_goals
  by_cases h1:t.long=true
  ·rw[add_long h1,h1] at hl;exact absurd hl (by simp)
  ·have h1':t.long=false:=by simpa using h1
   by_cases h2:400<t.out.length+p.length
   ·rw[add_over h1' h2] at hl;exact absurd hl (by simp)
   ·rw[add_fits h1' (by omega)]
    have e1:=h.lo h1'
    have e2:=h.nx h1'
    simp only[List.length_append];omega
theorem TS.Ok.put {n:Nat}{L:Nat→Bool}{t:TS}(h:t.Ok n L){a:Nat}(ha:a<n)(hL:L a=true)(hlong:t.long=false):(t.put a).Ok n L:=by
 have h1:=h.add (35::(Lib.itoa t.next++[61]))
 have e1:=h.lo hlong
 have e2:=h.nx hlong
 refine⟨by simp[TS.put,h.ll],h1.lo,fun i=>?_,fun i hi=>?_,fun hl=>?_,by show t.next+1≤401;omega⟩
 ·show -1≤(t.lab.set a t.next).getD i (-1)∧(t.lab.set a t.next).getD i (-1)<((t.next+1:Nat):Int)
  rw[getD_set _ _ _ _ _ (by rw[h.ll];exact ha)]
  have:=h.ln i
  split<;>omega
 ·change 0≤(t.lab.set a t.next).getD i (-1) at hi
  rw[getD_set _ _ _ _ _ (by rw[h.ll];exact ha)] at hi
  split at hi
  ·rename_i e;rw[e];exact hL
  ·exact h.lL i hi
 ·change(t.add (35::(Lib.itoa t.next++[61]))).long=false at hl
  show t.next+1≤(t.add (35::(Lib.itoa t.next++[61]))).out.length
  by_cases h2:400<t.out.length+(35::(Lib.itoa t.next++[61])).length
  ·rw[add_over hlong h2] at hl;exact absurd hl (by simp)
  ·rw[add_fits hlong (by omega)];simp;omega
theorem vec_ok {n:Nat}{L:Nat→Bool}{node:TS→Nat→TS}(hn:∀ t y,t.Ok n L→y<n→(node t y).Ok n L)(l:List Nat)(hl:∀ y∈l,y<n):∀ (k:Nat) (t:TS),k≤l.length→t.Ok n L→(vecTo node l k t).Ok n L
 |0,t,_,h=>h
 |k+1,t,hk,h=>by
  simp only[vecTo]
  have hy:l.getD k 0<n:=hl _ (by simp[List.getD,List.getElem?_eq_getElem (show k<l.length by omega)])
  have ih:=vec_ok hn l hl k t (by omega) h
  split
  ·exact hn _ _ ih hy
  ·exact hn _ _ (ih.add _) hy
theorem WF_ok {n:Nat}{K:Nat→Int}{S:Nat→List Nat}{At:Nat→List UInt8}{L:Nat→Bool}(hS:∀ x,x<n→∀ y∈S x,y<n)(h2:∀ x,x<n→K x=1→(S x).length=2):
 ∀ (f:Nat) (b:Bool) (t:TS) (a:Nat),t.Ok n L→a<n→(WF K S At L f b t a).Ok n L
 |0,_,_,_,h,_=>h
 |f+1,false,t,a,h,ha=>by
  simp only[WF]
  by_cases hlong:t.long=true
  ·rw[if_pos hlong];exact h
  ·rw[if_neg hlong]
   by_cases hl:0≤t.lab.getD a (-1)
   ·rw[if_pos hl];exact h.add _
   ·rw[if_neg hl]
    have h1:(if L a then t.put a else t).Ok n L:=by
     split
     ·rename_i e;exact h.put ha e (by simpa using hlong)
     ·exact h
    by_cases k1:K a=1
    ·rw[if_pos k1]
     have hlen:=h2 a ha k1
     exact WF_ok hS h2 f true _ _ (WF_ok hS h2 f false _ _ (h1.add _) (hS a ha _ (by simp[List.getD,List.getElem?_eq_getElem (show 0<(S a).length by omega)]))) (hS a ha _ (by simp[List.getD,List.getElem?_eq_getElem (show 1<(S a).length by omega)]))
    ·rw[if_neg k1]
     by_cases k2:K a=2
     ·rw[if_pos k2]
      exact(vec_ok (fun t y ht hy=>WF_ok hS h2 f false t y ht hy) (S a) (hS a ha) _ _ (Nat.le_refl _) (h1.add _)).add _
     ·rw[if_neg k2];exact h1.add _
 |f+1,true,t,a,h,ha=>by
  simp only[WF]
  by_cases c1:K a=1∧L a=false
  ·rw[if_pos c1]
   have hlen:=h2 a ha c1.1
   exact WF_ok hS h2 f true _ _ (WF_ok hS h2 f false _ _ (h.add _) (hS a ha _ (by simp[List.getD,List.getElem?_eq_getElem (show 0<(S a).length by omega)]))) (hS a ha _ (by simp[List.getD,List.getElem?_eq_getElem (show 1<(S a).length by omega)]))
  ·rw[if_neg c1]
   by_cases c2:K a=0
   ·rw[if_pos c2];exact h.add _
   ·rw[if_neg c2];exact(WF_ok hS h2 f false _ _ (h.add _) ha).add _
theorem WF_long {K:Nat→Int}{S:Nat→List Nat}{At:Nat→List UInt8}{L:Nat→Bool}:∀ (f:Nat) (b:Bool) (t:TS) (a:Nat),t.long=true→WF K S At L f b t a=t
 |0,_,_,_,_=>rfl
 |f+1,false,t,a,h=>by simp only[WF];rw[if_pos h]
 |f+1,true,t,a,h=>by
  simp only[WF]
  rw[add_long h,add_long h,add_long h,WF_long f false t _ h,WF_long f false t _ h,WF_long f true t _ h,add_long h,ite_self,ite_self]
def need (t:TS):Nat:=if t.long then 1 else 2+(401-t.out.length)
theorem need_add (t:TS)(p:List UInt8):need (t.add p)≤need t:=by
 by_cases h:t.long=true
 ·rw[add_long h];exact Nat.le_refl _
 ·have h':t.long=false:=by simpa using h
  by_cases h2:400<t.out.length+p.length
  ·rw[add_over h' h2];unfold need;rw[if_pos rfl,if_neg h];omega
  ·rw[add_fits h' (by omega)];unfold need;rw[if_neg (by simpa using h'),if_neg h];simp;omega
theorem need_lt {t:TS}(h:t.long=false)(ho:t.out.length≤400){p:List UInt8}(hp:1≤p.length):need (t.add p)<need t:=by
 by_cases h2:400<t.out.length+p.length
 ·rw[add_over h h2];unfold need;rw[if_pos rfl,if_neg (by simp[h])];omega
 ·rw[add_fits h (by omega)];unfold need;rw[if_neg (by simp[h]),if_neg (by simp[h])];simp;omega
theorem need_put (t:TS)(a:Nat):need (t.put a)≤need t:=need_add t _
theorem need_pos (t:TS):1≤need t:=by unfold need;split<;>omega
theorem need_vec {node:TS→Nat→TS}(hn:∀ t y,need (node t y)≤need t)(l:List Nat):∀ (k:Nat) (t:TS),need (vecTo node l k t)≤need t
 |0,_=>Nat.le_refl _
 |k+1,t=>by
  simp only[vecTo]
  have ih:=need_vec hn l k t
  split
  ·exact Nat.le_trans (hn _ _) ih
  ·exact Nat.le_trans (hn _ _) (Nat.le_trans (need_add _ _) ih)
theorem need_WF {K:Nat→Int}{S:Nat→List Nat}{At:Nat→List UInt8}{L:Nat→Bool}:∀ (f:Nat) (b:Bool) (t:TS) (a:Nat),need (WF K S At L f b t a)≤need t
 |0,_,_,_=>Nat.le_refl _
 |f+1,false,t,a=>by
  simp only[WF]
  by_cases h1:t.long=true
  ·rw[if_pos h1];exact Nat.le_refl _
  ·rw[if_neg h1]
   by_cases h2:0≤t.lab.getD a (-1)
   ·rw[if_pos h2];exact need_add _ _
   ·rw[if_neg h2]
    have h0:need (if L a then t.put a else t)≤need t:=by
     split
     ·exact need_put _ _
     ·exact Nat.le_refl _
    by_cases k1:K a=1
    ·rw[if_pos k1]
     exact Nat.le_trans (need_WF f true _ _) (Nat.le_trans (need_WF f false _ _) (Nat.le_trans (need_add _ _) h0))
    ·rw[if_neg k1]
     by_cases k2:K a=2
     ·rw[if_pos k2]
      exact Nat.le_trans (need_add _ _) (Nat.le_trans (need_vec (fun t y=>need_WF f false t y) _ _ _) (Nat.le_trans (need_add _ _) h0))
     ·rw[if_neg k2];exact Nat.le_trans (need_add _ _) h0
 |f+1,true,t,a=>by
  simp only[WF]
  by_cases c1:K a=1∧L a=false
  ·rw[if_pos c1]
   exact Nat.le_trans (need_WF f true _ _) (Nat.le_trans (need_WF f false _ _) (need_add _ _))
  ·rw[if_neg c1]
   by_cases c2:K a=0
   ·rw[if_pos c2];exact need_add _ _
   ·rw[if_neg c2];exact Nat.le_trans (need_add _ _) (Nat.le_trans (need_WF f false _ _) (need_add _ _))
end Go.Loop
namespace Go.Proofs.YtlhimdjkkiflhaaGreatDoor
open Go.RowKit Go.Loop
def RowI (w:World)(b:Nat)(l:List Int):Prop:=∀ i,i<l.length→w.cell? ⟨b,i,none⟩=some (.int .i64 (l.getD i 0))∧w.frozen? ⟨b,i,none⟩=false
def RowB (w:World)(b:Nat)(l:List Bool):Prop:=∀ i,i<l.length→w.cell? ⟨b,i,none⟩=some (.bool (l.getD i false))∧w.frozen? ⟨b,i,none⟩=false
theorem cell_far {w:World}{p a:Addr}{v:Value}(h:p.block≠a.block):(w.setCell p v).cell? a=w.cell? a:=World.cell?_setCell_other w p a v (fun e=>h (by rw[e]))
theorem RowI.set {w:World}{b:Nat}{l:List Int}(h:RowI w b l)(a:Nat)(ha:a<l.length)(v:Int):RowI (w.setCell ⟨b,a,none⟩ (.int .i64 v)) b (l.set a v):=by
 intro i hi
 rw[List.length_set] at hi
 rw[getD_set _ _ _ _ _ ha,World.frozen?_setCell]
 refine⟨?_,(h i hi).2⟩
 by_cases e:i=a
 ·subst e;rw[if_pos rfl,World.cell?_setCell_same (h:=(h i hi).1)]
 ·rw[if_neg e,World.cell?_setCell_other (h:=by intro x;cases x;exact e rfl)];exact(h i hi).1
theorem RowB.set {w:World}{b:Nat}{l:List Bool}(h:RowB w b l)(a:Nat)(ha:a<l.length)(v:Bool):RowB (w.setCell ⟨b,a,none⟩ (.bool v)) b (l.set a v):=by
 intro i hi
 rw[List.length_set] at hi
 rw[getD_set _ _ _ _ _ ha,World.frozen?_setCell]
 refine⟨?_,(h i hi).2⟩
 by_cases e:i=a
 ·subst e;rw[if_pos rfl,World.cell?_setCell_same (h:=(h i hi).1)]
 ·rw[if_neg e,World.cell?_setCell_other (h:=by intro x;cases x;exact e rfl)];exact(h i hi).1
theorem RowI.far {w:World}{b:Nat}{l:List Int}(h:RowI w b l){p:Addr}(hp:p.block≠b)(v:Value):RowI (w.setCell p v) b l:=fun i hi=>by
 rw[cell_far hp,World.frozen?_setCell];exact h i hi
theorem RowB.far {w:World}{b:Nat}{l:List Bool}(h:RowB w b l){p:Addr}(hp:p.block≠b)(v:Value):RowB (w.setCell p v) b l:=fun i hi=>by
 rw[cell_far hp,World.frozen?_setCell];exact h i hi
def subsN (G:List Nd)(x:Nat):List Nat:=match G[x]? with|some y=>y.subs.map Int.toNat|none=>[]
structure WalkAt (w:World) (p bo bm bw n:Nat) (nv:Value) (s:WS):Prop where
 c0:w.cell? ⟨p,0,none⟩=some nv
 c1:w.cell? ⟨p,1,none⟩=some (.slice (some ⟨bo,0,none⟩) n n)
 c2:w.cell? ⟨p,2,none⟩=some (.slice (some ⟨bm,0,none⟩) n n)
 c3:w.cell? ⟨p,3,none⟩=some (.slice (some ⟨bw,0,none⟩) n n)
 rm:RowI w bm s.met
 rw:RowB w bw s.wi
 ro:RowB w bo s.op
structure Apart (B p bo bm bw:Nat):Prop where
 hp:B≤p
 ho:B≤bo
 hm:B≤bm
 hw:B≤bw
 po:p≠bo
 pm:p≠bm
 pw:p≠bw
 om:bo≠bm
 ow:bo≠bw
 mw:bm≠bw
theorem WalkAt.hit {w:World}{p bo bm bw n:Nat}{nv:Value}{s:WS}{B:Nat}(h:WalkAt w p bo bm bw n nv s)(A:Apart B p bo bm bw){a:Nat}(ha:a<s.met.length):
 WalkAt (w.setCell ⟨bm,a,none⟩ (.int .i64 (s.met.getD a 0+1))) p bo bm bw n nv (s.hit a):=by
 have e:=A.pm.symm
 exact⟨by rw[cell_far e];exact h.c0,by rw[cell_far e];exact h.c1,by rw[cell_far e];exact h.c2,
  by rw[cell_far e];exact h.c3,h.rm.set a ha _,h.rw.far A.mw _,h.ro.far A.om.symm _⟩
theorem WalkAt.again {w:World}{p bo bm bw n:Nat}{nv:Value}{s:WS}{B:Nat}(h:WalkAt w p bo bm bw n nv s)(A:Apart B p bo bm bw){a:Nat}(ha:a<s.wi.length):
 WalkAt (w.setCell ⟨bw,a,none⟩ (.bool (s.wi.getD a false||s.op.getD a false))) p bo bm bw n nv (s.again a):=by
 have e:=A.pw.symm
 exact⟨by rw[cell_far e];exact h.c0,by rw[cell_far e];exact h.c1,by rw[cell_far e];exact h.c2,
  by rw[cell_far e];exact h.c3,h.rm.far A.mw.symm _,h.rw.set a ha _,h.ro.far A.ow.symm _⟩
theorem WalkAt.putOp {w:World}{p bo bm bw n:Nat}{nv:Value}{s:WS}{B:Nat}(h:WalkAt w p bo bm bw n nv s)(A:Apart B p bo bm bw){a:Nat}(ha:a<s.op.length)(v:Bool):
 WalkAt (w.setCell ⟨bo,a,none⟩ (.bool v)) p bo bm bw n nv { s with op:=s.op.set a v }:=by
 have e:=A.po.symm
 exact⟨by rw[cell_far e];exact h.c0,by rw[cell_far e];exact h.c1,by rw[cell_far e];exact h.c2,
  by rw[cell_far e];exact h.c3,h.rm.far A.om _,h.rw.far A.ow _,h.ro.set a ha _⟩
theorem WalkAt.drew {w:World}{p bo bm bw n:Nat}{nv:Value}{s:WS}(h:WalkAt w p bo bm bw n nv s):WalkAt w.drew p bo bm bw n nv s:=⟨h.c0,h.c1,h.c2,h.c3,h.rm,h.rw,h.ro⟩
def tokV (k f t:Int)(l:List UInt8)(n d:Int):Value:= .agg #[.int .u8 k,.int .i64 f,.int .i64 t,.string ⟨⟨l⟩⟩,.int .i64 n,.int .i64 d]
section
attribute [local go_sem] ba_get0 ba_get ba_ext1 ba_ext2 ba_toList
end
theorem str_app (a b:List UInt8):(ByteArray.mk (Array.mk a))++(ByteArray.mk (Array.mk b))=⟨⟨a++b⟩⟩:=by
 apply ByteArray.ext;simp
theorem dec_len:∀ (f u:Nat),u<10^f→(Lib.decDigits u).length≤f+1
 |0,u,h=>by
  have:u=0:=by simpa using h
  subst this;rw[Lib.decDigits_one (by omega)];simp
 |f+1,u,h=>by
  by_cases h10:u<10
  ·rw[Lib.decDigits_one h10];simp
  ·rw[Lib.decDigits,dif_neg h10]
   have:=dec_len f (u/10) (by rw[Nat.pow_succ] at h;omega)
   simp;omega
theorem dec_len9 (u:Nat)(h:u≤1000000000):(Lib.decDigits u).length≤11:=dec_len 10 u (by omega)
def escL (c:UInt8):List UInt8:=
 if c.toNat=92 then[92,92] else if c.toNat=34 then[92,34] else if c.toNat=10 then[92,110] else if c.toNat=9 then[92,116] else[c]
def quoteL (l:List UInt8):List UInt8:=34::(l.flatMap escL++[34])
def numL (n d:Int):List UInt8:=if d=1 then Lib.itoa n else Lib.itoa n++47::Lib.itoa d
def charL (n:Int):List UInt8:=35::92::(if hasName n then nameOf n else[UInt8.ofNat n.toNat])
def atomL (x:Nd):List UInt8:=
 if x.kind=0 then[40,41] else if x.kind=3 then quoteL x.text else if x.kind=4 then x.text else if x.kind=5 then numL x.n x.d
 else if x.kind=6 then(if x.n=1 then[35,116] else[35,102]) else charL x.n
theorem esc_snoc (l:List UInt8)(k:Nat)(h:k<l.length):(l.take (k+1)).flatMap escL=(l.take k).flatMap escL++escL l[k]:=by
 rw[List.take_succ_eq_append_getElem h,List.flatMap_append];simp
theorem itoa_len (n:Int)(h1: -1000000000≤n)(h2:n≤1000000000):(Lib.itoa n).length≤12:=by
 unfold Lib.itoa
 split
 ·have:=dec_len9 n.natAbs (by omega);simp;omega
 ·have:=dec_len9 n.toNat (by omega);omega
section
attribute [local go_sem] ba_get
end
def OwnB (W w:World)(l:List UInt8):Prop:=∃ cs v,cs.size=2∧BldAt w 116 0 W.heap.size W.heap.size cs v (Lib.byteCells l)∧Below W.heap.size W w
theorem OwnB.start (W:World):OwnB W (W.alloc (.cells #[.pointer none,.slice none 0 0] 116)) []:=
 ⟨_,_,rfl,⟨Nat.le_refl _,heap_alloc_new W _,Or.inl rfl,rfl,World.ownsRow_nil _ _ _ _⟩,(Below.refl _ _).alloc (Nat.le_refl _) _⟩
theorem bT:116≠5:=by decide
theorem BldAt.toB {w:World}{T:TypeId}{off B b:Nat}{cs:Array Value}{v:Value}{bs:List Value}(h:BldAt w T off B b cs v bs):∀ k,v.ownBlock=some k→B≤k:=fun k hk=>(h.own.lt k hk).1
theorem OwnB.writeByte {W w:World}{l:List UInt8}(h:OwnB W w l)(c:UInt8)(hl:l.length≤100000):
 Calls Tryz.prog 191 #[.pointer (some ⟨W.heap.size,0,none⟩),.int .u8 c.toNat] w fun e w'=>e= .returned .nilIface∧OwnB W w' (l++[c]):=by
 obtain⟨cs,v,hs,hb,hw⟩:=h
 have hsz:=hw.size
 refine(writeByte_any (hs▸lies_own) bT hb c.toNat (by rw[Lib.byteCells_length];omega) hsz).mono ?_
 rintro e w' ⟨rfl,v',h1,h2⟩
 refine⟨rfl,_,v',?_,by rw[Lib.byteCells_append];exact h1,hw.trans (h2.below hsz (Nat.le_refl _) hb.toB)⟩
 simp[usedC,hs]
theorem OwnB.writeString {W w:World}{l:List UInt8}(h:OwnB W w l)(s:List UInt8)(hl:l.length+s.length≤100000):
 Calls Tryz.prog 154 #[.pointer (some ⟨W.heap.size,0,none⟩),.string ⟨⟨s⟩⟩] w fun e w'=>e= .returned (.tuple #[.int .i64 s.length,.nilIface])∧OwnB W w' (l++s):=by
 obtain⟨cs,v,hs,hb,hw⟩:=h
 have hsz:=hw.size
 refine(writeString_any (hs▸lies_own) bT hb ⟨⟨s⟩⟩ (by rw[Lib.byteCells_length];show l.length+s.length≤_;omega) hsz).mono ?_
 rintro e w' ⟨rfl,v',h1,h2⟩
 refine⟨rfl,_,v',?_,by rw[Lib.byteCells_append];exact h1,hw.trans (h2.below hsz (Nat.le_refl _) hb.toB)⟩
 simp[usedC,hs]
theorem OwnB.string {W w:World}{l:List UInt8}(h:OwnB W w l)(h0:l≠[]):
 Calls Tryz.prog 63 #[.pointer (some ⟨W.heap.size,0,none⟩)] w fun e w'=>e= .returned (.string ⟨⟨l⟩⟩)∧Below W.heap.size W w':=by
 obtain⟨cs,v,hs,hb,hw⟩:=h
 refine(bldString_any hb h0).mono ?_
 rintro e w' ⟨rfl,h2⟩
 exact⟨rfl,hw.trans (h2.below hw.size (Nat.le_refl _) hb.toB)⟩
section
attribute [local go_sem] ba_get
set_option maxHeartbeats 1000000 in
set_option maxRecDepth 100000 in
theorem quoted_any (l:List UInt8)(w:World)(hl:l.length≤400):
 Calls Tryz.prog 156 #[.string ⟨⟨l⟩⟩] w fun e w'=>e= .returned (.string ⟨⟨quoteL l⟩⟩)∧Below w.heap.size w w':=by
 have H0:Hid (OwnB w (w.alloc (.cells #[.pointer none,.slice none 0 0] 116)) []):=OwnB.start w
 go_enter Tryz.func156,Tryz.ntmps156
 go_wp2_with (go_at_call 191;refine(H0.out.writeByte 34 (by simp)).mono ?_)
 rintro e w1 ⟨rfl,h1⟩
 have H1:Hid (OwnB w w1 ([]++[34])):=h1
 clear h1 H0
 go_wp2_with fail
 go_loopw [9] (fun i wr=>∃ (k:Nat) (o:List UInt8),k≤l.length∧i= .int .i64 k∧o.length≤1+2*k∧Hid (OwnB w wr o)∧Hid (o=34::(l.take k).flatMap escL)) (fun i _=>l.length-(intOf i).toNat)
 case atStart=>exact⟨0,[34],Nat.zero_le _,rfl,by simp,H1.out,rfl⟩
 case round=>
  obtain⟨k,o,hk,rfl,hlo,H2,hle⟩:=hrel
  by_cases hlt:k<l.length
  ·have HS:Hid _:=esc_snoc l k hlt
   cases e92:((l[k].toNat :Int)==92)
   ·cases e34:((l[k].toNat :Int)==34)
    ·cases e10:((l[k].toNat :Int)==10)
     ·cases e9:((l[k].toNat :Int)==9)
      ·have HE:Hid (escL l[k]=[l[k]]):=by
        show _=_;rw[beq_eq_false_iff_ne] at e92 e34 e10 e9;unfold escL;rw[if_neg (by omega),if_neg (by omega),if_neg (by omega),if_neg (by omega)]
       go_wp2_with (go_at_call 191;refine(H2.out.writeByte l[k] (by first|omega|(simp;omega))).mono ?_)
       rintro e w2 ⟨rfl,h2⟩
       have H3:Hid (OwnB w w2 (o++[l[k]])):=h2
       clear h2 H2
       go_wp2_with fail
       go_roundw
       case rel=>exact⟨k+1,_,by omega,by go_num,by simp;omega,H3.out,by show _=_;rw[HS.out,HE.out,hle.out];simp⟩
       case measure=>simp[intOf];omega
      ·have HE:Hid (escL l[k]=[92,116]):=by
        show _=_;rw[beq_eq_false_iff_ne] at e92 e34 e10;rw[beq_iff_eq] at e9;unfold escL;rw[if_neg (by omega),if_neg (by omega),if_neg (by omega),if_pos (by omega)]
       go_wp2_with (go_at_call 154;refine(H2.out.writeString [92,116] (by first|omega|(simp;omega))).mono ?_)
       rintro e w2 ⟨rfl,h2⟩
       have H3:Hid (OwnB w w2 (o++[92,116])):=h2
       clear h2 H2
       go_wp2_with fail
       go_roundw
       case rel=>exact⟨k+1,_,by omega,by go_num,by simp;omega,H3.out,by show _=_;rw[HS.out,HE.out,hle.out];simp⟩
       case measure=>simp[intOf];omega
     ·have HE:Hid (escL l[k]=[92,110]):=by
       show _=_;rw[beq_eq_false_iff_ne] at e92 e34;rw[beq_iff_eq] at e10;unfold escL;rw[if_neg (by omega),if_neg (by omega),if_pos (by omega)]
      go_wp2_with (go_at_call 154;refine(H2.out.writeString [92,110] (by first|omega|(simp;omega))).mono ?_)
      rintro e w2 ⟨rfl,h2⟩
      have H3:Hid (OwnB w w2 (o++[92,110])):=h2
      clear h2 H2
      go_wp2_with fail
      go_roundw
      case rel=>exact⟨k+1,_,by omega,by go_num,by simp;omega,H3.out,by show _=_;rw[HS.out,HE.out,hle.out];simp⟩
      case measure=>simp[intOf];omega
    ·have HE:Hid (escL l[k]=[92,34]):=by
      show _=_;rw[beq_eq_false_iff_ne] at e92;rw[beq_iff_eq] at e34;unfold escL;rw[if_neg (by omega),if_pos (by omega)]
     have HC:Hid (l[k]=34):=by
      rw[beq_iff_eq] at e34;exact UInt8.toNat_inj.1 (by have:(34:UInt8).toNat=34:=rfl;omega)
     go_wp2_with (go_at_call 191;refine(H2.out.writeByte 92 (by first|omega|(simp;omega))).mono ?_)
     rintro e w2 ⟨rfl,h2⟩
     have HA:Hid (OwnB w w2 (o++[92])):=h2
     clear h2 H2
     go_wp2_with (go_at_call 191;refine(HA.out.writeByte l[k] (by first|omega|(simp;omega))).mono ?_)
     rintro e w3 ⟨rfl,h3⟩
     have H3:Hid (OwnB w w3 (o++[92]++[l[k]])):=h3
     clear h3 HA
     go_wp2_with fail
     go_roundw
     case rel=>exact⟨k+1,_,by omega,by go_num,by simp;omega,H3.out,by show _=_;rw[HS.out,HE.out,hle.out];simp[HC.out]⟩
     case measure=>simp[intOf];omega
   ·have HE:Hid (escL l[k]=[92,92]):=by
     show _=_;rw[beq_iff_eq] at e92;unfold escL;rw[if_pos (by omega)]
    have HC:Hid (l[k]=92):=by
     rw[beq_iff_eq] at e92;exact UInt8.toNat_inj.1 (by have:(92:UInt8).toNat=92:=rfl;omega)
    go_wp2_with (go_at_call 191;refine(H2.out.writeByte 92 (by first|omega|(simp;omega))).mono ?_)
    rintro e w2 ⟨rfl,h2⟩
    have HA:Hid (OwnB w w2 (o++[92])):=h2
    clear h2 H2
    go_wp2_with (go_at_call 191;refine(HA.out.writeByte l[k] (by first|omega|(simp;omega))).mono ?_)
    rintro e w3 ⟨rfl,h3⟩
    have H3:Hid (OwnB w w3 (o++[92]++[l[k]])):=h3
    clear h3 HA
    go_wp2_with fail
    go_roundw
    case rel=>exact⟨k+1,_,by omega,by go_num,by simp;omega,H3.out,by show _=_;rw[HS.out,HE.out,hle.out];simp[HC.out]⟩
    case measure=>simp[intOf];omega
  ·go_wp2_with (go_at_call 191;refine(H2.out.writeByte 34 (by first|omega|(simp;omega))).mono ?_)
   rintro e w2 ⟨rfl,h2⟩
   have H3:Hid (OwnB w w2 (o++[34])):=h2
   clear h2 H2
   go_wp2_with (go_at_call 63;refine(H3.out.string (by simp)).mono ?_)
   rintro e w3 ⟨rfl,hb⟩
   have HB:Hid (Below w.heap.size w w3):=hb
   clear hb
   go_wp2_with fail
   go_ret
   refine⟨ret_strl ?_,HB.out⟩
   rw[hle.out,List.take_of_length_le (by omega)];simp[quoteL]
end
end Go.Proofs.YtlhimdjkkiflhaaGreatDoor
