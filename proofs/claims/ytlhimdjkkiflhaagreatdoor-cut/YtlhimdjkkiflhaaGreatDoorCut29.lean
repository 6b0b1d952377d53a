import Derived.Lib.AppendIntMem
import Derived.Test.YtlhimdjkkiflhaaGreatDoorCut19
import Derived.Test.YtlhimdjkkiflhaaGreatDoorCut28
set_option maxHeartbeats 8000000
set_option maxRecDepth 100000
namespace Go.Loop
structure WS where
 met:List Int
 wi:List Bool
 op:List Bool
def WS.hit (s:WS)(a:Nat):WS:={ s with met:=s.met.set a (s.met.getD a 0+1) }
def WS.again (s:WS)(a:Nat):WS:={ s with wi:=s.wi.set a (s.wi.getD a false||s.op.getD a false) }
def WS.enter (s:WS)(a:Nat):WS:={ s with op:=s.op.set a true }
def WS.leave (s:WS)(a:Nat):WS:={ s with op:=s.op.set a false }
def cq (S:Nat→List Nat):Nat→WS→Nat→WS
 |0,s,_=>s
 |f+1,s,a=>if 0<s.met.getD a 0 then(s.hit a).again a else((S a).foldl (cq S f) ((s.hit a).enter a)).leave a
structure WS.Ok (n:Nat) (s:WS):Prop where
 lm:s.met.length=n
 lw:s.wi.length=n
 lo:s.op.length=n
 nn:∀i,0≤s.met.getD i 0
 om:∀i,s.op.getD i false=true→0<s.met.getD i 0
theorem dS {α:Type}(l:List α)(a i:Nat)(v d:α)(h:a<l.length):(l.set a v).getD i d=if i=a then v else l.getD i d:=by
 simp only[List.getD,List.getElem?_set];by_cases e:a=i
 ·subst e;simp[h]
 ·rw[if_neg e,if_neg (λx=>e x.symm)]
theorem WS.Ok.hit {n:Nat}{s:WS}(h:s.Ok n){a:Nat}(ha:a<n):(s.hit a).Ok n:=by
 refine⟨by simp[WS.hit,h.lm],h.lw,h.lo,λi=>?_,λi hi=>?_⟩
 ·simp only[WS.hit];rw[dS _ _ _ _ _ (by rw[h.lm];exact ha)];split
  ·have:=h.nn a;omega
  ·exact h.nn i
 ·simp only[WS.hit];rw[dS _ _ _ _ _ (by rw[h.lm];exact ha)];split
  ·have:=h.nn a;omega
  ·exact h.om i hi
theorem WS.Ok.again {n:Nat}{s:WS}(h:s.Ok n)(a:Nat):(s.again a).Ok n:=⟨h.lm,by simp[WS.again,h.lw],h.lo,h.nn,h.om⟩
theorem WS.Ok.leave {n:Nat}{s:WS}(h:s.Ok n){a:Nat}(ha:a<n):(s.leave a).Ok n:=by
 refine⟨h.lm,h.lw,by simp[WS.leave,h.lo],h.nn,λi hi=>?_⟩;simp only[WS.leave]at hi;rw[dS _ _ _ _ _ (by rw[h.lo];exact ha)]at hi;split at hi
 ·exact absurd hi (by simp)
 ·exact h.om i hi
theorem WS.Ok.enter {n:Nat}{s:WS}(h:s.Ok n){a:Nat}(ha:a<n)(hm:0<s.met.getD a 0):(s.enter a).Ok n:=by
 refine⟨h.lm,h.lw,by simp[WS.enter,h.lo],h.nn,λi hi=>?_⟩;simp only[WS.enter]at hi;rw[dS _ _ _ _ _ (by rw[h.lo];exact ha)]at hi;split at hi
 ·rename_i e;subst e;exact hm
 ·exact h.om i hi
theorem gY {n:Nat}{s:WS}(h:s.Ok n){a:Nat}(ha:a<n)(i:Nat):(s.hit a).met.getD i 0=if i=a then s.met.getD a 0+1 else s.met.getD i 0:=by
 simp only[WS.hit];rw[dS _ _ _ _ _ (by rw[h.lm];exact ha)]
theorem lq {n:Nat}{s:WS}(h:s.Ok n){a:Nat}(ha:a<n):0<(s.hit a).met.getD a 0:=by
 rw[gY h ha,if_pos rfl];have:=h.nn a;omega
theorem Ok.meet {n:Nat}{S:Nat→List Nat}(hS:∀x,x<n→∀y∈S x,y<n):∀(f:Nat) (s:WS) (a:Nat),s.Ok n→a<n→(cq S f s a).Ok n
 |0,s,a,h,ha=>h
 |f+1,s,a,h,ha=>by
  simp only[cq];split
  ·exact(h.hit ha).again a
  ·refine WS.Ok.leave ?_ ha;have h2:((s.hit a).enter a).Ok n:=(h.hit ha).enter ha (lq h ha);have:∀(l:List Nat) (t:WS),(∀y∈l,y<n)→t.Ok n→(l.foldl (cq S f) t).Ok n:=by
    intro l
    induction l with
    |nil=>intro t _ ht;exact ht
    |cons y r ih=>intro t hl ht;exact ih _ (λz hz=>hl z (zax _ hz)) (Ok.meet hS f t y ht (hl y zau))
   exact this _ _ (hS a ha) h2
def th (g:Nat→Nat):Nat→List Int→Nat
 |_,[]=>0
 |i,m::r=>(if m=0 then g i else 0)+th g (i+1) r
theorem Dc (g:Nat→Nat):∀(met:List Int) (i a:Nat) (v:Int),v≠0→a<met.length→th g i (met.set a v)+(if met.getD a 0=0 then g (i+a)else 0)=th g i met
 |[],_,_,_,_,h=>by simp at h
 |m::r,i,0,v,hv,_=>by simp[th,List.set,hv];omega
 |m::r,i,a+1,v,hv,h=>by
  have ih:=Dc g r (i+1) a v hv (by simpa using h);simp only[List.set,th,List.getD_cons_succ];rw[show i+(a+1)=i+1+a by omega];omega
def WS.tj (s:WS)(g:Nat→Nat):Nat:=th g 0 s.met
theorem rR {n:Nat}{s:WS}(h:s.Ok n){a:Nat}(ha:a<n)(g:Nat→Nat):(s.hit a).tj g+(if s.met.getD a 0=0 then g a else 0)=s.tj g:=by
 have:=Dc g s.met 0 a (s.met.getD a 0+1) (by have:=h.nn a;omega) (by rw[h.lm];exact ha);rw[Nat.zero_add]at this;exact this
def WS.Bd (S:Nat→List Nat)(c:Nat)(s:WS):Prop:=∀i,s.met.getD i 0+(s.tj (λx=>(S x).length):Nat)≤c
theorem Bd.meet {n:Nat}{S:Nat→List Nat}(hS:∀x,x<n→∀y∈S x,y<n):∀(f:Nat) (s:WS) (a c:Nat),s.Ok n→a<n→s.Bd S c→(cq S f s a).Bd S (c+1)
 |0,s,a,c,h,ha,hb=>λi=>by have:=hb i;simp only[cq];omega
 |f+1,s,a,c,h,ha,hb=>by
  simp only[cq];have hp:=rR h ha (λx=>(S x).length);split
  ·rename_i hm;intro i;show(s.hit a).met.getD i 0+((s.hit a).tj (λx=>(S x).length):Nat)≤_;rw[gY h ha];rw[if_neg (by omega)]at hp;have h1:=hb i;have h2:=hb a;split<;>omega
  ·rename_i hm;have hm0:s.met.getD a 0=0:=by have:=h.nn a;omega
   rw[if_pos hm0]at hp;have h2:((s.hit a).enter a).Ok n:=(h.hit ha).enter ha (lq h ha);have hc:(S a).length≤c:=by have:=hb a;omega
   have hb2:((s.hit a).enter a).Bd S (c+1-(S a).length):=by
    intro i;show(s.hit a).met.getD i 0+((s.hit a).tj (λx=>(S x).length):Nat)≤_;rw[gY h ha];have h1:=hb i;have h3:=hb a;split<;>omega
   have:∀(l:List Nat) (t:WS) (k:Nat),(∀y∈l,y<n)→t.Ok n→t.Bd S k→(l.foldl (cq S f) t).Bd S (k+l.length):=by
    intro l
    induction l with
    |nil=>intro t k _ _ ht;exact ht
    |cons y r ih=>
     intro t k hl ht hk;have:=ih (cq S f t y) (k+1) (λz hz=>hl z (zax _ hz)) (Ok.meet hS f t y ht (hl y zau)) (Bd.meet hS f t y k ht (hl y zau) hk);simp only[List.foldl_cons,zak];rw[show k+(r.length+1)=k+1+r.length by omega];exact this
   have h4:=this (S a) _ _ (hS a ha) h2 hb2;rw[show c+1-(S a).length + (S a).length=c+1 by omega]at h4;exact h4
theorem xq {n:Nat}{S:Nat→List Nat}(hS:∀x,x<n→∀y∈S x,y<n)(g:Nat→Nat):∀(f:Nat) (s:WS) (a:Nat),s.Ok n→a<n→(cq S f s a).tj g≤s.tj g
 |0,s,a,_,_=>zaa _
 |f+1,s,a,h,ha=>by
  simp only[cq];have hp:=rR h ha g;split
  ·show(s.hit a).tj g≤_;omega
  ·have h2:((s.hit a).enter a).Ok n:=(h.hit ha).enter ha (lq h ha);have:∀(l:List Nat) (t:WS),(∀y∈l,y<n)→t.Ok n→(l.foldl (cq S f) t).tj g≤t.tj g:=by
    intro l
    induction l with
    |nil=>intro t _ _;exact zaa _
    |cons y r ih=>intro t hl ht;exact zad (ih _ (λz hz=>hl z (zax _ hz)) (Ok.meet hS f t y ht (hl y zau))) (xq hS g f t y ht (hl y zau))
   have h4:=this (S a) _ (hS a ha) h2;have h5:((s.hit a).enter a).tj g=(s.hit a).tj g:=rfl;show(((S a).foldl (cq S f) ((s.hit a).enter a))).tj g≤_;omega
def rT (S:Nat→List Nat)(wi:List Bool)(fin:List Nat):Prop:=
 ∀(i x:Nat),fin[i]?=some x→∀y∈S x,wi.getD y false=true∨∃j:Nat,j<i∧fin[j]?=some y
structure Xh (S:Nat→List Nat) (s:WS) (fin:List Nat):Prop where
 cl:∀x,0<s.met.getD x 0→s.op.getD x false=true∨x∈fin
 q:rT S s.wi fin
 wm:∀x,s.wi.getD x false=true→0<s.met.getD x 0
 fm:∀x∈fin,0<s.met.getD x 0
structure Met (S:Nat→List Nat) (s s':WS) (fin MT:List Nat) (a:Nat):Prop where
 Xi:Xh S s' MT
 pre:∃ext,MT=fin++ext
 op:∀i,s'.op.getD i false=s.op.getD i false
 wi:∀i,s.wi.getD i false=true→s'.wi.getD i false=true
 met:∀i,0<s.met.getD i 0→0<s'.met.getD i 0
 here:s'.wi.getD a false=true∨a∈MT
 hit:0<s'.met.getD a 0
theorem rT.mono {S:Nat→List Nat}{wi wi':List Bool}{fin:List Nat}(h:rT S wi fin)(hw:∀i,wi.getD i false=true→wi'.getD i false=true):rT S wi' fin:=
 λi x hx y hy=>(h i x hx y hy).imp (hw y) id
theorem He {n:Nat}{S:Nat→List Nat}(hS:∀x,x<n→∀y∈S x,y<n):∀(f:Nat) (s:WS) (a:Nat) (fin:List Nat),s.Ok n→a<n→s.tj (λ_=>1)<f→Xh S s fin→∃MT,Met S s (cq S f s a) fin MT a
 |0,s,a,fin,_,_,h,_=>by omega
 |f+1,s,a,fin,h,ha,hf,hF=>by
  have hp:=rR h ha (λ_=>1);simp only[cq];split
  ·rename_i hm;have Ku:∀i,s.wi.getD i false=true→((s.hit a).again a).wi.getD i false=true:=by
    intro i hi;show(s.wi.set a (s.wi.getD a false||s.op.getD a false)).getD i false=true;rw[dS _ _ _ _ _ (by rw[h.lw];exact ha)];split
    ·rename_i e;subst e;rw[hi];rfl
    ·exact hi
   have SZ:∀i,0<s.met.getD i 0→0<((s.hit a).again a).met.getD i 0:=by
    intro i hi;show 0<(s.hit a).met.getD i 0;rw[gY h ha];split<;>omega
   refine⟨fin,⟨λx hx=>?_,hF.q.mono Ku,λx hx=>?_,λx hx=>SZ x (hF.fm x hx)⟩,⟨[],by simp⟩,λi=>rfl,Ku,SZ,?_,SZ a hm⟩
   ·change 0<(s.hit a).met.getD x 0 at hx;rw[gY h ha]at hx;split at hx
    ·rename_i e;subst e;exact hF.cl x hm
    ·exact hF.cl x hx
   ·change(s.wi.set a (s.wi.getD a false||s.op.getD a false)).getD x false=true at hx;rw[dS _ _ _ _ _ (by rw[h.lw];exact ha)]at hx;split at hx
    ·rename_i e;subst e;exact SZ x hm
    ·exact SZ x (hF.wm x hx)
   ·rcases hF.cl a hm with ho|hi
    ·left;show(s.wi.set a (s.wi.getD a false||s.op.getD a false)).getD a false=true;rw[dS _ _ _ _ _ (by rw[h.lw];exact ha),if_pos rfl,ho];simp
    ·exact Or.inr hi
  ·rename_i hm;have hm0:s.met.getD a 0=0:=by have:=h.nn a;omega
   rw[if_pos hm0]at hp;have OV:s.op.getD a false=false:=by
    cases e:s.op.getD a false
    ·rfl
    ·have:=h.om a e;omega
   have h2:((s.hit a).enter a).Ok n:=(h.hit ha).enter ha (lq h ha);have Zw:∀i,((s.hit a).enter a).op.getD i false=if i=a then true else s.op.getD i false:=by
    intro i;show(s.op.set a true).getD i false=_;rw[dS _ _ _ _ _ (by rw[h.lo];exact ha)]
   have hF2:Xh S ((s.hit a).enter a) fin:=by
    have SZ:∀i,0<s.met.getD i 0→0<((s.hit a).enter a).met.getD i 0:=by
     intro i hi;show 0<(s.hit a).met.getD i 0;rw[gY h ha];split<;>omega
    refine⟨λx hx=>?_,hF.q,λx hx=>SZ x (hF.wm x hx),λx hx=>SZ x (hF.fm x hx)⟩;change 0<(s.hit a).met.getD x 0 at hx;rw[gY h ha]at hx;rw[Zw];by_cases e:x=a
    ·left;rw[if_pos e]
    ·rw[if_neg e]at hx;rw[if_neg e];exact hF.cl x hx
   have key:∀(l:List Nat) (t:WS) (fn:List Nat),(∀y∈l,y<n)→t.Ok n→t.tj (λ_=>1)<f→Xh S t fn→
    ∃Zx,Xh S (l.foldl (cq S f) t) Zx∧(∃ext,Zx=fn++ext)∧(∀i,(l.foldl (cq S f) t).op.getD i false=t.op.getD i false)∧(∀i,t.wi.getD i false=true→(l.foldl (cq S f) t).wi.getD i false=true)
     ∧(∀i,0<t.met.getD i 0→0<(l.foldl (cq S f) t).met.getD i 0)∧(∀y∈l,(l.foldl (cq S f) t).wi.getD y false=true∨y∈Zx):=by
    intro l
    induction l with
    |nil=>intro t fn _ _ _ hT;exact⟨fn,hT,⟨[],by simp⟩,λ_=>rfl,λ_ h=>h,λ_ h=>h,λy hy=>by simp at hy⟩
    |cons y r ih=>
     intro t fn hl ht hpt hT;have hy:=hl y zau;obtain⟨fn1,m1⟩:=He hS f t y fn ht hy hpt hT;obtain⟨e1,rfl⟩:=m1.pre;obtain⟨fn2,k1,⟨e2,rfl⟩,k3,k4,k5,k6⟩:=ih (cq S f t y) _ (λz hz=>hl z (zax _ hz)) (Ok.meet hS f t y ht hy) (zbE (xq hS _ f t y ht hy) hpt) m1.Xi;refine⟨_,k1,⟨e1++e2,by simp⟩,λi=>(k3 i).trans (m1.op i),λi hi=>k4 i (m1.wi i hi),λi hi=>k5 i (m1.met i hi),λz hz=>?_⟩;rcases zas.1 hz with rfl|hz
     ·rcases m1.here with h|h
      ·exact Or.inl (k4 _ h)
      ·exact Or.inr (List.mem_append_left _ h)
     ·exact k6 z hz
   obtain⟨fn,k1,⟨ext,rfl⟩,k3,k4,k5,k6⟩:=key (S a) ((s.hit a).enter a) fin (hS a ha) h2 (by show(s.hit a).tj (λ_=>1)<f;omega) hF2;have A8:((S a).foldl (cq S f) ((s.hit a).enter a)).Ok n:=by
    have:∀(l:List Nat) (t:WS),(∀y∈l,y<n)→t.Ok n→(l.foldl (cq S f) t).Ok n:=by
     intro l
     induction l with
     |nil=>intro t _ ht;exact ht
     |cons y r ih=>intro t hl ht;exact ih _ (λz hz=>hl z (zax _ hz)) (Ok.meet hS f t y ht (hl y zau))
    exact this _ _ (hS a ha) h2
   generalize (S a).foldl (cq S f) ((s.hit a).enter a)=t at *;have Zy:∀i,(t.leave a).op.getD i false=if i=a then false else t.op.getD i false:=by
    intro i;show(t.op.set a false).getD i false=_;rw[dS _ _ _ _ _ (by rw[A8.lo];exact ha)]
   refine⟨fin++ext++[a],⟨λx hx=>?_,λi x hx y hy=>?_,k1.wm,λx hx=>?_⟩,⟨ext++[a],by simp⟩,λi=>?_,λi hi=>k4 i hi,λi hi=>k5 i ?_,Or.inr (by simp),k5 a (lq h ha)⟩
   ·by_cases e:x=a
    ·right;simp[e]
    ·rcases k1.cl x hx with ho|hi
     ·left;rw[Zy,if_neg e];exact ho
     ·right;exact List.mem_append_left _ hi
   ·by_cases hi:i<(fin++ext).length
    ·rw[zaF hi]at hx;rcases k1.q i x hx y hy with hw|⟨j,hj,S0⟩
     ·exact Or.inl hw
     ·refine Or.inr ⟨j,hj,?_⟩;rw[zaF (by omega)];exact S0
    ·rw[zaK (by omega)]at hx;have hia:i-(fin++ext).length=0:=by
      rcases zbz (i-(fin++ext).length)with h|h
      ·exact h
      ·rw[zbF (by simp only[zak,zaS];omega)]at hx;simp at hx
     rw[hia]at hx;simp at hx;subst hx;rcases k6 y hy with hw|hm
     ·exact Or.inl hw
     ·obtain⟨j,hj,S0⟩:=List.getElem_of_mem hm;refine Or.inr ⟨j,by omega,?_⟩;rw[zaF hj,zai hj,S0]
   ·rcases zaO.1 hx with hx|hx
    ·exact k1.fm x hx
    ·rw[List.mem_singleton.1 hx];exact k5 a (lq h ha)
   ·rw[Zy];split
    ·rename_i e;rw[e,OV]
    ·rename_i e;rw[k3,Zw,if_neg e]
   ·change 0<(s.hit a).met.getD i 0;rw[gY h ha];split<;>omega
def WS.start (n:Nat):WS:=⟨List.replicate n 0,List.replicate n false,List.replicate n false⟩
theorem ft {α:Type}(n i:Nat)(v:α):(List.replicate n v).getD i v=v:=by
 simp[List.getD,List.getElem?_replicate];split<;>rfl
theorem mn (n:Nat):(WS.start n).Ok n:=
 ⟨by simp[WS.start],by simp[WS.start],by simp[WS.start],λi=>by show 0≤(List.replicate n (0:Int)).getD i 0;rw[ft];omega,λi hi=>by
   change(List.replicate n false).getD i false=true at hi;rw[ft]at hi;exact absurd hi (by simp)⟩
theorem Dd (n:Nat):∀i,th (λ_=>1) i (List.replicate n 0)=n:=by
 induction n with
 |zero=>intro i;rfl
 |succ n ih=>intro i;simp[List.replicate_succ,th,ih];omega
theorem JH (n:Nat)(S:Nat→List Nat):Xh S (WS.start n) []:=
 ⟨λx hx=>by change 0<(List.replicate n (0:Int)).getD x 0 at hx;rw[ft]at hx;omega,λi x hx=>by simp at hx,
   λx hx=>by change(List.replicate n false).getD x false=true at hx;rw[ft]at hx;exact absurd hx (by simp),λx hx=>by simp at hx⟩
theorem De:∀(l:List Nat) (j:Nat) (h:j<l.length),l.idxOf l[j]≤j
 |c::r,0,_=>by simp
 |c::r,j+1,h=>by
  have hj:j<r.length:=by simpa using h
  have ih:=De r j hj;rw[List.idxOf_cons];simp only[List.getElem_cons_succ];cases (c==r[j])<;>simp<;>omega
def fD (S:Nat→List Nat)(n:Nat):WS:=cq S (n+1) (WS.start n) 0
def reach (S:Nat→List Nat)(n:Nat)(x:Nat):Prop:=0<(fD S n).met.getD x 0
theorem JI {n:Nat}{S:Nat→List Nat}(hn:0<n)(hS:∀x,x<n→∀y∈S x,y<n):∃(R:Nat) (r:Nat→Nat),(∀x,r x≤R)∧reach S n 0∧(∀x,reach S n x→∀y∈S x,reach S n y)∧(∀x,reach S n x→∀y∈S x,(fD S n).wi.getD y false=false→r y<r x):=by
 obtain⟨fin,m⟩:=He hS (n+1) (WS.start n) 0 [] (mn n) hn (by show th (λ_=>1) 0 (List.replicate n 0)<n+1;rw[Dd];omega) (JH n S);have eG:∀x,reach S n x→x∈fin:=by
  intro x hx;rcases m.Xi.cl x hx with h|h
  ·rw[m.op]at h;change(List.replicate n false).getD x false=true at h;rw[ft]at h;exact absurd h (by simp)
  ·exact h
 refine⟨fin.length,λx=>fin.idxOf x,λx=>List.idxOf_le_length,m.hit,λx hx y hy=>?_,λx hx y hy hw=>?_⟩
 ·have hi:=eG x hx;have hlt:=List.idxOf_lt_length_of_mem hi;have hg:fin[fin.idxOf x]?=some x:=by rw[zai hlt,List.getElem_idxOf hlt]
  rcases m.Xi.q _ _ hg y hy with h|⟨j,_,hj⟩
  ·exact m.Xi.wm y h
  ·exact m.Xi.fm y (zbD hj)
 ·have hi:=eG x hx;have hlt:=List.idxOf_lt_length_of_mem hi;have hg:fin[fin.idxOf x]?=some x:=by rw[zai hlt,List.getElem_idxOf hlt]
  rcases m.Xi.q _ _ hg y hy with h|⟨j,hj,S0⟩
  ·rw[show(cq S (n+1) (WS.start n) 0)=fD S n from rfl,hw]at h;exact absurd h (by simp)
  ·have vU:j<fin.length:=by
    rcases zag j fin.length with h|h
    ·exact h
    ·rw[zbF h]at S0;simp at S0
   rw[zai vU]at S0;have:fin.idxOf y≤j:=by
    rw[←Option.some.inj S0];exact De fin j vU
   show fin.idxOf y<fin.idxOf x;omega
structure TS where
 eL:List Int
 next:Nat
 out:List UInt8
 long:Bool
def TS.add (t:TS)(p:List UInt8):TS:=if t.long then t else if 400<t.out.length+p.length then { t with long:=true } else { t with out:=t.out++p }
def TS.put (t:TS)(a:Nat):TS:={ t.add (35::(Lib.itoa t.next++[61]))with eL:=t.eL.set a t.next,next:=t.next+1 }
def gR (node:TS→Nat→TS)(l:List Nat):Nat→TS→TS
 |0,t=>t
 |k+1,t=>node (if k=0 then gR node l k t else(gR node l k t).add [32]) (l.getD k 0)
def WF (K:Nat→Int)(S:Nat→List Nat)(At:Nat→List UInt8)(L:Nat→Bool):Nat→Bool→TS→Nat→TS
 |0,_,t,_=>t
 |f+1,false,t,a=>
  if t.long then t
  else if 0≤t.eL.getD a (-1)then t.add (35::(Lib.itoa (t.eL.getD a (-1))++[35]))
  else
   if K a=1 then WF K S At L f true (WF K S At L f false (((if L a then t.put a else t)).add [40]) ((S a).getD 0 0)) ((S a).getD 1 0)
   else if K a=2 then(gR (WF K S At L f false) (S a) (S a).length ((if L a then t.put a else t).add [35,40])).add [41]
   else(if L a then t.put a else t).add (At a)
 |f+1,true,t,r=>
  if K r=1∧L r=false then WF K S At L f true (WF K S At L f false (t.add [32]) ((S r).getD 0 0)) ((S r).getD 1 0)
  else if K r=0 then t.add [41]
  else(WF K S At L f false (t.add [32,46,32]) r).add [41]
structure TS.Ok (n:Nat) (L:Nat→Bool) (t:TS):Prop where
 ll:t.eL.length=n
 lo:t.long=false→t.out.length≤400
 ln:∀i,-1≤t.eL.getD i (-1)∧t.eL.getD i (-1)<t.next
 lL:∀i,0≤t.eL.getD i (-1)→L i=true
 nx:t.long=false→t.next≤t.out.length
 n2:t.next≤401
theorem dT {t:TS}(h:t.long=true)(p:List UInt8):t.add p=t:=by unfold TS.add;rw[if_pos h]
theorem kR {t:TS}(h:t.long=false){p:List UInt8}(hp:400<t.out.length+p.length):t.add p={ t with long:=true }:=by unfold TS.add;rw[if_neg (by simp[h]),if_pos hp]
theorem kT {t:TS}(h:t.long=false){p:List UInt8}(hp:t.out.length+p.length≤400):t.add p={ t with out:=t.out++p }:=by unfold TS.add;rw[if_neg (by simp[h]),if_neg (by omega)]
theorem A9 (t:TS)(p:List UInt8):(t.add p).eL=t.eL:=by
 unfold TS.add;repeat' split
 all_goals rfl
theorem Df (t:TS)(p:List UInt8):(t.add p).next=t.next:=by
 unfold TS.add;repeat' split
 all_goals rfl
theorem TS.Ok.add {n:Nat}{L:Nat→Bool}{t:TS}(h:t.Ok n L)(p:List UInt8):(t.add p).Ok n L:=by
 refine⟨by rw[A9];exact h.ll,λhl=>?_,by rw[A9,Df];exact h.ln,by rw[A9];exact h.lL,λhl=>?_,by rw[Df];exact h.n2⟩;all_goals
  by_cases h1:t.long=true
  ·rw[dT h1,h1]at hl;exact absurd hl (by simp)
  ·have NU:t.long=false:=by simpa using h1
   by_cases h2:400<t.out.length+p.length
   ·rw[kR NU h2]at hl;exact absurd hl (by simp)
   ·rw[kT NU (by omega)];have e1:=h.lo NU;have e2:=h.nx NU;simp only[zaw];omega
theorem TS.Ok.put {n:Nat}{L:Nat→Bool}{t:TS}(h:t.Ok n L){a:Nat}(ha:a<n)(hL:L a=true)(eF:t.long=false):(t.put a).Ok n L:=by
 have h1:=h.add (35::(Lib.itoa t.next++[61]));have e1:=h.lo eF;have e2:=h.nx eF;refine⟨by simp[TS.put,h.ll],h1.lo,λi=>?_,λi hi=>?_,λhl=>?_,by show t.next+1≤401;omega⟩
 ·show -1≤(t.eL.set a t.next).getD i (-1)∧(t.eL.set a t.next).getD i (-1)<((t.next+1:Nat):Int);rw[dS _ _ _ _ _ (by rw[h.ll];exact ha)];have:=h.ln i;split<;>omega
 ·change 0≤(t.eL.set a t.next).getD i (-1)at hi;rw[dS _ _ _ _ _ (by rw[h.ll];exact ha)]at hi;split at hi
  ·rename_i e;rw[e];exact hL
  ·exact h.lL i hi
 ·change(t.add (35::(Lib.itoa t.next++[61]))).long=false at hl;show t.next+1≤(t.add (35::(Lib.itoa t.next++[61]))).out.length;by_cases h2:400<t.out.length+(35::(Lib.itoa t.next++[61])).length
  ·rw[kR eF h2]at hl;exact absurd hl (by simp)
  ·rw[kT eF (by omega)];simp;omega
theorem FA {n:Nat}{L:Nat→Bool}{node:TS→Nat→TS}(hn:∀t y,t.Ok n L→y<n→(node t y).Ok n L)(l:List Nat)(hl:∀y∈l,y<n):∀(k:Nat) (t:TS),k≤l.length→t.Ok n L→(gR node l k t).Ok n L
 |0,t,_,h=>h
 |k+1,t,hk,h=>by
  simp only[gR];have hy:l.getD k 0<n:=hl _ (by simp[List.getD,List.getElem?_eq_getElem (show k<l.length by omega)]);have ih:=FA hn l hl k t (by omega) h;split
  ·exact hn _ _ ih hy
  ·exact hn _ _ (ih.add _) hy
theorem rU {n:Nat}{K:Nat→Int}{S:Nat→List Nat}{At:Nat→List UInt8}{L:Nat→Bool}(hS:∀x,x<n→∀y∈S x,y<n)(h2:∀x,x<n→K x=1→(S x).length=2):∀(f:Nat) (b:Bool) (t:TS) (a:Nat),t.Ok n L→a<n→(WF K S At L f b t a).Ok n L
 |0,_,_,_,h,_=>h
 |f+1,false,t,a,h,ha=>by
  simp only[WF];by_cases eF:t.long=true
  ·rw[if_pos eF];exact h
  ·rw[if_neg eF];by_cases hl:0≤t.eL.getD a (-1)
   ·rw[if_pos hl];exact h.add _
   ·rw[if_neg hl];have h1:(if L a then t.put a else t).Ok n L:=by
     split
     ·rename_i e;exact h.put ha e (by simpa using eF)
     ·exact h
    by_cases k1:K a=1
    ·rw[if_pos k1];have hlen:=h2 a ha k1;exact rU hS h2 f true _ _ (rU hS h2 f false _ _ (h1.add _) (hS a ha _ (by simp[List.getD,List.getElem?_eq_getElem (show 0<(S a).length by omega)]))) (hS a ha _ (by simp[List.getD,List.getElem?_eq_getElem (show 1<(S a).length by omega)]))
    ·rw[if_neg k1];by_cases k2:K a=2
     ·rw[if_pos k2];exact(FA (λt y ht hy=>rU hS h2 f false t y ht hy) (S a) (hS a ha) _ _ (zaa _) (h1.add _)).add _
     ·rw[if_neg k2];exact h1.add _
 |f+1,true,t,a,h,ha=>by
  simp only[WF];by_cases c1:K a=1∧L a=false
  ·rw[if_pos c1];have hlen:=h2 a ha c1.1;exact rU hS h2 f true _ _ (rU hS h2 f false _ _ (h.add _) (hS a ha _ (by simp[List.getD,List.getElem?_eq_getElem (show 0<(S a).length by omega)]))) (hS a ha _ (by simp[List.getD,List.getElem?_eq_getElem (show 1<(S a).length by omega)]))
  ·rw[if_neg c1];by_cases c2:K a=0
   ·rw[if_pos c2];exact h.add _
   ·rw[if_neg c2];exact(rU hS h2 f false _ _ (h.add _) ha).add _
theorem ko {K:Nat→Int}{S:Nat→List Nat}{At:Nat→List UInt8}{L:Nat→Bool}:∀(f:Nat) (b:Bool) (t:TS) (a:Nat),t.long=true→WF K S At L f b t a=t
 |0,_,_,_,_=>rfl
 |f+1,false,t,a,h=>by simp only[WF];rw[if_pos h]
 |f+1,true,t,a,h=>by
  simp only[WF];rw[dT h,dT h,dT h,ko f false t _ h,ko f false t _ h,ko f true t _ h,dT h,ite_self,ite_self]
def need (t:TS):Nat:=if t.long then 1 else 2+(401-t.out.length)
theorem eK (t:TS)(p:List UInt8):need (t.add p)≤need t:=by
 by_cases h:t.long=true
 ·rw[dT h];exact zaa _
 ·have h':t.long=false:=by simpa using h
  by_cases h2:400<t.out.length+p.length
  ·rw[kR h' h2];unfold need;rw[if_pos rfl,if_neg h];omega
  ·rw[kT h' (by omega)];unfold need;rw[if_neg (by simpa using h'),if_neg h];simp;omega
theorem rV {t:TS}(h:t.long=false)(ho:t.out.length≤400){p:List UInt8}(hp:1≤p.length):need (t.add p)<need t:=by
 by_cases h2:400<t.out.length+p.length
 ·rw[kR h h2];unfold need;rw[if_pos rfl,if_neg (by simp[h])];omega
 ·rw[kT h (by omega)];unfold need;rw[if_neg (by simp[h]),if_neg (by simp[h])];simp;omega
theorem Dg (t:TS)(a:Nat):need (t.put a)≤need t:=eK t _
theorem rW (t:TS):1≤need t:=by unfold need;split<;>omega
theorem rX {node:TS→Nat→TS}(hn:∀t y,need (node t y)≤need t)(l:List Nat):∀(k:Nat) (t:TS),need (gR node l k t)≤need t
 |0,_=>zaa _
 |k+1,t=>by
  simp only[gR];have ih:=rX hn l k t;split
  ·exact zad (hn _ _) ih
  ·exact zad (hn _ _) (zad (eK _ _) ih)
theorem gZ {K:Nat→Int}{S:Nat→List Nat}{At:Nat→List UInt8}{L:Nat→Bool}:∀(f:Nat) (b:Bool) (t:TS) (a:Nat),need (WF K S At L f b t a)≤need t
 |0,_,_,_=>zaa _
 |f+1,false,t,a=>by
  simp only[WF];by_cases h1:t.long=true
  ·rw[if_pos h1];exact zaa _
  ·rw[if_neg h1];by_cases h2:0≤t.eL.getD a (-1)
   ·rw[if_pos h2];exact eK _ _
   ·rw[if_neg h2];have h0:need (if L a then t.put a else t)≤need t:=by
     split
     ·exact Dg _ _
     ·exact zaa _
    by_cases k1:K a=1
    ·rw[if_pos k1];exact zad (gZ f true _ _) (zad (gZ f false _ _) (zad (eK _ _) h0))
    ·rw[if_neg k1];by_cases k2:K a=2
     ·rw[if_pos k2];exact zad (eK _ _) (zad (rX (λt y=>gZ f false t y) _ _ _) (zad (eK _ _) h0))
     ·rw[if_neg k2];exact zad (eK _ _) h0
 |f+1,true,t,a=>by
  simp only[WF];by_cases c1:K a=1∧L a=false
  ·rw[if_pos c1];exact zad (gZ f true _ _) (zad (gZ f false _ _) (eK _ _))
  ·rw[if_neg c1];by_cases c2:K a=0
   ·rw[if_pos c2];exact eK _ _
   ·rw[if_neg c2];exact zad (eK _ _) (zad (gZ f false _ _) (eK _ _))
end Go.Loop
namespace Go.Proofs.YtlhimdjkkiflhaaGreatDoor
open Go.RowKit Go.Loop
def k9 (w:World)(b:Nat)(l:List Int):Prop:=∀i,i<l.length→w.cell? ⟨b,i,none⟩=some (.int .i64 (l.getD i 0))∧w.frozen? ⟨b,i,none⟩=false
def iD (w:World)(b:Nat)(l:List Bool):Prop:=∀i,i<l.length→w.cell? ⟨b,i,none⟩=some (.bool (l.getD i false))∧w.frozen? ⟨b,i,none⟩=false
theorem cell_far {w:World}{p a:Addr}{v:Value}(h:p.block≠a.block):(w.setCell p v).cell? a=w.cell? a:=World.cell?_setCell_other w p a v (λe=>h (by rw[e]))
theorem k9.set {w:World}{b:Nat}{l:List Int}(h:k9 w b l)(a:Nat)(ha:a<l.length)(v:Int):k9 (w.setCell ⟨b,a,none⟩ (.int .i64 v)) b (l.set a v):=by
 intro i hi;rw[List.length_set]at hi;rw[dS _ _ _ _ _ ha,World.frozen?_setCell];refine⟨?_,(h i hi).2⟩;by_cases e:i=a
 ·subst e;rw[if_pos rfl,World.cell?_setCell_same (h:=(h i hi).1)]
 ·rw[if_neg e,World.cell?_setCell_other (h:=by intro x;cases x;exact e rfl)];exact(h i hi).1
theorem iD.set {w:World}{b:Nat}{l:List Bool}(h:iD w b l)(a:Nat)(ha:a<l.length)(v:Bool):iD (w.setCell ⟨b,a,none⟩ (.bool v)) b (l.set a v):=by
 intro i hi;rw[List.length_set]at hi;rw[dS _ _ _ _ _ ha,World.frozen?_setCell];refine⟨?_,(h i hi).2⟩;by_cases e:i=a
 ·subst e;rw[if_pos rfl,World.cell?_setCell_same (h:=(h i hi).1)]
 ·rw[if_neg e,World.cell?_setCell_other (h:=by intro x;cases x;exact e rfl)];exact(h i hi).1
theorem k9.far {w:World}{b:Nat}{l:List Int}(h:k9 w b l){p:Addr}(hp:p.block≠b)(v:Value):k9 (w.setCell p v) b l:=λi hi=>by
 rw[cell_far hp,World.frozen?_setCell];exact h i hi
theorem iD.far {w:World}{b:Nat}{l:List Bool}(h:iD w b l){p:Addr}(hp:p.block≠b)(v:Value):iD (w.setCell p v) b l:=λi hi=>by
 rw[cell_far hp,World.frozen?_setCell];exact h i hi
def aD (G:List Nd)(x:Nat):List Nat:=match G[x]? with|some y=>y.subs.map Int.toNat|none=>[]
structure fM (w:World) (p bo bm bw n:Nat) (nv:Value) (s:WS):Prop where
 c0:w.cell? ⟨p,0,none⟩=some nv
 c1:w.cell? ⟨p,1,none⟩=some (.slice (some ⟨bo,0,none⟩) n n)
 c2:w.cell? ⟨p,2,none⟩=some (.slice (some ⟨bm,0,none⟩) n n)
 c3:w.cell? ⟨p,3,none⟩=some (.slice (some ⟨bw,0,none⟩) n n)
 rm:k9 w bm s.met
 rw:iD w bw s.wi
 ro:iD w bo s.op
structure Apart (B p bo bm bw:Nat):Prop where
 hp:B≤p
 ho:B≤bo
 hm:B≤bm
 hw:B≤bw
 po:p≠bo
 pm:p≠bm
 pw:p≠bw
 om:bo≠bm
 ow:bo≠bw
 mw:bm≠bw
theorem fM.hit {w:World}{p bo bm bw n:Nat}{nv:Value}{s:WS}{B:Nat}(h:fM w p bo bm bw n nv s)(A:Apart B p bo bm bw){a:Nat}(ha:a<s.met.length):fM (w.setCell ⟨bm,a,none⟩ (.int .i64 (s.met.getD a 0+1))) p bo bm bw n nv (s.hit a):=by
 have e:=A.pm.symm;exact⟨by rw[cell_far e];exact h.c0,by rw[cell_far e];exact h.c1,by rw[cell_far e];exact h.c2,
  by rw[cell_far e];exact h.c3,h.rm.set a ha _,h.rw.far A.mw _,h.ro.far A.om.symm _⟩
theorem fM.again {w:World}{p bo bm bw n:Nat}{nv:Value}{s:WS}{B:Nat}(h:fM w p bo bm bw n nv s)(A:Apart B p bo bm bw){a:Nat}(ha:a<s.wi.length):fM (w.setCell ⟨bw,a,none⟩ (.bool (s.wi.getD a false||s.op.getD a false))) p bo bm bw n nv (s.again a):=by
 have e:=A.pw.symm;exact⟨by rw[cell_far e];exact h.c0,by rw[cell_far e];exact h.c1,by rw[cell_far e];exact h.c2,
  by rw[cell_far e];exact h.c3,h.rm.far A.mw.symm _,h.rw.set a ha _,h.ro.far A.ow.symm _⟩
theorem fM.MU {w:World}{p bo bm bw n:Nat}{nv:Value}{s:WS}{B:Nat}(h:fM w p bo bm bw n nv s)(A:Apart B p bo bm bw){a:Nat}(ha:a<s.op.length)(v:Bool):fM (w.setCell ⟨bo,a,none⟩ (.bool v)) p bo bm bw n nv { s with op:=s.op.set a v }:=by
 have e:=A.po.symm;exact⟨by rw[cell_far e];exact h.c0,by rw[cell_far e];exact h.c1,by rw[cell_far e];exact h.c2,
  by rw[cell_far e];exact h.c3,h.rm.far A.om _,h.rw.far A.ow _,h.ro.set a ha _⟩
theorem fM.drew {w:World}{p bo bm bw n:Nat}{nv:Value}{s:WS}(h:fM w p bo bm bw n nv s):fM w.drew p bo bm bw n nv s:=⟨h.c0,h.c1,h.c2,h.c3,h.rm,h.rw,h.ro⟩
def cn (k f t:Int)(l:List UInt8)(n d:Int):Value:= .agg #[.int .u8 k,.int .i64 f,.int .i64 t,.string ⟨⟨l⟩⟩,.int .i64 n,.int .i64 d]
section
attribute [local go_sem] uW wS rG uX mb
end
theorem ve (a b:List UInt8):(ByteArray.mk (Array.mk a))++(ByteArray.mk (Array.mk b))=⟨⟨a++b⟩⟩:=by
 apply ByteArray.ext;simp
theorem Hf:∀(f u:Nat),u<10^f→(Lib.decDigits u).length≤f+1
 |0,u,h=>by
  have:u=0:=by simpa using h
  subst this;rw[Lib.decDigits_one (by omega)];simp
 |f+1,u,h=>by
  by_cases h10:u<10
  ·rw[Lib.decDigits_one h10];simp
  ·rw[Lib.decDigits,dif_neg h10];have:=Hf f (u/10) (by rw[Nat.pow_succ]at h;omega);simp;omega
theorem Dh (u:Nat)(h:u≤1000000000):(Lib.decDigits u).length≤11:=Hf 10 u (by omega)
def qo (c:UInt8):List UInt8:=
 if c.toNat=92 then[92,92]else if c.toNat=34 then[92,34]else if c.toNat=10 then[92,110]else if c.toNat=9 then[92,116]else[c]
def xr (l:List UInt8):List UInt8:=34::(l.flatMap qo++[34])
def il (n d:Int):List UInt8:=if d=1 then Lib.itoa n else Lib.itoa n++47::Lib.itoa d
def Di (n:Int):List UInt8:=35::92::(if hasName n then nameOf n else[UInt8.ofNat n.toNat])
def fT (x:Nd):List UInt8:=
 if x.kind=0 then[40,41]else if x.kind=3 then xr x.text else if x.kind=4 then x.text else if x.kind=5 then il x.n x.d
 else if x.kind=6 then(if x.n=1 then[35,116]else[35,102])else Di x.n
theorem MV (l:List UInt8)(k:Nat)(h:k<l.length):(l.take (k+1)).flatMap qo=(l.take k).flatMap qo++qo l[k]:=by
 rw[zbA h,List.flatMap_append];simp
theorem rY (n:Int)(h1: -1000000000≤n)(h2:n≤1000000000):(Lib.itoa n).length≤12:=by
 unfold Lib.itoa;split
 ·have:=Dh n.natAbs (by omega);simp;omega
 ·have:=Dh n.toNat (by omega);omega
section
attribute [local go_sem] wS
end
end Go.Proofs.YtlhimdjkkiflhaaGreatDoor
namespace Go.Proofs.YtlhimdjkkiflhaaGreatDoor
open Go.Proofs.Tryz
open Go.RowKit Go.Loop
def ld (W w:World)(l:List UInt8):Prop:=∃cs v,cs.size=2∧fC w 116 0 W.heap.size W.heap.size cs v (Lib.byteCells l)∧Below W.heap.size W w
theorem ld.start (W:World):ld W (W.alloc (.cells #[.pointer none,.slice none 0 0] 116)) []:=
 ⟨_,_,rfl,⟨zaa _,heap_alloc_new W _,Or.inl rfl,rfl,World.ownsRow_nil _ _ _ _⟩,(Below.refl _ _).alloc (zaa _) _⟩
theorem bT:116≠5:=by decide
theorem fC.toB {w:World}{T:TypeId}{off B b:Nat}{cs:Array Value}{v:Value}{bs:List Value}(h:fC w T off B b cs v bs):∀k,v.ownBlock=some k→B≤k:=λk hk=>(h.own.lt k hk).1
theorem ld.fV {W w:World}{l:List UInt8}(h:ld W w l)(c:UInt8)(hl:l.length≤100000):Calls prog 191 #[.pointer (some ⟨W.heap.size,0,none⟩),.int .u8 c.toNat] w λe w'=>e=.returned .nilIface∧ld W w' (l++[c]):=by
 obtain⟨cs,v,hs,hb,hw⟩:=h;have hsz:=hw.size;refine(pN (hs▸w9) bT hb c.toNat (by rw[Lib.byteCells_length];omega) hsz).mono ?_;rintro e w' ⟨rfl,v',h1,h2⟩;refine⟨rfl,_,v',?_,by rw[Lib.byteCells_append];exact h1,hw.trans (h2.below hsz (zaa _) hb.toB)⟩;simp[kL,hs]
theorem ld.writeString {W w:World}{l:List UInt8}(h:ld W w l)(s:List UInt8)(hl:l.length+s.length≤100000):Calls prog 154 #[.pointer (some ⟨W.heap.size,0,none⟩),.string ⟨⟨s⟩⟩] w λe w'=>e=.returned (.tuple #[.int .i64 s.length,.nilIface])∧ld W w' (l++s):=by
 obtain⟨cs,v,hs,hb,hw⟩:=h;have hsz:=hw.size;refine(nu (hs▸w9) bT hb ⟨⟨s⟩⟩ (by rw[Lib.byteCells_length];show l.length+s.length≤_;omega) hsz).mono ?_;rintro e w' ⟨rfl,v',h1,h2⟩;refine⟨rfl,_,v',?_,by rw[Lib.byteCells_append];exact h1,hw.trans (h2.below hsz (zaa _) hb.toB)⟩;simp[kL,hs]
theorem ld.string {W w:World}{l:List UInt8}(h:ld W w l)(h0:l≠[]):Calls prog 63 #[.pointer (some ⟨W.heap.size,0,none⟩)] w λe w'=>e=.returned (.string ⟨⟨l⟩⟩)∧Below W.heap.size W w':=by
 obtain⟨cs,v,hs,hb,hw⟩:=h;refine(lI hb h0).mono ?_;rintro e w' ⟨rfl,h2⟩;exact⟨rfl,hw.trans (h2.below hw.size (zaa _) hb.toB)⟩
section
attribute [local go_sem] wS
theorem FB (l:List UInt8)(w:World)(hl:l.length≤400):Calls prog 156 #[.string ⟨⟨l⟩⟩] w λe w'=>e=.returned (.string ⟨⟨xr l⟩⟩)∧Below w.heap.size w w':=by
 have H0:Hid (ld w (w.alloc (.cells #[.pointer none,.slice none 0 0] 116)) []):=ld.start w;go_enter func156,ntmps156;go_wp2_with (go_at_call 191;refine(H0.out.fV 34 (by simp)).mono ?_);rintro e w1 ⟨rfl,h1⟩;have H1:Hid (ld w w1 ([]++[34])):=h1;clear h1 H0;go_wp2_with fail;go_loopw [9] (λi wr=>∃(k:Nat) (o:List UInt8),k≤l.length∧i=.int .i64 k∧o.length≤1+2*k∧Hid (ld w wr o)∧Hid (o=34::(l.take k).flatMap qo)) (λi _=>l.length-(intOf i).toNat)
 case atStart=>exact⟨0,[34],zaj _,rfl,by simp,H1.out,rfl⟩
 case round=>
  obtain⟨k,o,hk,rfl,Mc,H2,hle⟩:=hrel;by_cases hlt:k<l.length
  ·have HS:Hid _:=MV l k hlt;cases Xj:((l[k].toNat :Int)==92)
   ·cases Zz:((l[k].toNat :Int)==34)
    ·cases K6:((l[k].toNat :Int)==10)
     ·cases e9:((l[k].toNat :Int)==9)
      ·have HE:Hid (qo l[k]=[l[k]]):=by
        show _=_;rw[beq_eq_false_iff_ne]at Xj Zz K6 e9;unfold qo;rw[if_neg (by omega),if_neg (by omega),if_neg (by omega),if_neg (by omega)]
       go_wp2_with (go_at_call 191;refine(H2.out.fV l[k] (by first|omega|(simp;omega))).mono ?_);rintro e w2 ⟨rfl,h2⟩;have H3:Hid (ld w w2 (o++[l[k]])):=h2;clear h2 H2;go_wp2_with fail;go_roundw
       case rel=>exact⟨k+1,_,by omega,by go_num,by simp;omega,H3.out,by show _=_;rw[HS.out,HE.out,hle.out];simp⟩
       case measure=>simp[intOf];omega
      ·have HE:Hid (qo l[k]=[92,116]):=by
        show _=_;rw[beq_eq_false_iff_ne]at Xj Zz K6;rw[beq_iff_eq]at e9;unfold qo;rw[if_neg (by omega),if_neg (by omega),if_neg (by omega),if_pos (by omega)]
       go_wp2_with (go_at_call 154;refine(H2.out.writeString [92,116] (by first|omega|(simp;omega))).mono ?_);rintro e w2 ⟨rfl,h2⟩;have H3:Hid (ld w w2 (o++[92,116])):=h2;clear h2 H2;go_wp2_with fail;go_roundw
       case rel=>exact⟨k+1,_,by omega,by go_num,by simp;omega,H3.out,by show _=_;rw[HS.out,HE.out,hle.out];simp⟩
       case measure=>simp[intOf];omega
     ·have HE:Hid (qo l[k]=[92,110]):=by
       show _=_;rw[beq_eq_false_iff_ne]at Xj Zz;rw[beq_iff_eq]at K6;unfold qo;rw[if_neg (by omega),if_neg (by omega),if_pos (by omega)]
      go_wp2_with (go_at_call 154;refine(H2.out.writeString [92,110] (by first|omega|(simp;omega))).mono ?_);rintro e w2 ⟨rfl,h2⟩;have H3:Hid (ld w w2 (o++[92,110])):=h2;clear h2 H2;go_wp2_with fail;go_roundw
      case rel=>exact⟨k+1,_,by omega,by go_num,by simp;omega,H3.out,by show _=_;rw[HS.out,HE.out,hle.out];simp⟩
      case measure=>simp[intOf];omega
    ·have HE:Hid (qo l[k]=[92,34]):=by
      show _=_;rw[beq_eq_false_iff_ne]at Xj;rw[beq_iff_eq]at Zz;unfold qo;rw[if_neg (by omega),if_pos (by omega)]
     have HC:Hid (l[k]=34):=by
      rw[beq_iff_eq]at Zz;exact UInt8.toNat_inj.1 (by have:(34:UInt8).toNat=34:=rfl;omega)
     go_wp2_with (go_at_call 191;refine(H2.out.fV 92 (by first|omega|(simp;omega))).mono ?_);rintro e w2 ⟨rfl,h2⟩;have HA:Hid (ld w w2 (o++[92])):=h2;clear h2 H2;go_wp2_with (go_at_call 191;refine(HA.out.fV l[k] (by first|omega|(simp;omega))).mono ?_);rintro e w3 ⟨rfl,h3⟩;have H3:Hid (ld w w3 (o++[92]++[l[k]])):=h3;clear h3 HA;go_wp2_with fail;go_roundw
     case rel=>exact⟨k+1,_,by omega,by go_num,by simp;omega,H3.out,by show _=_;rw[HS.out,HE.out,hle.out];simp[HC.out]⟩
     case measure=>simp[intOf];omega
   ·have HE:Hid (qo l[k]=[92,92]):=by
     show _=_;rw[beq_iff_eq]at Xj;unfold qo;rw[if_pos (by omega)]
    have HC:Hid (l[k]=92):=by
     rw[beq_iff_eq]at Xj;exact UInt8.toNat_inj.1 (by have:(92:UInt8).toNat=92:=rfl;omega)
    go_wp2_with (go_at_call 191;refine(H2.out.fV 92 (by first|omega|(simp;omega))).mono ?_);rintro e w2 ⟨rfl,h2⟩;have HA:Hid (ld w w2 (o++[92])):=h2;clear h2 H2;go_wp2_with (go_at_call 191;refine(HA.out.fV l[k] (by first|omega|(simp;omega))).mono ?_);rintro e w3 ⟨rfl,h3⟩;have H3:Hid (ld w w3 (o++[92]++[l[k]])):=h3;clear h3 HA;go_wp2_with fail;go_roundw
    case rel=>exact⟨k+1,_,by omega,by go_num,by simp;omega,H3.out,by show _=_;rw[HS.out,HE.out,hle.out];simp[HC.out]⟩
    case measure=>simp[intOf];omega
  ·go_wp2_with (go_at_call 191;refine(H2.out.fV 34 (by first|omega|(simp;omega))).mono ?_);rintro e w2 ⟨rfl,h2⟩;have H3:Hid (ld w w2 (o++[34])):=h2;clear h2 H2;go_wp2_with (go_at_call 63;refine(H3.out.string (by simp)).mono ?_);rintro e w3 ⟨rfl,hb⟩;have HB:Hid (Below w.heap.size w w3):=hb;clear hb;go_wp2_with fail;go_ret;refine⟨fe ?_,HB.out⟩;rw[hle.out,zaI (by omega)];simp[xr]
end
def Pow (w:World):Prop:=Lib.TabIs prog w "internal/strconv.uint64pow10" .u64 Lib.pow10Tab
theorem Pow.on {w w':World}(h:Pow w)(hb:Below w.heap.size w w'):Pow w':=Lib.tabBelow_of_tabIs h w' hb
theorem oA (n:Int)(w:World)(h1: -1000000000≤n)(h2:n≤1000000000)(hp:Pow w):Calls prog 100 #[.int .i64 n] w λe w'=>e=.returned (.string ⟨⟨Lib.itoa n⟩⟩)∧Below w.heap.size w w':=by
 refine(Tryz.strconv_Itoa n (by omega) (by omega) w hp).mono ?_;rintro e w' ⟨rfl,k,os,rfl⟩;exact⟨rfl,Lib.below_grow _ w (zaa _) k os⟩
def tq (n:Int):List UInt8:=if n=1 then[35,116]else[35,102]
theorem JJ (n:Int)(w:World):Calls prog 158 #[.int .i64 n] w λe w'=>e=.returned (.string ⟨⟨tq n⟩⟩)∧w'=w:=by
 cases hn:(n==1)
 ·have HV:Hid (tq n=[35,102]):=by show _=_;unfold tq;rw[beq_eq_false_iff_ne]at hn;rw[if_neg hn]
  go_enter func158,ntmps158;go_wp2_with fail;go_ret;exact⟨fe HV.out.symm,rfl⟩
 ·have HV:Hid (tq n=[35,116]):=by show _=_;unfold tq;rw[beq_iff_eq]at hn;rw[if_pos hn]
  go_enter func158,ntmps158;go_wp2_with fail;go_ret;exact⟨fe HV.out.symm,rfl⟩
theorem Ba:∀k:Nat,k<128→Utf8.encode (k:Int)=⟨⟨[UInt8.ofNat k]⟩⟩:=by decide +kernel
theorem MW (n:Int)(w:World)(hc:rB n=true):Calls prog 159 #[.int .i64 n] w λe w'=>e=.returned (.string ⟨⟨Di n⟩⟩)∧w'=w:=by
 have ks:=ve;have Xk:Hid (Di n=35::92::(if hasName n then nameOf n else[UInt8.ofNat n.toNat])):=rfl
 have hln:(nameOf n).length≤7:=by unfold nameOf;repeat' split
                                  all_goals simp
 cases hn:hasName n
 ·have hr:33≤n∧n≤126:=by unfold rB at hc;rw[hn]at hc;simpa using hc
  obtain⟨k,rfl⟩:∃k:Nat,n=k:=⟨n.toNat,by omega⟩;have he:=Ba k (by omega);go_enter func159,ntmps159;go_wp2_with (go_at_call 151;refine(ig _ _).mono ?_);rintro e w1 ⟨rfl,rfl⟩;rw[hn];go_wp2_with fail;go_ret;refine⟨fe ?_,rfl⟩;rw[Xk.out,hn];simp
 ·go_enter func159,ntmps159;go_wp2_with (go_at_call 151;refine(ig _ _).mono ?_);rintro e w1 ⟨rfl,rfl⟩;rw[hn];go_wp2_with fail;go_ret;refine⟨fe ?_,rfl⟩;rw[Xk.out,hn];simp
theorem FC (n d:Int)(w:World)(n1: -1000000≤n)(n2:n≤1000000)(d1:1≤d)(d2:d≤1000000)(hp:Pow w):Calls prog 157 #[.int .i64 n,.int .i64 d] w λe w'=>e=.returned (.string ⟨⟨il n d⟩⟩)∧Below w.heap.size w w':=by
 have lN:=rY n (by omega) (by omega);have hl2:=rY d (by omega) (by omega);have ks:=ve;have HP:Hid (Pow w):=hp;clear hp;cases hd:(d==1)
 ·have HN:Hid (il n d=Lib.itoa n++47::Lib.itoa d):=by show _=_;rw[beq_eq_false_iff_ne]at hd;unfold il;rw[if_neg hd]
  go_enter func157,ntmps157;go_wp2_with (go_at_call 100;refine(oA n _ (by omega) (by omega) HP.out).mono ?_);rintro e w1 ⟨rfl,hb1⟩;have k8:Hid (Below w.heap.size w w1):=hb1;clear hb1;go_wp2_with (go_at_call 100;refine(oA d _ (by omega) (by omega) (HP.out.on k8.out)).mono ?_);rintro e w2 ⟨rfl,hb2⟩;have ij:Hid (Below w.heap.size w w2):=k8.out.trans (hb2.mono k8.out.size);clear hb2;go_wp2_with fail;go_ret;refine⟨fe ?_,ij.out⟩;rw[HN.out];first|done|simp
 ·have HN:Hid (il n d=Lib.itoa n):=by show _=_;rw[beq_iff_eq]at hd;unfold il;rw[if_pos hd]
  go_enter func157,ntmps157;go_wp2_with (go_at_call 100;refine(oA n _ (by omega) (by omega) HP.out).mono ?_);rintro e w1 ⟨rfl,hb1⟩;have k8:Hid (Below w.heap.size w w1):=hb1;clear hb1;go_wp2_with fail;go_ret;exact⟨fe HN.out.symm,k8.out⟩
theorem UW (x:Nd)(w:World)(hk:x.kind=0):Calls prog 104 #[dD x] w λe w'=>e=.returned (.string ⟨⟨fT x⟩⟩)∧Below w.heap.size w w':=by
 have HV:Hid (fT x=[40,41]):=by show _=_;unfold fT;rw[if_pos hk]
 have hb3:(x.kind==3)=false:=by rw[hk];decide
 have hb4:(x.kind==4)=false:=by rw[hk];decide
 have lC:(x.kind==5)=false:=by rw[hk];decide
 have mL:(x.kind==6)=false:=by rw[hk];decide
 have Bp:(x.kind==7)=false:=by rw[hk];decide
 clear hk;unfold dD;go_enter func104,ntmps104;go_wp2_with fail;go_ret;exact⟨fe HV.out.symm,aG⟩
theorem UX (x:Nd)(w:World)(ht:x.text.length≤400)(hk:x.kind=3):Calls prog 104 #[dD x] w λe w'=>e=.returned (.string ⟨⟨fT x⟩⟩)∧Below w.heap.size w w':=by
 have HV:Hid (fT x=xr x.text):=by show _=_;unfold fT;rw[if_neg (by omega),if_pos hk]
 have hb3:(x.kind==3)=true:=by rw[hk];decide
 have hb4:(x.kind==4)=false:=by rw[hk];decide
 have lC:(x.kind==5)=false:=by rw[hk];decide
 have mL:(x.kind==6)=false:=by rw[hk];decide
 have Bp:(x.kind==7)=false:=by rw[hk];decide
 clear hk;unfold dD;go_enter func104,ntmps104;go_wp2_with (go_at_call 156;refine(FB x.text _ ht).mono ?_);rintro e w1 ⟨rfl,hb⟩;have HB:Hid (Below w.heap.size w w1):=aG.trans (hb.mono (by simp));clear hb;go_wp2_with fail;go_ret;exact⟨fe HV.out.symm,HB.out⟩
theorem UY (x:Nd)(w:World)(hk:x.kind=4):Calls prog 104 #[dD x] w λe w'=>e=.returned (.string ⟨⟨fT x⟩⟩)∧Below w.heap.size w w':=by
 have HV:Hid (fT x=x.text):=by show _=_;unfold fT;rw[if_neg (by omega),if_neg (by omega),if_pos hk]
 have hb3:(x.kind==3)=false:=by rw[hk];decide
 have hb4:(x.kind==4)=true:=by rw[hk];decide
 have lC:(x.kind==5)=false:=by rw[hk];decide
 have mL:(x.kind==6)=false:=by rw[hk];decide
 have Bp:(x.kind==7)=false:=by rw[hk];decide
 clear hk;unfold dD;go_enter func104,ntmps104;go_wp2_with fail;go_ret;exact⟨fe HV.out.symm,aG⟩
theorem UZ (x:Nd)(w:World)(n1: -1000000≤x.n)(n2:x.n≤1000000)(d1:1≤x.d)(d2:x.d≤1000000)(hp:Pow w)(hk:x.kind=5):Calls prog 104 #[dD x] w λe w'=>e=.returned (.string ⟨⟨fT x⟩⟩)∧Below w.heap.size w w':=by
 have HV:Hid (fT x=il x.n x.d):=by show _=_;unfold fT;rw[if_neg (by omega),if_neg (by omega),if_neg (by omega),if_pos hk]
 have hb3:(x.kind==3)=false:=by rw[hk];decide
 have hb4:(x.kind==4)=false:=by rw[hk];decide
 have lC:(x.kind==5)=true:=by rw[hk];decide
 have mL:(x.kind==6)=false:=by rw[hk];decide
 have Bp:(x.kind==7)=false:=by rw[hk];decide
 clear hk;have HPA:Hid (∀o:Obj,Pow (w.alloc o)):=λo=>hp.on aG;clear hp;unfold dD;go_enter func104,ntmps104;go_wp2_with (go_at_call 157;refine(FC x.n x.d _ n1 n2 d1 d2 (HPA.out _)).mono ?_);rintro e w1 ⟨rfl,hb⟩;have HB:Hid (Below w.heap.size w w1):=aG.trans (hb.mono (by simp));clear hb;go_wp2_with fail;go_ret;exact⟨fe HV.out.symm,HB.out⟩
theorem U0 (x:Nd)(w:World)(hk:x.kind=6):Calls prog 104 #[dD x] w λe w'=>e=.returned (.string ⟨⟨fT x⟩⟩)∧Below w.heap.size w w':=by
 have HV:Hid (fT x=tq x.n):=by show _=_;unfold fT;rw[if_neg (by omega),if_neg (by omega),if_neg (by omega),if_neg (by omega),if_pos hk];rfl
 have hb3:(x.kind==3)=false:=by rw[hk];decide
 have hb4:(x.kind==4)=false:=by rw[hk];decide
 have lC:(x.kind==5)=false:=by rw[hk];decide
 have mL:(x.kind==6)=true:=by rw[hk];decide
 have Bp:(x.kind==7)=false:=by rw[hk];decide
 clear hk;unfold dD;go_enter func104,ntmps104;go_wp2_with (go_at_call 158;refine(JJ x.n _).mono ?_);rintro e w1 ⟨rfl,rfl⟩;go_wp2_with fail;go_ret;exact⟨fe HV.out.symm,aG⟩
theorem U1 (x:Nd)(w:World)(hc:rB x.n=true)(hk:x.kind=7):Calls prog 104 #[dD x] w λe w'=>e=.returned (.string ⟨⟨fT x⟩⟩)∧Below w.heap.size w w':=by
 have HV:Hid (fT x=Di x.n):=by show _=_;unfold fT;rw[if_neg (by omega),if_neg (by omega),if_neg (by omega),if_neg (by omega),if_neg (by omega)]
 have hb3:(x.kind==3)=false:=by rw[hk];decide
 have hb4:(x.kind==4)=false:=by rw[hk];decide
 have lC:(x.kind==5)=false:=by rw[hk];decide
 have mL:(x.kind==6)=false:=by rw[hk];decide
 have Bp:(x.kind==7)=true:=by rw[hk];decide
 clear hk;unfold dD;go_enter func104,ntmps104;go_wp2_with (go_at_call 159;refine(MW x.n _ hc).mono ?_);rintro e w1 ⟨rfl,rfl⟩;go_wp2_with fail;go_ret;exact⟨fe HV.out.symm,aG⟩
end Go.Proofs.YtlhimdjkkiflhaaGreatDoor
