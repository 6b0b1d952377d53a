import Derived.Deep.RegionHeld3
import Derived.Test.YtlhimdjkkiflhaaGreatReads27
import Derived.Test.YtlhimdjkkiflhaaGreatReads33
set_option maxHeartbeats 8000000
set_option maxRecDepth 100000
open Go.Value renaming int→Γ
open Go.IntKind renaming i64→Δ
open Go renaming Value→Θ,World→Λ
open Go.Act renaming put→Ξ
namespace Go.Proofs.YtlhimdjkkiflhaaGreat
open Go.RowKit Go.Loop
structure fQ (w0 w:Λ) (O A:Nat) (g:sJ) (ov:Θ) (ay:List Θ):Prop where
 low:Below w0.heap.size w0 w
 Z3:w0.heap.size≤O
 Z4:w0.heap.size≤A
 blk:w.heap[O]?=some (.cells #[ov] 22)
 ab:w.heap[A]?=some (.cells (g.at_.map λk:Nat=>Θ.int .i64 (k:Int)).toArray 3)
 row:w.ownsRow w0.heap.size 50 5 ov g.out.length (kY g.out ay)
 len:ay.length=g.out.length
 subs:∀(j:Nat) x v,g.out[j]?=some x→ay[j]?=some v→mN w w0.heap.size v x.subs
 Gm:∀v∈ay,v.ownBlock≠some A
 sep:∀(i j:Nat) v v' b,ay[i]?=some v→ay[j]?=some v'→v.ownBlock=some b→v'.ownBlock=some b→i=j
structure Ko (O A:Nat) (ov:Θ) (ay:List Θ) (w w':Λ):Prop where
 os:w'.os=w.os
 tape:w'.tape=w.tape
 output:w'.output=w.output
 size:w.heap.size≤w'.heap.size
 block:∀b,b<w.heap.size→b≠O→b≠A→ov.ownBlock≠some b→(∀v∈ay,v.ownBlock≠some b)→w'.heap[b]?=w.heap[b]?
def tS (w0 w:Λ)(O A:Nat)(ov:Θ)(ay:List Θ)(g':sJ)(w':Λ):Prop:=
 ∃ov' ie,fQ w0 w' O A g' ov' ie∧Ko O A ov ay w w'∧dN w ov ov'∧n9 w ay ie
section
variable {w0 w w1 w2:Λ}{O A:Nat}{ov ov1 SB:Θ}{ay cA cK:List Θ}{g g1 g2:sJ}
theorem n9.refl (w:Λ)(ay:List Θ):n9 w ay ay:=λv hv _ e=> .inl ⟨v,hv,e⟩
theorem n9.ne (h:n9 w ay cA){b:Nat}(hb:b<w.heap.size)(hn:∀v∈ay,v.ownBlock≠some b):∀v∈cA,v.ownBlock≠some b:=λv hv e=>by
 rcases h v hv b e with⟨v0,h1,h2⟩|h1
 ·exact hn v0 h1 h2
 ·omega
theorem n9.trans (h:n9 w ay cA)(hs:w.heap.size≤w1.heap.size)(h':n9 w1 cA cK):n9 w ay cK:=λv hv b e=>by
 rcases h' v hv b e with⟨v0,h1,h2⟩|h1
 ·exact h v0 h1 b h2
 ·exact .inr (by omega)
theorem Ko.refl (O A:Nat)(ov:Θ)(ay:List Θ)(w:Λ):Ko O A ov ay w w:=⟨rfl,rfl,rfl,zab _,λ_ _ _ _ _ _=>rfl⟩
theorem Ko.trans (h:Ko O A ov ay w w1)(hn:dN w ov ov1)(hs:n9 w ay cA)(h':Ko O A ov1 cA w1 w2):Ko O A ov ay w w2:=
 ⟨h'.os.trans h.os,h'.tape.trans h.tape,h'.output.trans h.output,zaj h.size h'.size,λb a1 a2 a3 a4 a5=>(h'.block b (zaH a1 h.size) a2 a3 (hn.ne a1 a4) (hs.ne a1 a5)).trans (h.block b a1 a2 a3 a4 a5)⟩
theorem Ko.below (h:Below w.heap.size w w1):Ko O A ov ay w w1:=⟨h.os,h.tape,h.output,h.size,λb hb _ _ _ _=>h.block b hb⟩
theorem fQ.Ey (h:fQ w0 w O A g ov ay):O<w.heap.size:=(zag.1 h.blk).1
theorem fQ.alt (h:fQ w0 w O A g ov ay):A<w.heap.size:=(zag.1 h.ab).1
theorem fQ.oa (h:fQ w0 w O A g ov ay):O≠A:=λe=>by
 have:=h.blk;rw[e,h.ab]at this;simp at this
theorem fQ.rO (h:fQ w0 w O A g ov ay):ov.ownBlock≠some O:=λe=>by
 obtain⟨_,_,cur,hc⟩:=ba h.row e;rw[h.blk]at hc;simp at hc
theorem fQ.rA (h:fQ w0 w O A g ov ay):ov.ownBlock≠some A:=λe=>by
 obtain⟨_,_,cur,hc⟩:=ba h.row e;rw[h.ab]at hc;simp at hc
theorem fQ.Gn (h:fQ w0 w O A g ov ay){v:Θ}(hv:v∈ay){b:Nat}(hb:v.ownBlock=some b):w0.heap.size≤b∧b<w.heap.size∧∃cur,w.heap[b]?=some (.cells cur 3):=by
 obtain⟨j,hj⟩:=List.getElem?_of_mem hv;have hl:j<g.out.length:=by rw[←h.len];exact(zaD.1 hj).1
 exact ba (h.subs j _ v (zaP hl) hj) hb
theorem fQ.sO (h:fQ w0 w O A g ov ay){v:Θ}(hv:v∈ay):v.ownBlock≠some O:=λe=>by
 obtain⟨_,_,cur,hc⟩:=h.Gn hv e;rw[h.blk]at hc;simp at hc
theorem fQ.sR (h:fQ w0 w O A g ov ay){v:Θ}(hv:v∈ay){b:Nat}(hb:v.ownBlock=some b):ov.ownBlock≠some b:=λe=>by
 obtain⟨_,_,cur,hc⟩:=h.Gn hv hb;obtain⟨_,_,cur',hc'⟩:=ba h.row e;rw[hc]at hc';simp at hc'
theorem fQ.below (h:fQ w0 w O A g ov ay)(hb:Below w.heap.size w w1):fQ w0 w1 O A g ov ay:=
 ⟨h.low.trans (hb.mono h.low.size),h.Z3,h.Z4,(hb.block _ h.Ey).trans h.blk,(hb.block _ h.alt).trans h.ab,bo h.row λb e=>hb.block b (ba h.row e).2.1,h.len,λj x v a1 a2=>bo (h.subs j x v a1 a2) λb e=>hb.block b (ba (h.subs j x v a1 a2) e).2.1,h.Gm,h.sep⟩
theorem tS.refl (h:fQ w0 w O A g ov ay):tS w0 w O A ov ay g w:=⟨ov,ay,h,.refl _ _ _ _ _,.refl _ _,.refl _ _⟩
theorem tS.from (hb:Below w.heap.size w w1)(h:tS w0 w1 O A ov ay g1 w2):tS w0 w O A ov ay g1 w2:=by
 obtain⟨ov',ie,a1,a2,a3,a4⟩:=h;exact⟨ov',ie,a1,(Ko.below hb).trans (.refl _ _) (.refl _ _) a2,dN.trans (.refl _ _) hb.size a3,n9.trans (.refl _ _) hb.size a4⟩
theorem fQ.put (h:fQ w0 w O A g ov ay)(n k:Nat):fQ w0 (w.setCell ⟨A,n,none⟩ (Γ Δ (k:Int))) O A ⟨g.out,g.at_.set n k⟩ ov ay:=by
 have ho:=bL w A n (Γ Δ (k:Int));refine⟨h.low.trans ((zad w0.heap.size w).setCell (p:=⟨A,n,none⟩) h.Z4 _),h.Z3,h.Z4,(ho O h.oa).trans h.blk,?_,bo h.row λb e=>ho b λe'=>by subst e';exact h.rA e,h.len,λj x v a1 a2=>bo (h.subs j x v a1 a2) λb e=>ho b λe'=>by subst e';exact h.Gm v (zbo a2) e,h.Gm,h.sep⟩;rw[bk h.ab n _,zaz,List.map_set]
theorem Ko.put (n:Nat)(v:Θ):Ko O A ov ay w (w.setCell ⟨A,n,none⟩ v):=⟨rfl,rfl,rfl,by simp,λb _ _ b3 _ _=>bL w A n v b b3⟩
theorem fQ.grow (h:fQ w0 w O A g ov ay){x:dF}(hx:x.subs=[]){w4:Λ}{v':Θ}(hb1:Below w.heap.size w w1)(hrow:w4.ownsRow w0.heap.size 50 5 v' (g.out.length+1) (kY g.out ay++jN x (.slice none 0 0)))(hg:w1.grownBy w4 ov.ownBlock)
 (cG:v'.ownBlock=ov.ownBlock∨∃k,v'.ownBlock=some k∧w1.heap.size≤k):w4.heap[O]?=some (.cells #[ov] 22)∧tS w0 w O A ov ay ⟨g.out++[x],g.at_⟩ (w4.setCell ⟨O,0,none⟩ v'):=by
 have hs1:=hb1.size;have KD:=hg.size;have hb:∀b,b<w.heap.size→ov.ownBlock≠some b→w4.heap[b]?=w.heap[b]?:=λb h1 h2=>(hg.block b (by omega) (λe=>h2 e.symm)).trans (hb1.block b h1);have h4:w4.heap[O]?=some (.cells #[ov] 22):=(hb O h.Ey h.rO).trans h.blk;have ho:=bL w4 O 0 v';have hl:=h.low.size;refine⟨h4,v',ay++[.slice none 0 0],⟨⟨hg.os.trans (hb1.os.trans h.low.os),hg.tape.trans (hb1.tape.trans h.low.tape),hg.output.trans (hb1.output.trans h.low.output),by simp;omega,λb b1=>?_⟩,h.Z3,h.Z4,bk h4 0 v',(ho A h.oa.symm).trans ((hb A h.alt h.rA).trans h.ab),?_,by simp[h.len],λj y v hy hv=>?_,λv hv=>?_,λi j v v1 b a1 a2 a3 a4=>?_⟩,⟨hg.os.trans hb1.os,hg.tape.trans hb1.tape,hg.output.trans hb1.output,by simp;omega,λb b1 b2 _ b4 _=>(ho b b2).trans (hb b b1 b4)⟩,cG.imp id λ⟨k,k1,k2⟩=>⟨k,k1,by omega⟩,λv hv b e=>?_⟩
 ·have:=h.Z3;rw[ho b (by omega),hb b (by omega) (λe=>by have:=(ba h.row e).1;omega)];exact h.low.block b b1
 ·show Λ.ownsRow _ _ _ _ _ (g.out++[x]).length (kY (g.out++[x]) _);rw[rM _ _ _ _ h.len,zaT];exact bo hrow λb e=>ho b λe'=>by
   obtain⟨_,_,cur,hc⟩:=ba hrow e;rw[e',h4]at hc;simp at hc
 ·rcases zar j g.out.length with hj|hj
  ·rw[zaS hj]at hy;rw[zaS (by rw[h.len];exact hj)]at hv;refine bo (h.subs j y v hy hv) λb e=>?_;have hm:=zbo hv;rw[ho b (λe'=>h.sO hm (e'▸e)),hb b (h.Gn hm e).2.1 (h.sR hm e)]
  ·have ej:j=g.out.length:=by
    have:=(zaD.1 hy).1;simp at this;omega
   subst ej;rw[zaZ (zab _)]at hy;rw[zaZ (by rw[h.len];exact zab _),h.len]at hv;simp at hy hv;subst hy hv;rw[hx];exact BR _ _
 ·rcases zaQ.1 hv with h1|h1
  ·exact h.Gm v h1
  ·rw[zcq.1 h1];intro e;cases e
 ·have Qf:∀(i:Nat) v,(ay++[Θ.slice none 0 0])[i]?=some v→v.ownBlock=some b→ay[i]?=some v:=λi v hi e=>by
   rcases zar i ay.length with hj|hj
   ·rwa[zaS hj]at hi
   ·rw[zaZ hj]at hi;cases hk:i-ay.length with
    |zero=>rw[hk]at hi;simp at hi;subst hi;cases e
    |succ n=>rw[hk]at hi;simp at hi
  exact h.sep i j v v1 b (Qf i v a1 a3) (Qf j v1 a2 a4) a3 a4
 ·rcases zaQ.1 hv with h1|h1
  ·exact .inl ⟨v,h1,e⟩
  ·rw[zcq.1 h1]at e;cases e
theorem ji {l:List dF}{k a:Nat}{x:dF}(h:l[k]?=some x):dw l k a=bP l k (x.subs++[a]):=by
 unfold dw bP;apply List.ext_getElem?
 intro j;rw[zbK,zbK];by_cases e:k=j
 ·subst e;simp[h]
 ·simp[e]
theorem fQ.sub (h:fQ w0 w O A g ov ay){k s:Nat}{x:dF}{sv v':Θ}{w6:Λ}(hx:g.out[k]?=some x)(ml:ay[k]?=some sv)(hb1:Below w.heap.size w w1)(hrow:w6.ownsRow w0.heap.size 3 1 v' (x.subs.length+1) ((x.subs.map λk:Nat=>Θ.int .i64 (k:Int))++[Γ Δ (s:Int)]))(hg:w1.grownBy w6 sv.ownBlock)
 (cG:v'.ownBlock=sv.ownBlock∨∃c,v'.ownBlock=some c∧w1.heap.size≤c):
 ∃nb cap cur,ov=.slice (some ⟨nb,0,none⟩) g.out.length cap∧w6.heap[O]?=some (.cells #[ov] 22)∧w6.heap[nb]?=some (.cells cur 50)∧cur[k*5+4]?=some sv∧tS w0 w O A ov ay ⟨dw g.out k s,g.at_⟩ (w6.setCell ⟨nb,k*5+4,none⟩ v'):=by
 have hs1:=hb1.size;have hs6:=hg.size;have hl:=h.low.size;have hm:=zbo ml;have hb:∀b,b<w.heap.size→sv.ownBlock≠some b→w6.heap[b]?=w.heap[b]?:=λb h1 h2=>(hg.block b (by omega) (λe=>h2 e.symm)).trans (hb1.block b h1);have Up:k<g.out.length:=(zaD.1 hx).1;rcases h.row.2 with⟨_,h0⟩|⟨nb,cap,cur,NW,q1,q2,q3,q4,q5,q6⟩
 ·omega
 have Ky:nb<w.heap.size:=(zag.1 q2).1;have hsn:sv.ownBlock≠some nb:=λe=>h.sR hm e (by rw[NW];rfl);have h6:w6.heap[nb]?=some (.cells cur 50):=(hb nb Ky hsn).trans q2;have ho:=bL w6 nb (k*5+4) v';have hO:O≠nb:=λe=>h.rO (by rw[NW,e];rfl);have hA:A≠nb:=λe=>h.rA (by rw[NW,e];rfl);have Vv:w6.heap[O]?=some (.cells #[ov] 22):=(hb O h.Ey (h.sO hm)).trans h.blk;have hcell:cur[k*5+4]?=some sv:=by
  have h1:=h.row.cells (g:=nb) (by rw[NW];rfl) (k*5+4) _ (vu _ _ k _ _ hx ml);simpa[Addr.add,Λ.cell?,q2]using h1
 have adG:v'.ownBlock≠some nb:=λe=>by
  obtain⟨_,_,c,hc⟩:=ba hrow e;rw[h6]at hc;simp at hc
 refine⟨nb,cap,cur,NW,Vv,h6,hcell,ov,ay.set k v',⟨⟨hg.os.trans (hb1.os.trans h.low.os),hg.tape.trans (hb1.tape.trans h.low.tape),hg.output.trans (hb1.output.trans h.low.output),by simp;omega,λb b1=>?_⟩,h.Z3,h.Z4,(ho O hO).trans Vv,(ho A hA).trans ((hb A h.alt (h.Gm sv hm)).trans h.ab),?_,by simp[dw,h.len],λj y v hy hv=>?_,λv hv=>?_,λi j v v1 b a1 a2 a3 a4=>?_⟩,⟨hg.os.trans hb1.os,hg.tape.trans hb1.tape,hg.output.trans hb1.output,by simp;omega,λb b1 _ _ b4 b5=>(ho b (λe=>b4 (by rw[NW,e];rfl))).trans (hb b b1 (b5 sv hm))⟩,.refl _ _,λv hv b e=>?_⟩
 ·rw[ho b (by omega),hb b (by omega) (λe=>by have:=(h.Gn hm e).1;omega)];exact h.low.block b b1
 ·have e1:(dw g.out k s).length=g.out.length:=by simp[dw]
  show Λ.ownsRow _ _ _ _ _ (dw g.out k s).length (kY (dw g.out k s) _);rw[e1,ji hx,Bo _ _ _ _ _ Up h.len,NW];refine⟨by rw[zcj];exact h.row.1,.inr ⟨nb,cap,_,rfl,q1,bk h6 _ _,q3,q4,by simpa using q5,?_⟩⟩;rw[Array.toList_setIfInBounds,List.take_set,q6]
 ·rw[ji hx]at hy;rcases xy hy with⟨rfl,hk⟩|⟨hne,hy'⟩
  ·rw[List.getElem?_set_self (by rw[h.len];exact Up)]at hv;cases hv;rw[hk];unfold mN;rw[zbI,zaT];exact bo hrow λb e=>ho b λe'=>adG (e'▸e)
  ·rw[List.getElem?_set_ne (λe=>hne e.symm)]at hv;refine bo (h.subs j y v hy' hv) λb e=>?_;have hmv:=zbo hv;rw[ho b (λe'=>h.sR hmv e (by rw[NW,e'];rfl)),hb b (h.Gn hmv e).2.1 (λe'=>hne (h.sep j k v sv b hv ml e e'))]
 ·rcases List.mem_or_eq_of_mem_set hv with h1|h1
  ·exact h.Gm v h1
  ·subst h1;rcases cG with e|⟨c,e,hc⟩
   ·rw[e];exact h.Gm sv hm
   ·rw[e];intro e';cases e';have:=h.alt;omega
 ·have key:∀(i:Nat) v,(ay.set k v')[i]?=some v→v.ownBlock=some b→(i=k∧v=v')∨(i≠k∧ay[i]?=some v):=λi v hi _=>by
   by_cases e:i=k
   ·subst e;rw[List.getElem?_set_self (by rw[h.len];exact Up)]at hi;exact .inl ⟨rfl,(zaY hi).symm⟩
   ·rw[List.getElem?_set_ne (λq=>e q.symm)]at hi;exact .inr ⟨e,hi⟩
  have mix:∀(i:Nat) v,i≠k→ay[i]?=some v→v.ownBlock=some b→v'.ownBlock=some b→False:=λi v hne hi e1 e2=>by
   rcases cG with e|⟨c,e,hc⟩
   ·exact hne (h.sep i k v sv b hi ml e1 (e▸e2))
   ·rw[e]at e2;cases e2;have:=(h.Gn (zbo hi) e1).2.1;omega
  rcases key i v a1 a3 with⟨rfl,rfl⟩|⟨n1,p1⟩
  ·rcases key j v1 a2 a4 with⟨rfl,_⟩|⟨n2,p2⟩
   ·rfl
   ·exact(mix j v1 n2 p2 a4 a3).elim
  ·rcases key j v1 a2 a4 with⟨rfl,rfl⟩|⟨n2,p2⟩
   ·exact(mix i v n1 p1 a3 a4).elim
   ·exact h.sep i j v v1 b p1 p2 a3 a4
 ·rcases List.mem_or_eq_of_mem_set hv with h1|h1
  ·exact .inl ⟨v,h1,e⟩
  ·subst h1;rcases cG with e1|⟨c,e1,hc⟩
   ·exact .inl ⟨sv,hm,e1▸e⟩
   ·rw[e1]at e;cases e;exact .inr (by omega)
end
end Go.Proofs.YtlhimdjkkiflhaaGreat
namespace Go.Proofs.YtlhimdjkkiflhaaGreat
open Go.Proofs.Tryz
open Go.RowKit Go.Loop
section
variable {w0 w:Λ}{R:Nat}{src:ByteArray}{dp:Nat}{s:FS}{er:Int}{wh:Nat}{nv sv bv:Θ}{ay:List Θ}
theorem Kk (h:bw w0 w R src dp s er wh nv sv bv ay){m n n':Nat}(hi:ll s.same m n=some n'):Calls prog 20 #[ai R,Γ Δ (n:Int)] w λe w'=>e=.returned (Γ Δ (n':Int))∧w'=w:=by
 obtain⟨_,_,_,_,_,_,_,c7,_⟩:=bu h.blk;have ig:Hid _:=h.jI;have H0:Hid (∃j k:Nat,j≤m∧(Γ Δ (n:Int):Θ)=Γ Δ (k:Int)∧ll s.same j k=some n'):=⟨m,n,zab _,rfl,hi⟩;clear h hi;unfold ai;go_enter func20,ntmps20;go_wp2_with fail;go_loopw [1] (λv wr=>wr=w∧Hid (∃j k:Nat,j≤m∧v=Γ Δ (k:Int)∧ll s.same j k=some n')) (λv _=>OQ s.same m (intOf v).toNat)
 case atStart=>exact⟨rfl,H0⟩
 case round=>
  obtain⟨rfl,hr⟩:=hrel;obtain⟨j,k,hj,rfl,hk⟩:=hr.out;obtain⟨j',rfl⟩:∃j',j=j'+1:=by
   cases j with
   |zero=>simp[ll]at hk
   |succ j=>exact⟨j,rfl⟩
  have CP:=hk;simp only[ll]at CP;cases hs:s.same[k]? with
  |none=>rw[hs]at CP;cases CP
  |some o=>
   have Up:k<s.same.length:=(zaD.1 hs).1;obtain⟨g,cap,ml,cS,_⟩:=qx ig.out (i:=k) (u:=KQ o) (by simp[hs]);subst ml;have VZ:(k:Int)<(s.same.length:Int):=by omega
   rw[hs]at CP;cases o with
   |none=>
    have e:k=n':=zaY CP;subst e;simp only[KQ]at cS;clear hk CP hr ig H0;go_wp2_with fail;go_ret;exact⟨rfl,rfl⟩
   |some q=>
    simp only[KQ]at cS;have hq0:(0:Int)≤(q:Int):=by omega
    have HN:Hid (OQ s.same m q<OQ s.same m k):=NY hk hs hj;have HK:Hid (∃j k:Nat,j≤m∧(Γ Δ (q:Int):Θ)=Γ Δ (k:Int)∧ll s.same j k=some n'):=⟨j',q,by omega,rfl,CP⟩;clear hk CP hr ig H0;go_wp2_with fail;go_roundw
    case rel=>exact⟨trivial,HK⟩
    case measure=>simpa[intOf]using HN.out
end
def OOk (w0:Λ)(R O A:Nat)(s:FS)(m:Nat):Prop:=∀(w:Λ) (n:Nat) (g:sJ) (ov:Θ) (ay:List Θ) (k:Nat) (g':sJ),fQ w0 w O A g ov ay→mf s m n g=some (k,g')→g'.out.length≤999999→g.at_.length=s.nodes.length→OS g→Calls prog 10 #[ai R,Γ Δ (n:Int),ai O,.slice (some ⟨A,0,none⟩) s.nodes.length s.nodes.length] w λe w'=>e=.returned (Γ Δ (k:Int))∧tS w0 w O A ov ay g' w'
section
variable {wR w0 w:Λ}{R O A:Nat}{src:ByteArray}{dp:Nat}{s:FS}{er:Int}{wh:Nat}{nv sv bv:Θ}{NZ:List Θ}
theorem fQ.atc {g:sJ}{ov:Θ}{ay:List Θ}(h:fQ w0 w O A g ov ay){n:Nat}(hn:n<g.at_.length):w.cell? ⟨A,n,none⟩=some (Γ Δ ((g.at_[n]?.getD 0:Nat):Int))∧w.frozen? ⟨A,n,none⟩=false:=by
 have hab:=h.ab;constructor
 ·simp[Λ.cell?,hab,hn]
 ·simp[Λ.frozen?,hab]
theorem fQ.oc {g:sJ}{ov:Θ}{ay:List Θ}(h:fQ w0 w O A g ov ay):w.cell? ⟨O,0,none⟩=some ov∧w.frozen? ⟨O,0,none⟩=false:=by
 have hab:=h.blk;constructor
 ·simp[Λ.cell?,hab]
 ·simp[Λ.frozen?,hab]
theorem tT:∀(l:List dF) (ay:List Θ) (i:Nat) (x:dF) (v:Θ),l[i]?=some x→ay[i]?=some v→∀j,j<5→(kY l ay)[i*5+j]?=(jN x v)[j]?
 |[],_,i,x,v,h,_,_,_=>by simp at h
 |_::_,[],i,x,v,_,h,_,_=>by simp at h
 |y::l,s::ay,0,x,v,h,h2,j,hj=>by
  simp at h h2;subst h h2;rw[kY,Nat.zero_mul,Nat.zero_add,zaS (by simp[jN];omega)]
 |y::l,s::ay,i+1,x,v,h,h2,j,hj=>by
  have:=tT l ay i x v (by simpa using h) (by simpa using h2) j hj;rw[kY,zaZ (by simp[jN];omega),←this]
  congr 1
  simp[jN];omega
theorem bw.node (h:bw wR w R src dp s er wh nv sv bv NZ){n:Nat}{x:dF}(hx:s.nodes[n]?=some x):∃gn cn a c,nv=.slice (some ⟨gn,0,none⟩) s.nodes.length cn∧w.cell? ⟨gn,n*5,none⟩=some (Γ Δ x.kind)∧w.cell? ⟨gn,n*5+1,none⟩=some (.string ⟨⟨x.text⟩⟩)∧w.cell? ⟨gn,n*5+2,none⟩=some (Γ Δ x.n)∧w.cell? ⟨gn,n*5+3,none⟩=some (Γ Δ x.d)∧w.cell? ⟨gn,n*5+4,none⟩=some (.slice a x.subs.length c)∧mN w wR.heap.size (.slice a x.subs.length c) x.subs:=by
 have hl:n<s.nodes.length:=(zaD.1 hx).1;obtain⟨v,hv⟩:∃v,NZ[n]?=some v:=⟨_,zaP (by rw[h.len];exact hl)⟩;have hs:=h.subs n x v hx hv;obtain⟨a,c,rfl⟩:=aw hs;rcases h.iM.2 with⟨_,h0⟩|⟨gn,cn,cur,rfl,q1,q2,_⟩
 ·omega
 have hc:∀j u,j<5→(jN x (.slice a x.subs.length c))[j]?=some u→w.cell? ⟨gn,n*5+j,none⟩=some u:=λj u hj hu=>by
  have:=h.iM.cells (g:=gn) rfl (n*5+j) u ((tT _ _ n x _ hx hv j hj).trans hu);rw[addr_add]at this;exact this
 exact⟨gn,cn,a,c,rfl,hc 0 _ (by decide) rfl,hc 1 _ (by decide) rfl,hc 2 _ (by decide) rfl,hc 3 _ (by decide) rfl,hc 4 _ (by decide) rfl,hs⟩
structure Z5 (w0 w:Λ) (O A:Nat) (ov:Θ) (ay:List Θ) (xb:Nat) (xc:Array Θ) (wr:Λ) (gi:sJ) (N4:Θ) (yX:List Θ):Prop where
 at_:fQ w0 wr O A gi N4 yX
 k:Ko O A ov ay w wr
 n:dN w ov N4
 s:n9 w ay yX
 Kl:wr.heap[xb]?=some (.cells xc 50)
 ne:N4.ownBlock≠some xb
theorem Z5.on {ov N4:Θ}{ay yX:List Θ}{xb:Nat}{xc:Array Θ}{wr w2:Λ}{gi g2:sJ}(h:Z5 w0 w O A ov ay xb xc wr gi N4 yX)(hO:O≠xb)(hA:A≠xb)(hgo:tS w0 wr O A N4 yX g2 w2):∃SB cK,Z5 w0 w O A ov ay xb xc w2 g2 SB cK:=by
 obtain⟨SB,cK,a1,a2,a3,a4⟩:=hgo;have hl:xb<wr.heap.size:=(zag.1 h.Kl).1;refine⟨SB,cK,a1,h.k.trans h.n h.s a2,h.n.trans h.k.size a3,h.s.trans h.k.size a4,(a2.block xb hl hO.symm hA.symm h.ne λv hv e=>?_).trans h.Kl,a3.ne hl h.ne⟩;obtain⟨_,_,cur,hc⟩:=h.at_.Gn hv e;rw[h.Kl]at hc;simp at hc
def Z6 (w0 w:Λ)(O A:Nat)(ov:Θ)(ay:List Θ)(xb:Nat)(xc:Array Θ)(s:FS)(m:Nat)(xs:List Nat)(k:Nat)(gF:sJ)(i:Nat)(wr:Λ):Prop:=
 ∃gi N4 yX,Z5 w0 w O A ov ay xb xc wr gi N4 yX∧gi.at_.length=s.nodes.length∧OS gi∧(∃y,gi.out[k]?=some y∧y.subs.length=i)∧∃j,j≤m∧eP s j (xs.drop i) k gi=some gF
theorem Gp (hF:bw wR w0 R src dp s er wh nv sv bv NZ)(lg:∀x∈s.nodes,x.subs.length≤1000){m:Nat}(ih:∀j,j≤m→OOk w0 R O A s j):OOk w0 R O A s (m+1):=by
 intro w n g ov ay k g' h ln hlen hal RD;simp only[mf]at ln;cases hit:ll s.same (m+1) n with
 |none=>rw[hit]at ln;cases ln
 |some n'=>
 rw[hit]at ln;dsimp only at ln;cases JB:s.nodes[n']? with
 |none=>rw[JB]at ln;cases ln
 |some x=>
 rw[JB]at ln;dsimp only at ln;have hn':n'<s.nodes.length:=(zaD.1 JB).1;have aeI:(n':Int)<(s.nodes.length:Int):=by omega
 have mixed:prog.follows Departure.mixedOrders=true:=by kernel_rfl
 have U2:=hF.keep h.low;obtain⟨gn,cn,a,c,Si,x0,x1,x2,x3,x4,Ac⟩:=U2.node JB;obtain⟨_,_,_,_,_,_,c6,_,_⟩:=bu U2.blk;rw[Si]at c6;obtain⟨ca,fa⟩:=h.atc (n:=n') (by omega);have Z7:Hid _:=Kk U2 hit;have hxs:=lg x (zbo JB);have aeJ:gn<w.heap.size:=(ba U2.iM (b:=gn) (by rw[Si];rfl)).2.1;have hAl:=h.alt;have hOl:=h.Ey;have Qa:=U2.ko;have e1:¬A=w.heap.size:=by omega
 have e2:¬O=w.heap.size:=by omega
 have e3:¬gn=w.heap.size:=by omega
 obtain⟨xk,xt,xn,xd,xs⟩:=x;dsimp only at x0 x1 x2 x3 x4 Ac hxs ln;unfold ai at Z7;unfold ai;by_cases JW:0<g.at_[n']?.getD 0∧1≤xk∧xk≤3
 ·rw[zac JW]at ln;cases ln;obtain⟨Wv,GG,hm3⟩:=JW;have aeK:(0:Int)<((g.at_[n']?.getD 0:Nat):Int):=by omega
  have vB:Hid (tS w0 w O A ov ay g (w.alloc (.cells #[Γ Δ xk,.string ⟨⟨xt⟩⟩,Γ Δ xn,Γ Δ xd,.slice a xs.length c] 50))):=tS.from ((zad _ w).alloc (zab _) _) (tS.refl (h.below ((zad _ w).alloc (zab _) _)));have HE:Hid ((((g.at_[n']?.getD 0-1:Nat)):Int)=((g.at_[n']?.getD 0:Nat):Int)-1):=by show _=_;omega
  have hqb:=RD n';have kX:=h.Ey;have adH:wrap64 (((g.at_[n']?.getD 0:Nat):Int)-1)=((g.at_[n']?.getD 0:Nat):Int)-1:=by
   have:g.out.length≤999999:=hlen;unfold wrap64;go_num
  clear h hF U2 ih hit JB Ac hal hlen RD kX;generalize g.at_[n']?.getD 0=q at *;go_enter func10,ntmps10;go_wp2_with fail;refine zae Z7.out ?_;rintro e w1 ⟨rfl,rfl⟩;clear Z7;go_wp2_with fail;go_ret;rw[HE.out];exact⟨by show Ending.returned (Γ Δ (wrap64 ((q:Int)-1)))=_;rw[adH],vB.out⟩
 ·rw[zaa JW]at ln;obtain⟨gF,hL,hk⟩:=zav.1 ln;cases hk;obtain⟨a0,c0,NW⟩:=aw h.row;obtain⟨iN,hiN,QP,QQ,QR⟩:=info_parts tL;obtain⟨iI,QT,BL,BM,BN⟩:=info_parts ox;obtain⟨co,fo⟩:=h.oc;rw[NW]at co;have EC:=(ye (s:=s) m).2 _ _ _ _ hL;have Up:g.out.length+1≤g'.out.length:=by have:=EC.len;simp at this;exact this
  have hOA:=h.oa;have h0:=h.put n' (g.out.length+1);have VI:=(zad (w.setCell ⟨A,n',none⟩ (Γ Δ ((g.out.length+1:Nat):Int))).heap.size (w.setCell ⟨A,n',none⟩ (Γ Δ ((g.out.length+1:Nat):Int)))).alloc (zab _) (.cells #[Γ Δ xk,.string ⟨⟨xt⟩⟩,Γ Δ xn,Γ Δ xd,.slice a xs.length c] 50);have h1:=h0.below VI;have LP:Ko O A ov ay w ((w.setCell ⟨A,n',none⟩ (Γ Δ ((g.out.length+1:Nat):Int))).alloc (.cells #[Γ Δ xk,.string ⟨⟨xt⟩⟩,Γ Δ xn,Γ Δ xd,.slice a xs.length c] 50)):=(Ko.put _ _).trans (.refl _ _) (.refl _ _) (Ko.below VI);have hx1:((w.setCell ⟨A,n',none⟩ (Γ Δ ((g.out.length+1:Nat):Int))).alloc (.cells #[Γ Δ xk,.string ⟨⟨xt⟩⟩,Γ Δ xn,Γ Δ xd,.slice a xs.length c] 50)).heap[w.heap.size]?=some (.cells #[Γ Δ xk,.string ⟨⟨xt⟩⟩,Γ Δ xn,Γ Δ xd,.slice a xs.length c] 50):=by
   have hs:(w.setCell ⟨A,n',none⟩ (Γ Δ ((g.out.length+1:Nat):Int))).heap.size=w.heap.size:=by simp
   show((w.setCell ⟨A,n',none⟩ (Γ Δ ((g.out.length+1:Nat):Int))).heap.push _)[w.heap.size]?=_;rw[zbl,zac hs.symm]
  rw[show((g.out.length+1:Nat):Int)=(g.out.length:Int)+1 by omega]at h1 LP hx1;have hne:ov.ownBlock≠some w.heap.size:=λe=>by have:=(ba h.row e).2.1;omega
  have yI:Hid (Z5 w0 w O A ov ay w.heap.size #[Γ Δ xk,.string ⟨⟨xt⟩⟩,Γ Δ xn,Γ Δ xd,.slice a xs.length c] ((w.setCell ⟨A,n',none⟩ (Γ Δ ((g.out.length:Int)+1))).alloc (.cells #[Γ Δ xk,.string ⟨⟨xt⟩⟩,Γ Δ xn,Γ Δ xd,.slice a xs.length c] 50)) ⟨g.out,g.at_.set n' (g.out.length+1)⟩ ov ay):=⟨h1,LP,.refl _ _,.refl _ _,hx1,hne⟩;have fT:¬(0:Int)<((g.at_[n']?.getD 0:Nat):Int)∨((0:Int)<((g.at_[n']?.getD 0:Nat):Int)∧¬(1:Int)≤xk)∨((0:Int)<((g.at_[n']?.getD 0:Nat):Int)∧(1:Int)≤xk∧¬xk≤3):=by omega
  have SC:mN w0 wR.heap.size (.slice a xs.length c) xs:=by
   obtain⟨Z8,cn0,a',c',U3,y0,y1,y2,y3,y4,hs0⟩:=hF.node JB;have Kz:Z8=gn:=by rw[Si]at U3;cases U3;rfl
   subst Kz;have hg0:Z8<w0.heap.size:=(ba hF.iM (b:=Z8) (by rw[U3];rfl)).2.1;have:w.cell? ⟨Z8,n'*5+4,none⟩=w0.cell? ⟨Z8,n'*5+4,none⟩:=(Ad h.low).1 _ _ hg0;rw[this,y4]at x4;have e4:(Θ.slice a' xs.length c')=.slice a xs.length c:=zaY x4;rw[←e4];exact hs0
  have N5:Hid _:=SC;have HL:Hid (eP s m xs g.out.length ⟨g.out++[⟨xk,xt,xn,xd,[]⟩],g.at_.set n' (g.out.length+1)⟩=some g'):=hL;have HAL:Hid (g.at_.length=s.nodes.length):=hal;have lI:Hid _:=ih;have P5:Hid _:=h.low;have hO:O≠w.heap.size:=e2;have hA:A≠w.heap.size:=e1;have HAB:Hid (OS ⟨g.out++[⟨xk,xt,xn,xd,[]⟩],g.at_.set n' (g.out.length+1)⟩):=RD.set _ _;clear h hF U2 ih hit JB Ac hal hL ln VI h0 h1 LP hx1 hne JW EC SC lg RD;subst NW;generalize g.at_[n']?.getD 0=q at *;go_enter func10,ntmps10;go_wp2_with fail;refine zae Z7.out ?_;rintro e w1 ⟨rfl,rfl⟩;clear Z7
  go_upto_region 3 with fail
  go_cut [37] (λx wc=>x=.bool false∧wc=w1.alloc (.cells #[Γ Δ xk,.string ⟨⟨xt⟩⟩,Γ Δ xn,Γ Δ xd,.slice a xs.length c] 50))
  case first=>
   rcases fT with hc1|⟨hc1,hc2⟩|⟨hc1,hc2,hc3⟩
   all_goals
    go_wp2_with fail
    go_meet
    case rel=>exact⟨by first|rfl|rw[zbr (by omega)],rfl⟩
  case rest=>
   obtain⟨rfl,rfl⟩:=hcut;go_wp2_with fail;generalize hW1:(w1.setCell ⟨A,n',none⟩ (Γ Δ ((g.out.length:Int)+1))).alloc (.cells #[Γ Δ xk,.string ⟨⟨xt⟩⟩,Γ Δ xn,Γ Δ xd,.slice a xs.length c] 50)=W1 at *;have hs1:W1.heap.size=w1.heap.size+1:=by rw[←hW1];simp
   clear hW1 x0 x1 x2 x3 x4 c6 ca fa co fo;obtain⟨co1,fo1⟩:=yI.out.at_.oc;have V9:=yI.out.Kl;obtain⟨y0,y1,y2,y3,y4⟩:W1.cell? ⟨w1.heap.size,0,none⟩=some (Γ Δ xk)∧W1.cell? ⟨w1.heap.size,1,none⟩=some (.string ⟨⟨xt⟩⟩)∧W1.cell? ⟨w1.heap.size,2,none⟩=some (Γ Δ xn)∧W1.cell? ⟨w1.heap.size,3,none⟩=some (Γ Δ xd)∧W1.cell? ⟨w1.heap.size,4,none⟩=some (.slice a xs.length c):=by
    refine⟨?_,?_,?_,?_,?_⟩<;>simp[Λ.cell?,V9]
   have DG:Below W1.heap.size W1 ((W1.alloc (.cells #[Γ Δ xk,.string ⟨⟨xt⟩⟩,Γ Δ xn,Γ Δ xd,.slice none 0 0] 50)).drew):=((zad _ _).alloc (zab _) _).drew;have pS:Hid _:=DG;have ig:Hid (((W1.alloc (.cells #[Γ Δ xk,.string ⟨⟨xt⟩⟩,Γ Δ xn,Γ Δ xd,.slice none 0 0] 50)).drew).ownsRow w0.heap.size 50 5 (.slice a0 g.out.length c0) g.out.length (kY g.out ay)):=aT yI.out.at_.row (zab _) λb _ hb=>DG.block b hb;have vW:((W1.alloc (.cells #[Γ Δ xk,.string ⟨⟨xt⟩⟩,Γ Δ xn,Γ Δ xd,.slice none 0 0] 50)).drew).heap[W1.heap.size]?=some (.cells #[Γ Δ xk,.string ⟨⟨xt⟩⟩,Γ Δ xn,Γ Δ xd,.slice none 0 0] 50):=by
    show(W1.heap.push _)[W1.heap.size]?=_;rw[zbl,zac rfl]
   have rN:Hid (∀(j:Nat) u,(jN ⟨xk,xt,xn,xd,[]⟩ (.slice none 0 0))[j]?=some u→((W1.alloc (.cells #[Γ Δ xk,.string ⟨⟨xt⟩⟩,Γ Δ xn,Γ Δ xd,.slice none 0 0] 50)).drew).cell? ((⟨W1.heap.size,0,none⟩:Addr).add j)=some u):=zV (x:=⟨xk,xt,xn,xd,[]⟩) vW;have Dz:Hid (∀u∈jN ⟨xk,xt,xn,xd,[]⟩ (.slice none 0 0),u.oneCell'=true):=λu hu=>by
    simp[jN]at hu;rcases hu with rfl|rfl|rfl|rfl|rfl<;>rfl
   have uy:Hid (w0.heap.size≤((W1.alloc (.cells #[Γ Δ xk,.string ⟨⟨xt⟩⟩,Γ Δ xn,Γ Δ xd,.slice none 0 0] 50)).drew).heap.size):=zaj yI.out.at_.low.size DG.size;have sG:g.out.length+1≤1000000:=by omega
   have e4:¬O=W1.heap.size:=by have:=yI.out.at_.Ey;omega
   have e5:¬w1.heap.size=W1.heap.size:=by omega
   have e6:¬w1.heap.size=O:=λe=>e2 e.symm;have U4:Hid (∀(v':Θ) (w4:Λ),w4.ownsRow w0.heap.size 50 5 v' (g.out.length+1) (kY g.out ay++jN ⟨xk,xt,xn,xd,[]⟩ (.slice none 0 0))→((W1.alloc (.cells #[Γ Δ xk,.string ⟨⟨xt⟩⟩,Γ Δ xn,Γ Δ xd,.slice none 0 0] 50)).drew).grownBy w4 (Θ.slice a0 g.out.length c0).ownBlock→(v'.ownBlock=(Θ.slice a0 g.out.length c0).ownBlock∨∃k,v'.ownBlock=some k∧((W1.alloc (.cells #[Γ Δ xk,.string ⟨⟨xt⟩⟩,Γ Δ xn,Γ Δ xd,.slice none 0 0] 50)).drew).heap.size≤k)→∃a1 c1,v'=.slice a1 (g.out.length+1) c1∧w4.cell? ⟨O,0,none⟩=some (.slice a0 g.out.length c0)∧w4.frozen? ⟨O,0,none⟩=false∧w4.cell? ⟨w1.heap.size,0,none⟩=some (Γ Δ xk)∧w4.cell? ⟨w1.heap.size,1,none⟩=some (.string ⟨⟨xt⟩⟩)∧w4.cell? ⟨w1.heap.size,2,none⟩=some (Γ Δ xn)∧w4.cell? ⟨w1.heap.size,3,none⟩=some (Γ Δ xd)∧Hid (Z6 w0 w1 O A (.slice a0 g.out.length c0) ay w1.heap.size #[Γ Δ xk,.string ⟨⟨xt⟩⟩,Γ Δ xn,Γ Δ xd,.slice a xs.length c] s m xs g.out.length g' 0 (w4.setCell ⟨O,0,none⟩ (.slice a1 (g.out.length+1) c1)))):=λv' w4 hown' hgrow cG=>by
    obtain⟨a1,c1,rfl⟩:=aw hown';obtain⟨h4,hgo⟩:=yI.out.at_.grow (x:=⟨xk,xt,xn,xd,[]⟩) rfl pS.out hown' hgrow cG;obtain⟨SB,cK,FE⟩:=yI.out.on hO hA hgo;have Vz:w4.heap[w1.heap.size]?=some (.cells #[Γ Δ xk,.string ⟨⟨xt⟩⟩,Γ Δ xn,Γ Δ xd,.slice a xs.length c] 50):=(hgrow.block w1.heap.size (zaH (by omega) pS.out.size) (λe=>yI.out.ne e.symm)).trans ((pS.out.block _ (by omega)).trans yI.out.Kl);exact⟨a1,c1,rfl,by simp[Λ.cell?,h4],by simp[Λ.frozen?,h4],by simp[Λ.cell?,Vz],by simp[Λ.cell?,Vz],by simp[Λ.cell?,Vz],by simp[Λ.cell?,Vz],_,SB,cK,FE,by simpa using HAL.out,HAB.out,⟨⟨xk,xt,xn,xd,[]⟩,by simp,rfl⟩,m,zab _,HL.out⟩
   clear DG V9 vW hs1
   go_cut [] (λwc=>Hid (Z6 w0 w1 O A (.slice a0 g.out.length c0) ay w1.heap.size #[Γ Δ xk,.string ⟨⟨xt⟩⟩,Γ Δ xn,Γ Δ xd,.slice a xs.length c] s m xs g.out.length g' 0 wc))
   case first=>
    refine wp_region_held_drew (S:=(λw'=>w'.cell? ⟨w1.heap.size,0,none⟩=some (Γ Δ xk)∧w'.cell? ⟨w1.heap.size,1,none⟩=some (.string ⟨⟨xt⟩⟩)∧w'.cell? ⟨w1.heap.size,2,none⟩=some (Γ Δ xn)∧w'.cell? ⟨w1.heap.size,3,none⟩=some (Γ Δ xd))) (by kernel_rfl) ?hS0 (λhHeld=>?_)
    case hS0=>((try dsimp only);go_keep)
    refine wpAnyH_take (i:=0) (oi:=⟨some 52,.move (.tmp 2),_,_,_,none⟩) (v:=?v0) rfl (by kernel_rfl) (by kernel_rfl) (by kernel_rfl) (λ_ _ _ h=>h) (Or.inl ⟨by rfl,?hy0⟩) (by assumption) ?rr0
    case hy0=>(intro w hSw;(try dsimp only at hSw);go_simp;(try with_reducible rfl))
    try simp only[Ξ,zaz,zaO,zaM]
    refine wpAnyH_take (i:=1) (oi:=⟨some 53,.move (.tmp 2),_,_,_,none⟩) (v:=?v1) rfl (by kernel_rfl) (by kernel_rfl) (by kernel_rfl) (λ_ _ _ h=>h) (Or.inl ⟨by rfl,?hy1⟩) (by assumption) ?rr1
    case hy1=>(intro w hSw;(try dsimp only at hSw);go_simp;(try with_reducible rfl))
    try simp only[Ξ,zaz,zaO,zaM]
    refine wpAnyH_take (i:=2) (oi:=⟨some 54,.nilCheck (.tmp 53),_,_,_,none⟩) (v:=?v2) rfl (by kernel_rfl) (by kernel_rfl) (by kernel_rfl) (λ_ _ _ h=>h) (Or.inl ⟨by rfl,?hy2⟩) (by assumption) ?rr2
    case hy2=>(intro w hSw;(try dsimp only at hSw);go_simp;(try with_reducible rfl))
    try simp only[Ξ,zaz,zaO,zaM]
    refine wpAnyH_take (i:=4) (oi:=⟨some 56,.fieldAddr 50 (.tmp 9) 0,_,_,_,none⟩) (v:=?v4) rfl (by kernel_rfl) (by kernel_rfl) (by kernel_rfl) (λ_ _ _ h=>h) (Or.inl ⟨by rfl,?hy4⟩) (by assumption) ?rr4
    case hy4=>(intro w hSw;(try dsimp only at hSw);go_simp;(try with_reducible rfl))
    try simp only[Ξ,zaz,zaO,zaM]
    refine wpAnyH_take (i:=5) (oi:=⟨some 57,.load 3 (.tmp 56),_,_,_,none⟩) (v:=?v5) rfl (by kernel_rfl) (by kernel_rfl) (by kernel_rfl) (λ_ _ _ h=>h) (Or.inl ⟨by rfl,?hy5⟩) (by assumption) ?rr5
    case hy5=>(intro w hSw;(try dsimp only at hSw);go_simp;(try with_reducible rfl))
    try simp only[Ξ,zaz,zaO,zaM]
    refine wpAnyH_take (i:=6) (oi:=⟨some 58,.fieldAddr 50 (.tmp 9) 1,_,_,_,none⟩) (v:=?v6) rfl (by kernel_rfl) (by kernel_rfl) (by kernel_rfl) (λ_ _ _ h=>h) (Or.inl ⟨by rfl,?hy6⟩) (by assumption) ?rr6
    case hy6=>(intro w hSw;(try dsimp only at hSw);go_simp;(try with_reducible rfl))
    try simp only[Ξ,zaz,zaO,zaM]
    refine wpAnyH_take (i:=7) (oi:=⟨some 59,.load 9 (.tmp 58),_,_,_,none⟩) (v:=?v7) rfl (by kernel_rfl) (by kernel_rfl) (by kernel_rfl) (λ_ _ _ h=>h) (Or.inl ⟨by rfl,?hy7⟩) (by assumption) ?rr7
    case hy7=>(intro w hSw;(try dsimp only at hSw);go_simp;(try with_reducible rfl))
    try simp only[Ξ,zaz,zaO,zaM]
    refine wpAnyH_take (i:=8) (oi:=⟨some 60,.fieldAddr 50 (.tmp 9) 2,_,_,_,none⟩) (v:=?v8) rfl (by kernel_rfl) (by kernel_rfl) (by kernel_rfl) (λ_ _ _ h=>h) (Or.inl ⟨by rfl,?hy8⟩) (by assumption) ?rr8
    case hy8=>(intro w hSw;(try dsimp only at hSw);go_simp;(try with_reducible rfl))
    try simp only[Ξ,zaz,zaO,zaM]
    refine wpAnyH_take (i:=9) (oi:=⟨some 61,.load 3 (.tmp 60),_,_,_,none⟩) (v:=?v9) rfl (by kernel_rfl) (by kernel_rfl) (by kernel_rfl) (λ_ _ _ h=>h) (Or.inl ⟨by rfl,?hy9⟩) (by assumption) ?rr9
    case hy9=>(intro w hSw;(try dsimp only at hSw);go_simp;(try with_reducible rfl))
    try simp only[Ξ,zaz,zaO,zaM]
    refine wpAnyH_take (i:=10) (oi:=⟨some 62,.fieldAddr 50 (.tmp 9) 3,_,_,_,none⟩) (v:=?v10) rfl (by kernel_rfl) (by kernel_rfl) (by kernel_rfl) (λ_ _ _ h=>h) (Or.inl ⟨by rfl,?adI⟩) (by assumption) ?aeL
    case adI=>(intro w hSw;(try dsimp only at hSw);go_simp;(try with_reducible rfl))
    try simp only[Ξ,zaz,zaO,zaM]
    refine wpAnyH_take (i:=11) (oi:=⟨some 63,.load 3 (.tmp 62),_,_,_,none⟩) (v:=?v11) rfl (by kernel_rfl) (by kernel_rfl) (by kernel_rfl) (λ_ _ _ h=>h) (Or.inl ⟨by rfl,?adJ⟩) (by assumption) ?aeM
    case adJ=>(intro w hSw;(try dsimp only at hSw);go_simp;(try with_reducible rfl))
    try simp only[Ξ,zaz,zaO,zaM]
    refine wpAnyH_take (i:=12) (oi:=⟨some 64,.build 50 #[(0,.tmp 57),(1,.tmp 59),(2,.tmp 61),(3,.tmp 63)],_,_,_,none⟩) (v:=?v12) rfl (by kernel_rfl) (by kernel_rfl) (by kernel_rfl) (λ_ _ _ h=>h) (Or.inl ⟨by rfl,?adK⟩) (by assumption) ?aeN
    case adK=>(intro w hSw;(try dsimp only at hSw);go_simp;(try with_reducible rfl))
    try simp only[Ξ,zaz,zaO,zaM]
    refine wpAnyH_ready (rs:=[3,13]) (by kernel_rfl) (by simp) ?_;refine AllReadyH.cons (o:=⟨some 55,.load 22 (.tmp 54),_,_,_,none⟩) rfl (λK hK=>?_) (AllReadyH.cons (o:=⟨some 65,.buildSlice 22 1 #[(0,.tmp 64)],_,_,_,none⟩) rfl (λK hK=>?_) AllReadyH.nil)
    ·go_simp;refine hK.out _ _ ?adL (λhHeld=>?_)
     case adL=>((try dsimp only);go_keep)
     clear hK K;try simp only[Ξ,zaz,zaO,zaM]
     refine wpAnyH_ready (rs:=[13]) (by kernel_rfl) (by simp) ?_;refine AllReadyH.cons (o:=⟨some 65,.buildSlice 22 1 #[(0,.tmp 64)],_,_,_,none⟩) rfl (λK hK=>?_) AllReadyH.nil;go_simp;refine hK.out _ _ ?Z9 (λhHeld=>?_)
     case Z9=>((try dsimp only);go_keep)
     clear hK K;try simp only[Ξ,zaz,zaO,zaM]
     refine wpAnyH_ready (rs:=[14]) (by kernel_rfl) (by simp) ?_;refine AllReadyH.cons (o:=⟨some 66,.call { callee:= .builtin .append,args:=#[.tmp 55,.tmp 65],argTypes:=#[22,22] },_,_,_,none⟩) rfl (λK hK=>?_) AllReadyH.nil;refine eO (by rfl) (.tmp 55) (.tmp 65) 22 (by rfl) w0.heap.size 50 iN _ 5 64 mI hiN QP QQ QR (by decide) (by decide) rfl (.slice a0 g.out.length c0) g.out.length (kY g.out ay) (by rfl) ig.out ⟨W1.heap.size,0,none⟩ 1 1 (jN ⟨xk,xt,xn,xd,[]⟩ (.slice none 0 0)) (by rfl) (by decide) rfl rN.out Dz.out sG uy.out ?_;intro v' w4 hown' hgrow cG;obtain⟨a1,c1,rfl,d0,f0,q0,q1,q2,q3,HI4⟩:=U4.out v' w4 hown' hgrow cG;clear hown' hgrow cG;refine hK.out _ _ ⟨q0,q1,q2,q3⟩ (λhHeld=>?_);clear hK K;try simp only[Ξ,zaz,zaO,zaM]
     refine wpAnyH_take (i:=15) (oi:=⟨some 67,.nilCheck (.tmp 52),_,_,_,none⟩) (v:=?aeO) rfl (by kernel_rfl) (by kernel_rfl) (by kernel_rfl) (λ_ _ _ h=>h) (Or.inl ⟨by rfl,?aaa⟩) (by assumption) ?aei
     case aaa=>(intro w hSw;(try dsimp only at hSw);go_simp;(try with_reducible rfl))
     try simp only[Ξ,zaz,zaO,zaM]
     refine wpAnyH_ready (rs:=[16]) (by kernel_rfl) (by simp) ?_;refine AllReadyH.cons (o:=⟨none,.store 22 (.tmp 67) (.tmp 66),_,_,_,none⟩) rfl (λK hK=>?_) AllReadyH.nil;go_simp;refine hK.out _ _ ?aab (λhHeld=>?_)
     case aab=>((try dsimp only);go_keep)
     clear hK K;try simp only[Ξ,zaz,zaO,zaM]
     refine wpAnyH_done (by kernel_rfl) ?_ _;go_wp2_with fail
     go_meet
     case rel=>exact HI4
    ·go_simp;refine hK.out _ _ ?aac (λhHeld=>?_)
     case aac=>((try dsimp only);go_keep)
     clear hK K;try simp only[Ξ,zaz,zaO,zaM]
     refine wpAnyH_ready (rs:=[3]) (by kernel_rfl) (by simp) ?_;refine AllReadyH.cons (o:=⟨some 55,.load 22 (.tmp 54),_,_,_,none⟩) rfl (λK hK=>?_) AllReadyH.nil;have cO:=(Λ.cell?_alloc_some W1 ⟨O,0,none⟩ (.cells #[Γ Δ xk,.string ⟨⟨xt⟩⟩,Γ Δ xn,Γ Δ xd,.slice none 0 0] 50) (by rw[co1];rfl)).trans co1;go_simp;refine hK.out _ _ ?adM (λhHeld=>?_)
     case adM=>((try dsimp only);go_keep)
     clear hK K;try simp only[Ξ,zaz,zaO,zaM]
     clear cO;refine wpAnyH_ready (rs:=[14]) (by kernel_rfl) (by simp) ?_;refine AllReadyH.cons (o:=⟨some 66,.call { callee:= .builtin .append,args:=#[.tmp 55,.tmp 65],argTypes:=#[22,22] },_,_,_,none⟩) rfl (λK hK=>?_) AllReadyH.nil;refine eO (by rfl) (.tmp 55) (.tmp 65) 22 (by rfl) w0.heap.size 50 iN _ 5 64 mI hiN QP QQ QR (by decide) (by decide) rfl (.slice a0 g.out.length c0) g.out.length (kY g.out ay) (by rfl) ig.out ⟨W1.heap.size,0,none⟩ 1 1 (jN ⟨xk,xt,xn,xd,[]⟩ (.slice none 0 0)) (by rfl) (by decide) rfl rN.out Dz.out sG uy.out ?_;intro v' w4 hown' hgrow cG;obtain⟨a1,c1,rfl,d0,f0,q0,q1,q2,q3,HI4⟩:=U4.out v' w4 hown' hgrow cG;clear hown' hgrow cG;refine hK.out _ _ ⟨q0,q1,q2,q3⟩ (λhHeld=>?_);clear hK K;try simp only[Ξ,zaz,zaO,zaM]
     refine wpAnyH_take (i:=15) (oi:=⟨some 67,.nilCheck (.tmp 52),_,_,_,none⟩) (v:=?aeP) rfl (by kernel_rfl) (by kernel_rfl) (by kernel_rfl) (λ_ _ _ h=>h) (Or.inl ⟨by rfl,?aad⟩) (by assumption) ?aej
     case aad=>(intro w hSw;(try dsimp only at hSw);go_simp;(try with_reducible rfl))
     try simp only[Ξ,zaz,zaO,zaM]
     refine wpAnyH_ready (rs:=[16]) (by kernel_rfl) (by simp) ?_;refine AllReadyH.cons (o:=⟨none,.store 22 (.tmp 67) (.tmp 66),_,_,_,none⟩) rfl (λK hK=>?_) AllReadyH.nil;go_simp;refine hK.out _ _ ?aae (λhHeld=>?_)
     case aae=>((try dsimp only);go_keep)
     clear hK K;try simp only[Ξ,zaz,zaO,zaM]
     refine wpAnyH_done (by kernel_rfl) ?_ _;go_wp2_with fail
     go_meet
     case rel=>exact HI4
   case rest=>
    clear y0 y1 y2 y3 y4 co1 fo1 ig rN Dz uy pS yI HL HAB HAL U4 sG e4 e5 e6;have HST:Hid (∃i:Nat,(Γ Δ 0:Θ)=Γ Δ (i:Int)∧i≤xs.length∧Z6 w0 w1 O A (.slice a0 g.out.length c0) ay w1.heap.size #[Γ Δ xk,.string ⟨⟨xt⟩⟩,Γ Δ xn,Γ Δ xd,.slice a xs.length c] s m xs g.out.length g' i wc):=⟨0,rfl,zap _,hcut.out⟩;clear hcut;go_wp2_with fail;go_loopw [11] (λiv wr=>Hid (∃i:Nat,iv=Γ Δ (i:Int)∧i≤xs.length∧Z6 w0 w1 O A (.slice a0 g.out.length c0) ay w1.heap.size #[Γ Δ xk,.string ⟨⟨xt⟩⟩,Γ Δ xn,Γ Δ xd,.slice a xs.length c] s m xs g.out.length g' i wr)) (λiv _=>xs.length-(intOf iv).toNat)
    case atStart=>exact HST
    case round=>
     obtain⟨i,rfl,hi,gi,N4,yX,hP,Rm,Ro,⟨y,hy,hyl⟩,j,hj,Gq⟩:=hrel.out;subst hyl;have V9:=hP.Kl;have y4:wr.cell? ⟨w1.heap.size,4,none⟩=some (.slice a xs.length c):=by simp[Λ.cell?,V9]
     by_cases hlt:y.subs.length<xs.length
     ·have hxI:(y.subs.length:Int)<(xs.length:Int):=by omega
      rw[zbZ hlt]at Gq;obtain⟨j',rfl⟩:∃j',j=j'+1:=by
       cases j with
       |zero=>simp[eP]at Gq
       |succ j=>exact⟨j,rfl⟩
      simp only[eP]at Gq;obtain⟨⟨k2,g2⟩,lf,hf2⟩:=zaJ.1 Gq;dsimp only at hf2;have EC:=(ye (s:=s) j').1 _ _ _ _ lf;have Rp:=(ye (s:=s) j').2 _ _ _ _ hf2;have adN:=Rp.len;rw[eU]at adN;have hkg:g.out.length<gi.out.length:=(zaD.1 hy).1;have aaf:=(U1 (s:=s) j').1 _ _ _ _ lf Ro;have hy2:g2.out[g.out.length]?=some y:=(EC.kp _ hkg (by simp)).trans hy;have HC:Hid _:=lI.out j' (by omega) wr xs[y.subs.length] gi N4 yX k2 g2 hP.at_ lf (by omega) Rm Ro;have SD:mN wr wR.heap.size (.slice a xs.length c) xs:=bo N5.out λb e=>hP.at_.low.block b (ba N5.out e).2.1;obtain⟨gs,cs,ml,adO,_⟩:=qx SD (i:=y.subs.length) (u:= Γ Δ (xs[y.subs.length]:Int)) (by simp[hlt]);obtain rfl:a=some ⟨gs,0,none⟩:=by cases ml;rfl
      have oX:Hid _:=And.intro EC (And.intro hf2 (And.intro aaf (And.intro hy2 (And.intro hP Rm))));have aag:y.subs.length+1≤1000000:=by omega
      have adP:g.out.length<g2.out.length:=zaH hkg EC.len;clear hrel hP Gq lf hf2 EC Rp aaf Ro Rm hy V9 SD ml HST hy2;generalize xs[y.subs.length]=q2 at *;unfold ai at HC;go_wp2_with fail;refine zae HC.out ?_;rintro e w2 ⟨rfl,hgo⟩;obtain⟨SB,cK,FE⟩:=oX.out.2.2.2.2.1.on hO hA hgo;clear hgo HC y4 adO;have hy2:=oX.out.2.2.2.1;obtain⟨iY,Rq⟩:∃v,cK[g.out.length]?=some v:=⟨_,zaP (by rw[FE.at_.len];exact adP)⟩;have hs2:=FE.at_.subs _ y iY hy2 Rq;obtain⟨sa,sc,rfl⟩:=aw hs2;obtain⟨co2,fo2⟩:=FE.at_.oc;obtain⟨nb,N6,cur,adQ,q1,q2',_⟩:∃nb N6 cur,SB=.slice (some ⟨nb,0,none⟩) g2.out.length N6∧w0.heap.size≤nb∧w2.heap[nb]?=some (.cells cur 50)∧True:=by
       rcases FE.at_.row.2 with⟨_,h0⟩|⟨nb,N6,cur,e,p1,p2,_⟩
       ·omega
       ·exact⟨nb,N6,cur,e,p1,p2,trivial⟩
      subst adQ;have cn2:w2.cell? ⟨nb,g.out.length*5+4,none⟩=some (.slice sa y.subs.length sc):=by
       have h1:=FE.at_.row.cells (g:=nb) rfl (g.out.length*5+4) _ (vu _ _ _ _ _ hy2 Rq);rw[addr_add]at h1;exact h1
      have hB3:Below w2.heap.size w2 ((w2.alloc (.cells #[Γ Δ (k2:Int)] 3)).drew):=((zad _ _).alloc (zab _) _).drew;have yK:Hid _:=hB3;have aah:Hid (((w2.alloc (.cells #[Γ Δ (k2:Int)] 3)).drew).ownsRow w0.heap.size 3 1 (.slice sa y.subs.length sc) y.subs.length (y.subs.map λk:Nat=>Θ.int .i64 (k:Int))):=aT hs2 (zab _) λb _ hb=>hB3.block b hb;have aai:Hid (∀(j:Nat) u,[Θ.int .i64 (k2:Int)][j]?=some u→((w2.alloc (.cells #[Γ Δ (k2:Int)] 3)).drew).cell? ((⟨w2.heap.size,0,none⟩:Addr).add j)=some u):=pj w2 _ _;have U5:Hid (w0.heap.size≤((w2.alloc (.cells #[Γ Δ (k2:Int)] 3)).drew).heap.size):=zaj FE.at_.low.size hB3.size;have aeQ:=FE.at_.Ey;have aeR:nb<w2.heap.size:=(zag.1 q2').1;have e6:¬O=w2.heap.size:=by omega
      have e7:¬nb=w2.heap.size:=by omega
      have VZ:(g.out.length:Int)<(g2.out.length:Int):=by omega
      have HP2:Hid _:=FE;have HS2:Hid _:=Rq;clear hB3 FE Rq hs2 q2' hy2;go_wp2_with fail
      go_region_law (refine eO rfl (.tmp 94) (.tmp 96) 40 rfl w0.heap.size 3 iI _ 1 8 kU QT BL BM BN (by decide) (by decide) rfl (.slice sa y.subs.length sc) y.subs.length (y.subs.map λk:Nat=>Θ.int .i64 (k:Int)) rfl aah.out ⟨w2.heap.size,0,none⟩ 1 1 [Γ Δ (k2:Int)] rfl (by decide) rfl aai.out (po rfl) aag U5.out ?_;intro v' w6 hown' hgrow cG;obtain⟨a3,c3,rfl⟩:=aw hown';obtain⟨M0,cap',cur',e8,h6O,h6n,h6c,aaj⟩:=HP2.out.at_.sub oX.out.2.2.2.1 HS2.out yK.out hown' hgrow cG;obtain⟨rfl,rfl⟩:M0=nb∧cap'=N6:=(by cases e8;exact⟨rfl,rfl⟩);obtain⟨d6,f6,n6,g6⟩:w6.cell? ⟨O,0,none⟩=some (.slice (some ⟨M0,0,none⟩) g2.out.length cap')∧w6.frozen? ⟨O,0,none⟩=false∧w6.cell? ⟨M0,g.out.length*5+4,none⟩=some (.slice sa y.subs.length sc)∧w6.frozen? ⟨M0,g.out.length*5+4,none⟩=false:=(by refine⟨?_,?_,?_,?_⟩<;>simp[Λ.cell?,Λ.frozen?,h6O,h6n,h6c]);obtain⟨ov3,xX,Td⟩:=HP2.out.on hO hA aaj;have HI6:Hid (∃i':Nat,(Γ Δ ((y.subs.length:Int)+1):Θ)=Γ Δ (i':Int)∧i'≤xs.length∧Z6 w0 w1 O A (.slice a0 g.out.length c0) ay w1.heap.size #[Γ Δ xk,.string ⟨⟨xt⟩⟩,Γ Δ xn,Γ Δ xd,.slice (some ⟨gs,0,none⟩) xs.length c] s m xs g.out.length g' i' (w6.setCell ⟨M0,g.out.length*5+4,none⟩ (.slice a3 (y.subs.length+1) c3))):=⟨y.subs.length+1,by go_num,hlt,_,ov3,xX,Td,oX.out.1.al.trans oX.out.2.2.2.2.2,(λjj=>by have:=oX.out.2.2.1 jj;show _≤(dw g2.out g.out.length k2).length;rw[eU];exact this),⟨{ y with subs:=y.subs++[k2] },(by rw[ji oX.out.2.2.2.1];unfold bP;rw[zbK,oX.out.2.2.2.1];simp),(by simp)⟩,j',by omega,oX.out.2.1⟩;clear hown' hgrow cG h6O h6n h6c aaj Td e8)
      all_goals
       go_wp2_with fail;go_roundw
       case rel=>exact HI6
       case measure=>simp[intOf];omega
     ·have hxI:¬((y.subs.length:Int)<(xs.length:Int)):=by omega
      have pC:Hid (tS w0 w1 O A (.slice a0 g.out.length c0) ay g' wr):=by
       rw[zaW (by omega)]at Gq;cases j with
       |zero=>simp[eP]at Gq
       |succ j=>
        simp only[eP]at Gq;cases Gq;exact⟨N4,yX,hP.at_,hP.k,hP.n,hP.s⟩
      clear hrel hP Gq Ro Rm hy V9 HST;go_wp2_with fail;go_ret;exact⟨rfl,pC.out⟩
end
theorem Et (src:ByteArray)(dp:Nat):(Tryz.zeroCells44.setIfInBounds 0 (.string src)).setIfInBounds 1 (Γ Δ (dp:Int))=(pF src dp 0 0 0 (.slice none 0 0) (.slice none 0 0) (λ_=>0) (.slice none 0 0)).toArray:=by kernel_rfl
theorem U8 (w:Λ)(src:ByteArray)(dp:Nat):bw w (w.alloc (.cells ((Tryz.zeroCells44.setIfInBounds 0 (.string src)).setIfInBounds 1 (Γ Δ (dp:Int))) 44)) w.heap.size src dp EE 0 0 (.slice none 0 0) (.slice none 0 0) (.slice none 0 0) []:=by
 rw[Et];refine⟨zab _,(zad _ w).alloc (zab _) _,?_,⟨rfl,.inl ⟨rfl,rfl⟩⟩,⟨rfl,.inl ⟨rfl,rfl⟩⟩,⟨rfl,.inl ⟨rfl,rfl⟩⟩,rfl,λj x v h=>?_,λv h=>?_⟩
 ·show(w.heap.push _)[w.heap.size]?=_;simp[EE]
 ·simp[EE]at h
 ·cases h
end Go.Proofs.YtlhimdjkkiflhaaGreat
