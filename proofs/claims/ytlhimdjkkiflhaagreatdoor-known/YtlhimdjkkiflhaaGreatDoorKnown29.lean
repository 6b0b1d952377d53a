import Derived.Deep.DeepCutAuto
import Derived.BigRegion
import Derived.Deep.OwnRows
import Derived.Test.YtlhimdjkkiflhaaGreatDoorKnown28
set_option maxHeartbeats 8000000
set_option maxRecDepth 100000
namespace Go.Proofs.YtlhimdjkkiflhaaGreatDoor
open Go.Proofs.Tryz
open Go.RowKit Go.Loop
theorem Gm (S:Nat→List Nat)(f:Nat)(t:WS)(l:List Nat)(k:Nat)(h:k<l.length):(l.take (k+1)).foldl (bM S f) t=bM S f ((l.take k).foldl (bM S f) t) l[k]:=by
 rw[zbE h,List.foldl_append];rfl
theorem IJ {n:Nat}{S:Nat→List Nat}(hS:∀x,x<n→∀y∈S x,y<n)(f:Nat):∀(l:List Nat) (t:WS),(∀y∈l,y<n)→t.Ok n→(l.foldl (bM S f) t).Ok n
 |[],_,_,ht=>ht
 |y::r,t,hl,ht=>IJ hS f r _ (λz hz=>hl z (zas _ hz)) (Ok.meet hS f t y ht (hl y zap))
theorem DG {n:Nat}{S:Nat→List Nat}(hS:∀x,x<n→∀y∈S x,y<n)(g:Nat→Nat)(f:Nat):∀(l:List Nat) (t:WS),(∀y∈l,y<n)→t.Ok n→(l.foldl (bM S f) t).tD g≤t.tD g
 |[],_,_,_=>zaa _
 |y::r,t,hl,ht=>zad (DG hS g f r _ (λz hz=>hl z (zas _ hz)) (Ok.meet hS f t y ht (hl y zap))) (xq hS g f t y ht (hl y zap))
theorem IK {n:Nat}{S:Nat→List Nat}(hS:∀x,x<n→∀y∈S x,y<n)(f:Nat):∀(l:List Nat) (t:WS) (k:Nat),(∀y∈l,y<n)→t.Ok n→t.Bd S k→(l.foldl (bM S f) t).Bd S (k+l.length)
 |[],_,_,_,_,hk=>hk
 |y::r,t,k,hl,ht,hk=>by
  have:=IK hS f r (bM S f t y) (k+1) (λz hz=>hl z (zas _ hz)) (Ok.meet hS f t y ht (hl y zap)) (Bd.meet hS f t y k ht (hl y zap) hk);simp only[List.foldl_cons,zat];rw[show k+(r.length+1)=k+1+r.length by omega];exact this
theorem qb {N:Nat}{S:Nat→List Nat}(hS:∀x,x<N→∀y∈S x,y<N)(f:Nat)(s:WS)(n c k:Nat)(bX:s.Ok N)(hn:n<N)(hf:s.tD (λ_=>1)<f+1)(qQ:s.Bd S c)(hm:s.met.getD n 0=0)(hk:k≤(S n).length):(((S n).take k).foldl (bM S f) ((s.hit n).enter n)).Ok N∧(((S n).take k).foldl (bM S f) ((s.hit n).enter n)).tD (λ_=>1)<f∧(((S n).take k).foldl (bM S f) ((s.hit n).enter n)).Bd S (c+1-(S n).length + k)∧(S n).length≤c:=by
 have h2:((s.hit n).enter n).Ok N:=(bX.hit hn).enter hn (kU bX hn);have hl:∀y∈(S n).take k,y<N:=λy hy=>hS n hn y (List.mem_of_mem_take hy);have hp:=rK bX hn (λ_=>1);have Rm:=rK bX hn (λx=>(S x).length);rw[if_pos hm]at hp Rm;have hc:(S n).length≤c:=by have:=qQ n;omega
 refine⟨IJ hS f _ _ hl h2,?_,?_,hc⟩
 ·have:=DG hS (λ_=>1) f _ _ hl h2;have e:((s.hit n).enter n).tD (λ_=>1)=(s.hit n).tD (λ_=>1):=rfl;omega
 ·have hb2:((s.hit n).enter n).Bd S (c+1-(S n).length):=by
   intro i;show(s.hit n).met.getD i 0+((s.hit n).tD (λx=>(S x).length):Nat)≤_;rw[gC bX hn];have h1:=qQ i;have h3:=qQ n;split<;>omega
  have:=IK hS f _ _ _ hl h2 hb2;rwa[List.length_take,Nat.min_eq_left hk]at this
theorem iB (G:List Nd)(x:Nat)(h:x<G.length):ax G x=G[x].subs.map Int.toNat:=by
 unfold ax;rw[zaf h]
theorem lY (l:List Int)(all:Int)(h:ei l all=true)(k:Nat)(hk:k<l.length):0≤l.getD k 0∧l.getD k 0<all:=by
 unfold ei at h;have:=zav.1 h _ (zaC hk);simp[List.getD,List.getElem?_eq_getElem hk]at this ⊢;exact this
theorem jl (G:List Nd)(gU:∀x (h:x<G.length),ei G[x].subs G.length=true):∀x,x<G.length→∀y∈ax G x,y<G.length:=by
 intro x hx y hy;rw[iB G x hx]at hy;obtain⟨v,hv,rfl⟩:=zaP.1 hy;have:=zav.1 (gU x hx) v hv;simp at this;omega
theorem OA (G:List Nd)(b o cap:Nat)(W0:World)(hG:Hid (aR W0 b o G))(_hn:G.length≤150)(gU:Hid (∀x (h:x<G.length),ei G[x].subs G.length=true))(p bo bm bw:Nat)(A:Apart W0.heap.size p bo bm bw):∀(f:Nat) (s:WS) (a:Int) (w:World) (c:Nat),s.Ok G.length→0≤a→a<G.length→s.tD (λ_=>1)<f→s.Bd (ax G) c→c+1≤1000000→Below W0.heap.size W0 w→eZ w p bo bm bw G.length (.slice (some ⟨b,o,none⟩) G.length cap) s→Calls prog 45 #[.pointer (some ⟨p,0,none⟩),.int .i64 a] w λe w'=>e=.returned (.tuple #[])∧eZ w' p bo bm bw G.length (.slice (some ⟨b,o,none⟩) G.length cap) (bM (ax G) f s a.toNat)∧Below W0.heap.size W0 w':=by
 intro f
 induction f with
 |zero=>intro s a w c _ _ _ h;omega
 |succ f ih=>
  intro s a w c bX ha0 ha hf qQ hc hb hw;have IH:Hid _:=ih;clear ih;obtain⟨n,rfl⟩:=zbh ha0;rw[zaE];have jm:n<G.length:=by omega
  have TC:n<s.met.length:=by rw[bX.lm];exact jm
  have hbn:=qQ n;have Xd:=bX.nn n;have S1:=hw.hit A TC;have hb1:Below W0.heap.size W0 (w.setCell ⟨bm,n,none⟩ (.int .i64 (s.met.getD n 0+1))):=hb.setCell A.hm _;obtain⟨c0,c1,c2,c3,rm,TD,ro⟩:=hw;have hmc:=(rm n TC).1;have hmf:=(rm n TC).2;have yH:Hid _:=bX;have yz:Hid _:=qQ;have hval:∃m:Int,Hid (m=s.met.getD n 0):=⟨_,rfl⟩;obtain⟨m,hm⟩:=hval;have TE:(s.hit n).met.getD n 0=m+1:=by rw[gC bX jm,if_pos rfl,hm.out]
  rw[←hm.out]at hmc Xd hbn hb1 S1;have QE:m≤1000000:=by omega
  have gP:Hid _:=hb1;have KM:Hid _:=S1;have EO:Hid _:=TE;clear S1 bX qQ hb1 rm TD ro TC hbn TE;go_enter func45,ntmps45
  go_upto_region 1 with fail
  generalize w.setCell ⟨bm,n,none⟩ (.int .i64 (m+1))=w1 at *;clear c0 c1 c2 c3 hmc hmf;obtain⟨d0,d1,d2,d3,rm,TD,ro⟩:=KM.out;have TC:n<(s.hit n).met.length:=by rw[(yH.out.hit jm).lm];exact jm
  have yA:n<(s.hit n).wi.length:=by rw[(yH.out.hit jm).lw];exact jm
  have Gn:n<(s.hit n).op.length:=by rw[(yH.out.hit jm).lo];exact jm
  have e0:=(rm n TC).1;rw[EO.out]at e0;by_cases N9:0<m
  ·have e1:=(TD n yA).1;have e2:=(TD n yA).2;have e3:=(ro n Gn).1;have HA:Hid _:=KM.out.again A yA;have HBa:Hid _:=λv=>gP.out.setCell (p:=⟨bw,n,none⟩) A.hw v;have HF:Hid (bM (ax G) (f+1) s n=(s.hit n).again n):=by show _=_;simp only[bM];rw[if_pos (by rw[←hm.out];exact N9)]
   rw[show(s.hit n).wi=s.wi from rfl]at e1 HA;rw[show(s.hit n).op=s.op from rfl]at e3 HA;clear rm TD ro TC yA Gn IH;cases LW:s.wi.getD n false
   ·cases hop:s.op.getD n false
    ·rw[LW]at e1;rw[hop]at e3;rw[LW,hop]at HA;clear LW hop;go_wp2_with fail;go_region;go_wp2_with fail;refine bodyPost_ret (results_none rfl _ _ _) rfl ?_;refine⟨rfl,?_,?_⟩
     ·rw[HF.out];exact HA.out.drew
     ·exact(HBa.out _).drew
    ·rw[LW]at e1;rw[hop]at e3;rw[LW,hop]at HA;clear LW hop;go_wp2_with fail;go_region;go_wp2_with fail;refine bodyPost_ret (results_none rfl _ _ _) rfl ?_;refine⟨rfl,?_,?_⟩
     ·rw[HF.out];exact HA.out.drew
     ·exact(HBa.out _).drew
   ·rw[LW]at e1;rw[LW,Bool.true_or]at HA;clear LW e3;go_wp2_with fail;go_region;go_wp2_with fail;refine bodyPost_ret (results_none rfl _ _ _) rfl ?_;refine⟨rfl,?_,?_⟩
    ·rw[HF.out];exact HA.out.drew
    ·exact(HBa.out _).drew
  ·have LH:m≤0:=by omega
   have e3:=(ro n Gn).1;have e4:=(ro n Gn).2;have HE:Hid _:=KM.out.Ox A Gn true;have HBe:Hid _:=gP.out.setCell (p:=⟨bo,n,none⟩) A.ho (.bool true);have HF:Hid (bM (ax G) (f+1) s n=((ax G n).foldl (bM (ax G) f) ((s.hit n).enter n)).leave n):=by show _=_;simp only[bM];rw[if_neg (by rw[←hm.out];exact N9)]
   have HM0:Hid (s.met.getD n 0=0):=by show _=_;rw[←hm.out];omega
   have HS:Hid _:=jl G gU.out;have aab:=(hG.out n jm).below HBe.out;have HSN:Hid _:=iB G n jm;have Xw:Hid _:=gU.out n jm;have HI0:Hid _:=(hG.out n jm).ints;clear rm TD ro TC yA Gn hm N9
   go_upto_region 4 with fail
   generalize w1.setCell ⟨bo,n,none⟩ (.bool true)=w2 at *;obtain⟨c0,c1,c2,c3,c4,hi,ht,hs⟩:=aab;have HI:Hid _:=hi;have HL:Hid _:=hs;obtain⟨f0,f1,f2,f3,rm,TD,ro⟩:=HE.out;clear d0 d1 d2 d3 e0 e3 e4 c0 c1 c2 c3 hi ht hs f1 f2 f3 rm TD ro gP KM EO;generalize G[n]=x at *;rcases HI0.out with h|⟨sb,so,LD,hc⟩
   ·have HE0:Hid _:=h;clear h;go_wp2_with fail;go_loopw [64] (λi wr=>∃k:Nat,k≤x.subs.length∧i=.int .i64 k∧Hid (eZ wr p bo bm bw G.length (.slice (some ⟨b,o,none⟩) G.length cap) (((ax G n).take k).foldl (bM (ax G) f) ((s.hit n).enter n)))∧Hid (Below W0.heap.size W0 wr)) (λi _=>x.subs.length-(intOf i).toNat)
    case atStart=>exact⟨0,zah _,rfl,HE.out,HBe.out⟩
    case round=>
     obtain⟨k,hk,rfl,xu,EK⟩:=hrel;have Rz:(ax G n).length=x.subs.length:=by rw[HSN.out];simp
     have LY:Hid _:=Rz;clear Rz;by_cases hlt:k<x.subs.length
     ·exfalso;rw[HE0.out]at hlt;simp at hlt
     ·have P3:k=x.subs.length:=by omega
      have hw4:=xu.out;rw[zaS (by rw[LY.out];omega)]at hw4;have Bf:=(qb HS.out f s n c (ax G n).length yH.out jm hf yz.out HM0.out (zaa _)).1;rw[zaS (zaa _)]at Bf;have Gn:n<((ax G n).foldl (bM (ax G) f) ((s.hit n).enter n)).op.length:=by rw[Bf.lo];exact jm
      have jk:Hid _:=hw4.Ox A Gn false;have oT:Hid _:=EK.out.setCell (p:=⟨bo,n,none⟩) A.ho (.bool false);have g1:=hw4.c1;obtain⟨g2,g3⟩:=hw4.ro n Gn;clear hw4 Gn Bf xu EK;generalize ((ax G n).foldl (bM (ax G) f) ((s.hit n).enter n))=t at *;generalize t.op.getD n false=ob at *;go_wp2_with fail
      go_end0
      refine⟨rfl,?_,oT.out⟩;rw[HF.out];exact jk.out
   ·have HC:Hid _:=hc;rw[LD]at c4;clear hc LD;go_wp2_with fail;go_loopw [64] (λi wr=>∃k:Nat,k≤x.subs.length∧i=.int .i64 k∧Hid (eZ wr p bo bm bw G.length (.slice (some ⟨b,o,none⟩) G.length cap) (((ax G n).take k).foldl (bM (ax G) f) ((s.hit n).enter n)))∧Hid (Below W0.heap.size W0 wr)) (λi _=>x.subs.length-(intOf i).toNat)
    case atStart=>exact⟨0,zah _,rfl,HE.out,HBe.out⟩
    case round=>
     obtain⟨k,hk,rfl,xu,EK⟩:=hrel;have Rz:(ax G n).length=x.subs.length:=by rw[HSN.out];simp
     have LY:Hid _:=Rz;clear Rz;by_cases hlt:k<x.subs.length
     ·have hcell:=bP EK.out (HC.out k hlt);obtain⟨tok,aac,tbd,tc⟩:=qb HS.out f s n c k yH.out jm hf yz.out HM0.out (by rw[LY.out];omega);obtain⟨v0,v1⟩:=lY _ _ Xw.out k hlt;have TF:(ax G n)[k]'(by rw[LY.out];exact hlt)=(x.subs.getD k 0).toNat:=by
       have e:∀(l:List Nat) (hl:k<l.length),l=x.subs.map Int.toNat→l[k]=(x.subs.getD k 0).toNat:=by
        intro l hl e;subst e;simp[List.getD,List.getElem?_eq_getElem hlt]
       exact e _ _ HSN.out
      have TG:Hid _:=Gm (ax G) f ((s.hit n).enter n) (ax G n) k (by rw[LY.out];exact hlt);rw[TF]at TG;have fe:c+1-(ax G n).length + k+1≤1000000:=by have:=LY.out;omega
      have HCL:Hid _:=fe;have hsl:x.subs.length≤1000000:=by have:=LY.out;omega
      have TOK:Hid _:=tok;have adx:Hid _:=aac;have TBD:Hid _:=tbd;clear tok aac tbd tc TF fe;generalize x.subs.getD k 0=v at *;go_wp2_with fail;refine(IH.out _ v _ _ TOK.out v0 v1 adx.out TBD.out HCL.out EK.out xu.out).mono ?_;rintro e w3 ⟨rfl,hw3,hb3⟩;rw[←TG.out]at hw3;have xY:Hid _:=hw3;have gQ:Hid _:=hb3;clear hw3 hb3 xu EK hcell;go_wp2_with fail;go_roundw
      case rel=>exact⟨k+1,by omega,by go_num,xY,gQ⟩
      case measure=>simp[intOf];omega
     ·have P3:k=x.subs.length:=by omega
      have hw4:=xu.out;rw[zaS (by rw[LY.out];omega)]at hw4;have Bf:=(qb HS.out f s n c (ax G n).length yH.out jm hf yz.out HM0.out (zaa _)).1;rw[zaS (zaa _)]at Bf;have Gn:n<((ax G n).foldl (bM (ax G) f) ((s.hit n).enter n)).op.length:=by rw[Bf.lo];exact jm
      have jk:Hid _:=hw4.Ox A Gn false;have oT:Hid _:=EK.out.setCell (p:=⟨bo,n,none⟩) A.ho (.bool false);have g1:=hw4.c1;obtain⟨g2,g3⟩:=hw4.ro n Gn;clear hw4 Gn Bf xu EK;generalize ((ax G n).foldl (bM (ax G) f) ((s.hit n).enter n))=t at *;generalize t.op.getD n false=ob at *;go_wp2_with fail
      go_end0
      refine⟨rfl,?_,oT.out⟩;rw[HF.out];exact jk.out
end Go.Proofs.YtlhimdjkkiflhaaGreatDoor
namespace Go.Proofs.YtlhimdjkkiflhaaGreatDoor
open Go.RowKit Go.Loop
structure Kept (p q:Nat) (w w':World):Prop where
 os:w'.os=w.os
 tape:w'.tape=w.tape
 output:w'.output=w.output
 size:w.heap.size≤w'.heap.size
 block:∀k,k<w.heap.size→k≠p→k≠q→w'.heap[k]?=w.heap[k]?
theorem Kept.refl (p q:Nat)(w:World):Kept p q w w:=⟨rfl,rfl,rfl,zaa _,λ_ _ _ _=>rfl⟩
def bp (G:List Nd)(x:Nat):Int:=match G[x]? with|some y=>y.kind|none=>0
def kv (G:List Nd)(x:Nat):List UInt8:=match G[x]? with|some y=>fo y|none=>[]
theorem kx (G:List Nd)(x:Nat)(h:x<G.length):bp G x=G[x].kind:=by unfold bp;rw[zaf h]
theorem Gp (G:List Nd)(x:Nat)(h:x<G.length):kv G x=fo G[x]:=by unfold kv;rw[zaf h]
theorem oa (G:List Nd)(x:Nat)(h:x<G.length)(k:Nat)(hk:k<G[x].subs.length):(ax G x).getD k 0=(G[x].subs.getD k 0).toNat:=by
 rw[iB G x h];simp[List.getD,List.getElem?_eq_getElem hk]
theorem xv (G:List Nd)(y:Nat)(hy:y<G.length)(hb:aY G[y]=true)(hk:bp G y=1):(ax G y).length=2:=by
 rw[iB G y hy,zbk];rw[kx G y hy]at hk;unfold aY at hb;rw[if_neg (by omega),if_pos hk]at hb;simp at hb;exact hb.1
theorem DI {t:TS}(h:t.long=false)(ho:t.out.length≤400)(a:Nat):need (t.put a)<need t:=by
 have:need (t.put a)=need (t.add (35::(Lib.itoa t.next++[61]))):=rfl;rw[this];exact rN h ho (by simp)
end Go.Proofs.YtlhimdjkkiflhaaGreatDoor
namespace Go.Proofs.YtlhimdjkkiflhaaGreatDoor
open Go.Proofs.Tryz
open Go.RowKit Go.Loop
structure cL (w:World) (B p bl bL n:Nat) (nv:Value) (t:TS) (v:Value):Prop where
 hB:B≤p
 blk:∃q,(q=.pointer none∨q=.pointer (some ⟨p,4,none⟩))∧
  w.heap[p]?=some (.cells #[nv,.slice (some ⟨bL,0,none⟩) n n,.slice (some ⟨bl,0,none⟩) n n,.int .i64 t.next,q,v,.bool t.long] 118 (0,0))
 own:w.ownsRow B 5 1 v (Lib.byteCells t.out).length (Lib.byteCells t.out)
 rl:kL w bl t.ea
 nb:v.ownBlock≠some bl
 ol:t.out.length≤400
 bl:bl<w.heap.size
structure bf (w w':World) (p bl:Nat) (v v':Value):Prop where
 os:w'.os=w.os
 tape:w'.tape=w.tape
 output:w'.output=w.output
 size:w.heap.size≤w'.heap.size
 block:∀k,k<w.heap.size→k≠p→k≠bl→some k≠v.ownBlock→w'.heap[k]?=w.heap[k]?
 buf:v'.ownBlock=v.ownBlock∨∃k,v'.ownBlock=some k∧w.heap.size≤k
theorem bf.refl (w:World)(p bl:Nat)(v:Value):bf w w p bl v v:=⟨rfl,rfl,rfl,zaa _,λ_ _ _ _ _=>rfl,Or.inl rfl⟩
theorem bf.trans {w w' w'':World}{p bl:Nat}{v v' Za:Value}(h:bf w w' p bl v v')(k:bf w' w'' p bl v' Za):bf w w'' p bl v Za:=by
 refine⟨k.os.trans h.os,k.tape.trans h.tape,k.output.trans h.output,zad h.size k.size,λi hi hb hl hv=>?_,?_⟩
 ·have hne:some i≠v'.ownBlock:=by
   rcases h.buf with e|⟨g,e,hg⟩
   ·rw[e];exact hv
   ·rw[e];intro x;simp only[zam]at x;omega
  exact(k.block i (zaw hi h.size) hb hl hne).trans (h.block i hi hb hl hv)
 ·rcases k.buf with e|⟨g,e,hg⟩
  ·rw[e];exact h.buf
  ·exact Or.inr ⟨g,e,zad h.size hg⟩
theorem bf.ay {w w':World}{p bl:Nat}{v:Value}(h:Below w.heap.size w w'):bf w w' p bl v v:=⟨h.os,h.tape,h.output,h.size,λk hk _ _ _=>h.block k hk,Or.inl rfl⟩
theorem bf.aad {w w':World}{p bl:Nat}{v v':Value}(h:gO w w' p v v'):bf w w' p bl v v':=⟨h.os,h.tape,h.output,h.size,λk hk hp _ hv=>h.block k hk hp hv,h.buf⟩
theorem bf.set {w:World}{p bl:Nat}{v:Value}{x:Addr}(hx:x.block=p∨x.block=bl)(u:Value):bf w (w.setCell x u) p bl v v:=
 ⟨rfl,rfl,rfl,by simp[World.setCell],λk _ h1 h2 _=>Below.heap_setCell _ _ _ _ (by rcases hx with h|h<;>omega),Or.inl rfl⟩
theorem bf.below {w w':World}{B p bl:Nat}{v v':Value}(h:bf w w' p bl v v')(hB:B≤w.heap.size)(hp:B≤p)(hl:B≤bl)(hv:∀k,v.ownBlock=some k→B≤k):Below B w w':=
 ⟨h.os,h.tape,h.output,h.size,λk hk=>h.block k (by omega) (by omega) (by omega) (λe=>by have:=hv k e.symm;omega)⟩
theorem kL.of_block {w w':World}{b:Nat}{l:List Int}(h:kL w b l)(e:w'.heap[b]?=w.heap[b]?):kL w' b l:=λi hi=>by
 rw[World.cell?_of_block (w:=w) (w':=w') (a:=⟨b,i,none⟩) e,World.frozen?_of_block (w:=w) (w':=w') (a:=⟨b,i,none⟩) e];exact h i hi
theorem cL.OB {w:World}{B p bl bL n:Nat}{nv:Value}{t:TS}{v:Value}(h:cL w B p bl bL n nv t v):∀k,v.ownBlock=some k→B≤k:=λk hk=>(h.own.lt k hk).1
theorem wT:118≠5:=by decide
theorem cL.bld {w:World}{B p bl bL n:Nat}{nv:Value}{t:TS}{v:Value}(h:cL w B p bl bL n nv t v):∃q,(q=.pointer none∨q=.pointer (some ⟨p,4,none⟩))∧eP w 118 4 B p #[nv,.slice (some ⟨bL,0,none⟩) n n,.slice (some ⟨bl,0,none⟩) n n,.int .i64 t.next,q,v,.bool t.long] v (Lib.byteCells t.out):=by
 obtain⟨q,hq,hb⟩:=h.blk;exact⟨q,hq,h.hB,hb,by rcases hq with rfl|rfl<;>simp,rfl,h.own⟩
theorem cL.mark {w:World}{B p bl bL n:Nat}{nv:Value}{t:TS}{v:Value}(h:cL w B p bl bL n nv t v)(hne:p≠bl):cL (w.setCell ⟨p,6,none⟩ (.bool true)) B p bl bL n nv { t with long:=true } v:=by
 obtain⟨q,hq,hb⟩:=h.blk;have hn:=Lib.ownBlock_ne h.own hb wT;refine⟨h.hB,⟨q,hq,?_⟩,?_,?_,h.nb,h.ol,?_⟩
 ·have:=heap_setCell_same w p 6 _ _ (.bool true) hb;exact this
 ·exact h.own.kept (row:=some p) ⟨rfl,rfl,rfl,by simp[World.setCell],λk _ hk=>Below.heap_setCell _ _ _ _ (λe=>hk (by simp[e]))⟩ (Or.inr hn)
 ·exact h.rl.of_block (Below.heap_setCell _ _ _ _ (λe=>hne e.symm))
 ·have:=h.bl;simpa[World.setCell]using this
theorem cL.wrote {w w':World}{B p bl bL n:Nat}{nv:Value}{t:TS}{v v':Value}{s:List UInt8}{q:Value}(h:cL w B p bl bL n nv t v)(hne:p≠bl)(hl:t.long=false)(hs:t.out.length+s.length≤400)
 (h1:eP w' 118 4 B p ((j9 4 p #[nv,.slice (some ⟨bL,0,none⟩) n n,.slice (some ⟨bl,0,none⟩) n n,.int .i64 t.next,q,v,.bool t.long]).setIfInBounds (4+1) v') v' (Lib.byteCells t.out++Lib.strCells ⟨⟨s⟩⟩))
 (h2:gO w w' p v v'):cL w' B p bl bL n nv (t.add s) v'∧bf w w' p bl v v':=by
 rw[ku hl hs];have e1:Lib.byteCells (t.out++s)=Lib.byteCells t.out++Lib.strCells ⟨⟨s⟩⟩:=by rw[Lib.byteCells_append];rfl
 refine⟨⟨h.hB,⟨_,Or.inr rfl,h1.blk⟩,?_,?_,?_,?_,zaw h.bl h2.size⟩,bf.aad h2⟩
 ·show World.ownsRow _ _ _ _ _ (Lib.byteCells (t.out++s)).length (Lib.byteCells (t.out++s));rw[e1];exact h1.own
 ·exact h.rl.of_block (h2.block bl h.bl (λe=>hne e.symm) (λe=>h.nb e.symm))
 ·rcases h2.buf with e|⟨k,e,hk⟩
  ·rw[e];exact h.nb
  ·rw[e];intro x;simp only[zam]at x;have:=h.bl;omega
 ·show(t.out++s).length≤400;rw[zaL];exact hs
theorem fc {w:World}{B p bl bL n:Nat}{nv:Value}{t:TS}{v:Value}(h:cL w B p bl bL n nv t v)(hne:p≠bl)(o7:B≤w.heap.size)(s:List UInt8):Calls prog 99 #[.pointer (some ⟨p,0,none⟩),.string ⟨⟨s⟩⟩] w λe w'=>e=.returned (.tuple #[])∧∃v',cL w' B p bl bL n nv (t.add s) v'∧bf w w' p bl v v':=by
 obtain⟨q,hq,Gq⟩:=h.bld;have HBL:Hid _:=Gq;have HW:Hid (cL w B p bl bL n nv t v):=h;have Gn:=h.ol;have e0:(Lib.byteCells t.out).length=t.out.length:=Lib.byteCells_length _;have c6:w.cell? ⟨p,6,none⟩=some (.bool t.long):=Gq.cell 6;have f6:w.frozen? ⟨p,6,none⟩=false:=Gq.frozen 6;clear Gq h hq;by_cases hov:400<t.out.length+s.length
 ·have HM:Hid _:=HW.out.mark hne;have HA:Hid (t.add s={ t with long:=true }):=by
   show _=_;cases hl:t.long
   ·rw[kt hl hov]
   ·rw[dt hl,←hl]
  go_enter func99,ntmps99;go_wp2_with (go_at_call 153;refine(p5 HBL.out).mono ?_);rintro e w1 ⟨rfl,rfl⟩;rw[e0];go_wp2_with fail
  go_end0
  exact⟨rfl,v,by rw[HA.out];exact HM.out,bf.set (Or.inl rfl) _⟩
 ·cases hl:t.long
  ·rw[hl]at c6;go_enter func99,ntmps99;go_wp2_with (go_at_call 153;refine(p5 HBL.out).mono ?_);rintro e w1 ⟨rfl,rfl⟩;rw[e0];go_wp2_with (go_at_call 154;refine(mS CY wT HBL.out ⟨⟨s⟩⟩ (by show _+s.length≤_;omega) o7).mono ?_);rintro e w2 ⟨rfl,v',h1,h2⟩;have HR:Hid _:=HW.out.wrote hne hl (by omega) h1 h2;clear h1 h2;go_wp2_with fail
   go_end0
   exact⟨rfl,v',HR.out⟩
  ·rw[hl]at c6;have HA:Hid (t.add s=t):=dt hl s;go_enter func99,ntmps99;go_wp2_with (go_at_call 153;refine(p5 HBL.out).mono ?_);rintro e w1 ⟨rfl,rfl⟩;rw[e0];go_wp2_with fail
   go_end0
   exact⟨rfl,v,by rw[HA.out];exact HW.out,bf.refl _ _ _ _⟩
def TS.lay (t:TS)(a:Nat):TS:={ t with ea:=t.ea.set a t.next,next:=t.next+1 }
theorem RY (t:TS)(a:Nat):(TS.lay t a).add (35::(Lib.itoa t.next++[61]))=t.put a:=by
 cases hl:t.long
 ·by_cases h:400<t.out.length+(35::(Lib.itoa t.next++[61])).length
  ·rw[kt (t:=TS.lay t a) hl h];unfold TS.put;rw[kt hl h];rfl
  ·rw[ku (t:=TS.lay t a) hl (by show t.out.length+_≤400;omega)];unfold TS.put;rw[ku hl (by omega)];rfl
 ·rw[dt (t:=TS.lay t a) hl];unfold TS.put;rw[dt hl];rfl
theorem cL.lay {w:World}{B p bl bL n:Nat}{nv:Value}{t:TS}{v:Value}(h:cL w B p bl bL n nv t v)(hne:p≠bl){a:Nat}(ha:a<t.ea.length):cL ((w.setCell ⟨bl,a,none⟩ (.int .i64 t.next)).setCell ⟨p,3,none⟩ (.int .i64 (t.next+1))) B p bl bL n nv (TS.lay t a) v:=by
 obtain⟨q,hq,hb⟩:=h.blk;have hn:=Lib.ownBlock_ne h.own hb wT;have hb1:(w.setCell ⟨bl,a,none⟩ (.int .i64 t.next)).heap[p]?=some (.cells #[nv,.slice (some ⟨bL,0,none⟩) n n,.slice (some ⟨bl,0,none⟩) n n,.int .i64 t.next,q,v,.bool t.long] 118 (0,0)):=
  (Below.heap_setCell _ _ _ _ hne).trans hb
 have o1:=h.own.kept (w':=w.setCell ⟨bl,a,none⟩ (.int .i64 t.next)) (row:=some bl) ⟨rfl,rfl,rfl,by simp[World.setCell],λk _ hk=>Below.heap_setCell _ _ _ _ (λe=>hk (by simp[e]))⟩ (Or.inr h.nb);refine⟨h.hB,⟨q,hq,?_⟩,?_,?_,h.nb,h.ol,?_⟩
 ·have:=heap_setCell_same (w.setCell ⟨bl,a,none⟩ (.int .i64 t.next)) p 3 _ _ (.int .i64 (t.next+1)) hb1;exact this
 ·exact o1.kept (row:=some p) ⟨rfl,rfl,rfl,by simp[World.setCell],λk _ hk=>Below.heap_setCell _ _ _ _ (λe=>hk (by simp[e]))⟩ (Or.inr hn)
 ·exact(h.rl.set a ha t.next).of_block (Below.heap_setCell _ _ _ _ (λe=>hne e.symm))
 ·have:=h.bl;simpa[World.setCell]using this
def aae (B:Nat)(w:World):Prop:=∀w',Below B w w'→Pow w'
theorem cL.drew {w:World}{B p bl bL n:Nat}{nv:Value}{t:TS}{v:Value}(h:cL w B p bl bL n nv t v):cL w.drew B p bl bL n nv t v:=⟨h.hB,h.blk,h.own,h.rl,h.nb,h.ol,h.bl⟩
theorem cL.lt {w:World}{B p bl bL n:Nat}{nv:Value}{t:TS}{v:Value}(h:cL w B p bl bL n nv t v):p<w.heap.size:=by
 obtain⟨q,hq,hb⟩:=h.blk;exact(zac.1 hb).1
theorem cL.below {w w':World}{B p bl bL n:Nat}{nv:Value}{t:TS}{v:Value}(h:cL w B p bl bL n nv t v)(hb:Below w.heap.size w w'):cL w' B p bl bL n nv t v:=by
 obtain⟨q,hq,hk⟩:=h.blk;refine⟨h.hB,⟨q,hq,(hb.block p h.lt).trans hk⟩,?_,h.rl.of_block (hb.block bl h.bl),h.nb,h.ol,zaw h.bl hb.size⟩;exact h.own.kept (row:=none) ⟨hb.os,hb.tape,hb.output,hb.size,λk hk _=>hb.block k hk⟩ (by cases v.ownBlock<;>simp)
theorem RZ {w:World}{B p bl bL n:Nat}{nv:Value}{t:TS}{v:Value}(h:cL w B p bl bL n nv t v)(hne:p≠bl)(o7:B≤w.heap.size)(hn:t.ea.length=n)(yh:t.next≤401)(a:Nat)(ha:a<n)(hBl:B≤bl)(hp:aae B w):Calls prog 101 #[.pointer (some ⟨p,0,none⟩),.int .i64 a] w λe w'=>e=.returned (.tuple #[])∧∃v',cL w' B p bl bL n nv (t.put a) v'∧bf w w' p bl v v':=by
 have HL:Hid _:=h.lay hne (a:=a) (by omega);have HKL:Hid (bf w ((w.setCell ⟨bl,a,none⟩ (.int .i64 t.next)).setCell ⟨p,3,none⟩ (.int .i64 (t.next+1))) p bl v v):=
  (bf.set (x:=⟨bl,a,none⟩) (Or.inr rfl) _).trans (bf.set (x:=⟨p,3,none⟩) (Or.inl rfl) _)
 obtain⟨q,hq,hb⟩:=h.blk;have c2:w.cell? ⟨p,2,none⟩=some (.slice (some ⟨bl,0,none⟩) n n):=Lib.cell_of_heap hb 2;have c3:w.cell? ⟨p,3,none⟩=some (.int .i64 t.next):=Lib.cell_of_heap hb 3;have f3:w.frozen? ⟨p,3,none⟩=false:=Lib.frozen_of_heap hb 3;obtain⟨ca,fa⟩:=h.rl a (by omega);have HP:Hid (aae B w):=hp;have HLW:Hid (cL w B p bl bL n nv t v):=h;have hlen:=rQ t.next (by omega) (by omega);have ks:=vn;clear hp hb hq h;go_enter func101,ntmps101;go_wp2_with fail;go_region;all_goals
  go_wp2_with (go_at_call 100;refine(n9 t.next _ (by omega) (by omega) (HP.out _ (HKL.out.below o7 HLW.out.hB hBl HLW.out.OB).drew)).mono ?_);rintro e w1 ⟨rfl,hb1⟩;have gP:Hid (cL w1 B p bl bL n nv (TS.lay t a) v):=HL.out.drew.below hb1;have xW:Hid (bf w w1 p bl v v):=HKL.out.trans (bf.ay (((Below.refl _ _).drew).trans hb1));clear hb1;go_wp2_with (go_at_call 99;refine(fc gP.out hne (zad o7 xW.out.size) (35::(Lib.itoa t.next++[61]))).mono ?_);rintro e w2 ⟨rfl,v',h2,h3⟩;have H2:Hid (cL w2 B p bl bL n nv (t.put a) v'):=by rw[RY]at h2;exact h2
  have H3:Hid (bf w w2 p bl v v'):=xW.out.trans h3;clear h2 h3;go_wp2_with fail
  go_end0
  exact⟨rfl,v',H2.out,H3.out⟩
structure DJ (G:List Nd) (b o:Nat) (W0:World) (p bl bL:Nat) (L:Nat→Bool) (Rc:Nat→Prop) (rk:Nat→Nat):Prop where
 hG:aR W0 b o G
 hk:∀x (h:x<G.length),aY G[x]=true
 hs:∀x (h:x<G.length),ei G[x].subs G.length=true
 hn:G.length≤150
 hp:W0.heap.size≤p
 hl:W0.heap.size≤bl
 pl:p≠bl
 hL:∀i,i<G.length→W0.cell? ⟨bL,i,none⟩=some (.bool (L i))
 pw:Pow W0
 rc:∀x,Rc x→∀y∈ax G x,Rc y
 rr:∀x,Rc x→∀y∈ax G x,bp G y=1→L y=false→rk y<rk x
def DK (G:List Nd)(b o cap:Nat)(W0:World)(p bl bL:Nat)(L:Nat→Bool)(Rc:Nat→Prop)(f:Nat):Prop:=
 ∀(t:TS) (a:Int) (w:World) (v:Value),t.Ok G.length L→0≤a→a<G.length→Rc a.toNat→need t≤f→Below W0.heap.size W0 w→cL w W0.heap.size p bl bL G.length (.slice (some ⟨b,o,none⟩) G.length cap) t v→
  Calls prog 62 #[.pointer (some ⟨p,0,none⟩),.int .i64 a] w λe w'=>e=.returned (.tuple #[])∧
   ∃v',cL w' W0.heap.size p bl bL G.length (.slice (some ⟨b,o,none⟩) G.length cap) (WF (bp G) (ax G) (kv G) L f false t a.toNat) v'∧bf w w' p bl v v'
theorem oc (G:List Nd)(x:Nat)(h:x<G.length)(k:Nat)(hk:k<G[x].subs.length):(G[x].subs.getD k 0).toNat∈ax G x:=by
 rw[iB G x h];simp only[zaP];exact⟨G[x].subs.getD k 0,by simp[List.getD,List.getElem?_eq_getElem hk],rfl⟩
theorem bf.box {w w':World}{p bl:Nat}{v v':Value}{cs:Array Value}{T:TypeId}(h:bf (w.alloc (.cells cs T)) w' p bl v v')(hp:p<w.heap.size)(hl:bl<w.heap.size)(hv:∀k,v.ownBlock=some k→k<w.heap.size):∀i z,cs[i]?=some z→w'.cell? ⟨w.heap.size,i,none⟩=some z:=λi z hz=>by
 have:=h.block w.heap.size (by simp) (by omega) (by omega) (λe=>by have:=hv _ e.symm;omega);rw[Lib.cell_of_heap (this.trans (heap_alloc_new w _))];exact hz
theorem cL.TH {w:World}{B p bl bL n:Nat}{nv:Value}{t:TS}{v:Value}(h:cL w B p bl bL n nv t v):∀k,v.ownBlock=some k→k<w.heap.size:=λk hk=>(h.own.lt k hk).2
theorem uk (G:List Nd)(b o cap:Nat)(W0:World)(p bl bL:Nat)(L:Nat→Bool)(Rc:Nat→Prop)(rk:Nat→Nat)(C:DJ G b o W0 p bl bL L Rc rk)(f:Nat)(IA:Hid (DK G b o cap W0 p bl bL L Rc f))
 (n:Nat)(jm:n<G.length)(OC:Rc n)(k2:G[n].kind=2)(t:TS)(w:World)(v:Value)(ht:t.Ok G.length L)(hf:need (t.add [35,40])≤f)(hb:Below W0.heap.size W0 w)
 (VB:∀x,x<G.length→∀y∈ax G x,y<G.length)(Mr:∀x,x<G.length→bp G x=1→(ax G x).length=2)
 (hw:cL w W0.heap.size p bl bL G.length (.slice (some ⟨b,o,none⟩) G.length cap) t v):
 Calls prog 103 #[.pointer (some ⟨p,0,none⟩),cR G[n]] w λe w'=>e=.returned (.tuple #[])∧
  ∃v',cL w' W0.heap.size p bl bL G.length (.slice (some ⟨b,o,none⟩) G.length cap) ((gl (WF (bp G) (ax G) (kv G) L f false) (ax G n) (ax G n).length (t.add [35,40])).add [41]) v'∧bf w w' p bl v v':=by
 have HC:Hid (DJ G b o W0 p bl bL L Rc rk):=C;have HB:Hid (Below W0.heap.size W0 w):=hb;have Xx:Hid _:=(C.hG n jm).ints;have HXS:Hid _:=C.hs n jm;have TJ:Hid _:=C.hk n jm;have HSG:Hid (∀k,k<G[n].subs.length→(ax G n).getD k 0=(G[n].subs.getD k 0).toNat):=λk hk=>oa G n jm k hk;have HRC:Hid (∀k,k<G[n].subs.length→Rc (G[n].subs.getD k 0).toNat):=λk hk=>C.rc n OC _ (oc G n jm k hk);have LY:Hid ((ax G n).length=G[n].subs.length):=by show _=_;rw[iB G n jm];simp
 generalize G[n]=x at *;have Tt:Hid (∀k,need (gl (WF (bp G) (ax G) (kv G) L f false) (ax G n) k (t.add [35,40]))≤f):=λk=>zad (rP (λt y=>gD f false t y) _ _ _) hf;have HOV:Hid (∀k,k≤x.subs.length→(gl (WF (bp G) (ax G) (kv G) L f false) (ax G n) k (t.add [35,40])).Ok G.length L):=λk hk=>
  Gj (λt y ht hy=>rM VB Mr f false t y ht hy) (ax G n) (VB n jm) k _ (by rw[LY.out];exact hk) (ht.add _)
 have hlen:x.subs.length≤20:=by have:=TJ.out;unfold aY at this;rw[if_neg (by omega),if_neg (by omega),if_pos k2]at this;simp at this;exact this.1
 have HBX:Hid (cL (w.alloc (.cells #[.int .i64 x.kind,.string ⟨⟨x.text⟩⟩,.int .i64 x.n,.int .i64 x.d,.slice x.sa x.subs.length x.cap] 45)) W0.heap.size p bl bL G.length (.slice (some ⟨b,o,none⟩) G.length cap) t v):=hw.below aA;have yI:Hid _:=(⟨hw.lt,hw.bl,hw.TH⟩:p<w.heap.size∧bl<w.heap.size∧∀k,v.ownBlock=some k→k<w.heap.size);have hsz:=hb.size;have hne:=C.pl;have EP:Hid (∀w' v',bf w w' p bl v v'→Below W0.heap.size W0 w'):=λw' v' h=>hb.trans (h.below hsz C.hp C.hl hw.OB);clear k2 C hb ht hf hw VB Mr OC;unfold cR;go_enter func103,ntmps103;go_wp2_with (go_at_call 99;refine(fc HBX.out hne (by simp;omega) [35,40]).mono ?_);rintro e w1 ⟨rfl,v1,h1,h2⟩;have r4:=h2.box yI.out.1 yI.out.2.1 yI.out.2.2 4 _ rfl;have H1:Hid (cL w1 W0.heap.size p bl bL G.length (.slice (some ⟨b,o,none⟩) G.length cap) (t.add [35,40]) v1):=h1;have H2:Hid (bf w w1 p bl v v1):=(bf.ay aA).trans h2;clear h1 h2;rcases Xx.out with h|⟨sb,so,LD,hc⟩
 ·have HE0:Hid (x.subs.length=0):=by show _=_;rw[h];rfl
  clear h Xx;go_wp2_with fail;go_loopw [11] (λi wr=>∃(k:Nat) (vk:Value),k≤x.subs.length∧i=.int .i64 k∧Hid (cL wr W0.heap.size p bl bL G.length (.slice (some ⟨b,o,none⟩) G.length cap) (gl (WF (bp G) (ax G) (kv G) L f false) (ax G n) k (t.add [35,40])) vk)∧Hid (bf w wr p bl v vk)) (λi _=>x.subs.length-(intOf i).toNat)
  case atStart=>exact⟨0,v1,zah _,rfl,H1.out,H2.out⟩
  case round=>
   obtain⟨k,vk,hk,rfl,xu,cP⟩:=hrel;have VC:Hid (Below W0.heap.size W0 wr):=EP.out _ _ cP.out;have Bi:W0.heap.size≤wr.heap.size:=VC.out.size;by_cases hlt:k<x.subs.length
   ·exfalso;have:=HE0.out;omega
   ·have P3:k=x.subs.length:=by omega
    go_wp2_with (go_at_call 99;refine(fc xu.out hne Bi [41]).mono ?_);rintro e w5 ⟨rfl,v5,Gr,qp⟩;rw[P3,←LY.out]at Gr;have pI:Hid _:=Gr;have EL:Hid _:=cP.out.trans qp;clear Gr qp xu cP;go_wp2_with fail
    go_end0
    exact⟨rfl,v5,pI.out,EL.out⟩
 ·have VD:Hid (∀w':World,Below W0.heap.size W0 w'→∀k,k<x.subs.length→w'.cell? ⟨sb,so+k,none⟩=some (.int .i64 (x.subs.getD k 0))):=λw' hb' k hk=>bP hb' (hc k hk);clear hc Xx;rw[LD]at r4;go_wp2_with fail;go_loopw [11] (λi wr=>∃(k:Nat) (vk:Value),k≤x.subs.length∧i=.int .i64 k∧Hid (cL wr W0.heap.size p bl bL G.length (.slice (some ⟨b,o,none⟩) G.length cap) (gl (WF (bp G) (ax G) (kv G) L f false) (ax G n) k (t.add [35,40])) vk)∧Hid (bf w wr p bl v vk)) (λi _=>x.subs.length-(intOf i).toNat)
  case atStart=>exact⟨0,v1,zah _,rfl,H1.out,H2.out⟩
  case round=>
   obtain⟨k,vk,hk,rfl,xu,cP⟩:=hrel;have VC:Hid (Below W0.heap.size W0 wr):=EP.out _ _ cP.out;have Bi:W0.heap.size≤wr.heap.size:=VC.out.size;by_cases hlt:k<x.subs.length
   ·have hcell:=VD.out _ VC.out k hlt;have hv:=lY _ _ HXS.out k hlt;have HR:Hid _:=HRC.out k hlt;have HGK:Hid _:=HSG.out k hlt;have yH:Hid _:=HOV.out k hk;have HND:Hid _:=Tt.out k;by_cases JV:k=0
    ·have HST:Hid (gl (WF (bp G) (ax G) (kv G) L f false) (ax G n) (k+1) (t.add [35,40])=WF (bp G) (ax G) (kv G) L f false (gl (WF (bp G) (ax G) (kv G) L f false) (ax G n) k (t.add [35,40])) (x.subs.getD k 0).toNat):=by
      show _=_;rw[←HGK.out];simp only[gl];rw[if_pos JV]
     generalize gl (WF (bp G) (ax G) (kv G) L f false) (ax G n) k (t.add [35,40])=tk at *;generalize x.subs.getD k 0=sv at *;have hkz:(k:Int)≤0:=by omega
     have rG:Hid _:=JV;clear JV;go_wp2_with (go_at_call 62;refine(IA.out _ sv _ _ yH.out hv.1 hv.2 HR.out HND.out VC.out xu.out).mono ?_);rintro e w4 ⟨rfl,v4,hw4,hk4⟩;rw[←HST.out]at hw4;have ui:Hid _:=hw4;have qo:Hid _:=cP.out.trans hk4;clear hw4 hk4 xu cP hcell VC;go_wp2_with fail;go_roundw
     case rel=>exact⟨k+1,v4,by omega,by go_num,ui,qo⟩
     case measure=>simp[intOf];omega
    ·have HST:Hid (gl (WF (bp G) (ax G) (kv G) L f false) (ax G n) (k+1) (t.add [35,40])=WF (bp G) (ax G) (kv G) L f false ((gl (WF (bp G) (ax G) (kv G) L f false) (ax G n) k (t.add [35,40])).add [32]) (x.subs.getD k 0).toNat):=by
      show _=_;rw[←HGK.out];simp only[gl];rw[if_neg JV]
     generalize gl (WF (bp G) (ax G) (kv G) L f false) (ax G n) k (t.add [35,40])=tk at *;generalize x.subs.getD k 0=sv at *;have hkz:(0:Int)<(k:Int):=by omega
     have ady:Hid _:=yH.out.add [32];have adz:Hid _:=zad (dY tk [32]) HND.out;go_wp2_with (go_at_call 99;refine(fc xu.out hne Bi [32]).mono ?_);rintro e w3 ⟨rfl,v3,hw3,hk3⟩;have xY:Hid _:=hw3;have lS:Hid _:=cP.out.trans hk3;have gQ:Hid (Below W0.heap.size W0 w3):=EP.out _ _ lS.out;clear hw3 hk3 xu cP hcell VC;go_wp2_with (go_at_call 62;refine(IA.out _ sv _ _ ady.out hv.1 hv.2 HR.out adz.out gQ.out xY.out).mono ?_);rintro e w4 ⟨rfl,v4,hw4,hk4⟩;rw[←HST.out]at hw4;have ui:Hid _:=hw4;have qo:Hid _:=lS.out.trans hk4;clear hw4 hk4;go_wp2_with fail;go_roundw
     case rel=>exact⟨k+1,v4,by omega,by go_num,ui,qo⟩
     case measure=>simp[intOf];omega
   ·have P3:k=x.subs.length:=by omega
    go_wp2_with (go_at_call 99;refine(fc xu.out hne Bi [41]).mono ?_);rintro e w5 ⟨rfl,v5,Gr,qp⟩;rw[P3,←LY.out]at Gr;have pI:Hid _:=Gr;have EL:Hid _:=cP.out.trans qp;clear Gr qp xu cP;go_wp2_with fail
    go_end0
    exact⟨rfl,v5,pI.out,EL.out⟩
end Go.Proofs.YtlhimdjkkiflhaaGreatDoor
namespace Go.Proofs.YtlhimdjkkiflhaaGreatDoor
open Go.RowKit Go.Loop
theorem OD (l:List Bool)(a:Nat):l.set a (l.getD a false)=l:=by
 apply List.ext_getElem?
 intro i;rw[List.getElem?_set];by_cases e:a=i
 ·subst e;rw[if_pos rfl];by_cases h:a<l.length
  ·rw[if_pos h,zaf h];simp[List.getD,List.getElem?_eq_getElem h]
  ·rw[if_neg h,zbH (by omega)]
 ·rw[if_neg e]
end Go.Proofs.YtlhimdjkkiflhaaGreatDoor
namespace Go.Proofs.YtlhimdjkkiflhaaGreatDoor
open Go.Proofs.Tryz
open Go.RowKit Go.Loop
theorem DL:(prog.info? 4).map (λi=>(i.zero,i.size,i.bytes))=some (some (.bool false),1,1):=by kernel_rfl
theorem IL:(prog.info? 3).map (λi=>(i.zero,i.size,i.bytes))=some (some (.int .i64 0),1,8):=by kernel_rfl
theorem oV (w:World):w.drew.heap=w.heap:=rfl
theorem mG (w:World)(o:Obj)(k:Nat):(w.alloc o).heap[k]?=if k=w.heap.size then some o else w.heap[k]?:=by
 show(w.heap.push o)[k]?=_;rw[zbe]
theorem tF {w:World}{k n:Nat}{t:TypeId}(h:w.heap[k]?=some (.cells (madeCells #[.bool false] n) t)):gV w k (List.replicate n false):=by
 intro i hi;rw[List.length_replicate]at hi;have hl:(madeCells #[Value.bool false] n)[i]?=some (.bool false):=by
  rw[←zaN,toList_madeCells_one,zbK,if_pos hi]
 refine⟨?_,?_⟩
 ·unfold World.cell?;simp only[h];rw[eG];simpa using hl
 ·unfold World.frozen?;simp[h]
theorem zE {w:World}{k n:Nat}{t:TypeId}(h:w.heap[k]?=some (.cells (madeCells #[.int .i64 0] n) t)):kL w k (List.replicate n 0):=by
 intro i hi;rw[List.length_replicate]at hi;have hl:(madeCells #[Value.int .i64 0] n)[i]?=some (.int .i64 0):=by
  rw[←zaN,toList_madeCells_one,zbK,if_pos hi]
 refine⟨?_,?_⟩
 ·unfold World.cell?;simp only[h];rw[eG];simpa using hl
 ·unfold World.frozen?;simp[h]
theorem KN {w:World}{p bo bm bw n:Nat}{nv:Value}{t1 t2 t3 t4:TypeId}
 (hp:w.heap[p]?=some (.cells #[nv,.slice (some ⟨bo,0,none⟩) n n,.slice (some ⟨bm,0,none⟩) n n,.slice (some ⟨bw,0,none⟩) n n] t1))
 (ho:w.heap[bo]?=some (.cells (madeCells #[.bool false] n) t2))(hm:w.heap[bm]?=some (.cells (madeCells #[.int .i64 0] n) t3))(hw:w.heap[bw]?=some (.cells (madeCells #[.bool false] n) t4)):
 eZ w p bo bm bw n nv (WS.start n):=by
 refine⟨?_,?_,?_,?_,zE hm,tF hw,tF ho⟩;all_goals (unfold World.cell?;simp[hp])
theorem OE (S:Nat→List Nat)(n:Nat):(WS.start n).Bd S ((WS.start n).tD (λx=>(S x).length)):=by
 intro i;show(List.replicate n (0:Int)).getD i 0+_≤_;rw[eG];omega
theorem IM (g:Nat→Nat)(M:Nat)(h:∀x,g x≤M):∀(n i:Nat),tC g i (List.replicate n 0)≤n*M
 |0,_=>by simp[tC]
 |n+1,i=>by
  have:=IM g M h n (i+1);have:=h i;simp only[zbz,tC,if_true];rw[Nat.succ_mul];omega
theorem KO (S:Nat→List Nat)(M:Nat)(h:∀x,(S x).length≤M)(n:Nat):(WS.start n).tD (λx=>(S x).length)≤n*M:=IM _ M h n 0
theorem kV (G:List Nd)(b o cap:Nat)(w:World)(hG:aR w b o G)(hn:G.length≤150)(h1:1≤G.length)(gU:∀x (h:x<G.length),ei G[x].subs G.length=true)(OG:∀x,(ax G x).length≤20):Calls prog 27 #[.slice (some ⟨b,o,none⟩) G.length cap] w λe w'=>∃bm bw,e=.returned (.agg #[.slice (some ⟨bm,0,none⟩) G.length G.length,.slice (some ⟨bw,0,none⟩) G.length G.length])∧kL w' bm (eH (ax G) G.length).met∧gV w' bw (eH (ax G) G.length).wi∧Below w.heap.size w w':=by
 have HG:Hid _:=hG;have HS:Hid _:=gU;clear hG gU;have mkb:=run_make_row' (P:=prog) 66 4 (.bool false) 1 underlying66 DL rfl .i64 .i64 G.length (by omega) (by omega);have mki:=run_make_row' (P:=prog) 43 3 (.int .i64 0) 8 underlying43 IL rfl .i64 .i64 G.length (by omega) (by omega);go_enter func27,ntmps27
 go_upto_region 1 with fail
 go_cut [3,7,10,13] (λx3 x7 x10 Zv wc=>∃p bo bm bw:Nat,x3=.pointer (some ⟨p,0,none⟩)∧x7=.slice (some ⟨bo,0,none⟩) G.length G.length∧x10=.slice (some ⟨bm,0,none⟩) G.length G.length∧Zv=.slice (some ⟨bw,0,none⟩) G.length G.length∧
  Hid (Apart (w.heap.size+1) p bo bm bw∧eZ wc p bo bm bw G.length (.slice (some ⟨b,o,none⟩) G.length cap) (WS.start G.length)∧Below (w.heap.size+1) (w.alloc (.cells #[.slice none 0 0,.slice none 0 0] 68)) wc))
 case first=>
  go_region;all_goals
   go_wp2_with fail
   go_meet
   case rel=>
    refine⟨_,_,_,_,rfl,rfl,rfl,rfl,?_⟩;refine⟨⟨by omega,by omega,by omega,by omega,by omega,by omega,by omega,by omega,by omega,by omega⟩,KN (t1:=90) (t2:=4) (t3:=3) (t4:=4) ?_ ?_ ?_ ?_,?_⟩
    ·rw[oV];simp only[mG,World.size_alloc];repeat' (first|rfl|(exfalso;omega)|split)
    ·rw[oV];simp only[mG,World.size_alloc];repeat' (first|rfl|(exfalso;omega)|split)
    ·rw[oV];simp only[mG,World.size_alloc];repeat' (first|rfl|(exfalso;omega)|split)
    ·rw[oV];simp only[mG,World.size_alloc];repeat' (first|rfl|(exfalso;omega)|split)
    ·exact(((((Below.refl _ _).alloc (by simp) _).alloc (by simp) _).alloc (by simp) _).alloc (by simp) _).drew
 case rest=>
  obtain⟨p,bo,bm,bw,rfl,rfl,rfl,rfl,hcu⟩:=hcut;have hbx:aR (w.alloc (.cells #[.slice none 0 0,.slice none 0 0] 68)) b o G:=aR.below HG.out aA;have hsz:(w.alloc (.cells #[.slice none 0 0,.slice none 0 0] 68)).heap.size=w.heap.size+1:=World.size_alloc ..;have HA:Hid (Apart (w.alloc (.cells #[.slice none 0 0,.slice none 0 0] 68)).heap.size p bo bm bw):=by show Apart _ _ _ _ _;rw[hsz];exact hcu.out.1
  have HW:Hid (eZ wc p bo bm bw G.length (.slice (some ⟨b,o,none⟩) G.length cap) (WS.start G.length)):=hcu.out.2.1;have HB:Hid (Below (w.alloc (.cells #[.slice none 0 0,.slice none 0 0] 68)).heap.size (w.alloc (.cells #[.slice none 0 0,.slice none 0 0] 68)) wc):=by show Below _ _ _;rw[hsz];exact hcu.out.2.2
  have HX:Hid (aR (w.alloc (.cells #[.slice none 0 0,.slice none 0 0] 68)) b o G):=hbx;have adA:=KO (ax G) 20 OG G.length;have HP:Hid ((WS.start G.length).tD (λx=>(ax G x).length)+1≤1000000):=by show _≤_;omega
  have TK:Hid (∀x (h:x<G.length),ei G[x].subs G.length=true):=HS.out;clear hcu hbx mkb mki adA OG HS;go_wp2_with fail;refine(OA G b o cap _ HX hn TK p bo bm bw HA.out (G.length+1) (WS.start G.length) 0 wc _
   (kr _) (by omega) (by omega) (by show tC (λ_=>1) 0 (List.replicate G.length 0)<_;rw[Dx];omega) (OE _ _) HP.out HB.out HW.out).mono ?_
  rintro e w2 ⟨rfl,hw2,hb2⟩;obtain⟨hcell,Mh⟩:=zD hb2;have gN:Hid _:=hb2;have xX:Hid _:=hw2;obtain⟨q0,q1,q2,q3,_,_,_⟩:=hw2;clear hb2 q0 q1;go_wp2_with fail;refine bodyPost_ret (by simp[results,results27,go_sem,hcell];rfl) rfl ?_;have a1:=HA.out.hm;have a2:=HA.out.hw;rw[hsz]at a1 a2;have b1:(⟨w.heap.size,0,none⟩:Addr).block≠bm:=by show w.heap.size≠bm;omega
  have b2:(⟨w.heap.size,0,none⟩:Addr).block≠bw:=by show w.heap.size≠bw;omega
  have b3:(⟨w.heap.size,1,none⟩:Addr).block≠bm:=by show w.heap.size≠bm;omega
  have b4:(⟨w.heap.size,1,none⟩:Addr).block≠bw:=by show w.heap.size≠bw;omega
  have LM:Below w.heap.size w w2:=aA.trans (gN.out.mono (by simp));exact⟨bm,bw,rfl,(xX.out.rm.far b1 _).far b3 _,(xX.out.rw.far b2 _).far b4 _,(LM.setCell (zaa _) _).setCell (zaa _) _⟩
end Go.Proofs.YtlhimdjkkiflhaaGreatDoor
namespace Go.Proofs.YtlhimdjkkiflhaaGreatDoor
open Go.RowKit Go.Loop
def lZ (G:List Nd)(mode:Int)(i:Nat):Bool:=
 if mode=1 then(eH (ax G) G.length).wi.getD i false
 else if mode=2 then decide (1<(eH (ax G) G.length).met.getD i 0)&&decide (1≤bp G i∧bp G i≤3)else false
def mH (G:List Nd):Bool:=(List.range G.length).any λi=>(eH (ax G) G.length).wi.getD i false
def cF (n:Nat):TS:=⟨List.replicate n (-1),0,[],false⟩
def dm (G:List Nd)(mode:Int)(F:Nat):TS:=WF (bp G) (ax G) (kv G) (lZ G mode) F false (cF G.length) 0
def cz (G:List Nd)(mode:Int)(F:Nat):List UInt8×Int:=
 if mode<0∨2<mode then([],1)else if di G=false then([],8)else if mode=0∧mH G=true then([],9)else if(dm G mode F).long=true then([],2)else((dm G mode F).out,0)
theorem zF (n:Nat)(L:Nat→Bool):(cF n).Ok n L:=
 ⟨by simp[cF],λ_=>by simp[cF],λi=>by show -1≤(List.replicate n (-1:Int)).getD i (-1)∧(List.replicate n (-1:Int)).getD i (-1)<_;rw[eG];simp[cF],λi hi=>by
   change 0≤(List.replicate n (-1:Int)).getD i (-1)at hi;rw[eG]at hi;omega,λ_=>by simp[cF],by simp[cF]⟩
theorem jo (G:List Nd)(h:di G=true):1≤G.length∧G.length≤150∧(∀x (hx:x<G.length),aY G[x]=true)∧(∀x (hx:x<G.length),ei G[x].subs G.length=true)∧(∀x,(ax G x).length≤20):=by
 unfold di at h;simp only[zae,decide_eq_true_eq]at h;obtain⟨⟨h1,h2⟩,h3⟩:=h;have hk:∀x (hx:x<G.length),aY G[x]=true∧ei G[x].subs G.length=true:=λx hx=>by
  have:=zav.1 h3 G[x] (zaC hx);simpa using this
 refine⟨h1,h2,λx hx=>(hk x hx).1,λx hx=>(hk x hx).2,λx=>?_⟩;by_cases hx:x<G.length
 ·rw[iB G x hx,zbk];have hb:=(hk x hx).1;unfold aY at hb;by_cases k0:G[x].kind=0
  ·rw[if_pos k0]at hb;simp at hb;rw[hb.2.2.2];simp
  rw[if_neg k0]at hb;by_cases k1:G[x].kind=1
  ·rw[if_pos k1]at hb;simp at hb;omega
  rw[if_neg k1]at hb;by_cases k2:G[x].kind=2
  ·rw[if_pos k2]at hb;simp at hb;omega
  rw[if_neg k2]at hb;by_cases k3:G[x].kind=3
  ·rw[if_pos k3]at hb;simp at hb;rw[hb.2.2.2];simp
  rw[if_neg k3]at hb;by_cases k4:G[x].kind=4
  ·rw[if_pos k4]at hb;simp at hb;rw[hb.1.2.2];simp
  rw[if_neg k4]at hb;by_cases k5:G[x].kind=5
  ·rw[if_pos k5]at hb;simp at hb;rw[hb.2.2];simp
  rw[if_neg k5]at hb;by_cases k6:G[x].kind=6
  ·rw[if_pos k6]at hb;simp at hb;rw[hb.2.2.2];simp
  rw[if_neg k6]at hb;by_cases k7:G[x].kind=7
  ·rw[if_pos k7]at hb;simp at hb;rw[hb.2.2.2];simp
  rw[if_neg k7]at hb;exact absurd hb (by simp)
 ·unfold ax;rw[zbH (by omega)];simp
theorem jL {a a':List UInt8}{n n':Int}(h1:a=a')(h2:n=n'):Ending.returned (.tuple #[.string ⟨⟨a⟩⟩,.int .i64 n])=.returned (.tuple #[.string ⟨⟨a'⟩⟩,.int .i64 n']):=by rw[h1,h2]
end Go.Proofs.YtlhimdjkkiflhaaGreatDoor
