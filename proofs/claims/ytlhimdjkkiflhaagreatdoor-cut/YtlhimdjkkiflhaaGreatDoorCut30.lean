import Derived.Deep.DeepCutAuto
import Derived.BigRegion
import Derived.Deep.OwnRows
import Derived.Test.YtlhimdjkkiflhaaGreatDoorCut29
set_option maxHeartbeats 8000000
set_option maxRecDepth 100000
namespace Go.Proofs.YtlhimdjkkiflhaaGreatDoor
open Go.Proofs.Tryz
open Go.RowKit Go.Loop
theorem FD (S:Nat→List Nat)(f:Nat)(t:WS)(l:List Nat)(k:Nat)(h:k<l.length):(l.take (k+1)).foldl (cq S f) t=cq S f ((l.take k).foldl (cq S f) t) l[k]:=by
 rw[zbA h,List.foldl_append];rfl
theorem Hg {n:Nat}{S:Nat→List Nat}(hS:∀x,x<n→∀y∈S x,y<n)(f:Nat):∀(l:List Nat) (t:WS),(∀y∈l,y<n)→t.Ok n→(l.foldl (cq S f) t).Ok n
 |[],_,_,ht=>ht
 |y::r,t,hl,ht=>Hg hS f r _ (λz hz=>hl z (zax _ hz)) (Ok.meet hS f t y ht (hl y zau))
theorem Dj {n:Nat}{S:Nat→List Nat}(hS:∀x,x<n→∀y∈S x,y<n)(g:Nat→Nat)(f:Nat):∀(l:List Nat) (t:WS),(∀y∈l,y<n)→t.Ok n→(l.foldl (cq S f) t).tj g≤t.tj g
 |[],_,_,_=>zaa _
 |y::r,t,hl,ht=>zad (Dj hS g f r _ (λz hz=>hl z (zax _ hz)) (Ok.meet hS f t y ht (hl y zau))) (xq hS g f t y ht (hl y zau))
theorem Hh {n:Nat}{S:Nat→List Nat}(hS:∀x,x<n→∀y∈S x,y<n)(f:Nat):∀(l:List Nat) (t:WS) (k:Nat),(∀y∈l,y<n)→t.Ok n→t.Bd S k→(l.foldl (cq S f) t).Bd S (k+l.length)
 |[],_,_,_,_,hk=>hk
 |y::r,t,k,hl,ht,hk=>by
  have:=Hh hS f r (cq S f t y) (k+1) (λz hz=>hl z (zax _ hz)) (Ok.meet hS f t y ht (hl y zau)) (Bd.meet hS f t y k ht (hl y zau) hk);simp only[List.foldl_cons,zak];rw[show k+(r.length+1)=k+1+r.length by omega];exact this
theorem qp {N:Nat}{S:Nat→List Nat}(hS:∀x,x<N→∀y∈S x,y<N)(f:Nat)(s:WS)(n c k:Nat)(cC:s.Ok N)(hn:n<N)(hf:s.tj (λ_=>1)<f+1)(pZ:s.Bd S c)(hm:s.met.getD n 0=0)(hk:k≤(S n).length):(((S n).take k).foldl (cq S f) ((s.hit n).enter n)).Ok N∧(((S n).take k).foldl (cq S f) ((s.hit n).enter n)).tj (λ_=>1)<f∧(((S n).take k).foldl (cq S f) ((s.hit n).enter n)).Bd S (c+1-(S n).length + k)∧(S n).length≤c:=by
 have h2:((s.hit n).enter n).Ok N:=(cC.hit hn).enter hn (lq cC hn);have hl:∀y∈(S n).take k,y<N:=λy hy=>hS n hn y (List.mem_of_mem_take hy);have hp:=rR cC hn (λ_=>1);have Pj:=rR cC hn (λx=>(S x).length);rw[if_pos hm]at hp Pj;have hc:(S n).length≤c:=by have:=pZ n;omega
 refine⟨Hg hS f _ _ hl h2,?_,?_,hc⟩
 ·have:=Dj hS (λ_=>1) f _ _ hl h2;have e:((s.hit n).enter n).tj (λ_=>1)=(s.hit n).tj (λ_=>1):=rfl;omega
 ·have hb2:((s.hit n).enter n).Bd S (c+1-(S n).length):=by
   intro i;show(s.hit n).met.getD i 0+((s.hit n).tj (λx=>(S x).length):Nat)≤_;rw[gY cC hn];have h1:=pZ i;have h3:=pZ n;split<;>omega
  have:=Hh hS f _ _ _ hl h2 hb2;rwa[List.length_take,Nat.min_eq_left hk]at this
theorem iU (G:List Nd)(x:Nat)(h:x<G.length):aD G x=G[x].subs.map Int.toNat:=by
 unfold aD;rw[zai h]
theorem mq (l:List Int)(all:Int)(h:fq l all=true)(k:Nat)(hk:k<l.length):0≤l.getD k 0∧l.getD k 0<all:=by
 unfold fq at h;have:=zaE.1 h _ (zaN hk);simp[List.getD,List.getElem?_eq_getElem hk]at this ⊢;exact this
theorem kU (G:List Nd)(kj:∀x (h:x<G.length),fq G[x].subs G.length=true):∀x,x<G.length→∀y∈aD G x,y<G.length:=by
 intro x hx y hy;rw[iU G x hx]at hy;obtain⟨v,hv,rfl⟩:=zaH.1 hy;have:=zaE.1 (kj x hx) v hv;simp at this;omega
theorem MX (G:List Nd)(b o cap:Nat)(W0:World)(hG:Hid (bM W0 b o G))(_hn:G.length≤150)(kj:Hid (∀x (h:x<G.length),fq G[x].subs G.length=true))(p bo bm bw:Nat)(A:Apart W0.heap.size p bo bm bw):∀(f:Nat) (s:WS) (a:Int) (w:World) (c:Nat),s.Ok G.length→0≤a→a<G.length→s.tj (λ_=>1)<f→s.Bd (aD G) c→c+1≤1000000→Below W0.heap.size W0 w→fM w p bo bm bw G.length (.slice (some ⟨b,o,none⟩) G.length cap) s→Calls prog 45 #[.pointer (some ⟨p,0,none⟩),.int .i64 a] w λe w'=>e=.returned (.tuple #[])∧fM w' p bo bm bw G.length (.slice (some ⟨b,o,none⟩) G.length cap) (cq (aD G) f s a.toNat)∧Below W0.heap.size W0 w':=by
 intro f
 induction f with
 |zero=>intro s a w c _ _ _ h;omega
 |succ f ih=>
  intro s a w c cC ha0 ha hf pZ hc hb hw;have IH:Hid _:=ih;clear ih;obtain⟨n,rfl⟩:=zbl ha0;rw[zaB];have jL:n<G.length:=by omega
  have PT:n<s.met.length:=by rw[cC.lm];exact jL
  have hbn:=pZ n;have hnn:=cC.nn n;have TY:=hw.hit A PT;have hb1:Below W0.heap.size W0 (w.setCell ⟨bm,n,none⟩ (.int .i64 (s.met.getD n 0+1))):=hb.setCell A.hm _;obtain⟨c0,c1,c2,c3,rm,S1,ro⟩:=hw;have hmc:=(rm n PT).1;have hmf:=(rm n PT).2;have Bq:Hid _:=cC;have ZA:Hid _:=pZ;have hval:∃m:Int,Hid (m=s.met.getD n 0):=⟨_,rfl⟩;obtain⟨m,hm⟩:=hval;have S2:(s.hit n).met.getD n 0=m+1:=by rw[gY cC jL,if_pos rfl,hm.out]
  rw[←hm.out]at hmc hnn hbn hb1 TY;have OG:m≤1000000:=by omega
  have k8:Hid _:=hb1;have JK:Hid _:=TY;have HM1:Hid _:=S2;clear TY cC pZ hb1 rm S1 ro PT hbn S2;go_enter func45,ntmps45
  go_upto_region 1 with fail
  generalize w.setCell ⟨bm,n,none⟩ (.int .i64 (m+1))=w1 at *;clear c0 c1 c2 c3 hmc hmf;obtain⟨d0,d1,d2,d3,rm,S1,ro⟩:=JK.out;have PT:n<(s.hit n).met.length:=by rw[(Bq.out.hit jL).lm];exact jL
  have ZB:n<(s.hit n).wi.length:=by rw[(Bq.out.hit jL).lw];exact jL
  have FE:n<(s.hit n).op.length:=by rw[(Bq.out.hit jL).lo];exact jL
  have e0:=(rm n PT).1;rw[HM1.out]at e0;by_cases MD:0<m
  ·have e1:=(S1 n ZB).1;have e2:=(S1 n ZB).2;have e3:=(ro n FE).1;have HA:Hid _:=JK.out.again A ZB;have HBa:Hid _:=λv=>k8.out.setCell (p:=⟨bw,n,none⟩) A.hw v;have HF:Hid (cq (aD G) (f+1) s n=(s.hit n).again n):=by show _=_;simp only[cq];rw[if_pos (by rw[←hm.out];exact MD)]
   rw[show(s.hit n).wi=s.wi from rfl]at e1 HA;rw[show(s.hit n).op=s.op from rfl]at e3 HA;clear rm S1 ro PT ZB FE IH;cases Ku:s.wi.getD n false
   ·cases hop:s.op.getD n false
    ·rw[Ku]at e1;rw[hop]at e3;rw[Ku,hop]at HA;clear Ku hop;go_wp2_with fail;go_region;go_wp2_with fail;refine bodyPost_ret (results_none rfl _ _ _) rfl ?_;refine⟨rfl,?_,?_⟩
     ·rw[HF.out];exact HA.out.drew
     ·exact(HBa.out _).drew
    ·rw[Ku]at e1;rw[hop]at e3;rw[Ku,hop]at HA;clear Ku hop;go_wp2_with fail;go_region;go_wp2_with fail;refine bodyPost_ret (results_none rfl _ _ _) rfl ?_;refine⟨rfl,?_,?_⟩
     ·rw[HF.out];exact HA.out.drew
     ·exact(HBa.out _).drew
   ·rw[Ku]at e1;rw[Ku,Bool.true_or]at HA;clear Ku e3;go_wp2_with fail;go_region;go_wp2_with fail;refine bodyPost_ret (results_none rfl _ _ _) rfl ?_;refine⟨rfl,?_,?_⟩
    ·rw[HF.out];exact HA.out.drew
    ·exact(HBa.out _).drew
  ·have Ii:m≤0:=by omega
   have e3:=(ro n FE).1;have e4:=(ro n FE).2;have HE:Hid _:=JK.out.MU A FE true;have HBe:Hid _:=k8.out.setCell (p:=⟨bo,n,none⟩) A.ho (.bool true);have HF:Hid (cq (aD G) (f+1) s n=((aD G n).foldl (cq (aD G) f) ((s.hit n).enter n)).leave n):=by show _=_;simp only[cq];rw[if_neg (by rw[←hm.out];exact MD)]
   have HM0:Hid (s.met.getD n 0=0):=by show _=_;rw[←hm.out];omega
   have HS:Hid _:=kU G kj.out;have ZC:=(hG.out n jL).below HBe.out;have HSN:Hid _:=iU G n jL;have HSB:Hid _:=kj.out n jL;have HI0:Hid _:=(hG.out n jL).ints;clear rm S1 ro PT ZB FE hm MD
   go_upto_region 4 with fail
   generalize w1.setCell ⟨bo,n,none⟩ (.bool true)=w2 at *;obtain⟨c0,c1,c2,c3,c4,hi,ht,hs⟩:=ZC;have HI:Hid _:=hi;have HL:Hid _:=hs;obtain⟨f0,f1,f2,f3,rm,S1,ro⟩:=HE.out;clear d0 d1 d2 d3 e0 e3 e4 c0 c1 c2 c3 hi ht hs f1 f2 f3 rm S1 ro k8 JK HM1;generalize G[n]=x at *;rcases HI0.out with h|⟨sb,so,Bx,hc⟩
   ·have HE0:Hid _:=h;clear h;go_wp2_with fail;go_loopw [64] (λi wr=>∃k:Nat,k≤x.subs.length∧i=.int .i64 k∧Hid (fM wr p bo bm bw G.length (.slice (some ⟨b,o,none⟩) G.length cap) (((aD G n).take k).foldl (cq (aD G) f) ((s.hit n).enter n)))∧Hid (Below W0.heap.size W0 wr)) (λi _=>x.subs.length-(intOf i).toNat)
    case atStart=>exact⟨0,zaj _,rfl,HE.out,HBe.out⟩
    case round=>
     obtain⟨k,hk,rfl,xu,DU⟩:=hrel;have Py:(aD G n).length=x.subs.length:=by rw[HSN.out];simp
     have Kv:Hid _:=Py;clear Py;by_cases hlt:k<x.subs.length
     ·exfalso;rw[HE0.out]at hlt;simp at hlt
     ·have N8:k=x.subs.length:=by omega
      have hw4:=xu.out;rw[zaI (by rw[Kv.out];omega)]at hw4;have A8:=(qp HS.out f s n c (aD G n).length Bq.out jL hf ZA.out HM0.out (zaa _)).1;rw[zaI (zaa _)]at A8;have FE:n<((aD G n).foldl (cq (aD G) f) ((s.hit n).enter n)).op.length:=by rw[A8.lo];exact jL
      have jK:Hid _:=hw4.MU A FE false;have sk:Hid _:=DU.out.setCell (p:=⟨bo,n,none⟩) A.ho (.bool false);have g1:=hw4.c1;obtain⟨g2,g3⟩:=hw4.ro n FE;clear hw4 FE A8 xu DU;generalize ((aD G n).foldl (cq (aD G) f) ((s.hit n).enter n))=t at *;generalize t.op.getD n false=ob at *;go_wp2_with fail
      go_end0
      refine⟨rfl,?_,sk.out⟩;rw[HF.out];exact jK.out
   ·have HC:Hid _:=hc;rw[Bx]at c4;clear hc Bx;go_wp2_with fail;go_loopw [64] (λi wr=>∃k:Nat,k≤x.subs.length∧i=.int .i64 k∧Hid (fM wr p bo bm bw G.length (.slice (some ⟨b,o,none⟩) G.length cap) (((aD G n).take k).foldl (cq (aD G) f) ((s.hit n).enter n)))∧Hid (Below W0.heap.size W0 wr)) (λi _=>x.subs.length-(intOf i).toNat)
    case atStart=>exact⟨0,zaj _,rfl,HE.out,HBe.out⟩
    case round=>
     obtain⟨k,hk,rfl,xu,DU⟩:=hrel;have Py:(aD G n).length=x.subs.length:=by rw[HSN.out];simp
     have Kv:Hid _:=Py;clear Py;by_cases hlt:k<x.subs.length
     ·have hcell:=cj DU.out (HC.out k hlt);obtain⟨tok,ZE,tbd,tc⟩:=qp HS.out f s n c k Bq.out jL hf ZA.out HM0.out (by rw[Kv.out];omega);obtain⟨v0,v1⟩:=mq _ _ HSB.out k hlt;have S3:(aD G n)[k]'(by rw[Kv.out];exact hlt)=(x.subs.getD k 0).toNat:=by
       have e:∀(l:List Nat) (hl:k<l.length),l=x.subs.map Int.toNat→l[k]=(x.subs.getD k 0).toNat:=by
        intro l hl e;subst e;simp[List.getD,List.getElem?_eq_getElem hlt]
       exact e _ _ HSN.out
      have S4:Hid _:=FD (aD G) f ((s.hit n).enter n) (aD G n) k (by rw[Kv.out];exact hlt);rw[S3]at S4;have eG:c+1-(aD G n).length + k+1≤1000000:=by have:=Kv.out;omega
      have HCL:Hid _:=eG;have hsl:x.subs.length≤1000000:=by have:=Kv.out;omega
      have TOK:Hid _:=tok;have abF:Hid _:=ZE;have TBD:Hid _:=tbd;clear tok ZE tbd tc S3 eG;generalize x.subs.getD k 0=v at *;go_wp2_with fail;refine(IH.out _ v _ _ TOK.out v0 v1 abF.out TBD.out HCL.out DU.out xu.out).mono ?_;rintro e w3 ⟨rfl,hw3,hb3⟩;rw[←S4.out]at hw3;have xT:Hid _:=hw3;have iz:Hid _:=hb3;clear hw3 hb3 xu DU hcell;go_wp2_with fail;go_roundw
      case rel=>exact⟨k+1,by omega,by go_num,xT,iz⟩
      case measure=>simp[intOf];omega
     ·have N8:k=x.subs.length:=by omega
      have hw4:=xu.out;rw[zaI (by rw[Kv.out];omega)]at hw4;have A8:=(qp HS.out f s n c (aD G n).length Bq.out jL hf ZA.out HM0.out (zaa _)).1;rw[zaI (zaa _)]at A8;have FE:n<((aD G n).foldl (cq (aD G) f) ((s.hit n).enter n)).op.length:=by rw[A8.lo];exact jL
      have jK:Hid _:=hw4.MU A FE false;have sk:Hid _:=DU.out.setCell (p:=⟨bo,n,none⟩) A.ho (.bool false);have g1:=hw4.c1;obtain⟨g2,g3⟩:=hw4.ro n FE;clear hw4 FE A8 xu DU;generalize ((aD G n).foldl (cq (aD G) f) ((s.hit n).enter n))=t at *;generalize t.op.getD n false=ob at *;go_wp2_with fail
      go_end0
      refine⟨rfl,?_,sk.out⟩;rw[HF.out];exact jK.out
end Go.Proofs.YtlhimdjkkiflhaaGreatDoor
namespace Go.Proofs.YtlhimdjkkiflhaaGreatDoor
open Go.RowKit Go.Loop
structure Kept (p q:Nat) (w w':World):Prop where
 os:w'.os=w.os
 tape:w'.tape=w.tape
 output:w'.output=w.output
 size:w.heap.size≤w'.heap.size
 block:∀k,k<w.heap.size→k≠p→k≠q→w'.heap[k]?=w.heap[k]?
theorem Kept.refl (p q:Nat)(w:World):Kept p q w w:=⟨rfl,rfl,rfl,zaa _,λ_ _ _ _=>rfl⟩
def bF (G:List Nd)(x:Nat):Int:=match G[x]? with|some y=>y.kind|none=>0
def kV (G:List Nd)(x:Nat):List UInt8:=match G[x]? with|some y=>fT y|none=>[]
theorem kW (G:List Nd)(x:Nat)(h:x<G.length):bF G x=G[x].kind:=by unfold bF;rw[zai h]
theorem FH (G:List Nd)(x:Nat)(h:x<G.length):kV G x=fT G[x]:=by unfold kV;rw[zai h]
theorem oB (G:List Nd)(x:Nat)(h:x<G.length)(k:Nat)(hk:k<G[x].subs.length):(aD G x).getD k 0=(G[x].subs.getD k 0).toNat:=by
 rw[iU G x h];simp[List.getD,List.getElem?_eq_getElem hk]
theorem xv (G:List Nd)(y:Nat)(hy:y<G.length)(hb:bp G[y]=true)(hk:bF G y=1):(aD G y).length=2:=by
 rw[iU G y hy,zbn];rw[kW G y hy]at hk;unfold bp at hb;rw[if_neg (by omega),if_pos hk]at hb;simp at hb;exact hb.1
theorem Dk {t:TS}(h:t.long=false)(ho:t.out.length≤400)(a:Nat):need (t.put a)<need t:=by
 have:need (t.put a)=need (t.add (35::(Lib.itoa t.next++[61]))):=rfl;rw[this];exact rV h ho (by simp)
end Go.Proofs.YtlhimdjkkiflhaaGreatDoor
namespace Go.Proofs.YtlhimdjkkiflhaaGreatDoor
open Go.Proofs.Tryz
open Go.RowKit Go.Loop
structure dv (w:World) (B p bl bL n:Nat) (nv:Value) (t:TS) (v:Value):Prop where
 hB:B≤p
 blk:∃q,(q=.pointer none∨q=.pointer (some ⟨p,4,none⟩))∧
  w.heap[p]?=some (.cells #[nv,.slice (some ⟨bL,0,none⟩) n n,.slice (some ⟨bl,0,none⟩) n n,.int .i64 t.next,q,v,.bool t.long] 118 (0,0))
 own:w.ownsRow B 5 1 v (Lib.byteCells t.out).length (Lib.byteCells t.out)
 rl:k9 w bl t.eL
 nb:v.ownBlock≠some bl
 ol:t.out.length≤400
 bl:bl<w.heap.size
structure bu (w w':World) (p bl:Nat) (v v':Value):Prop where
 os:w'.os=w.os
 tape:w'.tape=w.tape
 output:w'.output=w.output
 size:w.heap.size≤w'.heap.size
 block:∀k,k<w.heap.size→k≠p→k≠bl→some k≠v.ownBlock→w'.heap[k]?=w.heap[k]?
 buf:v'.ownBlock=v.ownBlock∨∃k,v'.ownBlock=some k∧w.heap.size≤k
theorem bu.refl (w:World)(p bl:Nat)(v:Value):bu w w p bl v v:=⟨rfl,rfl,rfl,zaa _,λ_ _ _ _ _=>rfl,Or.inl rfl⟩
theorem bu.trans {w w' w'':World}{p bl:Nat}{v v' YE:Value}(h:bu w w' p bl v v')(k:bu w' w'' p bl v' YE):bu w w'' p bl v YE:=by
 refine⟨k.os.trans h.os,k.tape.trans h.tape,k.output.trans h.output,zad h.size k.size,λi hi hb hl hv=>?_,?_⟩
 ·have hne:some i≠v'.ownBlock:=by
   rcases h.buf with e|⟨g,e,hg⟩
   ·rw[e];exact hv
   ·rw[e];intro x;simp only[zap]at x;omega
  exact(k.block i (zaq hi h.size) hb hl hne).trans (h.block i hi hb hl hv)
 ·rcases k.buf with e|⟨g,e,hg⟩
  ·rw[e];exact h.buf
  ·exact Or.inr ⟨g,e,zad h.size hg⟩
theorem bu.aJ {w w':World}{p bl:Nat}{v:Value}(h:Below w.heap.size w w'):bu w w' p bl v v:=⟨h.os,h.tape,h.output,h.size,λk hk _ _ _=>h.block k hk,Or.inl rfl⟩
theorem bu.ZF {w w':World}{p bl:Nat}{v v':Value}(h:iy w w' p v v'):bu w w' p bl v v':=⟨h.os,h.tape,h.output,h.size,λk hk hp _ hv=>h.block k hk hp hv,h.buf⟩
theorem bu.set {w:World}{p bl:Nat}{v:Value}{x:Addr}(hx:x.block=p∨x.block=bl)(u:Value):bu w (w.setCell x u) p bl v v:=
 ⟨rfl,rfl,rfl,by simp[World.setCell],λk _ h1 h2 _=>Below.heap_setCell _ _ _ _ (by rcases hx with h|h<;>omega),Or.inl rfl⟩
theorem bu.below {w w':World}{B p bl:Nat}{v v':Value}(h:bu w w' p bl v v')(hB:B≤w.heap.size)(hp:B≤p)(hl:B≤bl)(hv:∀k,v.ownBlock=some k→B≤k):Below B w w':=
 ⟨h.os,h.tape,h.output,h.size,λk hk=>h.block k (by omega) (by omega) (by omega) (λe=>by have:=hv k e.symm;omega)⟩
theorem k9.of_block {w w':World}{b:Nat}{l:List Int}(h:k9 w b l)(e:w'.heap[b]?=w.heap[b]?):k9 w' b l:=λi hi=>by
 rw[World.cell?_of_block (w:=w) (w':=w') (a:=⟨b,i,none⟩) e,World.frozen?_of_block (w:=w) (w':=w') (a:=⟨b,i,none⟩) e];exact h i hi
theorem dv.MZ {w:World}{B p bl bL n:Nat}{nv:Value}{t:TS}{v:Value}(h:dv w B p bl bL n nv t v):∀k,v.ownBlock=some k→B≤k:=λk hk=>(h.own.lt k hk).1
theorem wT:118≠5:=by decide
theorem dv.bld {w:World}{B p bl bL n:Nat}{nv:Value}{t:TS}{v:Value}(h:dv w B p bl bL n nv t v):∃q,(q=.pointer none∨q=.pointer (some ⟨p,4,none⟩))∧fC w 118 4 B p #[nv,.slice (some ⟨bL,0,none⟩) n n,.slice (some ⟨bl,0,none⟩) n n,.int .i64 t.next,q,v,.bool t.long] v (Lib.byteCells t.out):=by
 obtain⟨q,hq,hb⟩:=h.blk;exact⟨q,hq,h.hB,hb,by rcases hq with rfl|rfl<;>simp,rfl,h.own⟩
theorem dv.mark {w:World}{B p bl bL n:Nat}{nv:Value}{t:TS}{v:Value}(h:dv w B p bl bL n nv t v)(hne:p≠bl):dv (w.setCell ⟨p,6,none⟩ (.bool true)) B p bl bL n nv { t with long:=true } v:=by
 obtain⟨q,hq,hb⟩:=h.blk;have hn:=Lib.ownBlock_ne h.own hb wT;refine⟨h.hB,⟨q,hq,?_⟩,?_,?_,h.nb,h.ol,?_⟩
 ·have:=heap_setCell_same w p 6 _ _ (.bool true) hb;exact this
 ·exact h.own.kept (row:=some p) ⟨rfl,rfl,rfl,by simp[World.setCell],λk _ hk=>Below.heap_setCell _ _ _ _ (λe=>hk (by simp[e]))⟩ (Or.inr hn)
 ·exact h.rl.of_block (Below.heap_setCell _ _ _ _ (λe=>hne e.symm))
 ·have:=h.bl;simpa[World.setCell]using this
theorem dv.wrote {w w':World}{B p bl bL n:Nat}{nv:Value}{t:TS}{v v':Value}{s:List UInt8}{q:Value}(h:dv w B p bl bL n nv t v)(hne:p≠bl)(hl:t.long=false)(hs:t.out.length+s.length≤400)
 (h1:fC w' 118 4 B p ((kL 4 p #[nv,.slice (some ⟨bL,0,none⟩) n n,.slice (some ⟨bl,0,none⟩) n n,.int .i64 t.next,q,v,.bool t.long]).setIfInBounds (4+1) v') v' (Lib.byteCells t.out++Lib.strCells ⟨⟨s⟩⟩))
 (h2:iy w w' p v v'):dv w' B p bl bL n nv (t.add s) v'∧bu w w' p bl v v':=by
 rw[kT hl hs];have e1:Lib.byteCells (t.out++s)=Lib.byteCells t.out++Lib.strCells ⟨⟨s⟩⟩:=by rw[Lib.byteCells_append];rfl
 refine⟨⟨h.hB,⟨_,Or.inr rfl,h1.blk⟩,?_,?_,?_,?_,zaq h.bl h2.size⟩,bu.ZF h2⟩
 ·show World.ownsRow _ _ _ _ _ (Lib.byteCells (t.out++s)).length (Lib.byteCells (t.out++s));rw[e1];exact h1.own
 ·exact h.rl.of_block (h2.block bl h.bl (λe=>hne e.symm) (λe=>h.nb e.symm))
 ·rcases h2.buf with e|⟨k,e,hk⟩
  ·rw[e];exact h.nb
  ·rw[e];intro x;simp only[zap]at x;have:=h.bl;omega
 ·show(t.out++s).length≤400;rw[zaw];exact hs
theorem fN {w:World}{B p bl bL n:Nat}{nv:Value}{t:TS}{v:Value}(h:dv w B p bl bL n nv t v)(hne:p≠bl)(Po:B≤w.heap.size)(s:List UInt8):Calls prog 99 #[.pointer (some ⟨p,0,none⟩),.string ⟨⟨s⟩⟩] w λe w'=>e=.returned (.tuple #[])∧∃v',dv w' B p bl bL n nv (t.add s) v'∧bu w w' p bl v v':=by
 obtain⟨q,hq,FI⟩:=h.bld;have HBL:Hid _:=FI;have HW:Hid (dv w B p bl bL n nv t v):=h;have FE:=h.ol;have e0:(Lib.byteCells t.out).length=t.out.length:=Lib.byteCells_length _;have c6:w.cell? ⟨p,6,none⟩=some (.bool t.long):=FI.cell 6;have f6:w.frozen? ⟨p,6,none⟩=false:=FI.frozen 6;clear FI h hq;by_cases hov:400<t.out.length+s.length
 ·have HM:Hid _:=HW.out.mark hne;have HA:Hid (t.add s={ t with long:=true }):=by
   show _=_;cases hl:t.long
   ·rw[kR hl hov]
   ·rw[dT hl,←hl]
  go_enter func99,ntmps99;go_wp2_with (go_at_call 153;refine(qh HBL.out).mono ?_);rintro e w1 ⟨rfl,rfl⟩;rw[e0];go_wp2_with fail
  go_end0
  exact⟨rfl,v,by rw[HA.out];exact HM.out,bu.set (Or.inl rfl) _⟩
 ·cases hl:t.long
  ·rw[hl]at c6;go_enter func99,ntmps99;go_wp2_with (go_at_call 153;refine(qh HBL.out).mono ?_);rintro e w1 ⟨rfl,rfl⟩;rw[e0];go_wp2_with (go_at_call 154;refine(nu CG wT HBL.out ⟨⟨s⟩⟩ (by show _+s.length≤_;omega) Po).mono ?_);rintro e w2 ⟨rfl,v',h1,h2⟩;have HR:Hid _:=HW.out.wrote hne hl (by omega) h1 h2;clear h1 h2;go_wp2_with fail
   go_end0
   exact⟨rfl,v',HR.out⟩
  ·rw[hl]at c6;have HA:Hid (t.add s=t):=dT hl s;go_enter func99,ntmps99;go_wp2_with (go_at_call 153;refine(qh HBL.out).mono ?_);rintro e w1 ⟨rfl,rfl⟩;rw[e0];go_wp2_with fail
   go_end0
   exact⟨rfl,v,by rw[HA.out];exact HW.out,bu.refl _ _ _ _⟩
def TS.lay (t:TS)(a:Nat):TS:={ t with eL:=t.eL.set a t.next,next:=t.next+1 }
theorem PU (t:TS)(a:Nat):(TS.lay t a).add (35::(Lib.itoa t.next++[61]))=t.put a:=by
 cases hl:t.long
 ·by_cases h:400<t.out.length+(35::(Lib.itoa t.next++[61])).length
  ·rw[kR (t:=TS.lay t a) hl h];unfold TS.put;rw[kR hl h];rfl
  ·rw[kT (t:=TS.lay t a) hl (by show t.out.length+_≤400;omega)];unfold TS.put;rw[kT hl (by omega)];rfl
 ·rw[dT (t:=TS.lay t a) hl];unfold TS.put;rw[dT hl];rfl
theorem dv.lay {w:World}{B p bl bL n:Nat}{nv:Value}{t:TS}{v:Value}(h:dv w B p bl bL n nv t v)(hne:p≠bl){a:Nat}(ha:a<t.eL.length):dv ((w.setCell ⟨bl,a,none⟩ (.int .i64 t.next)).setCell ⟨p,3,none⟩ (.int .i64 (t.next+1))) B p bl bL n nv (TS.lay t a) v:=by
 obtain⟨q,hq,hb⟩:=h.blk;have hn:=Lib.ownBlock_ne h.own hb wT;have hb1:(w.setCell ⟨bl,a,none⟩ (.int .i64 t.next)).heap[p]?=some (.cells #[nv,.slice (some ⟨bL,0,none⟩) n n,.slice (some ⟨bl,0,none⟩) n n,.int .i64 t.next,q,v,.bool t.long] 118 (0,0)):=
  (Below.heap_setCell _ _ _ _ hne).trans hb
 have o1:=h.own.kept (w':=w.setCell ⟨bl,a,none⟩ (.int .i64 t.next)) (row:=some bl) ⟨rfl,rfl,rfl,by simp[World.setCell],λk _ hk=>Below.heap_setCell _ _ _ _ (λe=>hk (by simp[e]))⟩ (Or.inr h.nb);refine⟨h.hB,⟨q,hq,?_⟩,?_,?_,h.nb,h.ol,?_⟩
 ·have:=heap_setCell_same (w.setCell ⟨bl,a,none⟩ (.int .i64 t.next)) p 3 _ _ (.int .i64 (t.next+1)) hb1;exact this
 ·exact o1.kept (row:=some p) ⟨rfl,rfl,rfl,by simp[World.setCell],λk _ hk=>Below.heap_setCell _ _ _ _ (λe=>hk (by simp[e]))⟩ (Or.inr hn)
 ·exact(h.rl.set a ha t.next).of_block (Below.heap_setCell _ _ _ _ (λe=>hne e.symm))
 ·have:=h.bl;simpa[World.setCell]using this
def ZG (B:Nat)(w:World):Prop:=∀w',Below B w w'→Pow w'
theorem dv.drew {w:World}{B p bl bL n:Nat}{nv:Value}{t:TS}{v:Value}(h:dv w B p bl bL n nv t v):dv w.drew B p bl bL n nv t v:=⟨h.hB,h.blk,h.own,h.rl,h.nb,h.ol,h.bl⟩
theorem dv.lt {w:World}{B p bl bL n:Nat}{nv:Value}{t:TS}{v:Value}(h:dv w B p bl bL n nv t v):p<w.heap.size:=by
 obtain⟨q,hq,hb⟩:=h.blk;exact(zae.1 hb).1
theorem dv.below {w w':World}{B p bl bL n:Nat}{nv:Value}{t:TS}{v:Value}(h:dv w B p bl bL n nv t v)(hb:Below w.heap.size w w'):dv w' B p bl bL n nv t v:=by
 obtain⟨q,hq,hk⟩:=h.blk;refine⟨h.hB,⟨q,hq,(hb.block p h.lt).trans hk⟩,?_,h.rl.of_block (hb.block bl h.bl),h.nb,h.ol,zaq h.bl hb.size⟩;exact h.own.kept (row:=none) ⟨hb.os,hb.tape,hb.output,hb.size,λk hk _=>hb.block k hk⟩ (by cases v.ownBlock<;>simp)
theorem PV {w:World}{B p bl bL n:Nat}{nv:Value}{t:TS}{v:Value}(h:dv w B p bl bL n nv t v)(hne:p≠bl)(Po:B≤w.heap.size)(hn:t.eL.length=n)(xY:t.next≤401)(a:Nat)(ha:a<n)(hBl:B≤bl)(hp:ZG B w):Calls prog 101 #[.pointer (some ⟨p,0,none⟩),.int .i64 a] w λe w'=>e=.returned (.tuple #[])∧∃v',dv w' B p bl bL n nv (t.put a) v'∧bu w w' p bl v v':=by
 have HL:Hid _:=h.lay hne (a:=a) (by omega);have HKL:Hid (bu w ((w.setCell ⟨bl,a,none⟩ (.int .i64 t.next)).setCell ⟨p,3,none⟩ (.int .i64 (t.next+1))) p bl v v):=
  (bu.set (x:=⟨bl,a,none⟩) (Or.inr rfl) _).trans (bu.set (x:=⟨p,3,none⟩) (Or.inl rfl) _)
 obtain⟨q,hq,hb⟩:=h.blk;have c2:w.cell? ⟨p,2,none⟩=some (.slice (some ⟨bl,0,none⟩) n n):=Lib.cell_of_heap hb 2;have c3:w.cell? ⟨p,3,none⟩=some (.int .i64 t.next):=Lib.cell_of_heap hb 3;have f3:w.frozen? ⟨p,3,none⟩=false:=Lib.frozen_of_heap hb 3;obtain⟨ca,fa⟩:=h.rl a (by omega);have HP:Hid (ZG B w):=hp;have HLW:Hid (dv w B p bl bL n nv t v):=h;have hlen:=rY t.next (by omega) (by omega);have ks:=ve;clear hp hb hq h;go_enter func101,ntmps101;go_wp2_with fail;go_region;all_goals
  go_wp2_with (go_at_call 100;refine(oA t.next _ (by omega) (by omega) (HP.out _ (HKL.out.below Po HLW.out.hB hBl HLW.out.MZ).drew)).mono ?_);rintro e w1 ⟨rfl,hb1⟩;have k8:Hid (dv w1 B p bl bL n nv (TS.lay t a) v):=HL.out.drew.below hb1;have zu:Hid (bu w w1 p bl v v):=HKL.out.trans (bu.aJ (((Below.refl _ _).drew).trans hb1));clear hb1;go_wp2_with (go_at_call 99;refine(fN k8.out hne (zad Po zu.out.size) (35::(Lib.itoa t.next++[61]))).mono ?_);rintro e w2 ⟨rfl,v',h2,h3⟩;have H2:Hid (dv w2 B p bl bL n nv (t.put a) v'):=by rw[PU]at h2;exact h2
  have H3:Hid (bu w w2 p bl v v'):=zu.out.trans h3;clear h2 h3;go_wp2_with fail
  go_end0
  exact⟨rfl,v',H2.out,H3.out⟩
structure Dl (G:List Nd) (b o:Nat) (W0:World) (p bl bL:Nat) (L:Nat→Bool) (Rc:Nat→Prop) (rk:Nat→Nat):Prop where
 hG:bM W0 b o G
 hk:∀x (h:x<G.length),bp G[x]=true
 hs:∀x (h:x<G.length),fq G[x].subs G.length=true
 hn:G.length≤150
 hp:W0.heap.size≤p
 hl:W0.heap.size≤bl
 pl:p≠bl
 hL:∀i,i<G.length→W0.cell? ⟨bL,i,none⟩=some (.bool (L i))
 pw:Pow W0
 rc:∀x,Rc x→∀y∈aD G x,Rc y
 rr:∀x,Rc x→∀y∈aD G x,bF G y=1→L y=false→rk y<rk x
def Dm (G:List Nd)(b o cap:Nat)(W0:World)(p bl bL:Nat)(L:Nat→Bool)(Rc:Nat→Prop)(f:Nat):Prop:=
 ∀(t:TS) (a:Int) (w:World) (v:Value),t.Ok G.length L→0≤a→a<G.length→Rc a.toNat→need t≤f→Below W0.heap.size W0 w→dv w W0.heap.size p bl bL G.length (.slice (some ⟨b,o,none⟩) G.length cap) t v→
  Calls prog 62 #[.pointer (some ⟨p,0,none⟩),.int .i64 a] w λe w'=>e=.returned (.tuple #[])∧
   ∃v',dv w' W0.heap.size p bl bL G.length (.slice (some ⟨b,o,none⟩) G.length cap) (WF (bF G) (aD G) (kV G) L f false t a.toNat) v'∧bu w w' p bl v v'
theorem oC (G:List Nd)(x:Nat)(h:x<G.length)(k:Nat)(hk:k<G[x].subs.length):(G[x].subs.getD k 0).toNat∈aD G x:=by
 rw[iU G x h];simp only[zaH];exact⟨G[x].subs.getD k 0,by simp[List.getD,List.getElem?_eq_getElem hk],rfl⟩
theorem bu.box {w w':World}{p bl:Nat}{v v':Value}{cs:Array Value}{T:TypeId}(h:bu (w.alloc (.cells cs T)) w' p bl v v')(hp:p<w.heap.size)(hl:bl<w.heap.size)(hv:∀k,v.ownBlock=some k→k<w.heap.size):∀i z,cs[i]?=some z→w'.cell? ⟨w.heap.size,i,none⟩=some z:=λi z hz=>by
 have:=h.block w.heap.size (by simp) (by omega) (by omega) (λe=>by have:=hv _ e.symm;omega);rw[Lib.cell_of_heap (this.trans (heap_alloc_new w _))];exact hz
theorem dv.S5 {w:World}{B p bl bL n:Nat}{nv:Value}{t:TS}{v:Value}(h:dv w B p bl bL n nv t v):∀k,v.ownBlock=some k→k<w.heap.size:=λk hk=>(h.own.lt k hk).2
theorem ud (G:List Nd)(b o cap:Nat)(W0:World)(p bl bL:Nat)(L:Nat→Bool)(Rc:Nat→Prop)(rk:Nat→Nat)(C:Dl G b o W0 p bl bL L Rc rk)(f:Nat)(IA:Hid (Dm G b o cap W0 p bl bL L Rc f))
 (n:Nat)(jL:n<G.length)(M0:Rc n)(k2:G[n].kind=2)(t:TS)(w:World)(v:Value)(ht:t.Ok G.length L)(hf:need (t.add [35,40])≤f)(hb:Below W0.heap.size W0 w)
 (U2:∀x,x<G.length→∀y∈aD G x,y<G.length)(pA:∀x,x<G.length→bF G x=1→(aD G x).length=2)
 (hw:dv w W0.heap.size p bl bL G.length (.slice (some ⟨b,o,none⟩) G.length cap) t v):
 Calls prog 103 #[.pointer (some ⟨p,0,none⟩),dD G[n]] w λe w'=>e=.returned (.tuple #[])∧
  ∃v',dv w' W0.heap.size p bl bL G.length (.slice (some ⟨b,o,none⟩) G.length cap) ((gR (WF (bF G) (aD G) (kV G) L f false) (aD G n) (aD G n).length (t.add [35,40])).add [41]) v'∧bu w w' p bl v v':=by
 have HC:Hid (Dl G b o W0 p bl bL L Rc rk):=C;have HB:Hid (Below W0.heap.size W0 w):=hb;have Xl:Hid _:=(C.hG n jL).ints;have HXS:Hid _:=C.hs n jL;have S6:Hid _:=C.hk n jL;have HSG:Hid (∀k,k<G[n].subs.length→(aD G n).getD k 0=(G[n].subs.getD k 0).toNat):=λk hk=>oB G n jL k hk;have HRC:Hid (∀k,k<G[n].subs.length→Rc (G[n].subs.getD k 0).toNat):=λk hk=>C.rc n M0 _ (oC G n jL k hk);have Kv:Hid ((aD G n).length=G[n].subs.length):=by show _=_;rw[iU G n jL];simp
 generalize G[n]=x at *;have SU:Hid (∀k,need (gR (WF (bF G) (aD G) (kV G) L f false) (aD G n) k (t.add [35,40]))≤f):=λk=>zad (rX (λt y=>gZ f false t y) _ _ _) hf;have HOV:Hid (∀k,k≤x.subs.length→(gR (WF (bF G) (aD G) (kV G) L f false) (aD G n) k (t.add [35,40])).Ok G.length L):=λk hk=>
  FA (λt y ht hy=>rU U2 pA f false t y ht hy) (aD G n) (U2 n jL) k _ (by rw[Kv.out];exact hk) (ht.add _)
 have hlen:x.subs.length≤20:=by have:=S6.out;unfold bp at this;rw[if_neg (by omega),if_neg (by omega),if_pos k2]at this;simp at this;exact this.1
 have HBX:Hid (dv (w.alloc (.cells #[.int .i64 x.kind,.string ⟨⟨x.text⟩⟩,.int .i64 x.n,.int .i64 x.d,.slice x.sa x.subs.length x.cap] 45)) W0.heap.size p bl bL G.length (.slice (some ⟨b,o,none⟩) G.length cap) t v):=hw.below aG;have yA:Hid _:=(⟨hw.lt,hw.bl,hw.S5⟩:p<w.heap.size∧bl<w.heap.size∧∀k,v.ownBlock=some k→k<w.heap.size);have hsz:=hb.size;have hne:=C.pl;have DX:Hid (∀w' v',bu w w' p bl v v'→Below W0.heap.size W0 w'):=λw' v' h=>hb.trans (h.below hsz C.hp C.hl hw.MZ);clear k2 C hb ht hf hw U2 pA M0;unfold dD;go_enter func103,ntmps103;go_wp2_with (go_at_call 99;refine(fN HBX.out hne (by simp;omega) [35,40]).mono ?_);rintro e w1 ⟨rfl,v1,h1,h2⟩;have r4:=h2.box yA.out.1 yA.out.2.1 yA.out.2.2 4 _ rfl;have H1:Hid (dv w1 W0.heap.size p bl bL G.length (.slice (some ⟨b,o,none⟩) G.length cap) (t.add [35,40]) v1):=h1;have H2:Hid (bu w w1 p bl v v1):=(bu.aJ aG).trans h2;clear h1 h2;rcases Xl.out with h|⟨sb,so,Bx,hc⟩
 ·have HE0:Hid (x.subs.length=0):=by show _=_;rw[h];rfl
  clear h Xl;go_wp2_with fail;go_loopw [11] (λi wr=>∃(k:Nat) (vk:Value),k≤x.subs.length∧i=.int .i64 k∧Hid (dv wr W0.heap.size p bl bL G.length (.slice (some ⟨b,o,none⟩) G.length cap) (gR (WF (bF G) (aD G) (kV G) L f false) (aD G n) k (t.add [35,40])) vk)∧Hid (bu w wr p bl v vk)) (λi _=>x.subs.length-(intOf i).toNat)
  case atStart=>exact⟨0,v1,zaj _,rfl,H1.out,H2.out⟩
  case round=>
   obtain⟨k,vk,hk,rfl,xu,gU⟩:=hrel;have U3:Hid (Below W0.heap.size W0 wr):=DX.out _ _ gU.out;have Bb:W0.heap.size≤wr.heap.size:=U3.out.size;by_cases hlt:k<x.subs.length
   ·exfalso;have:=HE0.out;omega
   ·have N8:k=x.subs.length:=by omega
    go_wp2_with (go_at_call 99;refine(fN xu.out hne Bb [41]).mono ?_);rintro e w5 ⟨rfl,v5,FJ,qC⟩;rw[N8,←Kv.out]at FJ;have tZ:Hid _:=FJ;have DV:Hid _:=gU.out.trans qC;clear FJ qC xu gU;go_wp2_with fail
    go_end0
    exact⟨rfl,v5,tZ.out,DV.out⟩
 ·have ZH:Hid (∀w':World,Below W0.heap.size W0 w'→∀k,k<x.subs.length→w'.cell? ⟨sb,so+k,none⟩=some (.int .i64 (x.subs.getD k 0))):=λw' hb' k hk=>cj hb' (hc k hk);clear hc Xl;rw[Bx]at r4;go_wp2_with fail;go_loopw [11] (λi wr=>∃(k:Nat) (vk:Value),k≤x.subs.length∧i=.int .i64 k∧Hid (dv wr W0.heap.size p bl bL G.length (.slice (some ⟨b,o,none⟩) G.length cap) (gR (WF (bF G) (aD G) (kV G) L f false) (aD G n) k (t.add [35,40])) vk)∧Hid (bu w wr p bl v vk)) (λi _=>x.subs.length-(intOf i).toNat)
  case atStart=>exact⟨0,v1,zaj _,rfl,H1.out,H2.out⟩
  case round=>
   obtain⟨k,vk,hk,rfl,xu,gU⟩:=hrel;have U3:Hid (Below W0.heap.size W0 wr):=DX.out _ _ gU.out;have Bb:W0.heap.size≤wr.heap.size:=U3.out.size;by_cases hlt:k<x.subs.length
   ·have hcell:=ZH.out _ U3.out k hlt;have hv:=mq _ _ HXS.out k hlt;have HR:Hid _:=HRC.out k hlt;have HGK:Hid _:=HSG.out k hlt;have Bq:Hid _:=HOV.out k hk;have HND:Hid _:=SU.out k;by_cases I1:k=0
    ·have HST:Hid (gR (WF (bF G) (aD G) (kV G) L f false) (aD G n) (k+1) (t.add [35,40])=WF (bF G) (aD G) (kV G) L f false (gR (WF (bF G) (aD G) (kV G) L f false) (aD G n) k (t.add [35,40])) (x.subs.getD k 0).toNat):=by
      show _=_;rw[←HGK.out];simp only[gR];rw[if_pos I1]
     generalize gR (WF (bF G) (aD G) (kV G) L f false) (aD G n) k (t.add [35,40])=tk at *;generalize x.subs.getD k 0=sv at *;have hkz:(k:Int)≤0:=by omega
     have ua:Hid _:=I1;clear I1;go_wp2_with (go_at_call 62;refine(IA.out _ sv _ _ Bq.out hv.1 hv.2 HR.out HND.out U3.out xu.out).mono ?_);rintro e w4 ⟨rfl,v4,hw4,hk4⟩;rw[←HST.out]at hw4;have tY:Hid _:=hw4;have qA:Hid _:=gU.out.trans hk4;clear hw4 hk4 xu gU hcell U3;go_wp2_with fail;go_roundw
     case rel=>exact⟨k+1,v4,by omega,by go_num,tY,qA⟩
     case measure=>simp[intOf];omega
    ·have HST:Hid (gR (WF (bF G) (aD G) (kV G) L f false) (aD G n) (k+1) (t.add [35,40])=WF (bF G) (aD G) (kV G) L f false ((gR (WF (bF G) (aD G) (kV G) L f false) (aD G n) k (t.add [35,40])).add [32]) (x.subs.getD k 0).toNat):=by
      show _=_;rw[←HGK.out];simp only[gR];rw[if_neg I1]
     generalize gR (WF (bF G) (aD G) (kV G) L f false) (aD G n) k (t.add [35,40])=tk at *;generalize x.subs.getD k 0=sv at *;have hkz:(0:Int)<(k:Int):=by omega
     have abG:Hid _:=Bq.out.add [32];have abH:Hid _:=zad (eK tk [32]) HND.out;go_wp2_with (go_at_call 99;refine(fN xu.out hne Bb [32]).mono ?_);rintro e w3 ⟨rfl,v3,hw3,hk3⟩;have xT:Hid _:=hw3;have nE:Hid _:=gU.out.trans hk3;have iz:Hid (Below W0.heap.size W0 w3):=DX.out _ _ nE.out;clear hw3 hk3 xu gU hcell U3;go_wp2_with (go_at_call 62;refine(IA.out _ sv _ _ abG.out hv.1 hv.2 HR.out abH.out iz.out xT.out).mono ?_);rintro e w4 ⟨rfl,v4,hw4,hk4⟩;rw[←HST.out]at hw4;have tY:Hid _:=hw4;have qA:Hid _:=nE.out.trans hk4;clear hw4 hk4;go_wp2_with fail;go_roundw
     case rel=>exact⟨k+1,v4,by omega,by go_num,tY,qA⟩
     case measure=>simp[intOf];omega
   ·have N8:k=x.subs.length:=by omega
    go_wp2_with (go_at_call 99;refine(fN xu.out hne Bb [41]).mono ?_);rintro e w5 ⟨rfl,v5,FJ,qC⟩;rw[N8,←Kv.out]at FJ;have tZ:Hid _:=FJ;have DV:Hid _:=gU.out.trans qC;clear FJ qC xu gU;go_wp2_with fail
    go_end0
    exact⟨rfl,v5,tZ.out,DV.out⟩
end Go.Proofs.YtlhimdjkkiflhaaGreatDoor
namespace Go.Proofs.YtlhimdjkkiflhaaGreatDoor
open Go.RowKit Go.Loop
theorem M3 (l:List Bool)(a:Nat):l.set a (l.getD a false)=l:=by
 apply List.ext_getElem?
 intro i;rw[List.getElem?_set];by_cases e:a=i
 ·subst e;rw[if_pos rfl];by_cases h:a<l.length
  ·rw[if_pos h,zai h];simp[List.getD,List.getElem?_eq_getElem h]
  ·rw[if_neg h,zbF (by omega)]
 ·rw[if_neg e]
end Go.Proofs.YtlhimdjkkiflhaaGreatDoor
namespace Go.Proofs.YtlhimdjkkiflhaaGreatDoor
open Go.Proofs.Tryz
open Go.RowKit Go.Loop
theorem Dn:(prog.info? 4).map (λi=>(i.zero,i.size,i.bytes))=some (some (.bool false),1,1):=by kernel_rfl
theorem Hi:(prog.info? 3).map (λi=>(i.zero,i.size,i.bytes))=some (some (.int .i64 0),1,8):=by kernel_rfl
theorem pq (w:World):w.drew.heap=w.heap:=rfl
theorem mY (w:World)(o:Obj)(k:Nat):(w.alloc o).heap[k]?=if k=w.heap.size then some o else w.heap[k]?:=by
 show(w.heap.push o)[k]?=_;rw[zbj]
theorem tu {w:World}{k n:Nat}{t:TypeId}(h:w.heap[k]?=some (.cells (madeCells #[.bool false] n) t)):iD w k (List.replicate n false):=by
 intro i hi;rw[List.length_replicate]at hi;have hl:(madeCells #[Value.bool false] n)[i]?=some (.bool false):=by
  rw[←zaR,toList_madeCells_one,zbK,if_pos hi]
 refine⟨?_,?_⟩
 ·unfold World.cell?;simp only[h];rw[ft];simpa using hl
 ·unfold World.frozen?;simp[h]
theorem zB {w:World}{k n:Nat}{t:TypeId}(h:w.heap[k]?=some (.cells (madeCells #[.int .i64 0] n) t)):k9 w k (List.replicate n 0):=by
 intro i hi;rw[List.length_replicate]at hi;have hl:(madeCells #[Value.int .i64 0] n)[i]?=some (.int .i64 0):=by
  rw[←zaR,toList_madeCells_one,zbK,if_pos hi]
 refine⟨?_,?_⟩
 ·unfold World.cell?;simp only[h];rw[ft];simpa using hl
 ·unfold World.frozen?;simp[h]
theorem JL {w:World}{p bo bm bw n:Nat}{nv:Value}{t1 t2 t3 t4:TypeId}
 (hp:w.heap[p]?=some (.cells #[nv,.slice (some ⟨bo,0,none⟩) n n,.slice (some ⟨bm,0,none⟩) n n,.slice (some ⟨bw,0,none⟩) n n] t1))
 (ho:w.heap[bo]?=some (.cells (madeCells #[.bool false] n) t2))(hm:w.heap[bm]?=some (.cells (madeCells #[.int .i64 0] n) t3))(hw:w.heap[bw]?=some (.cells (madeCells #[.bool false] n) t4)):
 fM w p bo bm bw n nv (WS.start n):=by
 refine⟨?_,?_,?_,?_,zB hm,tu hw,tu ho⟩;all_goals (unfold World.cell?;simp[hp])
theorem M4 (S:Nat→List Nat)(n:Nat):(WS.start n).Bd S ((WS.start n).tj (λx=>(S x).length)):=by
 intro i;show(List.replicate n (0:Int)).getD i 0+_≤_;rw[ft];omega
theorem Hj (g:Nat→Nat)(M:Nat)(h:∀x,g x≤M):∀(n i:Nat),th g i (List.replicate n 0)≤n*M
 |0,_=>by simp[th]
 |n+1,i=>by
  have:=Hj g M h n (i+1);have:=h i;simp only[List.replicate_succ,th,if_true];rw[Nat.succ_mul];omega
theorem JM (S:Nat→List Nat)(M:Nat)(h:∀x,(S x).length≤M)(n:Nat):(WS.start n).tj (λx=>(S x).length)≤n*M:=Hj _ M h n 0
theorem oD (G:List Nd)(b o cap:Nat)(w:World)(hG:bM w b o G)(hn:G.length≤150)(h1:1≤G.length)(kj:∀x (h:x<G.length),fq G[x].subs G.length=true)(PW:∀x,(aD G x).length≤20):Calls prog 27 #[.slice (some ⟨b,o,none⟩) G.length cap] w λe w'=>∃bm bw,e=.returned (.agg #[.slice (some ⟨bm,0,none⟩) G.length G.length,.slice (some ⟨bw,0,none⟩) G.length G.length])∧k9 w' bm (fD (aD G) G.length).met∧iD w' bw (fD (aD G) G.length).wi∧Below w.heap.size w w':=by
 have HG:Hid _:=hG;have HS:Hid _:=kj;clear hG kj;have mkb:=run_make_row' (P:=prog) 66 4 (.bool false) 1 underlying66 Dn rfl .i64 .i64 G.length (by omega) (by omega);have mki:=run_make_row' (P:=prog) 43 3 (.int .i64 0) 8 underlying43 Hi rfl .i64 .i64 G.length (by omega) (by omega);go_enter func27,ntmps27
 go_upto_region 1 with fail
 go_cut [3,7,10,13] (λx3 x7 x10 YV wc=>∃p bo bm bw:Nat,x3=.pointer (some ⟨p,0,none⟩)∧x7=.slice (some ⟨bo,0,none⟩) G.length G.length∧x10=.slice (some ⟨bm,0,none⟩) G.length G.length∧YV=.slice (some ⟨bw,0,none⟩) G.length G.length∧
  Hid (Apart (w.heap.size+1) p bo bm bw∧fM wc p bo bm bw G.length (.slice (some ⟨b,o,none⟩) G.length cap) (WS.start G.length)∧Below (w.heap.size+1) (w.alloc (.cells #[.slice none 0 0,.slice none 0 0] 68)) wc))
 case first=>
  go_region;all_goals
   go_wp2_with fail
   go_meet
   case rel=>
    refine⟨_,_,_,_,rfl,rfl,rfl,rfl,?_⟩;refine⟨⟨by omega,by omega,by omega,by omega,by omega,by omega,by omega,by omega,by omega,by omega⟩,JL (t1:=90) (t2:=4) (t3:=3) (t4:=4) ?_ ?_ ?_ ?_,?_⟩
    ·rw[pq];simp only[mY,World.size_alloc];repeat' (first|rfl|(exfalso;omega)|split)
    ·rw[pq];simp only[mY,World.size_alloc];repeat' (first|rfl|(exfalso;omega)|split)
    ·rw[pq];simp only[mY,World.size_alloc];repeat' (first|rfl|(exfalso;omega)|split)
    ·rw[pq];simp only[mY,World.size_alloc];repeat' (first|rfl|(exfalso;omega)|split)
    ·exact(((((Below.refl _ _).alloc (by simp) _).alloc (by simp) _).alloc (by simp) _).alloc (by simp) _).drew
 case rest=>
  obtain⟨p,bo,bm,bw,rfl,rfl,rfl,rfl,hcu⟩:=hcut;have hbx:bM (w.alloc (.cells #[.slice none 0 0,.slice none 0 0] 68)) b o G:=bM.below HG.out aG;have hsz:(w.alloc (.cells #[.slice none 0 0,.slice none 0 0] 68)).heap.size=w.heap.size+1:=World.size_alloc ..;have HA:Hid (Apart (w.alloc (.cells #[.slice none 0 0,.slice none 0 0] 68)).heap.size p bo bm bw):=by show Apart _ _ _ _ _;rw[hsz];exact hcu.out.1
  have HW:Hid (fM wc p bo bm bw G.length (.slice (some ⟨b,o,none⟩) G.length cap) (WS.start G.length)):=hcu.out.2.1;have HB:Hid (Below (w.alloc (.cells #[.slice none 0 0,.slice none 0 0] 68)).heap.size (w.alloc (.cells #[.slice none 0 0,.slice none 0 0] 68)) wc):=by show Below _ _ _;rw[hsz];exact hcu.out.2.2
  have HX:Hid (bM (w.alloc (.cells #[.slice none 0 0,.slice none 0 0] 68)) b o G):=hbx;have abI:=JM (aD G) 20 PW G.length;have HP:Hid ((WS.start G.length).tj (λx=>(aD G x).length)+1≤1000000):=by show _≤_;omega
  have ZI:Hid (∀x (h:x<G.length),fq G[x].subs G.length=true):=HS.out;clear hcu hbx mkb mki abI PW HS;go_wp2_with fail;refine(MX G b o cap _ HX hn ZI p bo bm bw HA.out (G.length+1) (WS.start G.length) 0 wc _
   (mn _) (by omega) (by omega) (by show th (λ_=>1) 0 (List.replicate G.length 0)<_;rw[Dd];omega) (M4 _ _) HP.out HB.out HW.out).mono ?_
  rintro e w2 ⟨rfl,hw2,hb2⟩;obtain⟨hcell,KJ⟩:=zA hb2;have ij:Hid _:=hb2;have xS:Hid _:=hw2;obtain⟨q0,q1,q2,q3,_,_,_⟩:=hw2;clear hb2 q0 q1;go_wp2_with fail;refine bodyPost_ret (by simp[results,results27,go_sem,hcell];rfl) rfl ?_;have a1:=HA.out.hm;have a2:=HA.out.hw;rw[hsz]at a1 a2;have b1:(⟨w.heap.size,0,none⟩:Addr).block≠bm:=by show w.heap.size≠bm;omega
  have b2:(⟨w.heap.size,0,none⟩:Addr).block≠bw:=by show w.heap.size≠bw;omega
  have b3:(⟨w.heap.size,1,none⟩:Addr).block≠bm:=by show w.heap.size≠bm;omega
  have b4:(⟨w.heap.size,1,none⟩:Addr).block≠bw:=by show w.heap.size≠bw;omega
  have Kk:Below w.heap.size w w2:=aG.trans (ij.out.mono (by simp));exact⟨bm,bw,rfl,(xS.out.rm.far b1 _).far b3 _,(xS.out.rw.far b2 _).far b4 _,(Kk.setCell (zaa _) _).setCell (zaa _) _⟩
end Go.Proofs.YtlhimdjkkiflhaaGreatDoor
namespace Go.Proofs.YtlhimdjkkiflhaaGreatDoor
open Go.RowKit Go.Loop
def mr (G:List Nd)(mode:Int)(i:Nat):Bool:=
 if mode=1 then(fD (aD G) G.length).wi.getD i false
 else if mode=2 then decide (1<(fD (aD G) G.length).met.getD i 0)&&decide (1≤bF G i∧bF G i≤3)else false
def qu (G:List Nd):Bool:=(List.range G.length).any λi=>(fD (aD G) G.length).wi.getD i false
def cV (n:Nat):TS:=⟨List.replicate n (-1),0,[],false⟩
def dQ (G:List Nd)(mode:Int)(F:Nat):TS:=WF (bF G) (aD G) (kV G) (mr G mode) F false (cV G.length) 0
def dA (G:List Nd)(mode:Int)(F:Nat):List UInt8×Int:=
 if mode<0∨2<mode then([],1)else if eQ G=false then([],8)else if mode=0∧qu G=true then([],9)else if(dQ G mode F).long=true then([],2)else((dQ G mode F).out,0)
theorem zC (n:Nat)(L:Nat→Bool):(cV n).Ok n L:=
 ⟨by simp[cV],λ_=>by simp[cV],λi=>by show -1≤(List.replicate n (-1:Int)).getD i (-1)∧(List.replicate n (-1:Int)).getD i (-1)<_;rw[ft];simp[cV],λi hi=>by
   change 0≤(List.replicate n (-1:Int)).getD i (-1)at hi;rw[ft]at hi;omega,λ_=>by simp[cV],by simp[cV]⟩
theorem lr (G:List Nd)(h:eQ G=true):1≤G.length∧G.length≤150∧(∀x (hx:x<G.length),bp G[x]=true)∧(∀x (hx:x<G.length),fq G[x].subs G.length=true)∧(∀x,(aD G x).length≤20):=by
 unfold eQ at h;simp only[zac,decide_eq_true_eq]at h;obtain⟨⟨h1,h2⟩,h3⟩:=h;have hk:∀x (hx:x<G.length),bp G[x]=true∧fq G[x].subs G.length=true:=λx hx=>by
  have:=zaE.1 h3 G[x] (zaN hx);simpa using this
 refine⟨h1,h2,λx hx=>(hk x hx).1,λx hx=>(hk x hx).2,λx=>?_⟩;by_cases hx:x<G.length
 ·rw[iU G x hx,zbn];have hb:=(hk x hx).1;unfold bp at hb;by_cases k0:G[x].kind=0
  ·rw[if_pos k0]at hb;simp at hb;rw[hb.2.2.2];simp
  rw[if_neg k0]at hb;by_cases k1:G[x].kind=1
  ·rw[if_pos k1]at hb;simp at hb;omega
  rw[if_neg k1]at hb;by_cases k2:G[x].kind=2
  ·rw[if_pos k2]at hb;simp at hb;omega
  rw[if_neg k2]at hb;by_cases k3:G[x].kind=3
  ·rw[if_pos k3]at hb;simp at hb;rw[hb.2.2.2];simp
  rw[if_neg k3]at hb;by_cases k4:G[x].kind=4
  ·rw[if_pos k4]at hb;simp at hb;rw[hb.1.2.2];simp
  rw[if_neg k4]at hb;by_cases k5:G[x].kind=5
  ·rw[if_pos k5]at hb;simp at hb;rw[hb.2.2];simp
  rw[if_neg k5]at hb;by_cases k6:G[x].kind=6
  ·rw[if_pos k6]at hb;simp at hb;rw[hb.2.2.2];simp
  rw[if_neg k6]at hb;by_cases k7:G[x].kind=7
  ·rw[if_pos k7]at hb;simp at hb;rw[hb.2.2.2];simp
  rw[if_neg k7]at hb;exact absurd hb (by simp)
 ·unfold aD;rw[zbF (by omega)];simp
theorem kr {a a':List UInt8}{n n':Int}(h1:a=a')(h2:n=n'):Ending.returned (.tuple #[.string ⟨⟨a⟩⟩,.int .i64 n])=.returned (.tuple #[.string ⟨⟨a'⟩⟩,.int .i64 n']):=by rw[h1,h2]
end Go.Proofs.YtlhimdjkkiflhaaGreatDoor
