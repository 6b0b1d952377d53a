import Derived.Test.YtlhimdjkkiflhaaGreatReads23
import Derived.Test.YtlhimdjkkiflhaaGreatReads34
set_option maxHeartbeats 8000000
set_option maxRecDepth 100000
open Go.Value renaming int→Γ
open Go.IntKind renaming i64→Δ
open Go renaming World→Θ,Value→Λ,madeCells→Ξ
namespace Go.Proofs.YtlhimdjkkiflhaaGreat
open Go.Proofs.Tryz
open Go.RowKit Go.Loop
def sx (w:Θ)(base:Nat)(nv:Λ)(ay:List Λ)(nodes:List dF):Prop:=w.ownsRow base 50 5 nv nodes.length (kY nodes ay)∧ay.length=nodes.length∧∀(j:Nat) x v,nodes[j]?=some x→ay[j]?=some v→mN w base v x.subs
theorem sx.nil (w:Θ)(base:Nat):sx w base (.slice none 0 0) [] []:=⟨⟨rfl,.inl ⟨rfl,rfl⟩⟩,rfl,λj x v h=>by simp at h⟩
def tX (src:ByteArray)(dep:Int)(w:Θ)(e:Ending)(w':Θ):Prop:=Below w.heap.size w w'∧∃(nodes:List dF) (at_:Nat) (er:Int) (nv:Λ) (ay:List Λ),fE src.data.toList dep=some (nodes,at_,er)∧e=.returned (.tuple #[nv,Γ Δ (at_:Int),Γ Δ er])∧sx w' w.heap.size nv ay nodes
section
variable {wR w0 w:Θ}{R O A:Nat}{src:ByteArray}{dp:Nat}{s:FS}{er:Int}{wh:Nat}{nv sv bv:Λ}{NZ:List Λ}
theorem Kn (hF:bw wR w0 R src dp s er wh nv sv bv NZ)(lg:∀x∈s.nodes,x.subs.length≤1000):∀m j,j≤m→OOk w0 R O A s j:=by
 intro m
 induction m with
 |zero=>
  intro j hj;obtain rfl:j=0:=by omega
  intro w n g ov ay k g' h ln;simp[mf]at ln
 |succ m ih=>
  intro j hj;by_cases hjm:j≤m
  ·exact ih j hjm
  obtain rfl:j=m+1:=by omega
  exact Gp hF lg ih
theorem Rx (n:Nat):Ξ #[Γ Δ 0] n=((List.replicate n 0).map λk:Nat=>Λ.int .i64 (k:Int)).toArray:=by
 rw[DI];unfold gQ;simp
theorem Oc (w:Θ)(n:Nat):fQ w ((w.alloc (.cells #[.slice none 0 0] 22)).alloc (.cells (Ξ #[Γ Δ 0] n) 3)) w.heap.size (w.heap.size+1) ⟨[],List.replicate n 0⟩ (.slice none 0 0) []:=by
 refine⟨((zad _ w).alloc (zab _) _).alloc (by simp) _,zab _,by omega,?_,?_,⟨rfl,.inl ⟨rfl,rfl⟩⟩,rfl,λj x v h=>(by simp at h),λv h=>(by cases h),λi j v v' b h=>(by simp at h)⟩
 ·show((w.heap.push _).push _)[w.heap.size]?=_;rw[zbl,zaa (by simp)];simp
 ·rw[Rx];show((w.heap.push _).push _)[w.heap.size+1]?=_;rw[zbl,zac (by simp)]
end
theorem Ry (src:ByteArray)(dep:Int)(w:Θ):Calls prog 6 #[.string src,Γ Δ dep] w (tX src dep w):=by
 have hsz:src.data.toList.length=src.size:=by simp
 by_cases hd:dep<0∨30<dep
 ·have HR:Hid (tX src dep w (.returned (.tuple #[.slice none 0 0,Γ Δ 0,Γ Δ 1])) w):=⟨zad _ _,[],0,1,.slice none 0 0,[],by unfold fE;rw[zac hd],rfl,sx.nil _ _⟩;have fT:dep<0∨(¬dep<0∧30<dep):=by omega
  rcases fT with h1|⟨h1,h2⟩
  all_goals
   go_enter func6,ntmps6;go_wp2_with fail
   go_ret3
   exact HR.out
 ·have h1:¬dep<0:=λe=>hd (.inl e);have h2:¬30<dep:=λe=>hd (.inr e);by_cases hl:400<src.size
  ·have HR:Hid (tX src dep w (.returned (.tuple #[.slice none 0 0,Γ Δ 0,Γ Δ 2])) w):=⟨zad _ _,[],0,2,.slice none 0 0,[],by unfold fE;rw[zaa hd,zac (by omega)],rfl,sx.nil _ _⟩;have hlI:(400:Int)<(src.size:Int):=by omega
   go_enter func6,ntmps6;go_wp2_with fail
   go_ret3
   exact HR.out
  ·have hlI:¬(400:Int)<(src.size:Int):=by omega
   obtain⟨dp,rfl⟩:=zbu (show 0≤dep by omega);have qa:dp≤30:=by omega
   have hF0:=U8 w src dp;have OL:=(zad w.heap.size w).alloc (zab _) (.cells ((Tryz.zeroCells44.setIfInBounds 0 (.string src)).setIfInBounds 1 (Γ Δ (dp:Int))) 44);generalize hC:(Tryz.zeroCells44.setIfInBounds 0 (.string src)).setIfInBounds 1 (Γ Δ (dp:Int))=C at *;have Rz:∀m,OM w w.heap.size src dp m:=λm=>Rl (by omega) (by omega) m m (zab _);rcases Es (t:=src.data.toList) (by omega) dp with⟨m,er,at_,SE,et⟩|⟨m,k,s',m2,k2,h',bM,ln,hlen,nu,hBs,et⟩
   ·have hX:bz (ck src) dp m 0 false EE=.fail er at_:=SE;have HD:Hid _:=(Rz m).mj _ EE _ _ _ _ 0 false hF0 (Rw _) (by show 0+505*(src.size+1-0)≤300000;omega) (zap _) (by rw[hX];simp);rw[hX]at HD;have B5:Hid _:=et dp rfl qa;have zN:Hid _:=OL;clear hF0 Rz SE hX et OL;unfold ai at HD;rw[←hC]at HD zN;clear hC;go_enter func6,ntmps6;go_wp2_with fail;refine zae HD.out ?_;rintro e w2 ⟨hne,k,s',rfl,hgo,_,_,_⟩;obtain⟨iT,iY,iV,cK,g1,_,_,_,_⟩:=hgo;obtain⟨_,_,_,_,c4,c5,_,_,_⟩:=bu g1.blk;have Bd:(er != 0)=true:=by simpa using hne
    have HR:Hid (∀w3,Below w2.heap.size w2 w3→tX src dp w (.returned (.tuple #[.slice none 0 0,Γ Δ (at_:Int),Γ Δ er])) w3):=λw3 h3=>⟨g1.low.trans (h3.mono g1.low.size),[],at_,er,.slice none 0 0,[],B5.out,rfl,sx.nil _ _⟩;clear g1 HD B5;go_wp2_with fail
    go_cut [4,5,6] (λx y z wc=>x=.slice none 0 0∧y=Γ Δ (at_:Int)∧z=Γ Δ er∧Hid (Below w2.heap.size w2 wc))
    case first=>
     go_region;all_goals
      go_wp2_with fail
      go_meet
      case rel=>exact⟨rfl,rfl,rfl,(zad _ w2).drew⟩
    case rest=>
     obtain⟨rfl,rfl,rfl,hb3⟩:=hcut;go_wp2_with fail
     go_ret3
     exact HR.out _ hb3.out
   ·have hX:bz (ck src) dp m 0 false EE=.ok k s':=bM;have HD:Hid _:=(Rz m).mj _ EE _ _ _ _ 0 false hF0 (Rw _) (by show 0+505*(src.size+1-0)≤300000;omega) (zap _) (by rw[hX];simp);rw[hX]at HD;have hnl:s'.nodes.length≤300000:=by
     have q1:=nu.nn;have q2:=nu.fw.an;have q3:EE.nodes.length=0:=rfl;have q4:EE.at_=0:=rfl;omega
    have lg:∀x∈s'.nodes,x.subs.length≤1000:=λx hx=>by have:=hBs x hx;omega
    have B5:Hid _:=et dp rfl qa;have zN:Hid _:=OL;have N5:Hid _:=lg;have aan:Hid _:=ln;clear hF0 Rz bM hX et OL lg ln nu hBs;unfold ai at HD;rw[←hC]at HD zN;clear hC;go_enter func6,ntmps6;go_wp2_with fail;refine zae HD.out ?_;rintro e w2 ⟨rfl,hgo⟩;obtain⟨iT,iY,iV,cK,g1,_,_,_,_⟩:=hgo;obtain⟨_,_,_,c3,c4,_,c6,_,_⟩:=bu g1.blk;obtain⟨an,cn,rfl⟩:=aw g1.iM;have Qk:=run_make_row' (P:=prog) 40 3 (Γ Δ 0) 8 underlying40 DC rfl .i64 .i64 s'.nodes.length (by omega) (by omega);have mk2:=Qk (w2.alloc (.cells #[.slice none 0 0] 22));have HOR:Hid _:=(Kn (O:=w2.heap.size) (A:=w2.heap.size+1) g1 N5.out m2 m2 (zab _)) _ k _ _ _ k2 h' (Oc w2 s'.nodes.length) aan.out hlen (by simp) (λn=>by show(List.replicate s'.nodes.length 0)[n]?.getD 0≤0;rw[List.getElem?_replicate];split<;>simp);have KU:Hid _:=g1.low;have Qa:=g1.ko;have e1:¬w.heap.size=w2.heap.size:=by omega
    clear g1 HD Qk N5 aan;unfold ai at HOR;go_wp2_with fail;refine zae HOR.out ?_;rintro e w4 ⟨rfl,ov4,gS,o1,_,_,_⟩;obtain⟨a4,cc4,rfl⟩:=aw o1.row;obtain⟨co,fo⟩:=o1.oc;have d3:=((Ad o1.low).1 w.heap.size 3 Qa).trans c3;have EA:Hid (Below w.heap.size w w4):=KU.out.trans (o1.low.mono KU.out.size);have adT:Hid (sx w4 w.heap.size (.slice a4 h'.out.length cc4) gS h'.out):=⟨aT o1.row KU.out.size λ_ _ _=>rfl,o1.len,λj x v h1 h2=>aT (o1.subs j x v h1 h2) KU.out.size λ_ _ _=>rfl⟩;clear o1 HOR mk2 c3 c4 c6;by_cases Od:150<h'.out.length
    ·have aao:(150:Int)<(h'.out.length:Int):=by omega
     have HR:Hid (tX src dp w (.returned (.tuple #[.slice none 0 0,Γ Δ 0,Γ Δ 2])) w4):=⟨EA.out,[],0,2,.slice none 0 0,[],by rw[B5.out,zac Od],rfl,sx.nil _ _⟩;go_wp2_with fail
     go_ret3
     exact HR.out
    ·have aao:¬(150:Int)<(h'.out.length:Int):=by omega
     have HR:Hid (∀w5,w5=w4.drew→tX src dp w (.returned (.tuple #[.slice a4 h'.out.length cc4,Γ Δ (s'.at_:Int),Γ Δ 0])) w5):=λw5 h5=>by
      subst h5;exact⟨EA.out.drew,h'.out,s'.at_,0,.slice a4 h'.out.length cc4,gS,by rw[B5.out,zaa Od],rfl,adT.out⟩
     go_upto_region 13 with fail
     go_cut [4,5,6] (λx y z wc=>x=.slice a4 h'.out.length cc4∧y=Γ Δ (s'.at_:Int)∧z=Γ Δ 0∧wc=w4.drew)
     case first=>
      go_region;all_goals
       go_wp2_with fail
       go_meet
       case rel=>exact⟨rfl,rfl,rfl,rfl⟩
     case rest=>
      obtain⟨rfl,rfl,rfl,rfl⟩:=hcut;go_wp2_with fail
      go_ret3
      exact HR.out _ rfl
end Go.Proofs.YtlhimdjkkiflhaaGreat
namespace Go.Proofs.YtlhimdjkkiflhaaGreat
open Go.RowKit Go.Loop
theorem Oe {w:Θ}{lo:Nat}{a:Option Addr}{n c:Nat}{l:List Nat}(h:mN w lo (.slice a n c) l):n=l.length∧xO w a l:=by
 obtain⟨a',c',e⟩:=aw h;cases e;refine⟨rfl,λj hj=>?_⟩;obtain⟨g,cap,e,hc,_⟩:=qx h (i:=j) (u:= Γ Δ ((l.getD j 0:Nat):Int)) (by simp[hj]);cases e;exact⟨g,rfl,Θ.block_lt_of_cell? _ _ hc,hc⟩
theorem Kq {w:Θ}{lo:Nat}{v:Λ}{l:List Nat}(h:MI w lo v l):∃a c,v=.slice a l.length c∧xO w a l:=by
 rcases h with⟨rfl,rfl⟩|⟨b,rfl,_,hb⟩
 ·exact⟨none,0,rfl,λj hj=>by simp at hj⟩
 ·refine⟨_,_,rfl,λj hj=>⟨b,rfl,(zag.1 hb).1,?_⟩⟩;simp[Θ.cell?,hb,hj]
theorem Og {w:Θ}{lo:Nat}{av:Option Addr}{n c:Nat}{ay:List Λ}{nodes:List dF}(h:w.ownsRow lo 50 5 (.slice av n c) nodes.length (kY nodes ay))(hl:ay.length=nodes.length)(hs:∀(j:Nat) x v,nodes[j]?=some x→ay[j]?=some v→∃a c,v=.slice a x.subs.length c∧xO w a x.subs):n=nodes.length∧uY w av nodes:=by
 obtain⟨a',c',e⟩:=aw h;cases e;refine⟨rfl,λi x hx=>?_⟩;have hi:i<nodes.length:=(zaD.1 hx).1;obtain⟨v,hv⟩:∃v,ay[i]?=some v:=⟨_,zaP (by rw[hl];exact hi)⟩;obtain⟨sa,sc,rfl,hI⟩:=hs i x v hx hv;rcases h.2 with⟨_,h0⟩|⟨g,cap,cur,e,q1,q2,_⟩
 ·omega
 cases e;have hc:∀j u,j<5→(jN x (.slice sa x.subs.length sc))[j]?=some u→w.cell? ⟨g,i*5+j,none⟩=some u:=λj u hj hu=>by
  have:=h.cells (g:=g) rfl (i*5+j) u ((tT _ _ i x _ hx hv j hj).trans hu);rw[addr_add]at this;exact this
 exact⟨g,sa,sc,rfl,(zag.1 q2).1,hc 0 _ (by decide) rfl,hc 1 _ (by decide) rfl,hc 2 _ (by decide) rfl,hc 3 _ (by decide) rfl,hc 4 _ (by decide) rfl,hI⟩
theorem Kr {w:Θ}{lo:Nat}{nv:Λ}{ay:List Λ}{nodes:List dF}(h:b9 w lo nv ay nodes):∃a c,nv=.slice a nodes.length c∧uY w a nodes:=by
 obtain⟨a,c,rfl⟩:=aw h.1;exact⟨a,c,rfl,(Og h.1 h.2.1 λj x v hx hv=>Kq (h.2.2 j x v hx hv)).2⟩
theorem Ks {w:Θ}{lo:Nat}{nv:Λ}{ay:List Λ}{nodes:List dF}(h:sx w lo nv ay nodes):∃a c,nv=.slice a nodes.length c∧uY w a nodes:=by
 obtain⟨a,c,rfl⟩:=aw h.1;refine⟨a,c,rfl,(Og h.1 h.2.1 λj x v hx hv=>?_).2⟩;have hs:=h.2.2 j x v hx hv;obtain⟨sa,sc,rfl⟩:=aw hs;exact⟨sa,sc,rfl,(Oe hs).2⟩
end Go.Proofs.YtlhimdjkkiflhaaGreat
