import Derived.Test.YtlhimdjkkiflhaaGreatDoorCut30
set_option maxHeartbeats 8000000
set_option maxRecDepth 100000
namespace Go.Proofs.YtlhimdjkkiflhaaGreatDoor
open Go.Proofs.Tryz
open Go.RowKit Go.Loop
theorem FK {K:Nat→Int}{S:Nat→List Nat}{At:Nat→List UInt8}{L:Nat→Bool}{g m:Nat}{t:TS}(ho:t.long=false→t.out.length≤400)(hg:need t≤g)(hk:K m=1)(hL:L m=false):∃g',g'≤g∧need (t.add [32])≤g'∧WF K S At L g true t m=WF K S At L g' true (WF K S At L g' false (t.add [32]) ((S m).getD 0 0)) ((S m).getD 1 0):=by
 cases hl:t.long
 ·have h1:=rV hl (ho hl) (p:=[32]) (by simp);have h2:=rW (t.add [32]);obtain⟨g',rfl⟩:∃g',g=g'+1:=⟨g-1,by omega⟩;refine⟨g',by omega,by omega,?_⟩
  conv=>lhs;rw[WF]
  rw[if_pos ⟨hk,hL⟩]
 ·refine⟨g,zaa _,by rw[dT hl];exact hg,?_⟩;rw[dT hl,ko g true t m hl,ko g false t _ hl,ko g true t _ hl]
theorem M5 {K:Nat→Int}{S:Nat→List Nat}{At:Nat→List UInt8}{L:Nat→Bool}{g m:Nat}{t:TS}(ho:t.long=false→t.out.length≤400)(hg:need t≤g)(hn:¬(K m=1∧L m=false))(hk:K m≠0):∃g',g'≤g∧need (t.add [32,46,32])≤g'∧WF K S At L g true t m=(WF K S At L g' false (t.add [32,46,32]) m).add [41]:=by
 cases hl:t.long
 ·have h1:=rV hl (ho hl) (p:=[32,46,32]) (by simp);have h2:=rW (t.add [32,46,32]);obtain⟨g',rfl⟩:∃g',g=g'+1:=⟨g-1,by omega⟩;refine⟨g',by omega,by omega,?_⟩
  conv=>lhs;rw[WF]
  rw[if_neg hn,if_neg hk]
 ·refine⟨g,zaa _,by rw[dT hl];exact hg,?_⟩;rw[dT hl,ko g true t m hl,ko g false t _ hl,dT hl]
theorem M6 {K:Nat→Int}{S:Nat→List Nat}{At:Nat→List UInt8}{L:Nat→Bool}{g m:Nat}{t:TS}(hg:need t≤g)(hk:K m=0):WF K S At L g true t m=t.add [41]:=by
 have h2:=rW t;obtain⟨g',rfl⟩:∃g',g=g'+1:=⟨g-1,by omega⟩;rw[WF,if_neg (by omega),if_pos hk]
def Bc (K:Nat→Int)(L:Nat→Bool)(rk:Nat→Nat)(m:Nat):Nat:=if K m=1∧L m=false then rk m+1 else 0
theorem JN {K:Nat→Int}{L:Nat→Bool}{rk:Nat→Nat}{m z:Nat}(hm:K m=1∧L m=false)(h:K z=1→L z=false→rk z<rk m):Bc K L rk z<Bc K L rk m:=by
 unfold Bc;rw[if_pos hm];split
 ·rename_i hz;have:=h hz.1 hz.2;omega
 ·omega
theorem dv.cells {w:World}{B p bl bL n:Nat}{nv:Value}{t:TS}{v:Value}(h:dv w B p bl bL n nv t v):w.cell? ⟨p,0,none⟩=some nv∧w.cell? ⟨p,1,none⟩=some (.slice (some ⟨bL,0,none⟩) n n)∧w.cell? ⟨p,2,none⟩=some (.slice (some ⟨bl,0,none⟩) n n)∧w.cell? ⟨p,6,none⟩=some (.bool t.long):=by
 obtain⟨q,hq,hb⟩:=h.blk;exact⟨Lib.cell_of_heap hb 0,Lib.cell_of_heap hb 1,Lib.cell_of_heap hb 2,Lib.cell_of_heap hb 6⟩
theorem zD (G:List Nd)(b o cap:Nat)(W0:World)(p bl bL:Nat)(L:Nat→Bool)(Rc:Nat→Prop)(rk:Nat→Nat)(C:Dl G b o W0 p bl bL L Rc rk)(f:Nat)(IA:Hid (∀g,g≤f→Dm G b o cap W0 p bl bL L Rc g))
 (n:Nat)(jL:n<G.length)(M0:Rc n)(k1:G[n].kind=1)(t:TS)(w:World)(v:Value)(ht:t.Ok G.length L)(hf:need (t.add [40])≤f)(hb:Below W0.heap.size W0 w)
 (hw:dv w W0.heap.size p bl bL G.length (.slice (some ⟨b,o,none⟩) G.length cap) t v):
 Calls prog 102 #[.pointer (some ⟨p,0,none⟩),dD G[n]] w λe w'=>e=.returned (.tuple #[])∧
  ∃v',dv w' W0.heap.size p bl bL G.length (.slice (some ⟨b,o,none⟩) G.length cap) (WF (bF G) (aD G) (kV G) L f true (WF (bF G) (aD G) (kV G) L f false (t.add [40]) ((aD G n).getD 0 0)) ((aD G n).getD 1 0)) v'∧bu w w' p bl v v':=by
 have HC:Hid (Dl G b o W0 p bl bL L Rc rk):=C;have JO:Hid (∀y,y<G.length→∀z∈aD G y,z<G.length):=kU G C.hs;have S7:Hid (∀y,y<G.length→bF G y=1→(aD G y).length=2):=λy hy hk=>xv G y hy (C.hk y hy) hk;have hl2:G[n].subs.length=2:=by have:=S7.out n jL (by rw[kW G n jL];exact k1);rw[iU G n jL]at this;simpa using this
 have HXS:Hid _:=C.hs n jL;have hs0:=oB G n jL 0 (by omega);have hs1:=oB G n jL 1 (by omega);have hv0:=mq _ _ HXS.out 0 (by omega);have L4:=mq _ _ HXS.out 1 (by omega);have qD:Hid _:=C.rc n M0 _ (oC G n jL 0 (by omega));have u7:Hid _:=C.rc n M0 _ (oC G n jL 1 (by omega));have HRK:Hid (∀y,y=(G[n].subs.getD 1 0).toNat→bF G y=1→L y=false→rk y<rk n):=λy hy=>by subst hy;exact C.rr n M0 _ (oC G n jL 1 (by omega))
 have Xl:Hid _:=(C.hG n jL).ints;rw[hs0,hs1];clear hs0 hs1;generalize G[n]=x at *;have HBX:Hid (dv (w.alloc (.cells #[.int .i64 x.kind,.string ⟨⟨x.text⟩⟩,.int .i64 x.n,.int .i64 x.d,.slice x.sa x.subs.length x.cap] 45)) W0.heap.size p bl bL G.length (.slice (some ⟨b,o,none⟩) G.length cap) t v):=hw.below aG;have yA:Hid _:=(⟨hw.lt,hw.bl,hw.S5⟩:p<w.heap.size∧bl<w.heap.size∧∀k,v.ownBlock=some k→k<w.heap.size);have hsz:=hb.size;have hne:=C.pl;have DX:Hid (∀w' v',bu w w' p bl v v'→Below W0.heap.size W0 w'):=λw' v' h=>hb.trans (h.below hsz C.hp C.hl hw.MZ);have HF:Hid (need (t.add [40])≤f):=hf;have HT:Hid ((t.add [40]).Ok G.length L):=ht.add _;clear k1 C hb ht hf hw M0;rcases Xl.out with h|⟨sb,so,Bx,hc⟩
 ·exfalso;rw[h]at hl2;simp at hl2
 have ZH:Hid (∀w':World,Below W0.heap.size W0 w'→∀k,k<x.subs.length→w'.cell? ⟨sb,so+k,none⟩=some (.int .i64 (x.subs.getD k 0))):=λw' hb' k hk=>cj hb' (hc k hk);have HC0:Hid (∀w':World,Below W0.heap.size W0 w'→w'.cell? ⟨sb,so,none⟩=some (.int .i64 (x.subs.getD 0 0))):=λw' hb'=>ZH.out w' hb' 0 (by omega);have HC1:Hid (∀w':World,Below W0.heap.size W0 w'→w'.cell? ⟨sb,so+1,none⟩=some (.int .i64 (x.subs.getD 1 0))):=λw' hb'=>ZH.out w' hb' 1 (by omega);clear hc Xl ZH;rw[hl2,Bx]at HBX;generalize x.subs.getD 0 0=s0 at *;generalize x.subs.getD 1 0=s1 at *;obtain⟨m1,rfl⟩:=zbl L4.1;rw[zaB]at u7 ⊢;obtain⟨t1,qy⟩:∃t1,Hid (t1=WF (bF G) (aD G) (kV G) L f false (t.add [40]) s0.toNat):=⟨_,rfl⟩;rw[←qy.out];unfold dD;rw[hl2,Bx];go_enter func102,ntmps102;go_wp2_with (go_at_call 99;refine(fN HBX.out hne (by simp;omega) [40]).mono ?_);rintro e w1 ⟨rfl,v1,h1,h2⟩;have r4:w1.cell? ⟨w.heap.size,4,none⟩=some (.slice (some ⟨sb,so,none⟩) 2 x.cap):=h2.box yA.out.1 yA.out.2.1 yA.out.2.2 4 _ rfl;have HA2:Hid _:=h2;have H1:Hid _:=h1;have H2:Hid (bu w w1 p bl v v1):=(bu.aJ aG).trans h2;have k8:Hid (Below W0.heap.size W0 w1):=DX.out _ _ H2.out;have q0:=HC0.out _ k8.out;clear h1 h2;go_wp2_with (go_at_call 62;refine(IA.out f (zaa _) _ s0 _ _ HT.out hv0.1 hv0.2 qD.out HF.out k8.out H1.out).mono ?_);rintro e w2 ⟨rfl,v2,h3,h4⟩;rw[←qy.out]at h3;have r4':w2.cell? ⟨w.heap.size,4,none⟩=some (.slice (some ⟨sb,so,none⟩) 2 x.cap):=(HA2.out.trans h4).box yA.out.1 yA.out.2.1 yA.out.2.2 4 _ rfl;have H3:Hid _:=h3;have H4:Hid (bu w w2 p bl v v2):=H2.out.trans h4;have ij:Hid (Below W0.heap.size W0 w2):=DX.out _ _ H4.out;have q1:=HC1.out _ ij.out;clear h3 h4 r4 q0;have U4:Hid ((WF (bF G) (aD G) (kV G) L f false (t.add [40]) s0.toNat).Ok G.length L):=rU JO.out S7.out f false _ _ HT.out (by omega);have HN1:Hid (need (WF (bF G) (aD G) (kV G) L f false (t.add [40]) s0.toNat)≤f):=zad (gZ f false _ _) HF.out;rw[←qy.out]at U4 HN1;have OG:m1<G.length:=by omega
 go_wp2_with fail;go_loopw [4] (λi wr=>∃(m g:Nat) (tk:TS) (vk:Value),m<G.length∧i=.int .i64 m∧Hid (Rc m)∧g≤f∧Hid (need tk≤g)∧Hid (tk.Ok G.length L)∧Hid (WF (bF G) (aD G) (kV G) L f true t1 m1=WF (bF G) (aD G) (kV G) L g true tk m)∧
  Hid (dv wr W0.heap.size p bl bL G.length (.slice (some ⟨b,o,none⟩) G.length cap) tk vk)∧Hid (bu w wr p bl v vk)) (λi _=>Bc (bF G) L rk (intOf i).toNat)
 case atStart=>exact⟨m1,f,t1,v2,OG,rfl,u7.out,zaa _,HN1.out,U4.out,rfl,H3.out,H4.out⟩
 case round=>
  obtain⟨m,g,tk,vk,hm,rfl,ZJ,hgf,Xk,HTm,HEm,ZK,ZL⟩:=hrel;have HBm:Hid (Below W0.heap.size W0 wr):=DX.out _ _ ZL.out;have Bb:W0.heap.size≤wr.heap.size:=HBm.out.size;obtain⟨y0,y1,y2,y3,y4,yi,yt,ys⟩:=(HC.out.hG m hm).below HBm.out;have Hk:Hid _:=kW G m hm;have HLm:Hid (∀w',Below W0.heap.size W0 w'→w'.cell? ⟨bL,m,none⟩=some (.bool (L m))):=λw' hb'=>cj hb' (HC.out.hL m hm);have N9:=HLm.out _ HBm.out;obtain⟨c0,c1,c2,c6⟩:=ZK.out.cells;have S6:Hid _:=HC.out.hk m hm;have PX:Hid _:=HC.out.hs m hm;have U5:Hid _:=oB G m hm 0;have U6:Hid _:=oB G m hm 1;have ZM:Hid _:=oC G m hm;have U7:Hid (bF G m=1→G[m].subs.length=2):=λhk=>by have:=S7.out m hm hk;rw[iU G m hm]at this;simpa using this
  have HIN:Hid _:=(HC.out.hG m hm).ints;have HY4:Hid (∀w',Below W0.heap.size W0 w'→w'.cell? ⟨b,o+m*5+4,none⟩=some (.slice G[m].sa G[m].subs.length G[m].cap)):=λw' hb'=>cj hb' (HC.out.hG m hm).subs;generalize G[m]=y at *;clear yi yt ys y1 y2 y3 c2 c6;by_cases JP:y.kind=1∧L m=false
  ·have hb1:(y.kind==1)=true:=by rw[beq_iff_eq];exact JP.1
   have ZN:=JP.2;rw[ZN]at N9;obtain⟨g',p5,M7,hE⟩:=FK (K:=bF G) (S:=aD G) (At:=kV G) (L:=L) (m:=m) HTm.out.lo Xk.out (by rw[Hk.out];exact JP.1) JP.2;have ZO:=U7.out (by rw[Hk.out];exact JP.1);rcases HIN.out with h|⟨yb,yo,hya,IJ⟩
   ·exfalso;rw[h]at ZO;simp at ZO
   have abJ:Hid (∀w':World,Below W0.heap.size W0 w'→w'.cell? ⟨yb,yo,none⟩=some (.int .i64 (y.subs.getD 0 0))):=λw' hb'=>cj hb' (IJ 0 (by omega));have abK:Hid (∀w':World,Below W0.heap.size W0 w'→w'.cell? ⟨yb,yo+1,none⟩=some (.int .i64 (y.subs.getD 1 0))):=λw' hb'=>cj hb' (IJ 1 (by omega));rw[U5.out (by omega),U6.out (by omega)]at hE;have hz0:=mq _ _ PX.out 0 (by omega);have hz1:=mq _ _ PX.out 1 (by omega);have abL:Hid _:=HC.out.rc m ZJ.out _ (ZM.out 0 (by omega));have ZP:Hid _:=HC.out.rc m ZJ.out _ (ZM.out 1 (by omega));have HRk:Hid _:=JN (K:=bF G) ⟨by rw[Hk.out];exact JP.1,JP.2⟩ (HC.out.rr m ZJ.out _ (ZM.out 1 (by omega)));have HE:Hid _:=hE;have ZQ:Hid _:=M7;rw[ZO,hya]at HY4 y4;clear IJ HIN PX U5 U6 ZM U7 S6 JP hE M7 ZN;generalize y.subs.getD 0 0=z0 at *;generalize y.subs.getD 1 0=z1 at *;go_wp2_with (go_at_call 99;refine(fN ZK.out hne Bb [32]).mono ?_);rintro e w3 ⟨rfl,v3,hw3,hk3⟩;have xT:Hid _:=hw3;have nE:Hid (bu w w3 p bl v v3):=ZL.out.trans hk3;have iz:Hid (Below W0.heap.size W0 w3):=DX.out _ _ nE.out;obtain⟨d0,d1,d2,d6⟩:=hw3.cells;have d4:=HY4.out _ iz.out;have d5:=abJ.out _ iz.out;have M8:Hid _:=HTm.out.add [32];clear hw3 hk3 d1 d2 d6 c0 c1 y0 y4 N9;go_wp2_with (go_at_call 62;refine(IA.out g' (by omega) _ z0 _ _ M8.out hz0.1 hz0.2 abL.out ZQ.out iz.out xT.out).mono ?_);rintro e w4 ⟨rfl,v4,hw4,hk4⟩;have tY:Hid _:=hw4;have qA:Hid (bu w w4 p bl v v4):=nE.out.trans hk4;have sk:Hid (Below W0.heap.size W0 w4):=DX.out _ _ qA.out;obtain⟨e0,e1,e2,e6⟩:=hw4.cells;have e4:=HY4.out _ sk.out;have e5:=abK.out _ sk.out;have abM:Hid _:=rU (At:=kV G) JO.out S7.out g' false _ _ M8.out (show z0.toNat<G.length by omega);have HN4:Hid _:=zad (gZ (K:=bF G) (S:=aD G) (At:=kV G) (L:=L) g' false (tk.add [32]) z0.toNat) ZQ.out;clear hw4 hk4 e1 e2 e6 d0 d4 d5;obtain⟨mz,rfl⟩:=zbl hz1.1;rw[zaB]at HE ZP HRk;go_wp2_with fail;go_roundw
   case rel=>exact⟨mz,g',_,v4,by omega,rfl,ZP,by omega,HN4,abM,by show _=_;rw[HEm.out];exact HE.out,tY,qA⟩
   case measure=>exact HRk.out
  ·have HPR:Hid (¬(bF G m=1∧L m=false)):=by rw[Hk.out];exact JP
   clear HIN PX U5 U6 ZM U7 S6 HY4 y4;by_cases k0:y.kind=0
   ·have hb0:(y.kind==0)=true:=by rw[beq_iff_eq];exact k0
    have hb1:(y.kind==1)=false:=by rw[beq_eq_false_iff_ne];omega
    have HE:Hid _:=M6 (K:=bF G) (S:=aD G) (At:=kV G) (L:=L) (m:=m) Xk.out (by rw[Hk.out];exact k0);clear k0 JP N9 c1;go_wp2_with (go_at_call 99;refine(fN ZK.out hne Bb [41]).mono ?_);rintro e w3 ⟨rfl,v3,hw3,hk3⟩;rw[←HE.out,←HEm.out]at hw3;have xT:Hid _:=hw3;have nE:Hid (bu w w3 p bl v v3):=ZL.out.trans hk3;clear hw3 hk3;go_wp2_with fail
    go_end0
    exact⟨rfl,v3,xT.out,nE.out⟩
   ·have hb0:(y.kind==0)=false:=by rw[beq_eq_false_iff_ne];exact k0
    obtain⟨g',p5,M7,hE⟩:=M5 (K:=bF G) (S:=aD G) (At:=kV G) (L:=L) (m:=m) HTm.out.lo Xk.out HPR.out (by rw[Hk.out];exact k0);have HE:Hid _:=hE;have ZQ:Hid _:=M7;have M8:Hid _:=HTm.out.add [32,46,32];clear hE M7 k0;by_cases k1:y.kind=1
    ·have hb1:(y.kind==1)=true:=by rw[beq_iff_eq];exact k1
     have ZN:L m=true:=by cases h:L m;exact absurd ⟨k1,h⟩ JP;rfl
     rw[ZN]at N9;clear k1 JP ZN;go_wp2_with (go_at_call 99;refine(fN ZK.out hne Bb [32,46,32]).mono ?_);rintro e w3 ⟨rfl,v3,hw3,hk3⟩;have xT:Hid _:=hw3;have nE:Hid (bu w w3 p bl v v3):=ZL.out.trans hk3;have iz:Hid (Below W0.heap.size W0 w3):=DX.out _ _ nE.out;clear hw3 hk3;go_wp2_with (go_at_call 62;refine(IA.out g' (by omega) _ (m:Int) _ _ M8.out (by omega) (by omega) (by rw[zaB];exact ZJ.out) ZQ.out iz.out xT.out).mono ?_);rintro e w4 ⟨rfl,v4,hw4,hk4⟩;rw[zaB]at hw4;have tY:Hid _:=hw4;have qA:Hid (bu w w4 p bl v v4):=nE.out.trans hk4;have U8:W0.heap.size≤w4.heap.size:=(DX.out _ _ qA.out).size;clear hw4 hk4;go_wp2_with (go_at_call 99;refine(fN tY.out hne U8 [41]).mono ?_);rintro e w5 ⟨rfl,v5,FJ,qC⟩;rw[←HE.out,←HEm.out]at FJ;have tZ:Hid _:=FJ;have DV:Hid (bu w w5 p bl v v5):=qA.out.trans qC;clear FJ qC;go_wp2_with fail
     go_end0
     exact⟨rfl,v5,tZ.out,DV.out⟩
    ·have hb1:(y.kind==1)=false:=by rw[beq_eq_false_iff_ne];exact k1
     clear k1 JP N9 c1;go_wp2_with (go_at_call 99;refine(fN ZK.out hne Bb [32,46,32]).mono ?_);rintro e w3 ⟨rfl,v3,hw3,hk3⟩;have xT:Hid _:=hw3;have nE:Hid (bu w w3 p bl v v3):=ZL.out.trans hk3;have iz:Hid (Below W0.heap.size W0 w3):=DX.out _ _ nE.out;clear hw3 hk3;go_wp2_with (go_at_call 62;refine(IA.out g' (by omega) _ (m:Int) _ _ M8.out (by omega) (by omega) (by rw[zaB];exact ZJ.out) ZQ.out iz.out xT.out).mono ?_);rintro e w4 ⟨rfl,v4,hw4,hk4⟩;rw[zaB]at hw4;have tY:Hid _:=hw4;have qA:Hid (bu w w4 p bl v v4):=nE.out.trans hk4;have U8:W0.heap.size≤w4.heap.size:=(DX.out _ _ qA.out).size;clear hw4 hk4;go_wp2_with (go_at_call 99;refine(fN tY.out hne U8 [41]).mono ?_);rintro e w5 ⟨rfl,v5,FJ,qC⟩;rw[←HE.out,←HEm.out]at FJ;have tZ:Hid _:=FJ;have DV:Hid (bu w w5 p bl v v5):=qA.out.trans qC;clear FJ qC;go_wp2_with fail
     go_end0
     exact⟨rfl,v5,tZ.out,DV.out⟩
theorem Dp (x:Nd)(w:World)(hb:bp x=true)(h1:x.kind≠1)(h2:x.kind≠2)(hp:Pow w):Calls prog 104 #[dD x] w λe w'=>e=.returned (.string ⟨⟨fT x⟩⟩)∧Below w.heap.size w w':=by
 have hk:x.kind=0∨x.kind=3∨x.kind=4∨x.kind=5∨x.kind=6∨x.kind=7:=by
  by_cases h:x.kind<0∨7<x.kind
  ·unfold bp at hb;rw[if_neg (by omega),if_neg (by omega),if_neg (by omega),if_neg (by omega),if_neg (by omega),if_neg (by omega),if_neg (by omega),if_neg (by omega)]at hb;exact absurd hb (by simp)
  ·omega
 rcases hk with h|h|h|h|h|h
 ·exact UW x w h
 ·have:x.text.length≤400:=by
   unfold bp at hb;rw[if_neg (by omega),if_neg (by omega),if_neg (by omega),if_pos h]at hb;simp at hb;exact hb.1
  exact UX x w this h
 ·exact UY x w h
 ·have:Ar x.n x.d=true:=by
   unfold bp at hb;rw[if_neg (by omega),if_neg (by omega),if_neg (by omega),if_neg (by omega),if_neg (by omega),if_pos h]at hb;simp at hb;exact hb.1
  unfold Ar at this;simp at this;exact UZ x w (by omega) (by omega) (by omega) (by omega) hp h
 ·exact U0 x w h
 ·have:rB x.n=true:=by
   unfold bp at hb;rw[if_neg (by omega),if_neg (by omega),if_neg (by omega),if_neg (by omega),if_neg (by omega),if_neg (by omega),if_neg (by omega),if_pos h]at hb;simp at hb;exact hb.1
  exact U1 x w this h
theorem JQ (G:List Nd)(b o cap:Nat)(W0:World)(p bl bL:Nat)(L:Nat→Bool)(Rc:Nat→Prop)(rk:Nat→Nat)(C:Dl G b o W0 p bl bL L Rc rk)(f:Nat)(IA:Hid (∀g,g≤f→Dm G b o cap W0 p bl bL L Rc g)):Dm G b o cap W0 p bl bL L Rc (f+1):=by
 intro t a w v ht ha0 ha M0 hf hb hw;obtain⟨n,rfl⟩:=zbl ha0;rw[zaB]at M0 ⊢;have jL:n<G.length:=by omega
 have HC:Hid (Dl G b o W0 p bl bL L Rc rk):=C;have HT:Hid (t.Ok G.length L):=ht;have HB:Hid (Below W0.heap.size W0 w):=hb;have HW:Hid (dv w W0.heap.size p bl bL G.length (.slice (some ⟨b,o,none⟩) G.length cap) t v):=hw;have HF:Hid (need t≤f+1):=hf;have HR:Hid (Rc n):=M0;obtain⟨c0,c1,c2,c6⟩:=hw.cells;obtain⟨hlc,_⟩:=hw.rl n (by rw[ht.ll];exact jL);have N9:=cj hb (C.hL n jL);have hsz:=hb.size;have hne:=C.pl;have DX:Hid (∀w' v',bu w w' p bl v v'→Below W0.heap.size W0 w'):=λw' v' h=>hb.trans (h.below hsz C.hp C.hl hw.MZ);have HPW:Hid (∀w',Below W0.heap.size W0 w'→Pow w'):=λw' h=>C.pw.on h;have hg:t.eL.getD n 0=t.eL.getD n (-1):=by
  have:=ht.ll;simp[List.getD,List.getElem?_eq_getElem (show n<t.eL.length by omega)]
 rw[hg]at hlc;have xY:=ht.n2;have hln:=ht.ln n;clear C ht hb hw hf M0 hg;cases eF:t.long
 ·rw[eF]at c6;by_cases Fg:0≤t.eL.getD n (-1)
  ·have HV:Hid (WF (bF G) (aD G) (kV G) L (f+1) false t n=t.add (35::(Lib.itoa (t.eL.getD n (-1))++[35]))):=by
    show _=_;simp only[WF];rw[if_neg (by simp[eF]),if_pos Fg]
   generalize t.eL.getD n (-1)=lv at *;have hil:=rY lv (by omega) (by omega);have ks:=ve;have lN:(lv==-1)=false:=by rw[beq_eq_false_iff_ne];omega
   go_enter func62,ntmps62;go_wp2_with fail;refine(oA lv _ (by omega) (by omega) (HPW.out _ HB.out)).mono ?_;rintro e w1 ⟨rfl,hb1⟩;have JK:Hid _:=HW.out.below hb1;have zu:Hid (bu w w1 p bl v v):=bu.aJ hb1;have hs1:=zad hsz hb1.size;clear hb1 N9 hlc c0 c1 c2 c6;go_wp2_with fail;refine(fN JK.out hne hs1 (35::(Lib.itoa lv++[35]))).mono ?_;rintro e w2 ⟨rfl,v2,hw2,hk2⟩;rw[←HV.out]at hw2;have xS:Hid _:=hw2;have pg:Hid (bu w w2 p bl v v2):=zu.out.trans hk2;clear hw2 hk2;go_wp2_with fail;refine bodyPost_ret (results_none rfl _ _ _) rfl ?_;exact⟨rfl,v2,xS.out,pg.out⟩
  ·have abN:Hid (¬0≤t.eL.getD n (-1)):=Fg;have hlv:t.eL.getD n (-1)=-1:=by omega
   rw[hlv]at hlc;obtain⟨t1,qy⟩:∃t1,Hid (t1=if L n then t.put n else t):=⟨_,rfl⟩;have U4:Hid (t1.Ok G.length L):=by
    show t1.Ok _ _;rw[qy.out];split
    ·rename_i e;exact HT.out.put jL e eF
    ·exact HT.out
   have HF1:Hid (∀q:List UInt8,1≤q.length→need (t1.add q)≤f):=by
    intro q hq;have ho:=HT.out.lo eF;have h1:=HF.out;rw[qy.out];split
    ·have h2:=Dk eF ho n;have h3:=eK (t.put n) q;omega
    ·have h2:=rV eF ho hq;omega
   have Xm:Hid (WF (bF G) (aD G) (kV G) L (f+1) false t n=
    if bF G n=1 then WF (bF G) (aD G) (kV G) L f true (WF (bF G) (aD G) (kV G) L f false (t1.add [40]) ((aD G n).getD 0 0)) ((aD G n).getD 1 0)
    else if bF G n=2 then(gR (WF (bF G) (aD G) (kV G) L f false) (aD G n) (aD G n).length (t1.add [35,40])).add [41]
    else t1.add (kV G n)):=by
    show _=_;rw[qy.out];simp only[WF];rw[if_neg (by simp[eF]),if_neg (by have:=abN.out;omega)]
   clear Fg hlv hln;cases hL:L n
   ·have HL0:Hid (t=t1):=by show _=_;rw[qy.out,hL];rfl
    rw[hL]at N9;have JK:Hid (dv w W0.heap.size p bl bL G.length (.slice (some ⟨b,o,none⟩) G.length cap) t1 v):=by rw[←HL0.out];exact HW.out
    obtain⟨v1,L4⟩:∃v1,v1=v:=⟨v,rfl⟩;have zu:Hid (bu w w p bl v v1):=by rw[L4];exact bu.refl _ _ _ _
    rw[←L4]at JK;clear L4;go_enter func62,ntmps62;have PY:Hid (Below W0.heap.size W0 w):=DX.out _ _ zu.out;obtain⟨x0,x1,x2,x3,x4,xi,xt,xs⟩:=(HC.out.hG n jL).below PY.out;have S6:Hid _:=HC.out.hk n jL;have Hk:Hid _:=kW G n jL;have HAN:Hid _:=FH G n jL;have PZ:Hid (G[n].kind=2→_):=λk2=>ud G b o cap W0 p bl bL L Rc rk HC.out f (show Hid _ from IA.out f (zaa _)) n jL HR.out k2;have P0:Hid (G[n].kind=1→_):=λk1=>zD G b o cap W0 p bl bL L Rc rk HC.out f IA n jL HR.out k1;have JO:Hid (∀y,y<G.length→∀z∈aD G y,z<G.length):=kU G HC.out.hs;have S7:Hid (∀y,y<G.length→bF G y=1→(aD G y).length=2):=λy hy hk=>xv G y hy (HC.out.hk y hy) hk;obtain⟨d0,d1,d2,d6⟩:=JK.out.cells;have U9:Hid (∀ob:Obj,Below W0.heap.size W0 (w.alloc ob)):=λob=>PY.out.alloc PY.out.size ob;have Va:Hid (∀ob:Obj,dv (w.alloc ob) W0.heap.size p bl bL G.length (.slice (some ⟨b,o,none⟩) G.length cap) t1 v1):=λob=>JK.out.below aG;have Vb:Hid (∀ob:Obj,bu w (w.alloc ob) p bl v v1):=λob=>zu.out.trans (bu.aJ aG);generalize G[n]=x at *;clear xi xt xs d1 d2 d6;by_cases k1:x.kind=1
    ·have hb1:(x.kind==1)=true:=by rw[beq_iff_eq];exact k1
     have HV:Hid _:=Xm.out;rw[Hk.out,if_pos k1]at HV;have Vc:Hid _:=P0.out k1;clear k1 PZ P0;go_wp2_with fail;refine(Vc.out t1 _ v1 U4.out (HF1.out [40] (by simp)) (U9.out _) (Va.out _)).mono ?_;rintro e w2 ⟨rfl,v2,hw2,hk2⟩;rw[←HV.out]at hw2;have xS:Hid _:=hw2;have pg:Hid (bu w w2 p bl v v2):=(Vb.out _).trans hk2;clear hw2 hk2;go_wp2_with fail
     go_end0
     exact⟨rfl,v2,xS.out,pg.out⟩
    ·have hb1:(x.kind==1)=false:=by rw[beq_eq_false_iff_ne];exact k1
     by_cases k2:x.kind=2
     ·have hb2:(x.kind==2)=true:=by rw[beq_iff_eq];exact k2
      have HV:Hid _:=Xm.out;rw[Hk.out,if_neg k1,if_pos k2]at HV;have Vc:Hid _:=PZ.out k2;clear k1 k2 PZ P0;go_wp2_with fail;refine(Vc.out t1 _ v1 U4.out (HF1.out [35,40] (by simp)) (U9.out _) JO.out S7.out (Va.out _)).mono ?_;rintro e w2 ⟨rfl,v2,hw2,hk2⟩;rw[←HV.out]at hw2;have xS:Hid _:=hw2;have pg:Hid (bu w w2 p bl v v2):=(Vb.out _).trans hk2;clear hw2 hk2;go_wp2_with fail
      go_end0
      exact⟨rfl,v2,xS.out,pg.out⟩
     ·have hb2:(x.kind==2)=false:=by rw[beq_eq_false_iff_ne];exact k2
      have HV:Hid _:=Xm.out;rw[Hk.out,if_neg k1,if_neg k2,HAN.out]at HV;have Vd:Hid _:=k1;have Ve:Hid _:=k2;have abO:W0.heap.size≤w.heap.size:=PY.out.size;clear k1 k2 PZ P0;go_wp2_with fail;refine(Dp x _ S6.out (by exact Vd.out) (by exact Ve.out) (HPW.out _ (U9.out _))).mono ?_;rintro e w4 ⟨rfl,hb4⟩;have tY:Hid _:=(Va.out _).below hb4;have qA:Hid _:=(Vb.out _).trans (bu.aJ hb4);have Kj:W0.heap.size≤w4.heap.size:=by have:=hb4.size;simp at this;omega
      clear hb4;go_wp2_with fail;refine(fN tY.out hne Kj (fT x)).mono ?_;rintro e w2 ⟨rfl,v2,hw2,hk2⟩;rw[←HV.out]at hw2;have xS:Hid _:=hw2;have pg:Hid (bu w w2 p bl v v2):=qA.out.trans hk2;clear hw2 hk2;go_wp2_with fail
      go_end0
      exact⟨rfl,v2,xS.out,pg.out⟩
   ·have HL0:Hid (t.put n=t1):=by show _=_;rw[qy.out,hL];rfl
    rw[hL]at N9;go_enter func62,ntmps62;go_wp2_with fail;refine(PV HW.out hne hsz HT.out.ll xY n jL HC.out.hl (λw' h=>HPW.out w' (HB.out.trans h))).mono ?_;rintro e w1 ⟨rfl,v1,h1,h2⟩;rw[HL0.out]at h1;have JK:Hid _:=h1;have zu:Hid (bu w w1 p bl v v1):=h2;clear h1 h2 c0 c1 c2 c6 hlc N9;have PY:Hid (Below W0.heap.size W0 w1):=DX.out _ _ zu.out;obtain⟨x0,x1,x2,x3,x4,xi,xt,xs⟩:=(HC.out.hG n jL).below PY.out;have S6:Hid _:=HC.out.hk n jL;have Hk:Hid _:=kW G n jL;have HAN:Hid _:=FH G n jL;have PZ:Hid (G[n].kind=2→_):=λk2=>ud G b o cap W0 p bl bL L Rc rk HC.out f (show Hid _ from IA.out f (zaa _)) n jL HR.out k2;have P0:Hid (G[n].kind=1→_):=λk1=>zD G b o cap W0 p bl bL L Rc rk HC.out f IA n jL HR.out k1;have JO:Hid (∀y,y<G.length→∀z∈aD G y,z<G.length):=kU G HC.out.hs;have S7:Hid (∀y,y<G.length→bF G y=1→(aD G y).length=2):=λy hy hk=>xv G y hy (HC.out.hk y hy) hk;obtain⟨d0,d1,d2,d6⟩:=JK.out.cells;have U9:Hid (∀ob:Obj,Below W0.heap.size W0 (w1.alloc ob)):=λob=>PY.out.alloc PY.out.size ob;have Va:Hid (∀ob:Obj,dv (w1.alloc ob) W0.heap.size p bl bL G.length (.slice (some ⟨b,o,none⟩) G.length cap) t1 v1):=λob=>JK.out.below aG;have Vb:Hid (∀ob:Obj,bu w (w1.alloc ob) p bl v v1):=λob=>zu.out.trans (bu.aJ aG);generalize G[n]=x at *;clear xi xt xs d1 d2 d6;by_cases k1:x.kind=1
    ·have hb1:(x.kind==1)=true:=by rw[beq_iff_eq];exact k1
     have HV:Hid _:=Xm.out;rw[Hk.out,if_pos k1]at HV;have Vc:Hid _:=P0.out k1;clear k1 PZ P0;go_wp2_with fail;refine(Vc.out t1 _ v1 U4.out (HF1.out [40] (by simp)) (U9.out _) (Va.out _)).mono ?_;rintro e w2 ⟨rfl,v2,hw2,hk2⟩;rw[←HV.out]at hw2;have xS:Hid _:=hw2;have pg:Hid (bu w w2 p bl v v2):=(Vb.out _).trans hk2;clear hw2 hk2;go_wp2_with fail
     go_end0
     exact⟨rfl,v2,xS.out,pg.out⟩
    ·have hb1:(x.kind==1)=false:=by rw[beq_eq_false_iff_ne];exact k1
     by_cases k2:x.kind=2
     ·have hb2:(x.kind==2)=true:=by rw[beq_iff_eq];exact k2
      have HV:Hid _:=Xm.out;rw[Hk.out,if_neg k1,if_pos k2]at HV;have Vc:Hid _:=PZ.out k2;clear k1 k2 PZ P0;go_wp2_with fail;refine(Vc.out t1 _ v1 U4.out (HF1.out [35,40] (by simp)) (U9.out _) JO.out S7.out (Va.out _)).mono ?_;rintro e w2 ⟨rfl,v2,hw2,hk2⟩;rw[←HV.out]at hw2;have xS:Hid _:=hw2;have pg:Hid (bu w w2 p bl v v2):=(Vb.out _).trans hk2;clear hw2 hk2;go_wp2_with fail
      go_end0
      exact⟨rfl,v2,xS.out,pg.out⟩
     ·have hb2:(x.kind==2)=false:=by rw[beq_eq_false_iff_ne];exact k2
      have HV:Hid _:=Xm.out;rw[Hk.out,if_neg k1,if_neg k2,HAN.out]at HV;have Vd:Hid _:=k1;have Ve:Hid _:=k2;have abO:W0.heap.size≤w1.heap.size:=PY.out.size;clear k1 k2 PZ P0;go_wp2_with fail;refine(Dp x _ S6.out (by exact Vd.out) (by exact Ve.out) (HPW.out _ (U9.out _))).mono ?_;rintro e w4 ⟨rfl,hb4⟩;have tY:Hid _:=(Va.out _).below hb4;have qA:Hid _:=(Vb.out _).trans (bu.aJ hb4);have Kj:W0.heap.size≤w4.heap.size:=by have:=hb4.size;simp at this;omega
      clear hb4;go_wp2_with fail;refine(fN tY.out hne Kj (fT x)).mono ?_;rintro e w2 ⟨rfl,v2,hw2,hk2⟩;rw[←HV.out]at hw2;have xS:Hid _:=hw2;have pg:Hid (bu w w2 p bl v v2):=qA.out.trans hk2;clear hw2 hk2;go_wp2_with fail
      go_end0
      exact⟨rfl,v2,xS.out,pg.out⟩
 ·rw[eF]at c6;have HV:Hid (WF (bF G) (aD G) (kV G) L (f+1) false t n=t):=ko _ _ _ _ eF;go_enter func62,ntmps62;go_wp2_with fail;refine bodyPost_ret (results_none rfl _ _ _) rfl ?_;exact⟨rfl,v,by rw[HV.out];exact HW.out,bu.refl _ _ _ _⟩
theorem xw {G:List Nd}{b o cap:Nat}{W0:World}{p bl bL:Nat}{L:Nat→Bool}{Rc:Nat→Prop}{rk:Nat→Nat}(C:Dl G b o W0 p bl bL L Rc rk):∀f g,g≤f→Dm G b o cap W0 p bl bL L Rc g
 |0,g,hg=>by
  intro t a w v _ _ _ _ hf;have:=rW t;omega
 |f+1,g,hg=>by
  rcases zag f g with h|h
  ·have:g=f+1:=by omega
   subst this;exact JQ G b o cap W0 p bl bL L Rc rk C f (λg hg=>xw C f g hg)
  ·exact xw C f g h
def uH (t:TS):List UInt8:=if t.long then[]else t.out
def Br (t:TS):Bool:=!t.long
def iV (n k:Nat):List Int:=List.replicate k (-1)++List.replicate (n-k) 0
theorem xx (n k:Nat)(h:k≤n):(iV n k).length=n:=by simp[iV];omega
theorem FL (n k:Nat)(h:k<n):(iV n k).set k (-1)=iV n (k+1):=by
 apply List.ext_getElem?
 intro i;unfold iV;rw[List.getElem?_set];simp only[List.getElem?_append,zbK,zaw,List.length_replicate];repeat' split
 all_goals first|rfl|omega|(simp;omega)
theorem FM (n:Nat):iV n n=List.replicate n (-1):=by simp[iV]
theorem dv.Vf {w:World}{B p bl bL n:Nat}{nv:Value}{t:TS}{v:Value}(h:dv w B p bl bL n nv t v)(hne:p≠bl){a:Nat}(ha:a<t.eL.length)(z:Int):dv (w.setCell ⟨bl,a,none⟩ (.int .i64 z)) B p bl bL n nv { t with eL:=t.eL.set a z } v:=by
 obtain⟨q,hq,hb⟩:=h.blk;refine⟨h.hB,⟨q,hq,(Below.heap_setCell _ _ _ _ hne).trans hb⟩,?_,h.rl.set a ha z,h.nb,h.ol,?_⟩
 ·exact h.own.kept (row:=some bl) ⟨rfl,rfl,rfl,by simp[World.setCell],λk _ hk=>Below.heap_setCell _ _ _ _ (λe=>hk (by simp[e]))⟩ (Or.inr h.nb)
 ·have:=h.bl;simpa[World.setCell]using this
theorem uI (G:List Nd)(b o cap:Nat)(W:World)(bL:Nat)(L:Nat→Bool)(Rc:Nat→Prop)(rk:Nat→Nat)(C:∀p bl,W.heap.size≤p→W.heap.size≤bl→p≠bl→Dl G b o W p bl bL L Rc rk)(h0:Rc 0)(KL:0<G.length)(hn:G.length≤150)(F:Nat)(hF:403≤F)(hout:(WF (bF G) (aD G) (kV G) L F false (cV G.length) 0).long=false→(WF (bF G) (aD G) (kV G) L F false (cV G.length) 0).out≠[]):Calls prog 39 #[.slice (some ⟨b,o,none⟩) G.length cap,.slice (some ⟨bL,0,none⟩) G.length G.length] W λe w'=>
  e=.returned (.tuple #[.string ⟨⟨uH (WF (bF G) (aD G) (kV G) L F false (cV G.length) 0)⟩⟩,.bool (Br (WF (bF G) (aD G) (kV G) L F false (cV G.length) 0))])∧Below W.heap.size W w':=by
 obtain⟨tf,htf⟩:∃tf,Hid (tf=WF (bF G) (aD G) (kV G) L F false (cV G.length) 0):=⟨_,rfl⟩;rw[←htf.out]at hout ⊢;have HC:Hid _:=C;clear C;have mki:=run_make_row' (P:=prog) 43 3 (.int .i64 0) 8 underlying43 Hi rfl .i64 .i64 G.length (by omega) (by omega);go_enter func39,ntmps39;have HS:Hid (dv ((W.alloc (Obj.cells (madeCells #[Value.int IntKind.i64 0] G.length) 3)).alloc (Obj.cells #[.slice (some ⟨b,o,none⟩) G.length cap,.slice (some ⟨bL,0,none⟩) G.length G.length,.slice (some ⟨W.heap.size,0,none⟩) G.length G.length,.int .i64 0,.pointer none,.slice none 0 0,.bool false] 118))
  W.heap.size (W.heap.size+1) W.heap.size bL G.length (.slice (some ⟨b,o,none⟩) G.length cap) ⟨iV G.length 0,0,[],false⟩ (.slice none 0 0)):=by
  have hz:iV G.length 0=List.replicate G.length 0:=by simp[iV]
  refine⟨by omega,⟨_,Or.inl rfl,?_⟩,World.ownsRow_nil _ _ _ _,?_,by simp[Value.ownBlock],by simp,by simp;omega⟩
  ·have:=heap_alloc_new (W.alloc (Obj.cells (madeCells #[Value.int IntKind.i64 0] G.length) 3)) (Obj.cells #[.slice (some ⟨b,o,none⟩) G.length cap,.slice (some ⟨bL,0,none⟩) G.length G.length,.slice (some ⟨W.heap.size,0,none⟩) G.length G.length,.int .i64 0,.pointer none,.slice none 0 0,.bool false] 118);rw[World.size_alloc]at this;exact this
  ·show k9 _ _ (iV G.length 0);rw[hz];exact zB ((Lib.alloc_old _ _ _ (by simp)).trans (heap_alloc_new W _))
 have HSB:Hid (Below W.heap.size W ((W.alloc (Obj.cells (madeCells #[Value.int IntKind.i64 0] G.length) 3)).alloc (Obj.cells #[.slice (some ⟨b,o,none⟩) G.length cap,.slice (some ⟨bL,0,none⟩) G.length G.length,.slice (some ⟨W.heap.size,0,none⟩) G.length G.length,.int .i64 0,.pointer none,.slice none 0 0,.bool false] 118))):=
  ((Below.refl _ _).alloc (zaa _) _).alloc (by simp) _
 go_wp2_with fail;go_loopw [20] (λi wr=>∃k:Nat,k≤G.length∧i=.int .i64 k∧Hid (dv wr W.heap.size (W.heap.size+1) W.heap.size bL G.length (.slice (some ⟨b,o,none⟩) G.length cap) ⟨iV G.length k,0,[],false⟩ (.slice none 0 0))∧Hid (Below W.heap.size W wr)) (λi _=>G.length-(intOf i).toNat)
 case atStart=>exact⟨0,zaj _,rfl,HS.out,HSB.out⟩
 case round=>
  obtain⟨k,hk,rfl,xu,DU⟩:=hrel;obtain⟨c0,c1,c2,c6⟩:=xu.out.cells;by_cases hlt:k<G.length
  ·obtain⟨lN,hl2⟩:=xu.out.rl k (by show k<(iV G.length k).length;rw[xx _ _ hk];exact hlt);have HN:Hid _:=xu.out.Vf (by omega) (a:=k) (by show k<(iV G.length k).length;rw[xx _ _ hk];exact hlt) (-1);have HNB:Hid (Below W.heap.size W (wr.setCell ⟨W.heap.size,k,none⟩ (.int .i64 (-1)))):=DU.out.setCell (p:=⟨W.heap.size,k,none⟩) (zaa _) _;simp only[FL _ _ hlt]at HN;go_wp2_with fail;go_roundw
   case rel=>exact⟨k+1,by omega,by go_num,HN,HNB⟩
   case measure=>simp[intOf];omega
  ·have N8:k=G.length:=by omega
   have NZ:Hid (dv wr W.heap.size (W.heap.size+1) W.heap.size bL G.length (.slice (some ⟨b,o,none⟩) G.length cap) (cV G.length) (.slice none 0 0)):=by
    have:=xu.out;rw[N8,FM]at this;exact this
   have HCC:Hid _:=HC.out (W.heap.size+1) W.heap.size (by omega) (zaa _) (by omega);clear c0 c1 c2 c6 xu mki;go_wp2_with fail;refine(xw (cap:=cap) HCC.out F F (zaa _) (cV G.length) 0 _ _ (zC _ _) (by omega) (by omega) h0 (by show need (cV G.length)≤F;unfold need cV;simp;omega) DU.out NZ.out).mono ?_;rintro e w2 ⟨rfl,v2,hw2,hk2⟩;have Vg:dv w2 W.heap.size (W.heap.size+1) W.heap.size bL G.length (.slice (some ⟨b,o,none⟩) G.length cap) tf v2:=by rw[htf.out];exact hw2
   obtain⟨d0,d1,d2,d6⟩:=Vg.cells;have xS:Hid _:=Vg;have ij:Hid (Below W.heap.size W w2):=DU.out.trans (hk2.below DU.out.size (by omega) (zaa _) (by simp[Value.ownBlock]));clear hw2 Vg hk2 d0 d1 d2;cases eF:tf.long
   ·rw[eF]at d6;have HL1:Hid (uH tf=tf.out):=by show _=_;unfold uH;rw[eF];rfl
    have U7:Hid (Br tf=true):=by show _=_;unfold Br;rw[eF];rfl
    obtain⟨q,hq,FI⟩:=xS.out.bld;have HO:Hid _:=hout eF;have ZA:Hid _:=FI;clear FI;go_wp2_with fail;refine(lI ZA.out HO.out).mono ?_;rintro e w3 ⟨rfl,h3⟩;have iz:Hid (Below W.heap.size W w3):=ij.out.trans (h3.below ij.out.size (by omega) xS.out.MZ);clear h3;go_wp2_with fail;go_ret2;exact⟨by rw[HL1.out,U7.out];rfl,iz.out⟩
   ·rw[eF]at d6;have HL1:Hid (uH tf=[]):=by show _=_;unfold uH;rw[eF];rfl
    have U7:Hid (Br tf=false):=by show _=_;unfold Br;rw[eF];rfl
    go_wp2_with fail;go_ret2;exact⟨by rw[HL1.out,U7.out];rfl,ij.out⟩
end Go.Proofs.YtlhimdjkkiflhaaGreatDoor
namespace Go.Loop
def WS.Tw (s:WS):Prop:=∀x,s.wi.getD x false=true→1<s.met.getD x 0
theorem Tw.meet {n:Nat}{S:Nat→List Nat}(hS:∀x,x<n→∀y∈S x,y<n):∀(f:Nat) (s:WS) (a:Nat),s.Ok n→a<n→s.Tw→(cq S f s a).Tw
 |0,s,a,h,ha,ht=>ht
 |f+1,s,a,h,ha,ht=>by
  have hh:∀x,1<s.met.getD x 0→1<(s.hit a).met.getD x 0:=λx hx=>by
   rw[gY h ha];split<;>(try subst_vars)<;>omega
  simp only[cq];split
  ·rename_i hm;intro x hx;change(s.wi.set a (s.wi.getD a false||s.op.getD a false)).getD x false=true at hx;show 1<(s.hit a).met.getD x 0;rw[dS _ _ _ _ _ (by rw[h.lw];exact ha)]at hx;split at hx
   ·rename_i e;subst e;rw[gY h ha,if_pos rfl];omega
   ·exact hh x (ht x hx)
  ·have h2:((s.hit a).enter a).Ok n:=(h.hit ha).enter ha (lq h ha);have t2:((s.hit a).enter a).Tw:=λx hx=>hh x (ht x hx);have:∀(l:List Nat) (t:WS),(∀y∈l,y<n)→t.Ok n→t.Tw→(l.foldl (cq S f) t).Tw:=by
    intro l
    induction l with
    |nil=>intro t _ _ ht;exact ht
    |cons y r ih=>intro t hl ht hw;exact ih _ (λz hz=>hl z (zax _ hz)) (Ok.meet hS f t y ht (hl y zau)) (Tw.meet hS f t y ht (hl y zau) hw)
   exact this _ _ (hS a ha) h2 t2
theorem P1 {n:Nat}{S:Nat→List Nat}(hn:0<n)(hS:∀x,x<n→∀y∈S x,y<n):(fD S n).Tw:=
 Tw.meet hS _ _ _ (mn n) hn (λx hx=>by change(List.replicate n false).getD x false=true at hx;rw[ft]at hx;exact absurd hx (by simp))
theorem Dq {t:TS}(hn:need t≤403)(ho:t.long=false→t.out.length≤400){p:List UInt8}(hp:1≤p.length):need (t.add p)<403:=by
 cases h:t.long
 ·exact zaq (rV h (ho h) hp) hn
 ·rw[dT h];unfold need;rw[if_pos h];omega
end Go.Loop
namespace Go.Proofs.YtlhimdjkkiflhaaGreatDoor
open Go.RowKit Go.Loop
theorem P2 (n:Int):1≤(Lib.itoa n).length:=by
 have hd:∀u:Nat,1≤(Lib.decDigits u).length:=λu=>by
  rw[Lib.decDigits_length];rw[Lib.nDigits];split<;>omega
 unfold Lib.itoa;split
 ·simp
 ·exact hd _
theorem P3 (x:Nd)(hb:bp x=true)(h1:x.kind≠1)(h2:x.kind≠2):1≤(fT x).length:=by
 unfold bp at hb;unfold fT;by_cases k0:x.kind=0
 ·rw[if_pos k0];simp
 rw[if_neg k0]at hb ⊢;rw[if_neg h1,if_neg h2]at hb;by_cases k3:x.kind=3
 ·rw[if_pos k3];unfold xr;simp
 rw[if_neg k3]at hb ⊢;by_cases k4:x.kind=4
 ·rw[if_pos k4]at hb ⊢;simp only[zac]at hb;have:=hb.2;unfold rA at this;cases hx:x.text
  ·rw[hx]at this;simp at this
  ·simp
 rw[if_neg k4]at hb ⊢;by_cases k5:x.kind=5
 ·rw[if_pos k5];unfold il;have:=P2 x.n;split
  ·exact this
  ·simp only[zaw,zak];omega
 rw[if_neg k5]at hb ⊢;by_cases k6:x.kind=6
 ·rw[if_pos k6];split<;>simp
 rw[if_neg k6];unfold Di;simp
theorem Dr (G:List Nd)(hr:eQ G=true)(L:Nat→Bool)(F:Nat)(hF:1≤F):(WF (bF G) (aD G) (kV G) L F false (cV G.length) 0).long=false→(WF (bF G) (aD G) (kV G) L F false (cV G.length) 0).out≠[]:=by
 obtain⟨h1,yB,hk,hs,PW⟩:=lr G hr;intro hl ho;have key:need (WF (bF G) (aD G) (kV G) L F false (cV G.length) 0)<403:=by
  obtain⟨f,rfl⟩:∃f,F=f+1:=⟨F-1,by omega⟩;have e0:(cV G.length).eL.getD 0 (-1)=-1:=by show(List.replicate G.length (-1:Int)).getD 0 (-1)=-1;exact ft _ _ _
  have cC:=zC G.length L;have n0:need (cV G.length)≤403:=by unfold need cV;simp
  have h2:(if L 0 then(cV G.length).put 0 else cV G.length).Ok G.length L:=by
   split
   ·rename_i e;exact cC.put (by omega) e rfl
   ·exact cC
  have n2:need (if L 0 then(cV G.length).put 0 else cV G.length)≤403:=by
   split
   ·exact zad (Dg _ _) n0
   ·exact n0
  generalize hu:(if L 0 then(cV G.length).put 0 else cV G.length)=u at h2 n2;simp only[WF];rw[if_neg (by simp[cV]),e0,if_neg (by omega),hu];have Mb:∀p:List UInt8,1≤p.length→need (u.add p)<403:=λp hp=>Dq n2 h2.lo hp;by_cases k1:bF G 0=1
  ·rw[if_pos k1];exact zbE (gZ f true _ _) (zbE (gZ f false _ _) (Mb _ (by simp)))
  ·rw[if_neg k1];by_cases k2:bF G 0=2
   ·rw[if_pos k2];exact zbE (eK _ _) (zbE (rX (λt y=>gZ f false t y) _ _ _) (Mb _ (by simp)))
   ·rw[if_neg k2];rw[kW G 0 (by omega)]at k1 k2;exact Mb _ (by rw[FH G 0 (by omega)];exact P3 _ (hk 0 (by omega)) k1 k2)
 unfold need at key;rw[if_neg (by rw[hl];simp),ho]at key;simp at key
theorem zE (G:List Nd)(hr:eQ G=true)(mode:Int)(hm:mode=0∨mode=1∨mode=2)(hc:mode=0→qu G=false):∃(Rc:Nat→Prop) (rk:Nat→Nat),Rc 0∧(∀x,Rc x→∀y∈aD G x,Rc y)∧(∀x,Rc x→∀y∈aD G x,bF G y=1→mr G mode y=false→rk y<rk x):=by
 obtain⟨h1,yB,hk,hs,PW⟩:=lr G hr;have hS:=kU G hs;obtain⟨R,r,_,h0,eG,hrk⟩:=JI (n:=G.length) (S:=aD G) (by omega) hS;refine⟨reach (aD G) G.length,r,h0,eG,λx hx y hy xQ hl=>hrk x hx y hy ?_⟩;cases hw:(fD (aD G) G.length).wi.getD y false
 ·rfl
 ·exfalso;unfold mr at hl;rcases hm with rfl|rfl|rfl
  ·have:=hc rfl;unfold qu at this;rw[List.any_eq_false]at this;by_cases ZO:y<G.length
   ·exact this y (List.mem_range.2 ZO) hw
   ·have cC:(fD (aD G) G.length).Ok G.length:=Ok.meet hS _ _ _ (mn _) (by omega);have:(fD (aD G) G.length).wi.getD y false=false:=by
     simp only[List.getD];rw[zbF (by rw[cC.lw];omega)];rfl
    rw[this]at hw;exact absurd hw (by simp)
  ·rw[if_pos rfl,hw]at hl;exact absurd hl (by simp)
  ·have:=P1 (n:=G.length) (S:=aD G) (by omega) hS y hw;rw[if_neg (by omega),if_pos rfl,decide_eq_true this,xQ]at hl;simp at hl
def ja (x:Nd):Nd:={ x with sa:=none,cap:=0 }
theorem xy (G:List Nd):bF (G.map ja)=bF G:=by
 funext x;unfold bF;rw[zbt];cases G[x]?<;>rfl
theorem M9 (G:List Nd):kV (G.map ja)=kV G:=by
 funext x;unfold kV;rw[zbt];cases G[x]?<;>rfl
theorem qw (G:List Nd):aD (G.map ja)=aD G:=by
 funext x;unfold aD;rw[zbt];cases G[x]?<;>rfl
theorem Ds (G:List Nd):eQ (G.map ja)=eQ G:=by
 unfold eQ;rw[zbn,List.all_map];rfl
theorem JR (G:List Nd)(mode:Int):mr (G.map ja) mode=mr G mode:=by
 funext i;unfold mr;rw[qw,xy,zbn]
theorem JS (G:List Nd):qu (G.map ja)=qu G:=by
 unfold qu;rw[qw,zbn]
theorem Du (G:List Nd)(mode:Int)(F:Nat):dQ (G.map ja) mode F=dQ G mode F:=by
 unfold dQ;rw[qw,xy,M9,JR,zbn]
theorem ue (G:List Nd)(mode:Int)(F:Nat):dA (G.map ja) mode F=dA G mode F:=by
 unfold dA;rw[Ds,JS,Du]
theorem Dv (G H:List Nd)(h:G.map ja=H.map ja)(mode:Int)(F:Nat):dA G mode F=dA H mode F:=by
 rw[←ue G,←ue H,h]
end Go.Proofs.YtlhimdjkkiflhaaGreatDoor
