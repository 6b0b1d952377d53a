import Derived.Test.YtlhimdjkkiflhaaGreatDoorKnown29
set_option maxHeartbeats 8000000
set_option maxRecDepth 100000
namespace Go.Proofs.YtlhimdjkkiflhaaGreatDoor
open Go.Proofs.Tryz
open Go.RowKit Go.Loop
theorem Gs {K:Nat→Int}{S:Nat→List Nat}{At:Nat→List UInt8}{L:Nat→Bool}{g m:Nat}{t:TS}(ho:t.long=false→t.out.length≤400)(hg:need t≤g)(hk:K m=1)(hL:L m=false):∃g',g'≤g∧need (t.add [32])≤g'∧WF K S At L g true t m=WF K S At L g' true (WF K S At L g' false (t.add [32]) ((S m).getD 0 0)) ((S m).getD 1 0):=by
 cases hl:t.long
 ·have h1:=rN hl (ho hl) (p:=[32]) (by simp);have h2:=rO (t.add [32]);obtain⟨g',rfl⟩:∃g',g=g'+1:=⟨g-1,by omega⟩;refine⟨g',by omega,by omega,?_⟩
  conv=>lhs;rw[WF]
  rw[if_pos ⟨hk,hL⟩]
 ·refine⟨g,zaa _,by rw[dt hl];exact hg,?_⟩;rw[dt hl,jK g true t m hl,jK g false t _ hl,jK g true t _ hl]
theorem OH {K:Nat→Int}{S:Nat→List Nat}{At:Nat→List UInt8}{L:Nat→Bool}{g m:Nat}{t:TS}(ho:t.long=false→t.out.length≤400)(hg:need t≤g)(hn:¬(K m=1∧L m=false))(hk:K m≠0):∃g',g'≤g∧need (t.add [32,46,32])≤g'∧WF K S At L g true t m=(WF K S At L g' false (t.add [32,46,32]) m).add [41]:=by
 cases hl:t.long
 ·have h1:=rN hl (ho hl) (p:=[32,46,32]) (by simp);have h2:=rO (t.add [32,46,32]);obtain⟨g',rfl⟩:∃g',g=g'+1:=⟨g-1,by omega⟩;refine⟨g',by omega,by omega,?_⟩
  conv=>lhs;rw[WF]
  rw[if_neg hn,if_neg hk]
 ·refine⟨g,zaa _,by rw[dt hl];exact hg,?_⟩;rw[dt hl,jK g true t m hl,jK g false t _ hl,dt hl]
theorem OI {K:Nat→Int}{S:Nat→List Nat}{At:Nat→List UInt8}{L:Nat→Bool}{g m:Nat}{t:TS}(hg:need t≤g)(hk:K m=0):WF K S At L g true t m=t.add [41]:=by
 have h2:=rO t;obtain⟨g',rfl⟩:∃g',g=g'+1:=⟨g-1,by omega⟩;rw[WF,if_neg (by omega),if_pos hk]
def Bj (K:Nat→Int)(L:Nat→Bool)(rk:Nat→Nat)(m:Nat):Nat:=if K m=1∧L m=false then rk m+1 else 0
theorem KP {K:Nat→Int}{L:Nat→Bool}{rk:Nat→Nat}{m z:Nat}(hm:K m=1∧L m=false)(h:K z=1→L z=false→rk z<rk m):Bj K L rk z<Bj K L rk m:=by
 unfold Bj;rw[if_pos hm];split
 ·rename_i hz;have:=h hz.1 hz.2;omega
 ·omega
theorem cL.cells {w:World}{B p bl bL n:Nat}{nv:Value}{t:TS}{v:Value}(h:cL w B p bl bL n nv t v):w.cell? ⟨p,0,none⟩=some nv∧w.cell? ⟨p,1,none⟩=some (.slice (some ⟨bL,0,none⟩) n n)∧w.cell? ⟨p,2,none⟩=some (.slice (some ⟨bl,0,none⟩) n n)∧w.cell? ⟨p,6,none⟩=some (.bool t.long):=by
 obtain⟨q,hq,hb⟩:=h.blk;exact⟨Lib.cell_of_heap hb 0,Lib.cell_of_heap hb 1,Lib.cell_of_heap hb 2,Lib.cell_of_heap hb 6⟩
theorem zG (G:List Nd)(b o cap:Nat)(W0:World)(p bl bL:Nat)(L:Nat→Bool)(Rc:Nat→Prop)(rk:Nat→Nat)(C:DJ G b o W0 p bl bL L Rc rk)(f:Nat)(IA:Hid (∀g,g≤f→DK G b o cap W0 p bl bL L Rc g))
 (n:Nat)(jm:n<G.length)(OC:Rc n)(k1:G[n].kind=1)(t:TS)(w:World)(v:Value)(ht:t.Ok G.length L)(hf:need (t.add [40])≤f)(hb:Below W0.heap.size W0 w)
 (hw:cL w W0.heap.size p bl bL G.length (.slice (some ⟨b,o,none⟩) G.length cap) t v):
 Calls prog 102 #[.pointer (some ⟨p,0,none⟩),cR G[n]] w λe w'=>e=.returned (.tuple #[])∧
  ∃v',cL w' W0.heap.size p bl bL G.length (.slice (some ⟨b,o,none⟩) G.length cap) (WF (bp G) (ax G) (kv G) L f true (WF (bp G) (ax G) (kv G) L f false (t.add [40]) ((ax G n).getD 0 0)) ((ax G n).getD 1 0)) v'∧bf w w' p bl v v':=by
 have HC:Hid (DJ G b o W0 p bl bL L Rc rk):=C;have KQ:Hid (∀y,y<G.length→∀z∈ax G y,z<G.length):=jl G C.hs;have TL:Hid (∀y,y<G.length→bp G y=1→(ax G y).length=2):=λy hy hk=>xv G y hy (C.hk y hy) hk;have hl2:G[n].subs.length=2:=by have:=TL.out n jm (by rw[kx G n jm];exact k1);rw[iB G n jm]at this;simpa using this
 have HXS:Hid _:=C.hs n jm;have hs0:=oa G n jm 0 (by omega);have hs1:=oa G n jm 1 (by omega);have hv0:=lY _ _ HXS.out 0 (by omega);have Ie:=lY _ _ HXS.out 1 (by omega);have qu:Hid _:=C.rc n OC _ (oc G n jm 0 (by omega));have kK:Hid _:=C.rc n OC _ (oc G n jm 1 (by omega));have R1:Hid (∀y,y=(G[n].subs.getD 1 0).toNat→bp G y=1→L y=false→rk y<rk n):=λy hy=>by subst hy;exact C.rr n OC _ (oc G n jm 1 (by omega))
 have Xx:Hid _:=(C.hG n jm).ints;rw[hs0,hs1];clear hs0 hs1;generalize G[n]=x at *;have HBX:Hid (cL (w.alloc (.cells #[.int .i64 x.kind,.string ⟨⟨x.text⟩⟩,.int .i64 x.n,.int .i64 x.d,.slice x.sa x.subs.length x.cap] 45)) W0.heap.size p bl bL G.length (.slice (some ⟨b,o,none⟩) G.length cap) t v):=hw.below aA;have yI:Hid _:=(⟨hw.lt,hw.bl,hw.TH⟩:p<w.heap.size∧bl<w.heap.size∧∀k,v.ownBlock=some k→k<w.heap.size);have hsz:=hb.size;have hne:=C.pl;have EP:Hid (∀w' v',bf w w' p bl v v'→Below W0.heap.size W0 w'):=λw' v' h=>hb.trans (h.below hsz C.hp C.hl hw.OB);have HF:Hid (need (t.add [40])≤f):=hf;have HT:Hid ((t.add [40]).Ok G.length L):=ht.add _;clear k1 C hb ht hf hw OC;rcases Xx.out with h|⟨sb,so,LD,hc⟩
 ·exfalso;rw[h]at hl2;simp at hl2
 have VD:Hid (∀w':World,Below W0.heap.size W0 w'→∀k,k<x.subs.length→w'.cell? ⟨sb,so+k,none⟩=some (.int .i64 (x.subs.getD k 0))):=λw' hb' k hk=>bP hb' (hc k hk);have HC0:Hid (∀w':World,Below W0.heap.size W0 w'→w'.cell? ⟨sb,so,none⟩=some (.int .i64 (x.subs.getD 0 0))):=λw' hb'=>VD.out w' hb' 0 (by omega);have HC1:Hid (∀w':World,Below W0.heap.size W0 w'→w'.cell? ⟨sb,so+1,none⟩=some (.int .i64 (x.subs.getD 1 0))):=λw' hb'=>VD.out w' hb' 1 (by omega);clear hc Xx VD;rw[hl2,LD]at HBX;generalize x.subs.getD 0 0=s0 at *;generalize x.subs.getD 1 0=s1 at *;obtain⟨m1,rfl⟩:=zbh Ie.1;rw[zaE]at kK ⊢;obtain⟨t1,mn⟩:∃t1,Hid (t1=WF (bp G) (ax G) (kv G) L f false (t.add [40]) s0.toNat):=⟨_,rfl⟩;rw[←mn.out];unfold cR;rw[hl2,LD];go_enter func102,ntmps102;go_wp2_with (go_at_call 99;refine(fc HBX.out hne (by simp;omega) [40]).mono ?_);rintro e w1 ⟨rfl,v1,h1,h2⟩;have r4:w1.cell? ⟨w.heap.size,4,none⟩=some (.slice (some ⟨sb,so,none⟩) 2 x.cap):=h2.box yI.out.1 yI.out.2.1 yI.out.2.2 4 _ rfl;have HA2:Hid _:=h2;have H1:Hid _:=h1;have H2:Hid (bf w w1 p bl v v1):=(bf.ay aA).trans h2;have gP:Hid (Below W0.heap.size W0 w1):=EP.out _ _ H2.out;have q0:=HC0.out _ gP.out;clear h1 h2;go_wp2_with (go_at_call 62;refine(IA.out f (zaa _) _ s0 _ _ HT.out hv0.1 hv0.2 qu.out HF.out gP.out H1.out).mono ?_);rintro e w2 ⟨rfl,v2,h3,h4⟩;rw[←mn.out]at h3;have r4':w2.cell? ⟨w.heap.size,4,none⟩=some (.slice (some ⟨sb,so,none⟩) 2 x.cap):=(HA2.out.trans h4).box yI.out.1 yI.out.2.1 yI.out.2.2 4 _ rfl;have H3:Hid _:=h3;have H4:Hid (bf w w2 p bl v v2):=H2.out.trans h4;have gN:Hid (Below W0.heap.size W0 w2):=EP.out _ _ H4.out;have q1:=HC1.out _ gN.out;clear h3 h4 r4 q0;have IP:Hid ((WF (bp G) (ax G) (kv G) L f false (t.add [40]) s0.toNat).Ok G.length L):=rM KQ.out TL.out f false _ _ HT.out (by omega);have HN1:Hid (need (WF (bp G) (ax G) (kv G) L f false (t.add [40]) s0.toNat)≤f):=zad (gD f false _ _) HF.out;rw[←mn.out]at IP HN1;have QE:m1<G.length:=by omega
 go_wp2_with fail;go_loopw [4] (λi wr=>∃(m g:Nat) (tk:TS) (vk:Value),m<G.length∧i=.int .i64 m∧Hid (Rc m)∧g≤f∧Hid (need tk≤g)∧Hid (tk.Ok G.length L)∧Hid (WF (bp G) (ax G) (kv G) L f true t1 m1=WF (bp G) (ax G) (kv G) L g true tk m)∧
  Hid (cL wr W0.heap.size p bl bL G.length (.slice (some ⟨b,o,none⟩) G.length cap) tk vk)∧Hid (bf w wr p bl v vk)) (λi _=>Bj (bp G) L rk (intOf i).toNat)
 case atStart=>exact⟨m1,f,t1,v2,QE,rfl,kK.out,zaa _,HN1.out,IP.out,rfl,H3.out,H4.out⟩
 case round=>
  obtain⟨m,g,tk,vk,hm,rfl,PK,hgf,Xv,HTm,HEm,PL,PM⟩:=hrel;have HBm:Hid (Below W0.heap.size W0 wr):=EP.out _ _ PM.out;have Bi:W0.heap.size≤wr.heap.size:=HBm.out.size;obtain⟨y0,y1,y2,y3,y4,yi,yt,ys⟩:=(HC.out.hG m hm).below HBm.out;have IQ:Hid _:=kx G m hm;have HLm:Hid (∀w',Below W0.heap.size W0 w'→w'.cell? ⟨bL,m,none⟩=some (.bool (L m))):=λw' hb'=>bP hb' (HC.out.hL m hm);have P4:=HLm.out _ HBm.out;obtain⟨c0,c1,c2,c6⟩:=PL.out.cells;have TJ:Hid _:=HC.out.hk m hm;have R2:Hid _:=HC.out.hs m hm;have VE:Hid _:=oa G m hm 0;have VF:Hid _:=oa G m hm 1;have VG:Hid _:=oc G m hm;have VH:Hid (bp G m=1→G[m].subs.length=2):=λhk=>by have:=TL.out m hm hk;rw[iB G m hm]at this;simpa using this
  have Xy:Hid _:=(HC.out.hG m hm).ints;have HY4:Hid (∀w',Below W0.heap.size W0 w'→w'.cell? ⟨b,o+m*5+4,none⟩=some (.slice G[m].sa G[m].subs.length G[m].cap)):=λw' hb'=>bP hb' (HC.out.hG m hm).subs;generalize G[m]=y at *;clear yi yt ys y1 y2 y3 c2 c6;by_cases KR:y.kind=1∧L m=false
  ·have hb1:(y.kind==1)=true:=by rw[beq_iff_eq];exact KR.1
   have PN:=KR.2;rw[PN]at P4;obtain⟨g',sj,OJ,hE⟩:=Gs (K:=bp G) (S:=ax G) (At:=kv G) (L:=L) (m:=m) HTm.out.lo Xv.out (by rw[IQ.out];exact KR.1) KR.2;have P7:=VH.out (by rw[IQ.out];exact KR.1);rcases Xy.out with h|⟨yb,yo,hya,JG⟩
   ·exfalso;rw[h]at P7;simp at P7
   have adB:Hid (∀w':World,Below W0.heap.size W0 w'→w'.cell? ⟨yb,yo,none⟩=some (.int .i64 (y.subs.getD 0 0))):=λw' hb'=>bP hb' (JG 0 (by omega));have adC:Hid (∀w':World,Below W0.heap.size W0 w'→w'.cell? ⟨yb,yo+1,none⟩=some (.int .i64 (y.subs.getD 1 0))):=λw' hb'=>bP hb' (JG 1 (by omega));rw[VE.out (by omega),VF.out (by omega)]at hE;have hz0:=lY _ _ R2.out 0 (by omega);have hz1:=lY _ _ R2.out 1 (by omega);have adD:Hid _:=HC.out.rc m PK.out _ (VG.out 0 (by omega));have aaf:Hid _:=HC.out.rc m PK.out _ (VG.out 1 (by omega));have HRk:Hid _:=KP (K:=bp G) ⟨by rw[IQ.out];exact KR.1,KR.2⟩ (HC.out.rr m PK.out _ (VG.out 1 (by omega)));have HE:Hid _:=hE;have Rf:Hid _:=OJ;rw[P7,hya]at HY4 y4;clear JG Xy R2 VE VF VG VH TJ KR hE OJ PN;generalize y.subs.getD 0 0=z0 at *;generalize y.subs.getD 1 0=z1 at *;go_wp2_with (go_at_call 99;refine(fc PL.out hne Bi [32]).mono ?_);rintro e w3 ⟨rfl,v3,hw3,hk3⟩;have xY:Hid _:=hw3;have lS:Hid (bf w w3 p bl v v3):=PM.out.trans hk3;have gQ:Hid (Below W0.heap.size W0 w3):=EP.out _ _ lS.out;obtain⟨d0,d1,d2,d6⟩:=hw3.cells;have d4:=HY4.out _ gQ.out;have d5:=adB.out _ gQ.out;have OL:Hid _:=HTm.out.add [32];clear hw3 hk3 d1 d2 d6 c0 c1 y0 y4 P4;go_wp2_with (go_at_call 62;refine(IA.out g' (by omega) _ z0 _ _ OL.out hz0.1 hz0.2 adD.out Rf.out gQ.out xY.out).mono ?_);rintro e w4 ⟨rfl,v4,hw4,hk4⟩;have ui:Hid _:=hw4;have qo:Hid (bf w w4 p bl v v4):=lS.out.trans hk4;have oT:Hid (Below W0.heap.size W0 w4):=EP.out _ _ qo.out;obtain⟨e0,e1,e2,e6⟩:=hw4.cells;have e4:=HY4.out _ oT.out;have e5:=adC.out _ oT.out;have adE:Hid _:=rM (At:=kv G) KQ.out TL.out g' false _ _ OL.out (show z0.toNat<G.length by omega);have HN4:Hid _:=zad (gD (K:=bp G) (S:=ax G) (At:=kv G) (L:=L) g' false (tk.add [32]) z0.toNat) Rf.out;clear hw4 hk4 e1 e2 e6 d0 d4 d5;obtain⟨mz,rfl⟩:=zbh hz1.1;rw[zaE]at HE aaf HRk;go_wp2_with fail;go_roundw
   case rel=>exact⟨mz,g',_,v4,by omega,rfl,aaf,by omega,HN4,adE,by show _=_;rw[HEm.out];exact HE.out,ui,qo⟩
   case measure=>exact HRk.out
  ·have HPR:Hid (¬(bp G m=1∧L m=false)):=by rw[IQ.out];exact KR
   clear Xy R2 VE VF VG VH TJ HY4 y4;by_cases k0:y.kind=0
   ·have hb0:(y.kind==0)=true:=by rw[beq_iff_eq];exact k0
    have hb1:(y.kind==1)=false:=by rw[beq_eq_false_iff_ne];omega
    have HE:Hid _:=OI (K:=bp G) (S:=ax G) (At:=kv G) (L:=L) (m:=m) Xv.out (by rw[IQ.out];exact k0);clear k0 KR P4 c1;go_wp2_with (go_at_call 99;refine(fc PL.out hne Bi [41]).mono ?_);rintro e w3 ⟨rfl,v3,hw3,hk3⟩;rw[←HE.out,←HEm.out]at hw3;have xY:Hid _:=hw3;have lS:Hid (bf w w3 p bl v v3):=PM.out.trans hk3;clear hw3 hk3;go_wp2_with fail
    go_end0
    exact⟨rfl,v3,xY.out,lS.out⟩
   ·have hb0:(y.kind==0)=false:=by rw[beq_eq_false_iff_ne];exact k0
    obtain⟨g',sj,OJ,hE⟩:=OH (K:=bp G) (S:=ax G) (At:=kv G) (L:=L) (m:=m) HTm.out.lo Xv.out HPR.out (by rw[IQ.out];exact k0);have HE:Hid _:=hE;have Rf:Hid _:=OJ;have OL:Hid _:=HTm.out.add [32,46,32];clear hE OJ k0;by_cases k1:y.kind=1
    ·have hb1:(y.kind==1)=true:=by rw[beq_iff_eq];exact k1
     have PN:L m=true:=by cases h:L m;exact absurd ⟨k1,h⟩ KR;rfl
     rw[PN]at P4;clear k1 KR PN;go_wp2_with (go_at_call 99;refine(fc PL.out hne Bi [32,46,32]).mono ?_);rintro e w3 ⟨rfl,v3,hw3,hk3⟩;have xY:Hid _:=hw3;have lS:Hid (bf w w3 p bl v v3):=PM.out.trans hk3;have gQ:Hid (Below W0.heap.size W0 w3):=EP.out _ _ lS.out;clear hw3 hk3;go_wp2_with (go_at_call 62;refine(IA.out g' (by omega) _ (m:Int) _ _ OL.out (by omega) (by omega) (by rw[zaE];exact PK.out) Rf.out gQ.out xY.out).mono ?_);rintro e w4 ⟨rfl,v4,hw4,hk4⟩;rw[zaE]at hw4;have ui:Hid _:=hw4;have qo:Hid (bf w w4 p bl v v4):=lS.out.trans hk4;have VI:W0.heap.size≤w4.heap.size:=(EP.out _ _ qo.out).size;clear hw4 hk4;go_wp2_with (go_at_call 99;refine(fc ui.out hne VI [41]).mono ?_);rintro e w5 ⟨rfl,v5,Gr,qp⟩;rw[←HE.out,←HEm.out]at Gr;have pI:Hid _:=Gr;have EL:Hid (bf w w5 p bl v v5):=qo.out.trans qp;clear Gr qp;go_wp2_with fail
     go_end0
     exact⟨rfl,v5,pI.out,EL.out⟩
    ·have hb1:(y.kind==1)=false:=by rw[beq_eq_false_iff_ne];exact k1
     clear k1 KR P4 c1;go_wp2_with (go_at_call 99;refine(fc PL.out hne Bi [32,46,32]).mono ?_);rintro e w3 ⟨rfl,v3,hw3,hk3⟩;have xY:Hid _:=hw3;have lS:Hid (bf w w3 p bl v v3):=PM.out.trans hk3;have gQ:Hid (Below W0.heap.size W0 w3):=EP.out _ _ lS.out;clear hw3 hk3;go_wp2_with (go_at_call 62;refine(IA.out g' (by omega) _ (m:Int) _ _ OL.out (by omega) (by omega) (by rw[zaE];exact PK.out) Rf.out gQ.out xY.out).mono ?_);rintro e w4 ⟨rfl,v4,hw4,hk4⟩;rw[zaE]at hw4;have ui:Hid _:=hw4;have qo:Hid (bf w w4 p bl v v4):=lS.out.trans hk4;have VI:W0.heap.size≤w4.heap.size:=(EP.out _ _ qo.out).size;clear hw4 hk4;go_wp2_with (go_at_call 99;refine(fc ui.out hne VI [41]).mono ?_);rintro e w5 ⟨rfl,v5,Gr,qp⟩;rw[←HE.out,←HEm.out]at Gr;have pI:Hid _:=Gr;have EL:Hid (bf w w5 p bl v v5):=qo.out.trans qp;clear Gr qp;go_wp2_with fail
     go_end0
     exact⟨rfl,v5,pI.out,EL.out⟩
theorem DM (x:Nd)(w:World)(hb:aY x=true)(h1:x.kind≠1)(h2:x.kind≠2)(hp:Pow w):Calls prog 104 #[cR x] w λe w'=>e=.returned (.string ⟨⟨fo x⟩⟩)∧Below w.heap.size w w':=by
 have hk:x.kind=0∨x.kind=3∨x.kind=4∨x.kind=5∨x.kind=6∨x.kind=7:=by
  by_cases h:x.kind<0∨7<x.kind
  ·unfold aY at hb;rw[if_neg (by omega),if_neg (by omega),if_neg (by omega),if_neg (by omega),if_neg (by omega),if_neg (by omega),if_neg (by omega),if_neg (by omega)]at hb;exact absurd hb (by simp)
  ·omega
 rcases hk with h|h|h|h|h|h
 ·exact Vv x w h
 ·have:x.text.length≤400:=by
   unfold aY at hb;rw[if_neg (by omega),if_neg (by omega),if_neg (by omega),if_pos h]at hb;simp at hb;exact hb.1
  exact Vw x w this h
 ·exact Vx x w h
 ·have:AK x.n x.d=true:=by
   unfold aY at hb;rw[if_neg (by omega),if_neg (by omega),if_neg (by omega),if_neg (by omega),if_neg (by omega),if_pos h]at hb;simp at hb;exact hb.1
  unfold AK at this;simp at this;exact Vy x w (by omega) (by omega) (by omega) (by omega) hp h
 ·exact Vz x w h
 ·have:rb x.n=true:=by
   unfold aY at hb;rw[if_neg (by omega),if_neg (by omega),if_neg (by omega),if_neg (by omega),if_neg (by omega),if_neg (by omega),if_neg (by omega),if_pos h]at hb;simp at hb;exact hb.1
  exact VA x w this h
theorem KS (G:List Nd)(b o cap:Nat)(W0:World)(p bl bL:Nat)(L:Nat→Bool)(Rc:Nat→Prop)(rk:Nat→Nat)(C:DJ G b o W0 p bl bL L Rc rk)(f:Nat)(IA:Hid (∀g,g≤f→DK G b o cap W0 p bl bL L Rc g)):DK G b o cap W0 p bl bL L Rc (f+1):=by
 intro t a w v ht ha0 ha OC hf hb hw;obtain⟨n,rfl⟩:=zbh ha0;rw[zaE]at OC ⊢;have jm:n<G.length:=by omega
 have HC:Hid (DJ G b o W0 p bl bL L Rc rk):=C;have HT:Hid (t.Ok G.length L):=ht;have HB:Hid (Below W0.heap.size W0 w):=hb;have HW:Hid (cL w W0.heap.size p bl bL G.length (.slice (some ⟨b,o,none⟩) G.length cap) t v):=hw;have HF:Hid (need t≤f+1):=hf;have HR:Hid (Rc n):=OC;obtain⟨c0,c1,c2,c6⟩:=hw.cells;obtain⟨hlc,_⟩:=hw.rl n (by rw[ht.ll];exact jm);have P4:=bP hb (C.hL n jm);have hsz:=hb.size;have hne:=C.pl;have EP:Hid (∀w' v',bf w w' p bl v v'→Below W0.heap.size W0 w'):=λw' v' h=>hb.trans (h.below hsz C.hp C.hl hw.OB);have HPW:Hid (∀w',Below W0.heap.size W0 w'→Pow w'):=λw' h=>C.pw.on h;have hg:t.ea.getD n 0=t.ea.getD n (-1):=by
  have:=ht.ll;simp[List.getD,List.getElem?_eq_getElem (show n<t.ea.length by omega)]
 rw[hg]at hlc;have yh:=ht.n2;have hln:=ht.ln n;clear C ht hb hw hf OC hg;cases dP:t.long
 ·rw[dP]at c6;by_cases F6:0≤t.ea.getD n (-1)
  ·have HV:Hid (WF (bp G) (ax G) (kv G) L (f+1) false t n=t.add (35::(Lib.itoa (t.ea.getD n (-1))++[35]))):=by
    show _=_;simp only[WF];rw[if_neg (by simp[dP]),if_pos F6]
   generalize t.ea.getD n (-1)=lv at *;have hil:=rQ lv (by omega) (by omega);have ks:=vn;have Rt:(lv==-1)=false:=by rw[beq_eq_false_iff_ne];omega
   go_enter func62,ntmps62;go_wp2_with fail;refine(n9 lv _ (by omega) (by omega) (HPW.out _ HB.out)).mono ?_;rintro e w1 ⟨rfl,hb1⟩;have KM:Hid _:=HW.out.below hb1;have xW:Hid (bf w w1 p bl v v):=bf.ay hb1;have hs1:=zad hsz hb1.size;clear hb1 P4 hlc c0 c1 c2 c6;go_wp2_with fail;refine(fc KM.out hne hs1 (35::(Lib.itoa lv++[35]))).mono ?_;rintro e w2 ⟨rfl,v2,hw2,hk2⟩;rw[←HV.out]at hw2;have xX:Hid _:=hw2;have oQ:Hid (bf w w2 p bl v v2):=xW.out.trans hk2;clear hw2 hk2;go_wp2_with fail;refine bodyPost_ret (results_none rfl _ _ _) rfl ?_;exact⟨rfl,v2,xX.out,oQ.out⟩
  ·have adF:Hid (¬0≤t.ea.getD n (-1)):=F6;have hlv:t.ea.getD n (-1)=-1:=by omega
   rw[hlv]at hlc;obtain⟨t1,mn⟩:∃t1,Hid (t1=if L n then t.put n else t):=⟨_,rfl⟩;have IP:Hid (t1.Ok G.length L):=by
    show t1.Ok _ _;rw[mn.out];split
    ·rename_i e;exact HT.out.put jm e dP
    ·exact HT.out
   have OM:Hid (∀q:List UInt8,1≤q.length→need (t1.add q)≤f):=by
    intro q hq;have ho:=HT.out.lo dP;have h1:=HF.out;rw[mn.out];split
    ·have h2:=DI dP ho n;have h3:=dY (t.put n) q;omega
    ·have h2:=rN dP ho hq;omega
   have Xz:Hid (WF (bp G) (ax G) (kv G) L (f+1) false t n=
    if bp G n=1 then WF (bp G) (ax G) (kv G) L f true (WF (bp G) (ax G) (kv G) L f false (t1.add [40]) ((ax G n).getD 0 0)) ((ax G n).getD 1 0)
    else if bp G n=2 then(gl (WF (bp G) (ax G) (kv G) L f false) (ax G n) (ax G n).length (t1.add [35,40])).add [41]
    else t1.add (kv G n)):=by
    show _=_;rw[mn.out];simp only[WF];rw[if_neg (by simp[dP]),if_neg (by have:=adF.out;omega)]
   clear F6 hlv hln;cases hL:L n
   ·have HL0:Hid (t=t1):=by show _=_;rw[mn.out,hL];rfl
    rw[hL]at P4;have KM:Hid (cL w W0.heap.size p bl bL G.length (.slice (some ⟨b,o,none⟩) G.length cap) t1 v):=by rw[←HL0.out];exact HW.out
    obtain⟨v1,Ie⟩:∃v1,v1=v:=⟨v,rfl⟩;have xW:Hid (bf w w p bl v v1):=by rw[Ie];exact bf.refl _ _ _ _
    rw[←Ie]at KM;clear Ie;go_enter func62,ntmps62;have R3:Hid (Below W0.heap.size W0 w):=EP.out _ _ xW.out;obtain⟨x0,x1,x2,x3,x4,xi,xt,xs⟩:=(HC.out.hG n jm).below R3.out;have TJ:Hid _:=HC.out.hk n jm;have IQ:Hid _:=kx G n jm;have HAN:Hid _:=Gp G n jm;have R4:Hid (G[n].kind=2→_):=λk2=>uk G b o cap W0 p bl bL L Rc rk HC.out f (show Hid _ from IA.out f (zaa _)) n jm HR.out k2;have R5:Hid (G[n].kind=1→_):=λk1=>zG G b o cap W0 p bl bL L Rc rk HC.out f IA n jm HR.out k1;have KQ:Hid (∀y,y<G.length→∀z∈ax G y,z<G.length):=jl G HC.out.hs;have TL:Hid (∀y,y<G.length→bp G y=1→(ax G y).length=2):=λy hy hk=>xv G y hy (HC.out.hk y hy) hk;obtain⟨d0,d1,d2,d6⟩:=KM.out.cells;have VJ:Hid (∀ob:Obj,Below W0.heap.size W0 (w.alloc ob)):=λob=>R3.out.alloc R3.out.size ob;have VK:Hid (∀ob:Obj,cL (w.alloc ob) W0.heap.size p bl bL G.length (.slice (some ⟨b,o,none⟩) G.length cap) t1 v1):=λob=>KM.out.below aA;have VL:Hid (∀ob:Obj,bf w (w.alloc ob) p bl v v1):=λob=>xW.out.trans (bf.ay aA);generalize G[n]=x at *;clear xi xt xs d1 d2 d6;by_cases k1:x.kind=1
    ·have hb1:(x.kind==1)=true:=by rw[beq_iff_eq];exact k1
     have HV:Hid _:=Xz.out;rw[IQ.out,if_pos k1]at HV;have VM:Hid _:=R5.out k1;clear k1 R4 R5;go_wp2_with fail;refine(VM.out t1 _ v1 IP.out (OM.out [40] (by simp)) (VJ.out _) (VK.out _)).mono ?_;rintro e w2 ⟨rfl,v2,hw2,hk2⟩;rw[←HV.out]at hw2;have xX:Hid _:=hw2;have oQ:Hid (bf w w2 p bl v v2):=(VL.out _).trans hk2;clear hw2 hk2;go_wp2_with fail
     go_end0
     exact⟨rfl,v2,xX.out,oQ.out⟩
    ·have hb1:(x.kind==1)=false:=by rw[beq_eq_false_iff_ne];exact k1
     by_cases k2:x.kind=2
     ·have hb2:(x.kind==2)=true:=by rw[beq_iff_eq];exact k2
      have HV:Hid _:=Xz.out;rw[IQ.out,if_neg k1,if_pos k2]at HV;have VM:Hid _:=R4.out k2;clear k1 k2 R4 R5;go_wp2_with fail;refine(VM.out t1 _ v1 IP.out (OM.out [35,40] (by simp)) (VJ.out _) KQ.out TL.out (VK.out _)).mono ?_;rintro e w2 ⟨rfl,v2,hw2,hk2⟩;rw[←HV.out]at hw2;have xX:Hid _:=hw2;have oQ:Hid (bf w w2 p bl v v2):=(VL.out _).trans hk2;clear hw2 hk2;go_wp2_with fail
      go_end0
      exact⟨rfl,v2,xX.out,oQ.out⟩
     ·have hb2:(x.kind==2)=false:=by rw[beq_eq_false_iff_ne];exact k2
      have HV:Hid _:=Xz.out;rw[IQ.out,if_neg k1,if_neg k2,HAN.out]at HV;have VN:Hid _:=k1;have VO:Hid _:=k2;have adG:W0.heap.size≤w.heap.size:=R3.out.size;clear k1 k2 R4 R5;go_wp2_with fail;refine(DM x _ TJ.out (by exact VN.out) (by exact VO.out) (HPW.out _ (VJ.out _))).mono ?_;rintro e w4 ⟨rfl,hb4⟩;have ui:Hid _:=(VK.out _).below hb4;have qo:Hid _:=(VL.out _).trans (bf.ay hb4);have LK:W0.heap.size≤w4.heap.size:=by have:=hb4.size;simp at this;omega
      clear hb4;go_wp2_with fail;refine(fc ui.out hne LK (fo x)).mono ?_;rintro e w2 ⟨rfl,v2,hw2,hk2⟩;rw[←HV.out]at hw2;have xX:Hid _:=hw2;have oQ:Hid (bf w w2 p bl v v2):=qo.out.trans hk2;clear hw2 hk2;go_wp2_with fail
      go_end0
      exact⟨rfl,v2,xX.out,oQ.out⟩
   ·have HL0:Hid (t.put n=t1):=by show _=_;rw[mn.out,hL];rfl
    rw[hL]at P4;go_enter func62,ntmps62;go_wp2_with fail;refine(RZ HW.out hne hsz HT.out.ll yh n jm HC.out.hl (λw' h=>HPW.out w' (HB.out.trans h))).mono ?_;rintro e w1 ⟨rfl,v1,h1,h2⟩;rw[HL0.out]at h1;have KM:Hid _:=h1;have xW:Hid (bf w w1 p bl v v1):=h2;clear h1 h2 c0 c1 c2 c6 hlc P4;have R3:Hid (Below W0.heap.size W0 w1):=EP.out _ _ xW.out;obtain⟨x0,x1,x2,x3,x4,xi,xt,xs⟩:=(HC.out.hG n jm).below R3.out;have TJ:Hid _:=HC.out.hk n jm;have IQ:Hid _:=kx G n jm;have HAN:Hid _:=Gp G n jm;have R4:Hid (G[n].kind=2→_):=λk2=>uk G b o cap W0 p bl bL L Rc rk HC.out f (show Hid _ from IA.out f (zaa _)) n jm HR.out k2;have R5:Hid (G[n].kind=1→_):=λk1=>zG G b o cap W0 p bl bL L Rc rk HC.out f IA n jm HR.out k1;have KQ:Hid (∀y,y<G.length→∀z∈ax G y,z<G.length):=jl G HC.out.hs;have TL:Hid (∀y,y<G.length→bp G y=1→(ax G y).length=2):=λy hy hk=>xv G y hy (HC.out.hk y hy) hk;obtain⟨d0,d1,d2,d6⟩:=KM.out.cells;have VJ:Hid (∀ob:Obj,Below W0.heap.size W0 (w1.alloc ob)):=λob=>R3.out.alloc R3.out.size ob;have VK:Hid (∀ob:Obj,cL (w1.alloc ob) W0.heap.size p bl bL G.length (.slice (some ⟨b,o,none⟩) G.length cap) t1 v1):=λob=>KM.out.below aA;have VL:Hid (∀ob:Obj,bf w (w1.alloc ob) p bl v v1):=λob=>xW.out.trans (bf.ay aA);generalize G[n]=x at *;clear xi xt xs d1 d2 d6;by_cases k1:x.kind=1
    ·have hb1:(x.kind==1)=true:=by rw[beq_iff_eq];exact k1
     have HV:Hid _:=Xz.out;rw[IQ.out,if_pos k1]at HV;have VM:Hid _:=R5.out k1;clear k1 R4 R5;go_wp2_with fail;refine(VM.out t1 _ v1 IP.out (OM.out [40] (by simp)) (VJ.out _) (VK.out _)).mono ?_;rintro e w2 ⟨rfl,v2,hw2,hk2⟩;rw[←HV.out]at hw2;have xX:Hid _:=hw2;have oQ:Hid (bf w w2 p bl v v2):=(VL.out _).trans hk2;clear hw2 hk2;go_wp2_with fail
     go_end0
     exact⟨rfl,v2,xX.out,oQ.out⟩
    ·have hb1:(x.kind==1)=false:=by rw[beq_eq_false_iff_ne];exact k1
     by_cases k2:x.kind=2
     ·have hb2:(x.kind==2)=true:=by rw[beq_iff_eq];exact k2
      have HV:Hid _:=Xz.out;rw[IQ.out,if_neg k1,if_pos k2]at HV;have VM:Hid _:=R4.out k2;clear k1 k2 R4 R5;go_wp2_with fail;refine(VM.out t1 _ v1 IP.out (OM.out [35,40] (by simp)) (VJ.out _) KQ.out TL.out (VK.out _)).mono ?_;rintro e w2 ⟨rfl,v2,hw2,hk2⟩;rw[←HV.out]at hw2;have xX:Hid _:=hw2;have oQ:Hid (bf w w2 p bl v v2):=(VL.out _).trans hk2;clear hw2 hk2;go_wp2_with fail
      go_end0
      exact⟨rfl,v2,xX.out,oQ.out⟩
     ·have hb2:(x.kind==2)=false:=by rw[beq_eq_false_iff_ne];exact k2
      have HV:Hid _:=Xz.out;rw[IQ.out,if_neg k1,if_neg k2,HAN.out]at HV;have VN:Hid _:=k1;have VO:Hid _:=k2;have adG:W0.heap.size≤w1.heap.size:=R3.out.size;clear k1 k2 R4 R5;go_wp2_with fail;refine(DM x _ TJ.out (by exact VN.out) (by exact VO.out) (HPW.out _ (VJ.out _))).mono ?_;rintro e w4 ⟨rfl,hb4⟩;have ui:Hid _:=(VK.out _).below hb4;have qo:Hid _:=(VL.out _).trans (bf.ay hb4);have LK:W0.heap.size≤w4.heap.size:=by have:=hb4.size;simp at this;omega
      clear hb4;go_wp2_with fail;refine(fc ui.out hne LK (fo x)).mono ?_;rintro e w2 ⟨rfl,v2,hw2,hk2⟩;rw[←HV.out]at hw2;have xX:Hid _:=hw2;have oQ:Hid (bf w w2 p bl v v2):=qo.out.trans hk2;clear hw2 hk2;go_wp2_with fail
      go_end0
      exact⟨rfl,v2,xX.out,oQ.out⟩
 ·rw[dP]at c6;have HV:Hid (WF (bp G) (ax G) (kv G) L (f+1) false t n=t):=jK _ _ _ _ dP;go_enter func62,ntmps62;go_wp2_with fail;refine bodyPost_ret (results_none rfl _ _ _) rfl ?_;exact⟨rfl,v,by rw[HV.out];exact HW.out,bf.refl _ _ _ _⟩
theorem xw {G:List Nd}{b o cap:Nat}{W0:World}{p bl bL:Nat}{L:Nat→Bool}{Rc:Nat→Prop}{rk:Nat→Nat}(C:DJ G b o W0 p bl bL L Rc rk):∀f g,g≤f→DK G b o cap W0 p bl bL L Rc g
 |0,g,hg=>by
  intro t a w v _ _ _ _ hf;have:=rO t;omega
 |f+1,g,hg=>by
  rcases zag f g with h|h
  ·have:g=f+1:=by omega
   subst this;exact KS G b o cap W0 p bl bL L Rc rk C f (λg hg=>xw C f g hg)
  ·exact xw C f g h
def uN (t:TS):List UInt8:=if t.long then[]else t.out
def BQ (t:TS):Bool:=!t.long
def iC (n k:Nat):List Int:=List.replicate k (-1)++List.replicate (n-k) 0
theorem xx (n k:Nat)(h:k≤n):(iC n k).length=n:=by simp[iC];omega
theorem Gt (n k:Nat)(h:k<n):(iC n k).set k (-1)=iC n (k+1):=by
 apply List.ext_getElem?
 intro i;unfold iC;rw[List.getElem?_set];simp only[List.getElem?_append,zbK,zaL,List.length_replicate];repeat' split
 all_goals first|rfl|omega|(simp;omega)
theorem Gu (n:Nat):iC n n=List.replicate n (-1):=by simp[iC]
theorem cL.VP {w:World}{B p bl bL n:Nat}{nv:Value}{t:TS}{v:Value}(h:cL w B p bl bL n nv t v)(hne:p≠bl){a:Nat}(ha:a<t.ea.length)(z:Int):cL (w.setCell ⟨bl,a,none⟩ (.int .i64 z)) B p bl bL n nv { t with ea:=t.ea.set a z } v:=by
 obtain⟨q,hq,hb⟩:=h.blk;refine⟨h.hB,⟨q,hq,(Below.heap_setCell _ _ _ _ hne).trans hb⟩,?_,h.rl.set a ha z,h.nb,h.ol,?_⟩
 ·exact h.own.kept (row:=some bl) ⟨rfl,rfl,rfl,by simp[World.setCell],λk _ hk=>Below.heap_setCell _ _ _ _ (λe=>hk (by simp[e]))⟩ (Or.inr h.nb)
 ·have:=h.bl;simpa[World.setCell]using this
theorem uO (G:List Nd)(b o cap:Nat)(W:World)(bL:Nat)(L:Nat→Bool)(Rc:Nat→Prop)(rk:Nat→Nat)(C:∀p bl,W.heap.size≤p→W.heap.size≤bl→p≠bl→DJ G b o W p bl bL L Rc rk)(h0:Rc 0)(Mi:0<G.length)(hn:G.length≤150)(F:Nat)(hF:403≤F)(hout:(WF (bp G) (ax G) (kv G) L F false (cF G.length) 0).long=false→(WF (bp G) (ax G) (kv G) L F false (cF G.length) 0).out≠[]):Calls prog 39 #[.slice (some ⟨b,o,none⟩) G.length cap,.slice (some ⟨bL,0,none⟩) G.length G.length] W λe w'=>
  e=.returned (.tuple #[.string ⟨⟨uN (WF (bp G) (ax G) (kv G) L F false (cF G.length) 0)⟩⟩,.bool (BQ (WF (bp G) (ax G) (kv G) L F false (cF G.length) 0))])∧Below W.heap.size W w':=by
 obtain⟨tf,htf⟩:∃tf,Hid (tf=WF (bp G) (ax G) (kv G) L F false (cF G.length) 0):=⟨_,rfl⟩;rw[←htf.out]at hout ⊢;have HC:Hid _:=C;clear C;have mki:=run_make_row' (P:=prog) 43 3 (.int .i64 0) 8 underlying43 IL rfl .i64 .i64 G.length (by omega) (by omega);go_enter func39,ntmps39;have HS:Hid (cL ((W.alloc (Obj.cells (madeCells #[Value.int IntKind.i64 0] G.length) 3)).alloc (Obj.cells #[.slice (some ⟨b,o,none⟩) G.length cap,.slice (some ⟨bL,0,none⟩) G.length G.length,.slice (some ⟨W.heap.size,0,none⟩) G.length G.length,.int .i64 0,.pointer none,.slice none 0 0,.bool false] 118))
  W.heap.size (W.heap.size+1) W.heap.size bL G.length (.slice (some ⟨b,o,none⟩) G.length cap) ⟨iC G.length 0,0,[],false⟩ (.slice none 0 0)):=by
  have hz:iC G.length 0=List.replicate G.length 0:=by simp[iC]
  refine⟨by omega,⟨_,Or.inl rfl,?_⟩,World.ownsRow_nil _ _ _ _,?_,by simp[Value.ownBlock],by simp,by simp;omega⟩
  ·have:=heap_alloc_new (W.alloc (Obj.cells (madeCells #[Value.int IntKind.i64 0] G.length) 3)) (Obj.cells #[.slice (some ⟨b,o,none⟩) G.length cap,.slice (some ⟨bL,0,none⟩) G.length G.length,.slice (some ⟨W.heap.size,0,none⟩) G.length G.length,.int .i64 0,.pointer none,.slice none 0 0,.bool false] 118);rw[World.size_alloc]at this;exact this
  ·show kL _ _ (iC G.length 0);rw[hz];exact zE ((Lib.alloc_old _ _ _ (by simp)).trans (heap_alloc_new W _))
 have Xw:Hid (Below W.heap.size W ((W.alloc (Obj.cells (madeCells #[Value.int IntKind.i64 0] G.length) 3)).alloc (Obj.cells #[.slice (some ⟨b,o,none⟩) G.length cap,.slice (some ⟨bL,0,none⟩) G.length G.length,.slice (some ⟨W.heap.size,0,none⟩) G.length G.length,.int .i64 0,.pointer none,.slice none 0 0,.bool false] 118))):=
  ((Below.refl _ _).alloc (zaa _) _).alloc (by simp) _
 go_wp2_with fail;go_loopw [20] (λi wr=>∃k:Nat,k≤G.length∧i=.int .i64 k∧Hid (cL wr W.heap.size (W.heap.size+1) W.heap.size bL G.length (.slice (some ⟨b,o,none⟩) G.length cap) ⟨iC G.length k,0,[],false⟩ (.slice none 0 0))∧Hid (Below W.heap.size W wr)) (λi _=>G.length-(intOf i).toNat)
 case atStart=>exact⟨0,zah _,rfl,HS.out,Xw.out⟩
 case round=>
  obtain⟨k,hk,rfl,xu,EK⟩:=hrel;obtain⟨c0,c1,c2,c6⟩:=xu.out.cells;by_cases hlt:k<G.length
  ·obtain⟨Rt,hl2⟩:=xu.out.rl k (by show k<(iC G.length k).length;rw[xx _ _ hk];exact hlt);have HN:Hid _:=xu.out.VP (by omega) (a:=k) (by show k<(iC G.length k).length;rw[xx _ _ hk];exact hlt) (-1);have HNB:Hid (Below W.heap.size W (wr.setCell ⟨W.heap.size,k,none⟩ (.int .i64 (-1)))):=EK.out.setCell (p:=⟨W.heap.size,k,none⟩) (zaa _) _;simp only[Gt _ _ hlt]at HN;go_wp2_with fail;go_roundw
   case rel=>exact⟨k+1,by omega,by go_num,HN,HNB⟩
   case measure=>simp[intOf];omega
  ·have P3:k=G.length:=by omega
   have PS:Hid (cL wr W.heap.size (W.heap.size+1) W.heap.size bL G.length (.slice (some ⟨b,o,none⟩) G.length cap) (cF G.length) (.slice none 0 0)):=by
    have:=xu.out;rw[P3,Gu]at this;exact this
   have HCC:Hid _:=HC.out (W.heap.size+1) W.heap.size (by omega) (zaa _) (by omega);clear c0 c1 c2 c6 xu mki;go_wp2_with fail;refine(xw (cap:=cap) HCC.out F F (zaa _) (cF G.length) 0 _ _ (zF _ _) (by omega) (by omega) h0 (by show need (cF G.length)≤F;unfold need cF;simp;omega) EK.out PS.out).mono ?_;rintro e w2 ⟨rfl,v2,hw2,hk2⟩;have VQ:cL w2 W.heap.size (W.heap.size+1) W.heap.size bL G.length (.slice (some ⟨b,o,none⟩) G.length cap) tf v2:=by rw[htf.out];exact hw2
   obtain⟨d0,d1,d2,d6⟩:=VQ.cells;have xX:Hid _:=VQ;have gN:Hid (Below W.heap.size W w2):=EK.out.trans (hk2.below EK.out.size (by omega) (zaa _) (by simp[Value.ownBlock]));clear hw2 VQ hk2 d0 d1 d2;cases dP:tf.long
   ·rw[dP]at d6;have HL1:Hid (uN tf=tf.out):=by show _=_;unfold uN;rw[dP];rfl
    have VH:Hid (BQ tf=true):=by show _=_;unfold BQ;rw[dP];rfl
    obtain⟨q,hq,Gq⟩:=xX.out.bld;have HO:Hid _:=hout dP;have yz:Hid _:=Gq;clear Gq;go_wp2_with fail;refine(lj yz.out HO.out).mono ?_;rintro e w3 ⟨rfl,h3⟩;have gQ:Hid (Below W.heap.size W w3):=gN.out.trans (h3.below gN.out.size (by omega) xX.out.OB);clear h3;go_wp2_with fail;go_ret2;exact⟨by rw[HL1.out,VH.out];rfl,gQ.out⟩
   ·rw[dP]at d6;have HL1:Hid (uN tf=[]):=by show _=_;unfold uN;rw[dP];rfl
    have VH:Hid (BQ tf=false):=by show _=_;unfold BQ;rw[dP];rfl
    go_wp2_with fail;go_ret2;exact⟨by rw[HL1.out,VH.out];rfl,gN.out⟩
end Go.Proofs.YtlhimdjkkiflhaaGreatDoor
namespace Go.Loop
def WS.Tw (s:WS):Prop:=∀x,s.wi.getD x false=true→1<s.met.getD x 0
theorem Tw.meet {n:Nat}{S:Nat→List Nat}(hS:∀x,x<n→∀y∈S x,y<n):∀(f:Nat) (s:WS) (a:Nat),s.Ok n→a<n→s.Tw→(bM S f s a).Tw
 |0,s,a,h,ha,ht=>ht
 |f+1,s,a,h,ha,ht=>by
  have hh:∀x,1<s.met.getD x 0→1<(s.hit a).met.getD x 0:=λx hx=>by
   rw[gC h ha];split<;>(try subst_vars)<;>omega
  simp only[bM];split
  ·rename_i hm;intro x hx;change(s.wi.set a (s.wi.getD a false||s.op.getD a false)).getD x false=true at hx;show 1<(s.hit a).met.getD x 0;rw[dn _ _ _ _ _ (by rw[h.lw];exact ha)]at hx;split at hx
   ·rename_i e;subst e;rw[gC h ha,if_pos rfl];omega
   ·exact hh x (ht x hx)
  ·have h2:((s.hit a).enter a).Ok n:=(h.hit ha).enter ha (kU h ha);have t2:((s.hit a).enter a).Tw:=λx hx=>hh x (ht x hx);have:∀(l:List Nat) (t:WS),(∀y∈l,y<n)→t.Ok n→t.Tw→(l.foldl (bM S f) t).Tw:=by
    intro l
    induction l with
    |nil=>intro t _ _ ht;exact ht
    |cons y r ih=>intro t hl ht hw;exact ih _ (λz hz=>hl z (zas _ hz)) (Ok.meet hS f t y ht (hl y zap)) (Tw.meet hS f t y ht (hl y zap) hw)
   exact this _ _ (hS a ha) h2 t2
theorem R6 {n:Nat}{S:Nat→List Nat}(hn:0<n)(hS:∀x,x<n→∀y∈S x,y<n):(eH S n).Tw:=
 Tw.meet hS _ _ _ (kr n) hn (λx hx=>by change(List.replicate n false).getD x false=true at hx;rw[eG]at hx;exact absurd hx (by simp))
theorem DN {t:TS}(hn:need t≤403)(ho:t.long=false→t.out.length≤400){p:List UInt8}(hp:1≤p.length):need (t.add p)<403:=by
 cases h:t.long
 ·exact zaw (rN h (ho h) hp) hn
 ·rw[dt h];unfold need;rw[if_pos h];omega
end Go.Loop
namespace Go.Proofs.YtlhimdjkkiflhaaGreatDoor
open Go.RowKit Go.Loop
theorem R7 (n:Int):1≤(Lib.itoa n).length:=by
 have hd:∀u:Nat,1≤(Lib.decDigits u).length:=λu=>by
  rw[Lib.decDigits_length];rw[Lib.nDigits];split<;>omega
 unfold Lib.itoa;split
 ·simp
 ·exact hd _
theorem R8 (x:Nd)(hb:aY x=true)(h1:x.kind≠1)(h2:x.kind≠2):1≤(fo x).length:=by
 unfold aY at hb;unfold fo;by_cases k0:x.kind=0
 ·rw[if_pos k0];simp
 rw[if_neg k0]at hb ⊢;rw[if_neg h1,if_neg h2]at hb;by_cases k3:x.kind=3
 ·rw[if_pos k3];unfold xr;simp
 rw[if_neg k3]at hb ⊢;by_cases k4:x.kind=4
 ·rw[if_pos k4]at hb ⊢;simp only[zae]at hb;have:=hb.2;unfold qZ at this;cases hx:x.text
  ·rw[hx]at this;simp at this
  ·simp
 rw[if_neg k4]at hb ⊢;by_cases k5:x.kind=5
 ·rw[if_pos k5];unfold jh;have:=R7 x.n;split
  ·exact this
  ·simp only[zaL,zat];omega
 rw[if_neg k5]at hb ⊢;by_cases k6:x.kind=6
 ·rw[if_pos k6];split<;>simp
 rw[if_neg k6];unfold DF;simp
theorem DO (G:List Nd)(hr:di G=true)(L:Nat→Bool)(F:Nat)(hF:1≤F):(WF (bp G) (ax G) (kv G) L F false (cF G.length) 0).long=false→(WF (bp G) (ax G) (kv G) L F false (cF G.length) 0).out≠[]:=by
 obtain⟨h1,tG,hk,hs,OG⟩:=jo G hr;intro hl ho;have key:need (WF (bp G) (ax G) (kv G) L F false (cF G.length) 0)<403:=by
  obtain⟨f,rfl⟩:∃f,F=f+1:=⟨F-1,by omega⟩;have e0:(cF G.length).ea.getD 0 (-1)=-1:=by show(List.replicate G.length (-1:Int)).getD 0 (-1)=-1;exact eG _ _ _
  have bX:=zF G.length L;have n0:need (cF G.length)≤403:=by unfold need cF;simp
  have h2:(if L 0 then(cF G.length).put 0 else cF G.length).Ok G.length L:=by
   split
   ·rename_i e;exact bX.put (by omega) e rfl
   ·exact bX
  have n2:need (if L 0 then(cF G.length).put 0 else cF G.length)≤403:=by
   split
   ·exact zad (DC _ _) n0
   ·exact n0
  generalize hu:(if L 0 then(cF G.length).put 0 else cF G.length)=u at h2 n2;simp only[WF];rw[if_neg (by simp[cF]),e0,if_neg (by omega),hu];have NA:∀p:List UInt8,1≤p.length→need (u.add p)<403:=λp hp=>DN n2 h2.lo hp;by_cases k1:bp G 0=1
  ·rw[if_pos k1];exact zbG (gD f true _ _) (zbG (gD f false _ _) (NA _ (by simp)))
  ·rw[if_neg k1];by_cases k2:bp G 0=2
   ·rw[if_pos k2];exact zbG (dY _ _) (zbG (rP (λt y=>gD f false t y) _ _ _) (NA _ (by simp)))
   ·rw[if_neg k2];rw[kx G 0 (by omega)]at k1 k2;exact NA _ (by rw[Gp G 0 (by omega)];exact R8 _ (hk 0 (by omega)) k1 k2)
 unfold need at key;rw[if_neg (by rw[hl];simp),ho]at key;simp at key
theorem zH (G:List Nd)(hr:di G=true)(mode:Int)(hm:mode=0∨mode=1∨mode=2)(hc:mode=0→mH G=false):∃(Rc:Nat→Prop) (rk:Nat→Nat),Rc 0∧(∀x,Rc x→∀y∈ax G x,Rc y)∧(∀x,Rc x→∀y∈ax G x,bp G y=1→lZ G mode y=false→rk y<rk x):=by
 obtain⟨h1,tG,hk,hs,OG⟩:=jo G hr;have hS:=jl G hs;obtain⟨R,r,_,h0,fe,R9⟩:=KJ (n:=G.length) (S:=ax G) (by omega) hS;refine⟨reach (ax G) G.length,r,h0,fe,λx hx y hy uG hl=>R9 x hx y hy ?_⟩;cases hw:(eH (ax G) G.length).wi.getD y false
 ·rfl
 ·exfalso;unfold lZ at hl;rcases hm with rfl|rfl|rfl
  ·have:=hc rfl;unfold mH at this;rw[List.any_eq_false]at this;by_cases P7:y<G.length
   ·exact this y (zaR.2 P7) hw
   ·have bX:(eH (ax G) G.length).Ok G.length:=Ok.meet hS _ _ _ (kr _) (by omega);have:(eH (ax G) G.length).wi.getD y false=false:=by
     simp only[List.getD];rw[zbH (by rw[bX.lw];omega)];rfl
    rw[this]at hw;exact absurd hw (by simp)
  ·rw[if_pos rfl,hw]at hl;exact absurd hl (by simp)
  ·have:=R6 (n:=G.length) (S:=ax G) (by omega) hS y hw;rw[if_neg (by omega),if_pos rfl,decide_eq_true this,uG]at hl;simp at hl
def iD (x:Nd):Nd:={ x with sa:=none,cap:=0 }
theorem xy (G:List Nd):bp (G.map iD)=bp G:=by
 funext x;unfold bp;rw[zbj];cases G[x]?<;>rfl
theorem OO (G:List Nd):kv (G.map iD)=kv G:=by
 funext x;unfold kv;rw[zbj];cases G[x]?<;>rfl
theorem qc (G:List Nd):ax (G.map iD)=ax G:=by
 funext x;unfold ax;rw[zbj];cases G[x]?<;>rfl
theorem um (G:List Nd):di (G.map iD)=di G:=by
 unfold di;rw[zbk,List.all_map];rfl
theorem KT (G:List Nd)(mode:Int):lZ (G.map iD) mode=lZ G mode:=by
 funext i;unfold lZ;rw[qc,xy,zbk]
theorem zI (G:List Nd):mH (G.map iD)=mH G:=by
 unfold mH;rw[qc,zbk]
theorem DR (G:List Nd)(mode:Int)(F:Nat):dm (G.map iD) mode F=dm G mode F:=by
 unfold dm;rw[qc,xy,OO,KT,zbk]
theorem od (G:List Nd)(mode:Int)(F:Nat):cz (G.map iD) mode F=cz G mode F:=by
 unfold cz;rw[um,zI,DR]
theorem og (G H:List Nd)(h:G.map iD=H.map iD)(mode:Int)(F:Nat):cz G mode F=cz H mode F:=by
 rw[←od G,←od H,h]
end Go.Proofs.YtlhimdjkkiflhaaGreatDoor
