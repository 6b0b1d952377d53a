import Derived.Test.YtlhimdjkkiflhaaGreatDoorDeep35
namespace Go.Proofs.YtlhimdjkkiflhaaGreatDoor
open Go.RowKit Go.Loop
theorem rest_round {K:Nat→Int}{S:Nat→List Nat}{At:Nat→List UInt8}{L:Nat→Bool}{g m:Nat}{t:TS}(ho:t.long=false→t.out.length≤400)(hg:need t≤g)(hk:K m=1)(hL:L m=false):
 ∃ g',g'≤g∧need (t.add [32])≤g'∧WF K S At L g true t m=WF K S At L g' true (WF K S At L g' false (t.add [32]) ((S m).getD 0 0)) ((S m).getD 1 0):=by
 cases hl:t.long
 ·have h1:=need_lt hl (ho hl) (p:=[32]) (by simp)
  have h2:=need_pos (t.add [32])
  obtain⟨g',rfl⟩:∃ g',g=g'+1:=⟨g-1,by omega⟩
  refine⟨g',by omega,by omega,?_⟩
  conv=>lhs;rw[WF]
  rw[if_pos ⟨hk,hL⟩]
 ·refine⟨g,Nat.le_refl _,by rw[add_long hl];exact hg,?_⟩
  rw[add_long hl,WF_long g true t m hl,WF_long g false t _ hl,WF_long g true t _ hl]
theorem rest_end {K:Nat→Int}{S:Nat→List Nat}{At:Nat→List UInt8}{L:Nat→Bool}{g m:Nat}{t:TS}(ho:t.long=false→t.out.length≤400)(hg:need t≤g)(hn:¬ (K m=1∧L m=false))(hk:K m≠0):
 ∃ g',g'≤g∧need (t.add [32,46,32])≤g'∧WF K S At L g true t m=(WF K S At L g' false (t.add [32,46,32]) m).add [41]:=by
 cases hl:t.long
 ·have h1:=need_lt hl (ho hl) (p:=[32,46,32]) (by simp)
  have h2:=need_pos (t.add [32,46,32])
  obtain⟨g',rfl⟩:∃ g',g=g'+1:=⟨g-1,by omega⟩
  refine⟨g',by omega,by omega,?_⟩
  conv=>lhs;rw[WF]
  rw[if_neg hn,if_neg hk]
 ·refine⟨g,Nat.le_refl _,by rw[add_long hl];exact hg,?_⟩
  rw[add_long hl,WF_long g true t m hl,WF_long g false t _ hl,add_long hl]
theorem rest_nil {K:Nat→Int}{S:Nat→List Nat}{At:Nat→List UInt8}{L:Nat→Bool}{g m:Nat}{t:TS}(hg:need t≤g)(hk:K m=0):WF K S At L g true t m=t.add [41]:=by
 have h2:=need_pos t
 obtain⟨g',rfl⟩:∃ g',g=g'+1:=⟨g-1,by omega⟩
 rw[WF,if_neg (by omega),if_pos hk]
def restMu (K:Nat→Int)(L:Nat→Bool)(rk:Nat→Nat)(m:Nat):Nat:=if K m=1∧L m=false then rk m+1 else 0
theorem restMu_lt {K:Nat→Int}{L:Nat→Bool}{rk:Nat→Nat}{m z:Nat}(hm:K m=1∧L m=false)(h:K z=1→L z=false→rk z<rk m):restMu K L rk z<restMu K L rk m:=by
 unfold restMu
 rw[if_pos hm]
 split
 ·rename_i hz;have:=h hz.1 hz.2;omega
 ·omega
theorem OwnW.cells {w:World}{B p bl bL n:Nat}{nv:Value}{t:TS}{v:Value}(h:OwnW w B p bl bL n nv t v):
 w.cell? ⟨p,0,none⟩=some nv∧w.cell? ⟨p,1,none⟩=some (.slice (some ⟨bL,0,none⟩) n n)∧w.cell? ⟨p,2,none⟩=some (.slice (some ⟨bl,0,none⟩) n n)∧w.cell? ⟨p,6,none⟩=some (.bool t.long):=by
 obtain⟨q,hq,hb⟩:=h.blk
 exact⟨Lib.cell_of_heap hb 0,Lib.cell_of_heap hb 1,Lib.cell_of_heap hb 2,Lib.cell_of_heap hb 6⟩
set_option maxHeartbeats 1000000 in
set_option maxRecDepth 100000 in
theorem pair_step (G:List Nd)(b o cap:Nat)(W0:World)(p bl bL:Nat)(L:Nat→Bool)(Rc:Nat→Prop)(rk:Nat→Nat)(C:OCtx G b o W0 p bl bL L Rc rk)(f:Nat)(IA:Hid (∀ g,g≤f→NSaid G b o cap W0 p bl bL L Rc g))
 (n:Nat)(han:n<G.length)(hrc:Rc n)(k1:G[n].kind=1)(t:TS)(w:World)(v:Value)(ht:t.Ok G.length L)(hf:need (t.add [40])≤f)(hb:Below W0.heap.size W0 w)
 (hw:OwnW w W0.heap.size p bl bL G.length (.slice (some ⟨b,o,none⟩) G.length cap) t v):
 Calls Tryz.prog 102 #[.pointer (some ⟨p,0,none⟩),nodeV G[n]] w fun e w'=>e= .returned (.tuple #[])∧
  ∃ v',OwnW w' W0.heap.size p bl bL G.length (.slice (some ⟨b,o,none⟩) G.length cap) (WF (kindN G) (subsN G) (atN G) L f true (WF (kindN G) (subsN G) (atN G) L f false (t.add [40]) ((subsN G n).getD 0 0)) ((subsN G n).getD 1 0)) v'∧KeptO w w' p bl v v':=by
 have HC:Hid (OCtx G b o W0 p bl bL L Rc rk):=C
 have HSLT:Hid (∀ y,y<G.length→∀ z∈subsN G y,z<G.length):=subsN_lt G C.hs
 have HS2:Hid (∀ y,y<G.length→kindN G y=1→(subsN G y).length=2):=fun y hy hk=>pair_two G y hy (C.hk y hy) hk
 have hl2:G[n].subs.length=2:=by have:=HS2.out n han (by rw[kindN_at G n han];exact k1);rw[subsN_at G n han] at this;simpa using this
 have HXS:Hid _:=C.hs n han
 have hs0:=subs_get G n han 0 (by omega)
 have hs1:=subs_get G n han 1 (by omega)
 have hv0:=subsB_at _ _ HXS.out 0 (by omega)
 have hv1:=subsB_at _ _ HXS.out 1 (by omega)
 have HR0:Hid _:=C.rc n hrc _ (subs_mem G n han 0 (by omega))
 have HR1:Hid _:=C.rc n hrc _ (subs_mem G n han 1 (by omega))
 have HRK:Hid (∀ y,y=(G[n].subs.getD 1 0).toNat→kindN G y=1→L y=false→rk y<rk n):=fun y hy=>by subst hy;exact C.rr n hrc _ (subs_mem G n han 1 (by omega))
 have HXI:Hid _:=(C.hG n han).ints
 rw[hs0,hs1]
 clear hs0 hs1
 generalize G[n]=x at *
 have HBX:Hid (OwnW (w.alloc (.cells #[.int .i64 x.kind,.string ⟨⟨x.text⟩⟩,.int .i64 x.n,.int .i64 x.d,.slice x.sa x.subs.length x.cap] 45)) W0.heap.size p bl bL G.length (.slice (some ⟨b,o,none⟩) G.length cap) t v):=hw.below below_box
 have HBOX:Hid _:=(⟨hw.lt,hw.bl,hw.ownLt⟩:p<w.heap.size∧bl<w.heap.size∧∀ k,v.ownBlock=some k→k<w.heap.size)
 have hsz:=hb.size
 have hne:=C.pl
 have HKB:Hid (∀ w' v',KeptO w w' p bl v v'→Below W0.heap.size W0 w'):=fun w' v' h=>hb.trans (h.below hsz C.hp C.hl hw.ownB)
 have HF:Hid (need (t.add [40])≤f):=hf
 have HT:Hid ((t.add [40]).Ok G.length L):=ht.add _
 clear k1 C hb ht hf hw hrc
 rcases HXI.out with h|⟨sb,so,hsa,hc⟩
 ·exfalso;rw[h] at hl2;simp at hl2
 have HCE:Hid (∀ w':World,Below W0.heap.size W0 w'→∀ k,k<x.subs.length→w'.cell? ⟨sb,so+k,none⟩=some (.int .i64 (x.subs.getD k 0))):=fun w' hb' k hk=>cell_below hb' (hc k hk)
 have HC0:Hid (∀ w':World,Below W0.heap.size W0 w'→w'.cell? ⟨sb,so,none⟩=some (.int .i64 (x.subs.getD 0 0))):=fun w' hb'=>HCE.out w' hb' 0 (by omega)
 have HC1:Hid (∀ w':World,Below W0.heap.size W0 w'→w'.cell? ⟨sb,so+1,none⟩=some (.int .i64 (x.subs.getD 1 0))):=fun w' hb'=>HCE.out w' hb' 1 (by omega)
 clear hc HXI HCE
 rw[hl2,hsa] at HBX
 generalize x.subs.getD 0 0=s0 at *
 generalize x.subs.getD 1 0=s1 at *
 obtain⟨m1,rfl⟩:=Int.eq_ofNat_of_zero_le hv1.1
 rw[Int.toNat_natCast] at HR1 ⊢
 obtain⟨t1,ht1⟩:∃ t1,Hid (t1=WF (kindN G) (subsN G) (atN G) L f false (t.add [40]) s0.toNat):=⟨_,rfl⟩
 rw[←ht1.out]
 unfold nodeV
 rw[hl2,hsa]
 go_enter Tryz.func102,Tryz.ntmps102
 go_wp2_with (go_at_call 99;refine(add_any HBX.out hne (by simp;omega) [40]).mono ?_)
 rintro e w1 ⟨rfl,v1,h1,h2⟩
 have r4:w1.cell? ⟨w.heap.size,4,none⟩=some (.slice (some ⟨sb,so,none⟩) 2 x.cap):=h2.box HBOX.out.1 HBOX.out.2.1 HBOX.out.2.2 4 _ rfl
 have HA2:Hid _:=h2
 have H1:Hid _:=h1
 have H2:Hid (KeptO w w1 p bl v v1):=(KeptO.of_below below_box).trans h2
 have HB1:Hid (Below W0.heap.size W0 w1):=HKB.out _ _ H2.out
 have q0:=HC0.out _ HB1.out
 clear h1 h2
 go_wp2_with (go_at_call 62;refine(IA.out f (Nat.le_refl _) _ s0 _ _ HT.out hv0.1 hv0.2 HR0.out HF.out HB1.out H1.out).mono ?_)
 rintro e w2 ⟨rfl,v2,h3,h4⟩
 rw[←ht1.out] at h3
 have r4':w2.cell? ⟨w.heap.size,4,none⟩=some (.slice (some ⟨sb,so,none⟩) 2 x.cap):=(HA2.out.trans h4).box HBOX.out.1 HBOX.out.2.1 HBOX.out.2.2 4 _ rfl
 have H3:Hid _:=h3
 have H4:Hid (KeptO w w2 p bl v v2):=H2.out.trans h4
 have HB2:Hid (Below W0.heap.size W0 w2):=HKB.out _ _ H4.out
 have q1:=HC1.out _ HB2.out
 clear h3 h4 r4 q0
 have HT1:Hid ((WF (kindN G) (subsN G) (atN G) L f false (t.add [40]) s0.toNat).Ok G.length L):=WF_ok HSLT.out HS2.out f false _ _ HT.out (by omega)
 have HN1:Hid (need (WF (kindN G) (subsN G) (atN G) L f false (t.add [40]) s0.toNat)≤f):=Nat.le_trans (need_WF f false _ _) HF.out
 rw[←ht1.out] at HT1 HN1
 have hm1:m1<G.length:=by omega
 go_wp2_with fail
 go_loopw [4] (fun i wr=>∃ (m g:Nat) (tk:TS) (vk:Value),m<G.length∧i= .int .i64 m∧Hid (Rc m)∧g≤f∧Hid (need tk≤g)∧Hid (tk.Ok G.length L)∧Hid (WF (kindN G) (subsN G) (atN G) L f true t1 m1=WF (kindN G) (subsN G) (atN G) L g true tk m)∧
  Hid (OwnW wr W0.heap.size p bl bL G.length (.slice (some ⟨b,o,none⟩) G.length cap) tk vk)∧Hid (KeptO w wr p bl v vk)) (fun i _=>restMu (kindN G) L rk (intOf i).toNat)
 case atStart=>exact⟨m1,f,t1,v2,hm1,rfl,HR1.out,Nat.le_refl _,HN1.out,HT1.out,rfl,H3.out,H4.out⟩
 case round=>
  obtain⟨m,g,tk,vk,hm,rfl,HRm,hgf,HNm,HTm,HEm,HWm,HKm⟩:=hrel
  have HBm:Hid (Below W0.heap.size W0 wr):=HKB.out _ _ HKm.out
  have hszk:W0.heap.size≤wr.heap.size:=HBm.out.size
  obtain⟨y0,y1,y2,y3,y4,yi,yt,ys⟩:=(HC.out.hG m hm).below HBm.out
  have HKN:Hid _:=kindN_at G m hm
  have HLm:Hid (∀ w',Below W0.heap.size W0 w'→w'.cell? ⟨bL,m,none⟩=some (.bool (L m))):=fun w' hb'=>cell_below hb' (HC.out.hL m hm)
  have hLc:=HLm.out _ HBm.out
  obtain⟨c0,c1,c2,c6⟩:=HWm.out.cells
  have HXK:Hid _:=HC.out.hk m hm
  have HXSm:Hid _:=HC.out.hs m hm
  have HSM0:Hid _:=subs_get G m hm 0
  have HSM1:Hid _:=subs_get G m hm 1
  have HMM:Hid _:=subs_mem G m hm
  have HL2:Hid (kindN G m=1→G[m].subs.length=2):=fun hk=>by have:=HS2.out m hm hk;rw[subsN_at G m hm] at this;simpa using this
  have HIN:Hid _:=(HC.out.hG m hm).ints
  have HY4:Hid (∀ w',Below W0.heap.size W0 w'→w'.cell? ⟨b,o+m*5+4,none⟩=some (.slice G[m].sa G[m].subs.length G[m].cap)):=fun w' hb'=>cell_below hb' (HC.out.hG m hm).subs
  generalize G[m]=y at *
  clear yi yt ys y1 y2 y3 c2 c6
  by_cases hpr:y.kind=1∧L m=false
  ·have hb1:(y.kind==1)=true:=by rw[beq_iff_eq];exact hpr.1
   have hLm:=hpr.2
   rw[hLm] at hLc
   obtain⟨g',hg',hng',hE⟩:=rest_round (K:=kindN G) (S:=subsN G) (At:=atN G) (L:=L) (m:=m) HTm.out.lo HNm.out (by rw[HKN.out];exact hpr.1) hpr.2
   have hy2:=HL2.out (by rw[HKN.out];exact hpr.1)
   rcases HIN.out with h|⟨yb,yo,hya,hyc⟩
   ·exfalso;rw[h] at hy2;simp at hy2
   have HC0m:Hid (∀ w':World,Below W0.heap.size W0 w'→w'.cell? ⟨yb,yo,none⟩=some (.int .i64 (y.subs.getD 0 0))):=fun w' hb'=>cell_below hb' (hyc 0 (by omega))
   have HC1m:Hid (∀ w':World,Below W0.heap.size W0 w'→w'.cell? ⟨yb,yo+1,none⟩=some (.int .i64 (y.subs.getD 1 0))):=fun w' hb'=>cell_below hb' (hyc 1 (by omega))
   rw[HSM0.out (by omega),HSM1.out (by omega)] at hE
   have hz0:=subsB_at _ _ HXSm.out 0 (by omega)
   have hz1:=subsB_at _ _ HXSm.out 1 (by omega)
   have HRz0:Hid _:=HC.out.rc m HRm.out _ (HMM.out 0 (by omega))
   have HRz1:Hid _:=HC.out.rc m HRm.out _ (HMM.out 1 (by omega))
   have HRk:Hid _:=restMu_lt (K:=kindN G) ⟨by rw[HKN.out];exact hpr.1,hpr.2⟩ (HC.out.rr m HRm.out _ (HMM.out 1 (by omega)))
   have HE:Hid _:=hE
   have HNG:Hid _:=hng'
   rw[hy2,hya] at HY4 y4
   clear hyc HIN HXSm HSM0 HSM1 HMM HL2 HXK hpr hE hng' hLm
   generalize y.subs.getD 0 0=z0 at *
   generalize y.subs.getD 1 0=z1 at *
   go_wp2_with (go_at_call 99;refine(add_any HWm.out hne hszk [32]).mono ?_)
   rintro e w3 ⟨rfl,v3,hw3,hk3⟩
   have HW3:Hid _:=hw3
   have HK3:Hid (KeptO w w3 p bl v v3):=HKm.out.trans hk3
   have HB3:Hid (Below W0.heap.size W0 w3):=HKB.out _ _ HK3.out
   obtain⟨d0,d1,d2,d6⟩:=hw3.cells
   have d4:=HY4.out _ HB3.out
   have d5:=HC0m.out _ HB3.out
   have HOK3:Hid _:=HTm.out.add [32]
   clear hw3 hk3 d1 d2 d6 c0 c1 y0 y4 hLc
   go_wp2_with (go_at_call 62;refine(IA.out g' (by omega) _ z0 _ _ HOK3.out hz0.1 hz0.2 HRz0.out HNG.out HB3.out HW3.out).mono ?_)
   rintro e w4 ⟨rfl,v4,hw4,hk4⟩
   have HW4:Hid _:=hw4
   have HK4:Hid (KeptO w w4 p bl v v4):=HK3.out.trans hk4
   have HB4:Hid (Below W0.heap.size W0 w4):=HKB.out _ _ HK4.out
   obtain⟨e0,e1,e2,e6⟩:=hw4.cells
   have e4:=HY4.out _ HB4.out
   have e5:=HC1m.out _ HB4.out
   have HOK4:Hid _:=WF_ok (At:=atN G) HSLT.out HS2.out g' false _ _ HOK3.out (show z0.toNat<G.length by omega)
   have HN4:Hid _:=Nat.le_trans (need_WF (K:=kindN G) (S:=subsN G) (At:=atN G) (L:=L) g' false (tk.add [32]) z0.toNat) HNG.out
   clear hw4 hk4 e1 e2 e6 d0 d4 d5
   obtain⟨mz,rfl⟩:=Int.eq_ofNat_of_zero_le hz1.1
   rw[Int.toNat_natCast] at HE HRz1 HRk
   go_wp2_with fail
   go_roundw
   case rel=>exact⟨mz,g',_,v4,by omega,rfl,HRz1,by omega,HN4,HOK4,by show _=_;rw[HEm.out];exact HE.out,HW4,HK4⟩
   case measure=>exact HRk.out
  ·have HPR:Hid (¬ (kindN G m=1∧L m=false)):=by rw[HKN.out];exact hpr
   clear HIN HXSm HSM0 HSM1 HMM HL2 HXK HY4 y4
   by_cases k0:y.kind=0
   ·have hb0:(y.kind==0)=true:=by rw[beq_iff_eq];exact k0
    have hb1:(y.kind==1)=false:=by rw[beq_eq_false_iff_ne];omega
    have HE:Hid _:=rest_nil (K:=kindN G) (S:=subsN G) (At:=atN G) (L:=L) (m:=m) HNm.out (by rw[HKN.out];exact k0)
    clear k0 hpr hLc c1
    go_wp2_with (go_at_call 99;refine(add_any HWm.out hne hszk [41]).mono ?_)
    rintro e w3 ⟨rfl,v3,hw3,hk3⟩
    rw[←HE.out,←HEm.out] at hw3
    have HW3:Hid _:=hw3
    have HK3:Hid (KeptO w w3 p bl v v3):=HKm.out.trans hk3
    clear hw3 hk3
    go_wp2_with fail
    go_end0
    exact⟨rfl,v3,HW3.out,HK3.out⟩
   ·have hb0:(y.kind==0)=false:=by rw[beq_eq_false_iff_ne];exact k0
    obtain⟨g',hg',hng',hE⟩:=rest_end (K:=kindN G) (S:=subsN G) (At:=atN G) (L:=L) (m:=m) HTm.out.lo HNm.out HPR.out (by rw[HKN.out];exact k0)
    have HE:Hid _:=hE
    have HNG:Hid _:=hng'
    have HOK3:Hid _:=HTm.out.add [32,46,32]
    clear hE hng' k0
    by_cases k1:y.kind=1
    ·have hb1:(y.kind==1)=true:=by rw[beq_iff_eq];exact k1
     have hLm:L m=true:=by cases h:L m;exact absurd ⟨k1,h⟩ hpr;rfl
     rw[hLm] at hLc
     clear k1 hpr hLm
     go_wp2_with (go_at_call 99;refine(add_any HWm.out hne hszk [32,46,32]).mono ?_)
     rintro e w3 ⟨rfl,v3,hw3,hk3⟩
     have HW3:Hid _:=hw3
     have HK3:Hid (KeptO w w3 p bl v v3):=HKm.out.trans hk3
     have HB3:Hid (Below W0.heap.size W0 w3):=HKB.out _ _ HK3.out
     clear hw3 hk3
     go_wp2_with (go_at_call 62;refine(IA.out g' (by omega) _ (m:Int) _ _ HOK3.out (by omega) (by omega) (by rw[Int.toNat_natCast];exact HRm.out) HNG.out HB3.out HW3.out).mono ?_)
     rintro e w4 ⟨rfl,v4,hw4,hk4⟩
     rw[Int.toNat_natCast] at hw4
     have HW4:Hid _:=hw4
     have HK4:Hid (KeptO w w4 p bl v v4):=HK3.out.trans hk4
     have hsz4:W0.heap.size≤w4.heap.size:=(HKB.out _ _ HK4.out).size
     clear hw4 hk4
     go_wp2_with (go_at_call 99;refine(add_any HW4.out hne hsz4 [41]).mono ?_)
     rintro e w5 ⟨rfl,v5,hw5,hk5⟩
     rw[←HE.out,←HEm.out] at hw5
     have HW5:Hid _:=hw5
     have HK5:Hid (KeptO w w5 p bl v v5):=HK4.out.trans hk5
     clear hw5 hk5
     go_wp2_with fail
     go_end0
     exact⟨rfl,v5,HW5.out,HK5.out⟩
    ·have hb1:(y.kind==1)=false:=by rw[beq_eq_false_iff_ne];exact k1
     clear k1 hpr hLc c1
     go_wp2_with (go_at_call 99;refine(add_any HWm.out hne hszk [32,46,32]).mono ?_)
     rintro e w3 ⟨rfl,v3,hw3,hk3⟩
     have HW3:Hid _:=hw3
     have HK3:Hid (KeptO w w3 p bl v v3):=HKm.out.trans hk3
     have HB3:Hid (Below W0.heap.size W0 w3):=HKB.out _ _ HK3.out
     clear hw3 hk3
     go_wp2_with (go_at_call 62;refine(IA.out g' (by omega) _ (m:Int) _ _ HOK3.out (by omega) (by omega) (by rw[Int.toNat_natCast];exact HRm.out) HNG.out HB3.out HW3.out).mono ?_)
     rintro e w4 ⟨rfl,v4,hw4,hk4⟩
     rw[Int.toNat_natCast] at hw4
     have HW4:Hid _:=hw4
     have HK4:Hid (KeptO w w4 p bl v v4):=HK3.out.trans hk4
     have hsz4:W0.heap.size≤w4.heap.size:=(HKB.out _ _ HK4.out).size
     clear hw4 hk4
     go_wp2_with (go_at_call 99;refine(add_any HW4.out hne hsz4 [41]).mono ?_)
     rintro e w5 ⟨rfl,v5,hw5,hk5⟩
     rw[←HE.out,←HEm.out] at hw5
     have HW5:Hid _:=hw5
     have HK5:Hid (KeptO w w5 p bl v v5):=HK4.out.trans hk5
     clear hw5 hk5
     go_wp2_with fail
     go_end0
     exact⟨rfl,v5,HW5.out,HK5.out⟩
theorem atom_any (x:Nd)(w:World)(hb:kindB x=true)(h1:x.kind≠1)(h2:x.kind≠2)(hp:Pow w):
 Calls Tryz.prog 104 #[nodeV x] w fun e w'=>e= .returned (.string ⟨⟨atomL x⟩⟩)∧Below w.heap.size w w':=by
 have hk:x.kind=0∨x.kind=3∨x.kind=4∨x.kind=5∨x.kind=6∨x.kind=7:=by
  by_cases h:x.kind<0∨7<x.kind
  ·unfold kindB at hb
   rw[if_neg (by omega),if_neg (by omega),if_neg (by omega),if_neg (by omega),if_neg (by omega),if_neg (by omega),if_neg (by omega),if_neg (by omega)] at hb
   exact absurd hb (by simp)
  ·omega
 rcases hk with h|h|h|h|h|h
 ·exact atom_0 x w h
 ·have:x.text.length≤400:=by
   unfold kindB at hb;rw[if_neg (by omega),if_neg (by omega),if_neg (by omega),if_pos h] at hb;simp at hb;exact hb.1
  exact atom_3 x w this h
 ·exact atom_4 x w h
 ·have:numB x.n x.d=true:=by
   unfold kindB at hb;rw[if_neg (by omega),if_neg (by omega),if_neg (by omega),if_neg (by omega),if_neg (by omega),if_pos h] at hb;simp at hb;exact hb.1
  unfold numB at this;simp at this
  exact atom_5 x w (by omega) (by omega) (by omega) (by omega) hp h
 ·exact atom_6 x w h
 ·have:charB x.n=true:=by
   unfold kindB at hb;rw[if_neg (by omega),if_neg (by omega),if_neg (by omega),if_neg (by omega),if_neg (by omega),if_neg (by omega),if_neg (by omega),if_pos h] at hb;simp at hb;exact hb.1
  exact atom_7 x w this h
set_option maxHeartbeats 1000000 in
set_option maxRecDepth 100000 in
theorem node_step (G:List Nd)(b o cap:Nat)(W0:World)(p bl bL:Nat)(L:Nat→Bool)(Rc:Nat→Prop)(rk:Nat→Nat)(C:OCtx G b o W0 p bl bL L Rc rk)(f:Nat)(IA:Hid (∀ g,g≤f→NSaid G b o cap W0 p bl bL L Rc g)):
 NSaid G b o cap W0 p bl bL L Rc (f+1):=by
 intro t a w v ht ha0 ha hrc hf hb hw
 obtain⟨n,rfl⟩:=Int.eq_ofNat_of_zero_le ha0
 rw[Int.toNat_natCast] at hrc ⊢
 have han:n<G.length:=by omega
 have HC:Hid (OCtx G b o W0 p bl bL L Rc rk):=C
 have HT:Hid (t.Ok G.length L):=ht
 have HB:Hid (Below W0.heap.size W0 w):=hb
 have HW:Hid (OwnW w W0.heap.size p bl bL G.length (.slice (some ⟨b,o,none⟩) G.length cap) t v):=hw
 have HF:Hid (need t≤f+1):=hf
 have HR:Hid (Rc n):=hrc
 obtain⟨c0,c1,c2,c6⟩:=hw.cells
 obtain⟨hlc,_⟩:=hw.rl n (by rw[ht.ll];exact han)
 have hLc:=cell_below hb (C.hL n han)
 have hsz:=hb.size
 have hne:=C.pl
 have HKB:Hid (∀ w' v',KeptO w w' p bl v v'→Below W0.heap.size W0 w'):=fun w' v' h=>hb.trans (h.below hsz C.hp C.hl hw.ownB)
 have HPW:Hid (∀ w',Below W0.heap.size W0 w'→Pow w'):=fun w' h=>C.pw.on h
 have hg:t.lab.getD n 0=t.lab.getD n (-1):=by
  have:=ht.ll;simp[List.getD,List.getElem?_eq_getElem (show n<t.lab.length by omega)]
 rw[hg] at hlc
 have hnx:=ht.n2
 have hln:=ht.ln n
 clear C ht hb hw hf hrc hg
 cases hlong:t.long
 ·rw[hlong] at c6
  by_cases hlab:0≤t.lab.getD n (-1)
  ·have HV:Hid (WF (kindN G) (subsN G) (atN G) L (f+1) false t n=t.add (35::(Lib.itoa (t.lab.getD n (-1))++[35]))):=by
    show _=_;simp only[WF];rw[if_neg (by simp[hlong]),if_pos hlab]
   generalize t.lab.getD n (-1)=lv at *
   have hil:=itoa_len lv (by omega) (by omega)
   have ks:=str_app
   have hl1:(lv==-1)=false:=by rw[beq_eq_false_iff_ne];omega
   go_enter Tryz.func62,Tryz.ntmps62
   go_wp2_with fail
   refine(itoa_any lv _ (by omega) (by omega) (HPW.out _ HB.out)).mono ?_
   rintro e w1 ⟨rfl,hb1⟩
   have HW1:Hid _:=HW.out.below hb1
   have HK1:Hid (KeptO w w1 p bl v v):=KeptO.of_below hb1
   have hs1:=Nat.le_trans hsz hb1.size
   clear hb1 hLc hlc c0 c1 c2 c6
   go_wp2_with fail
   refine(add_any HW1.out hne hs1 (35::(Lib.itoa lv++[35]))).mono ?_
   rintro e w2 ⟨rfl,v2,hw2,hk2⟩
   rw[←HV.out] at hw2
   have HW2:Hid _:=hw2
   have HK2:Hid (KeptO w w2 p bl v v2):=HK1.out.trans hk2
   clear hw2 hk2
   go_wp2_with fail
   refine bodyPost_ret (results_none rfl _ _ _) rfl ?_
   exact⟨rfl,v2,HW2.out,HK2.out⟩
  ·have HLAB:Hid (¬ 0≤t.lab.getD n (-1)):=hlab
   have hlv:t.lab.getD n (-1)=-1:=by omega
   rw[hlv] at hlc
   obtain⟨t1,ht1⟩:∃ t1,Hid (t1=if L n then t.put n else t):=⟨_,rfl⟩
   have HT1:Hid (t1.Ok G.length L):=by
    show t1.Ok _ _
    rw[ht1.out]
    split
    ·rename_i e;exact HT.out.put han e hlong
    ·exact HT.out
   have HF1:Hid (∀ q:List UInt8,1≤q.length→need (t1.add q)≤f):=by
    intro q hq
    have ho:=HT.out.lo hlong
    have h1:=HF.out
    rw[ht1.out]
    split
    ·have h2:=need_put_lt hlong ho n
     have h3:=need_add (t.put n) q
     omega
    ·have h2:=need_lt hlong ho hq
     omega
   have HWF:Hid (WF (kindN G) (subsN G) (atN G) L (f+1) false t n=
    if kindN G n=1 then WF (kindN G) (subsN G) (atN G) L f true (WF (kindN G) (subsN G) (atN G) L f false (t1.add [40]) ((subsN G n).getD 0 0)) ((subsN G n).getD 1 0)
    else if kindN G n=2 then(vecTo (WF (kindN G) (subsN G) (atN G) L f false) (subsN G n) (subsN G n).length (t1.add [35,40])).add [41]
    else t1.add (atN G n)):=by
    show _=_
    rw[ht1.out]
    simp only[WF]
    rw[if_neg (by simp[hlong]),if_neg (by have:=HLAB.out;omega)]
   clear hlab hlv hln
   cases hL:L n
   ·have HL0:Hid (t=t1):=by show _=_;rw[ht1.out,hL];rfl
    rw[hL] at hLc
    have HW1:Hid (OwnW w W0.heap.size p bl bL G.length (.slice (some ⟨b,o,none⟩) G.length cap) t1 v):=by rw[←HL0.out];exact HW.out
    obtain⟨v1,hv1⟩:∃ v1,v1=v:=⟨v,rfl⟩
    have HK1:Hid (KeptO w w p bl v v1):=by rw[hv1];exact KeptO.refl _ _ _ _
    rw[←hv1] at HW1
    clear hv1
    go_enter Tryz.func62,Tryz.ntmps62
    have HBc:Hid (Below W0.heap.size W0 w):=HKB.out _ _ HK1.out
    obtain⟨x0,x1,x2,x3,x4,xi,xt,xs⟩:=(HC.out.hG n han).below HBc.out
    have HXK:Hid _:=HC.out.hk n han
    have HKN:Hid _:=kindN_at G n han
    have HAN:Hid _:=atN_at G n han
    have HVS:Hid (G[n].kind=2→_):=fun k2=>vector_step G b o cap W0 p bl bL L Rc rk HC.out f (show Hid _ from IA.out f (Nat.le_refl _)) n han HR.out k2
    have HPS:Hid (G[n].kind=1→_):=fun k1=>pair_step G b o cap W0 p bl bL L Rc rk HC.out f IA n han HR.out k1
    have HSLT:Hid (∀ y,y<G.length→∀ z∈subsN G y,z<G.length):=subsN_lt G HC.out.hs
    have HS2:Hid (∀ y,y<G.length→kindN G y=1→(subsN G y).length=2):=fun y hy hk=>pair_two G y hy (HC.out.hk y hy) hk
    obtain⟨d0,d1,d2,d6⟩:=HW1.out.cells
    have HBB:Hid (∀ ob:Obj,Below W0.heap.size W0 (w.alloc ob)):=fun ob=>HBc.out.alloc HBc.out.size ob
    have HWB:Hid (∀ ob:Obj,OwnW (w.alloc ob) W0.heap.size p bl bL G.length (.slice (some ⟨b,o,none⟩) G.length cap) t1 v1):=fun ob=>HW1.out.below below_box
    have HKo:Hid (∀ ob:Obj,KeptO w (w.alloc ob) p bl v v1):=fun ob=>HK1.out.trans (KeptO.of_below below_box)
    generalize G[n]=x at *
    clear xi xt xs d1 d2 d6
    by_cases k1:x.kind=1
    ·have hb1:(x.kind==1)=true:=by rw[beq_iff_eq];exact k1
     have HV:Hid _:=HWF.out
     rw[HKN.out,if_pos k1] at HV
     have HPP:Hid _:=HPS.out k1
     clear k1 HVS HPS
     go_wp2_with fail
     refine(HPP.out t1 _ v1 HT1.out (HF1.out [40] (by simp)) (HBB.out _) (HWB.out _)).mono ?_
     rintro e w2 ⟨rfl,v2,hw2,hk2⟩
     rw[←HV.out] at hw2
     have HW2:Hid _:=hw2
     have HK2:Hid (KeptO w w2 p bl v v2):=(HKo.out _).trans hk2
     clear hw2 hk2
     go_wp2_with fail
     go_end0
     exact⟨rfl,v2,HW2.out,HK2.out⟩
    ·have hb1:(x.kind==1)=false:=by rw[beq_eq_false_iff_ne];exact k1
     by_cases k2:x.kind=2
     ·have hb2:(x.kind==2)=true:=by rw[beq_iff_eq];exact k2
      have HV:Hid _:=HWF.out
      rw[HKN.out,if_neg k1,if_pos k2] at HV
      have HPP:Hid _:=HVS.out k2
      clear k1 k2 HVS HPS
      go_wp2_with fail
      refine(HPP.out t1 _ v1 HT1.out (HF1.out [35,40] (by simp)) (HBB.out _) HSLT.out HS2.out (HWB.out _)).mono ?_
      rintro e w2 ⟨rfl,v2,hw2,hk2⟩
      rw[←HV.out] at hw2
      have HW2:Hid _:=hw2
      have HK2:Hid (KeptO w w2 p bl v v2):=(HKo.out _).trans hk2
      clear hw2 hk2
      go_wp2_with fail
      go_end0
      exact⟨rfl,v2,HW2.out,HK2.out⟩
     ·have hb2:(x.kind==2)=false:=by rw[beq_eq_false_iff_ne];exact k2
      have HV:Hid _:=HWF.out
      rw[HKN.out,if_neg k1,if_neg k2,HAN.out] at HV
      have HK1':Hid _:=k1
      have HK2':Hid _:=k2
      have hszc:W0.heap.size≤w.heap.size:=HBc.out.size
      clear k1 k2 HVS HPS
      go_wp2_with fail
      refine(atom_any x _ HXK.out (by exact HK1'.out) (by exact HK2'.out) (HPW.out _ (HBB.out _))).mono ?_
      rintro e w4 ⟨rfl,hb4⟩
      have HW4:Hid _:=(HWB.out _).below hb4
      have HK4:Hid _:=(HKo.out _).trans (KeptO.of_below hb4)
      have hs4:W0.heap.size≤w4.heap.size:=by have:=hb4.size;simp at this;omega
      clear hb4
      go_wp2_with fail
      refine(add_any HW4.out hne hs4 (atomL x)).mono ?_
      rintro e w2 ⟨rfl,v2,hw2,hk2⟩
      rw[←HV.out] at hw2
      have HW2:Hid _:=hw2
      have HK2:Hid (KeptO w w2 p bl v v2):=HK4.out.trans hk2
      clear hw2 hk2
      go_wp2_with fail
      go_end0
      exact⟨rfl,v2,HW2.out,HK2.out⟩
   ·have HL0:Hid (t.put n=t1):=by show _=_;rw[ht1.out,hL];rfl
    rw[hL] at hLc
    go_enter Tryz.func62,Tryz.ntmps62
    go_wp2_with fail
    refine(put_any HW.out hne hsz HT.out.ll hnx n han HC.out.hl (fun w' h=>HPW.out w' (HB.out.trans h))).mono ?_
    rintro e w1 ⟨rfl,v1,h1,h2⟩
    rw[HL0.out] at h1
    have HW1:Hid _:=h1
    have HK1:Hid (KeptO w w1 p bl v v1):=h2
    clear h1 h2 c0 c1 c2 c6 hlc hLc
    have HBc:Hid (Below W0.heap.size W0 w1):=HKB.out _ _ HK1.out
    obtain⟨x0,x1,x2,x3,x4,xi,xt,xs⟩:=(HC.out.hG n han).below HBc.out
    have HXK:Hid _:=HC.out.hk n han
    have HKN:Hid _:=kindN_at G n han
    have HAN:Hid _:=atN_at G n han
    have HVS:Hid (G[n].kind=2→_):=fun k2=>vector_step G b o cap W0 p bl bL L Rc rk HC.out f (show Hid _ from IA.out f (Nat.le_refl _)) n han HR.out k2
    have HPS:Hid (G[n].kind=1→_):=fun k1=>pair_step G b o cap W0 p bl bL L Rc rk HC.out f IA n han HR.out k1
    have HSLT:Hid (∀ y,y<G.length→∀ z∈subsN G y,z<G.length):=subsN_lt G HC.out.hs
    have HS2:Hid (∀ y,y<G.length→kindN G y=1→(subsN G y).length=2):=fun y hy hk=>pair_two G y hy (HC.out.hk y hy) hk
    obtain⟨d0,d1,d2,d6⟩:=HW1.out.cells
    have HBB:Hid (∀ ob:Obj,Below W0.heap.size W0 (w1.alloc ob)):=fun ob=>HBc.out.alloc HBc.out.size ob
    have HWB:Hid (∀ ob:Obj,OwnW (w1.alloc ob) W0.heap.size p bl bL G.length (.slice (some ⟨b,o,none⟩) G.length cap) t1 v1):=fun ob=>HW1.out.below below_box
    have HKo:Hid (∀ ob:Obj,KeptO w (w1.alloc ob) p bl v v1):=fun ob=>HK1.out.trans (KeptO.of_below below_box)
    generalize G[n]=x at *
    clear xi xt xs d1 d2 d6
    by_cases k1:x.kind=1
    ·have hb1:(x.kind==1)=true:=by rw[beq_iff_eq];exact k1
     have HV:Hid _:=HWF.out
     rw[HKN.out,if_pos k1] at HV
     have HPP:Hid _:=HPS.out k1
     clear k1 HVS HPS
     go_wp2_with fail
     refine(HPP.out t1 _ v1 HT1.out (HF1.out [40] (by simp)) (HBB.out _) (HWB.out _)).mono ?_
     rintro e w2 ⟨rfl,v2,hw2,hk2⟩
     rw[←HV.out] at hw2
     have HW2:Hid _:=hw2
     have HK2:Hid (KeptO w w2 p bl v v2):=(HKo.out _).trans hk2
     clear hw2 hk2
     go_wp2_with fail
     go_end0
     exact⟨rfl,v2,HW2.out,HK2.out⟩
    ·have hb1:(x.kind==1)=false:=by rw[beq_eq_false_iff_ne];exact k1
     by_cases k2:x.kind=2
     ·have hb2:(x.kind==2)=true:=by rw[beq_iff_eq];exact k2
      have HV:Hid _:=HWF.out
      rw[HKN.out,if_neg k1,if_pos k2] at HV
      have HPP:Hid _:=HVS.out k2
      clear k1 k2 HVS HPS
      go_wp2_with fail
      refine(HPP.out t1 _ v1 HT1.out (HF1.out [35,40] (by simp)) (HBB.out _) HSLT.out HS2.out (HWB.out _)).mono ?_
      rintro e w2 ⟨rfl,v2,hw2,hk2⟩
      rw[←HV.out] at hw2
      have HW2:Hid _:=hw2
      have HK2:Hid (KeptO w w2 p bl v v2):=(HKo.out _).trans hk2
      clear hw2 hk2
      go_wp2_with fail
      go_end0
      exact⟨rfl,v2,HW2.out,HK2.out⟩
     ·have hb2:(x.kind==2)=false:=by rw[beq_eq_false_iff_ne];exact k2
      have HV:Hid _:=HWF.out
      rw[HKN.out,if_neg k1,if_neg k2,HAN.out] at HV
      have HK1':Hid _:=k1
      have HK2':Hid _:=k2
      have hszc:W0.heap.size≤w1.heap.size:=HBc.out.size
      clear k1 k2 HVS HPS
      go_wp2_with fail
      refine(atom_any x _ HXK.out (by exact HK1'.out) (by exact HK2'.out) (HPW.out _ (HBB.out _))).mono ?_
      rintro e w4 ⟨rfl,hb4⟩
      have HW4:Hid _:=(HWB.out _).below hb4
      have HK4:Hid _:=(HKo.out _).trans (KeptO.of_below hb4)
      have hs4:W0.heap.size≤w4.heap.size:=by have:=hb4.size;simp at this;omega
      clear hb4
      go_wp2_with fail
      refine(add_any HW4.out hne hs4 (atomL x)).mono ?_
      rintro e w2 ⟨rfl,v2,hw2,hk2⟩
      rw[←HV.out] at hw2
      have HW2:Hid _:=hw2
      have HK2:Hid (KeptO w w2 p bl v v2):=HK4.out.trans hk2
      clear hw2 hk2
      go_wp2_with fail
      go_end0
      exact⟨rfl,v2,HW2.out,HK2.out⟩
 ·rw[hlong] at c6
  have HV:Hid (WF (kindN G) (subsN G) (atN G) L (f+1) false t n=t):=WF_long _ _ _ _ hlong
  go_enter Tryz.func62,Tryz.ntmps62
  go_wp2_with fail
  refine bodyPost_ret (results_none rfl _ _ _) rfl ?_
  exact⟨rfl,v,by rw[HV.out];exact HW.out,KeptO.refl _ _ _ _⟩
theorem node_all {G:List Nd}{b o cap:Nat}{W0:World}{p bl bL:Nat}{L:Nat→Bool}{Rc:Nat→Prop}{rk:Nat→Nat}(C:OCtx G b o W0 p bl bL L Rc rk):∀ f g,g≤f→NSaid G b o cap W0 p bl bL L Rc g
 |0,g,hg=>by
  intro t a w v _ _ _ _ hf
  have:=need_pos t;omega
 |f+1,g,hg=>by
  rcases Nat.lt_or_ge f g with h|h
  ·have:g=f+1:=by omega
   subst this
   exact node_step G b o cap W0 p bl bL L Rc rk C f (fun g hg=>node_all C f g hg)
  ·exact node_all C f g h
def outL (t:TS):List UInt8:=if t.long then[] else t.out
def okL (t:TS):Bool:=!t.long
def labsTo (n k:Nat):List Int:=List.replicate k (-1)++List.replicate (n-k) 0
theorem labsTo_len (n k:Nat)(h:k≤n):(labsTo n k).length=n:=by simp[labsTo];omega
theorem labsTo_set (n k:Nat)(h:k<n):(labsTo n k).set k (-1)=labsTo n (k+1):=by
 apply List.ext_getElem?
 intro i
 unfold labsTo
 rw[List.getElem?_set]
 simp only[List.getElem?_append,List.getElem?_replicate,List.length_append,List.length_replicate]
 repeat' split
 all_goals first|rfl|omega|(simp;omega)
theorem labsTo_all (n:Nat):labsTo n n=List.replicate n (-1):=by simp[labsTo]
theorem OwnW.setLab {w:World}{B p bl bL n:Nat}{nv:Value}{t:TS}{v:Value}(h:OwnW w B p bl bL n nv t v)(hne:p≠bl){a:Nat}(ha:a<t.lab.length)(z:Int):
 OwnW (w.setCell ⟨bl,a,none⟩ (.int .i64 z)) B p bl bL n nv { t with lab:=t.lab.set a z } v:=by
 obtain⟨q,hq,hb⟩:=h.blk
 refine⟨h.hB,⟨q,hq,(Below.heap_setCell _ _ _ _ hne).trans hb⟩,?_,h.rl.set a ha z,h.nb,h.ol,?_⟩
 ·exact h.own.kept (row:=some bl) ⟨rfl,rfl,rfl,by simp[World.setCell],fun k _ hk=>Below.heap_setCell _ _ _ _ (fun e=>hk (by simp[e]))⟩ (Or.inr h.nb)
 ·have:=h.bl;simpa[World.setCell] using this
set_option maxHeartbeats 1000000 in
set_option maxRecDepth 100000 in
theorem writerWrite_any (G:List Nd)(b o cap:Nat)(W:World)(bL:Nat)(L:Nat→Bool)(Rc:Nat→Prop)(rk:Nat→Nat)(C:∀ p bl,W.heap.size≤p→W.heap.size≤bl→p≠bl→OCtx G b o W p bl bL L Rc rk)(h0:Rc 0)(hn0:0<G.length)(hn:G.length≤150)(F:Nat)(hF:403≤F)(hout:(WF (kindN G) (subsN G) (atN G) L F false (startT G.length) 0).long=false→(WF (kindN G) (subsN G) (atN G) L F false (startT G.length) 0).out≠[]):
 Calls Tryz.prog 39 #[.slice (some ⟨b,o,none⟩) G.length cap,.slice (some ⟨bL,0,none⟩) G.length G.length] W fun e w'=>
  e= .returned (.tuple #[.string ⟨⟨outL (WF (kindN G) (subsN G) (atN G) L F false (startT G.length) 0)⟩⟩,.bool (okL (WF (kindN G) (subsN G) (atN G) L F false (startT G.length) 0))])∧Below W.heap.size W w':=by
 obtain⟨tf,htf⟩:∃ tf,Hid (tf=WF (kindN G) (subsN G) (atN G) L F false (startT G.length) 0):=⟨_,rfl⟩
 rw[←htf.out] at hout ⊢
 have HC:Hid _:=C
 clear C
 have mki:=run_make_row' (P:=Tryz.prog) 43 3 (.int .i64 0) 8 Tryz.underlying43 infoInt rfl .i64 .i64 G.length (by omega) (by omega)
 go_enter Tryz.func39,Tryz.ntmps39
 have HS:Hid (OwnW ((W.alloc (Obj.cells (madeCells #[Value.int IntKind.i64 0] G.length) 3)).alloc (Obj.cells #[.slice (some ⟨b,o,none⟩) G.length cap,.slice (some ⟨bL,0,none⟩) G.length G.length,.slice (some ⟨W.heap.size,0,none⟩) G.length G.length,.int .i64 0,.pointer none,.slice none 0 0,.bool false] 118))
  W.heap.size (W.heap.size+1) W.heap.size bL G.length (.slice (some ⟨b,o,none⟩) G.length cap) ⟨labsTo G.length 0,0,[],false⟩ (.slice none 0 0)):=by
  have hz:labsTo G.length 0=List.replicate G.length 0:=by simp[labsTo]
  refine⟨by omega,⟨_,Or.inl rfl,?_⟩,World.ownsRow_nil _ _ _ _,?_,by simp[Value.ownBlock],by simp,by simp;omega⟩
  ·have:=heap_alloc_new (W.alloc (Obj.cells (madeCells #[Value.int IntKind.i64 0] G.length) 3)) (Obj.cells #[.slice (some ⟨b,o,none⟩) G.length cap,.slice (some ⟨bL,0,none⟩) G.length G.length,.slice (some ⟨W.heap.size,0,none⟩) G.length G.length,.int .i64 0,.pointer none,.slice none 0 0,.bool false] 118)
   rw[World.size_alloc] at this
   exact this
  ·show RowI _ _ (labsTo G.length 0)
   rw[hz]
   exact rowI_made ((Lib.alloc_old _ _ _ (by simp)).trans (heap_alloc_new W _))
 have HSB:Hid (Below W.heap.size W ((W.alloc (Obj.cells (madeCells #[Value.int IntKind.i64 0] G.length) 3)).alloc (Obj.cells #[.slice (some ⟨b,o,none⟩) G.length cap,.slice (some ⟨bL,0,none⟩) G.length G.length,.slice (some ⟨W.heap.size,0,none⟩) G.length G.length,.int .i64 0,.pointer none,.slice none 0 0,.bool false] 118))):=
  ((Below.refl _ _).alloc (Nat.le_refl _) _).alloc (by simp) _
 go_wp2_with fail
 go_loopw [20] (fun i wr=>∃ k:Nat,k≤G.length∧i= .int .i64 k∧Hid (OwnW wr W.heap.size (W.heap.size+1) W.heap.size bL G.length (.slice (some ⟨b,o,none⟩) G.length cap) ⟨labsTo G.length k,0,[],false⟩ (.slice none 0 0))∧Hid (Below W.heap.size W wr)) (fun i _=>G.length-(intOf i).toNat)
 case atStart=>exact⟨0,Nat.zero_le _,rfl,HS.out,HSB.out⟩
 case round=>
  obtain⟨k,hk,rfl,hwk,hbk⟩:=hrel
  obtain⟨c0,c1,c2,c6⟩:=hwk.out.cells
  by_cases hlt:k<G.length
  ·obtain⟨hl1,hl2⟩:=hwk.out.rl k (by show k<(labsTo G.length k).length;rw[labsTo_len _ _ hk];exact hlt)
   have HN:Hid _:=hwk.out.setLab (by omega) (a:=k) (by show k<(labsTo G.length k).length;rw[labsTo_len _ _ hk];exact hlt) (-1)
   have HNB:Hid (Below W.heap.size W (wr.setCell ⟨W.heap.size,k,none⟩ (.int .i64 (-1)))):=hbk.out.setCell (p:=⟨W.heap.size,k,none⟩) (Nat.le_refl _) _
   simp only[labsTo_set _ _ hlt] at HN
   go_wp2_with fail
   go_roundw
   case rel=>exact⟨k+1,by omega,by go_num,HN,HNB⟩
   case measure=>simp[intOf];omega
  ·have hkl:k=G.length:=by omega
   have HW0:Hid (OwnW wr W.heap.size (W.heap.size+1) W.heap.size bL G.length (.slice (some ⟨b,o,none⟩) G.length cap) (startT G.length) (.slice none 0 0)):=by
    have:=hwk.out;rw[hkl,labsTo_all] at this;exact this
   have HCC:Hid _:=HC.out (W.heap.size+1) W.heap.size (by omega) (Nat.le_refl _) (by omega)
   clear c0 c1 c2 c6 hwk mki
   go_wp2_with fail
   refine(node_all (cap:=cap) HCC.out F F (Nat.le_refl _) (startT G.length) 0 _ _ (startT_ok _ _) (by omega) (by omega) h0 (by show need (startT G.length)≤F;unfold need startT;simp;omega) hbk.out HW0.out).mono ?_
   rintro e w2 ⟨rfl,v2,hw2,hk2⟩
   have hw2':OwnW w2 W.heap.size (W.heap.size+1) W.heap.size bL G.length (.slice (some ⟨b,o,none⟩) G.length cap) tf v2:=by rw[htf.out];exact hw2
   obtain⟨d0,d1,d2,d6⟩:=hw2'.cells
   have HW2:Hid _:=hw2'
   have HB2:Hid (Below W.heap.size W w2):=hbk.out.trans (hk2.below hbk.out.size (by omega) (Nat.le_refl _) (by simp[Value.ownBlock]))
   clear hw2 hw2' hk2 d0 d1 d2
   cases hlong:tf.long
   ·rw[hlong] at d6
    have HL1:Hid (outL tf=tf.out):=by show _=_;unfold outL;rw[hlong];rfl
    have HL2:Hid (okL tf=true):=by show _=_;unfold okL;rw[hlong];rfl
    obtain⟨q,hq,hbld⟩:=HW2.out.bld
    have HO:Hid _:=hout hlong
    have HBD:Hid _:=hbld
    clear hbld
    go_wp2_with fail
    refine(bldString_any HBD.out HO.out).mono ?_
    rintro e w3 ⟨rfl,h3⟩
    have HB3:Hid (Below W.heap.size W w3):=HB2.out.trans (h3.below HB2.out.size (by omega) HW2.out.ownB)
    clear h3
    go_wp2_with fail
    go_ret2
    exact⟨by rw[HL1.out,HL2.out];rfl,HB3.out⟩
   ·rw[hlong] at d6
    have HL1:Hid (outL tf=[]):=by show _=_;unfold outL;rw[hlong];rfl
    have HL2:Hid (okL tf=false):=by show _=_;unfold okL;rw[hlong];rfl
    go_wp2_with fail
    go_ret2
    exact⟨by rw[HL1.out,HL2.out];rfl,HB2.out⟩
end Go.Proofs.YtlhimdjkkiflhaaGreatDoor
namespace Go.Loop
def WS.Tw (s:WS):Prop:=∀ x,s.wi.getD x false=true→1<s.met.getD x 0
theorem Tw.meet {n:Nat}{S:Nat→List Nat}(hS:∀ x,x<n→∀ y∈S x,y<n):∀ (f:Nat) (s:WS) (a:Nat),s.Ok n→a<n→s.Tw→(meetF S f s a).Tw
 |0,s,a,h,ha,ht=>ht
 |f+1,s,a,h,ha,ht=>by
  have hh:∀ x,1<s.met.getD x 0→1<(s.hit a).met.getD x 0:=fun x hx=>by
   rw[hit_met h ha];split<;>(try subst_vars)<;>omega
  simp only[meetF]
  split
  ·rename_i hm
   intro x hx
   change(s.wi.set a (s.wi.getD a false||s.op.getD a false)).getD x false=true at hx
   show 1<(s.hit a).met.getD x 0
   rw[getD_set _ _ _ _ _ (by rw[h.lw];exact ha)] at hx
   split at hx
   ·rename_i e;subst e;rw[hit_met h ha,if_pos rfl];omega
   ·exact hh x (ht x hx)
  ·have h2:((s.hit a).enter a).Ok n:=(h.hit ha).enter ha (hit_pos h ha)
   have t2:((s.hit a).enter a).Tw:=fun x hx=>hh x (ht x hx)
   have:∀ (l:List Nat) (t:WS),(∀ y∈l,y<n)→t.Ok n→t.Tw→(l.foldl (meetF S f) t).Tw:=by
    intro l
    induction l with
    |nil=>intro t _ _ ht;exact ht
    |cons y r ih=>intro t hl ht hw;exact ih _ (fun z hz=>hl z (List.mem_cons_of_mem _ hz)) (Ok.meet hS f t y ht (hl y List.mem_cons_self)) (Tw.meet hS f t y ht (hl y List.mem_cons_self) hw)
   exact this _ _ (hS a ha) h2 t2
theorem walk_tw {n:Nat}{S:Nat→List Nat}(hn:0<n)(hS:∀ x,x<n→∀ y∈S x,y<n):(walkS S n).Tw:=
 Tw.meet hS _ _ _ (start_ok n) hn (fun x hx=>by change(List.replicate n false).getD x false=true at hx;rw[getD_rep] at hx;exact absurd hx (by simp))
theorem need_add_lt {t:TS}(hn:need t≤403)(ho:t.long=false→t.out.length≤400){p:List UInt8}(hp:1≤p.length):need (t.add p)<403:=by
 cases h:t.long
 ·exact Nat.lt_of_lt_of_le (need_lt h (ho h) hp) hn
 ·rw[add_long h];unfold need;rw[if_pos h];omega
end Go.Loop
namespace Go.Proofs.YtlhimdjkkiflhaaGreatDoor
open Go.RowKit Go.Loop
theorem itoa_ne (n:Int):1≤(Lib.itoa n).length:=by
 have hd:∀ u:Nat,1≤(Lib.decDigits u).length:=fun u=>by
  rw[Lib.decDigits_length];rw[Lib.nDigits];split<;>omega
 unfold Lib.itoa
 split
 ·simp
 ·exact hd _
theorem atom_ne (x:Nd)(hb:kindB x=true)(h1:x.kind≠1)(h2:x.kind≠2):1≤(atomL x).length:=by
 unfold kindB at hb
 unfold atomL
 by_cases k0:x.kind=0
 ·rw[if_pos k0];simp
 rw[if_neg k0] at hb ⊢
 rw[if_neg h1,if_neg h2] at hb
 by_cases k3:x.kind=3
 ·rw[if_pos k3];unfold quoteL;simp
 rw[if_neg k3] at hb ⊢
 by_cases k4:x.kind=4
 ·rw[if_pos k4] at hb ⊢
  simp only[Bool.and_eq_true] at hb
  have:=hb.2
  unfold isSym at this
  cases hx:x.text
  ·rw[hx] at this;simp at this
  ·simp
 rw[if_neg k4] at hb ⊢
 by_cases k5:x.kind=5
 ·rw[if_pos k5];unfold numL
  have:=itoa_ne x.n
  split
  ·exact this
  ·simp only[List.length_append,List.length_cons];omega
 rw[if_neg k5] at hb ⊢
 by_cases k6:x.kind=6
 ·rw[if_pos k6];split<;>simp
 rw[if_neg k6];unfold charL;simp
theorem out_some (G:List Nd)(hr:rightB G=true)(L:Nat→Bool)(F:Nat)(hF:1≤F):
 (WF (kindN G) (subsN G) (atN G) L F false (startT G.length) 0).long=false→(WF (kindN G) (subsN G) (atN G) L F false (startT G.length) 0).out≠[]:=by
 obtain⟨h1,h150,hk,hs,h20⟩:=right_parts G hr
 intro hl ho
 have key:need (WF (kindN G) (subsN G) (atN G) L F false (startT G.length) 0)<403:=by
  obtain⟨f,rfl⟩:∃ f,F=f+1:=⟨F-1,by omega⟩
  have e0:(startT G.length).lab.getD 0 (-1)=-1:=by show(List.replicate G.length (-1:Int)).getD 0 (-1)=-1;exact getD_rep _ _ _
  have hok:=startT_ok G.length L
  have n0:need (startT G.length)≤403:=by unfold need startT;simp
  have h2:(if L 0 then(startT G.length).put 0 else startT G.length).Ok G.length L:=by
   split
   ·rename_i e;exact hok.put (by omega) e rfl
   ·exact hok
  have n2:need (if L 0 then(startT G.length).put 0 else startT G.length)≤403:=by
   split
   ·exact Nat.le_trans (need_put _ _) n0
   ·exact n0
  generalize hu:(if L 0 then(startT G.length).put 0 else startT G.length)=u at h2 n2
  simp only[WF]
  rw[if_neg (by simp[startT]),e0,if_neg (by omega),hu]
  have hadd:∀ p:List UInt8,1≤p.length→need (u.add p)<403:=fun p hp=>need_add_lt n2 h2.lo hp
  by_cases k1:kindN G 0=1
  ·rw[if_pos k1]
   exact Nat.lt_of_le_of_lt (need_WF f true _ _) (Nat.lt_of_le_of_lt (need_WF f false _ _) (hadd _ (by simp)))
  ·rw[if_neg k1]
   by_cases k2:kindN G 0=2
   ·rw[if_pos k2]
    exact Nat.lt_of_le_of_lt (need_add _ _) (Nat.lt_of_le_of_lt (need_vec (fun t y=>need_WF f false t y) _ _ _) (hadd _ (by simp)))
   ·rw[if_neg k2]
    rw[kindN_at G 0 (by omega)] at k1 k2
    exact hadd _ (by rw[atN_at G 0 (by omega)];exact atom_ne _ (hk 0 (by omega)) k1 k2)
 unfold need at key
 rw[if_neg (by rw[hl];simp),ho] at key
 simp at key
theorem rank_some (G:List Nd)(hr:rightB G=true)(mode:Int)(hm:mode=0∨mode=1∨mode=2)(hc:mode=0→cycB G=false):
 ∃ (Rc:Nat→Prop) (rk:Nat→Nat),Rc 0∧(∀ x,Rc x→∀ y∈subsN G x,Rc y)∧(∀ x,Rc x→∀ y∈subsN G x,kindN G y=1→labB G mode y=false→rk y<rk x):=by
 obtain⟨h1,h150,hk,hs,h20⟩:=right_parts G hr
 have hS:=subsN_lt G hs
 obtain⟨R,r,_,h0,hcl,hrk⟩:=walk_rank (n:=G.length) (S:=subsN G) (by omega) hS
 refine⟨reach (subsN G) G.length,r,h0,hcl,fun x hx y hy hk1 hl=>hrk x hx y hy ?_⟩
 cases hw:(walkS (subsN G) G.length).wi.getD y false
 ·rfl
 ·exfalso
  unfold labB at hl
  rcases hm with rfl|rfl|rfl
  ·have:=hc rfl
   unfold cycB at this
   rw[List.any_eq_false] at this
   by_cases hy2:y<G.length
   ·exact this y (List.mem_range.2 hy2) hw
   ·have hok:(walkS (subsN G) G.length).Ok G.length:=Ok.meet hS _ _ _ (start_ok _) (by omega)
    have:(walkS (subsN G) G.length).wi.getD y false=false:=by
     simp only[List.getD];rw[List.getElem?_eq_none (by rw[hok.lw];omega)];rfl
    rw[this] at hw;exact absurd hw (by simp)
  ·rw[if_pos rfl,hw] at hl;exact absurd hl (by simp)
  ·have:=walk_tw (n:=G.length) (S:=subsN G) (by omega) hS y hw
   rw[if_neg (by omega),if_pos rfl,decide_eq_true this,hk1] at hl
   simp at hl
def bareN (x:Nd):Nd:={ x with sa:=none,cap:=0 }
theorem kindN_bare (G:List Nd):kindN (G.map bareN)=kindN G:=by
 funext x;unfold kindN;rw[List.getElem?_map];cases G[x]?<;>rfl
theorem atN_bare (G:List Nd):atN (G.map bareN)=atN G:=by
 funext x;unfold atN;rw[List.getElem?_map];cases G[x]?<;>rfl
theorem subsN_bare (G:List Nd):subsN (G.map bareN)=subsN G:=by
 funext x;unfold subsN;rw[List.getElem?_map];cases G[x]?<;>rfl
theorem rightB_bare (G:List Nd):rightB (G.map bareN)=rightB G:=by
 unfold rightB;rw[List.length_map,List.all_map];rfl
theorem labB_bare (G:List Nd)(mode:Int):labB (G.map bareN) mode=labB G mode:=by
 funext i;unfold labB;rw[subsN_bare,kindN_bare,List.length_map]
theorem cycB_bare (G:List Nd):cycB (G.map bareN)=cycB G:=by
 unfold cycB;rw[subsN_bare,List.length_map]
theorem writeT_bare (G:List Nd)(mode:Int)(F:Nat):writeT (G.map bareN) mode F=writeT G mode F:=by
 unfold writeT;rw[subsN_bare,kindN_bare,atN_bare,labB_bare,List.length_map]
theorem writeP_bare (G:List Nd)(mode:Int)(F:Nat):writeP (G.map bareN) mode F=writeP G mode F:=by
 unfold writeP;rw[rightB_bare,cycB_bare,writeT_bare]
theorem writeP_same (G H:List Nd)(h:G.map bareN=H.map bareN)(mode:Int)(F:Nat):writeP G mode F=writeP H mode F:=by
 rw[←writeP_bare G,←writeP_bare H,h]
end Go.Proofs.YtlhimdjkkiflhaaGreatDoor
