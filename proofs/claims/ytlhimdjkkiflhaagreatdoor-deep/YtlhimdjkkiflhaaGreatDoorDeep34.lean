import Derived.Lib.AppendIntMem
import Derived.Deep.DeepCutAuto
import Derived.Test.YtlhimdjkkiflhaaGreatDoorDeep33
namespace Go.Proofs.YtlhimdjkkiflhaaGreatDoor
open Go.RowKit Go.Loop
def Pow (w:World):Prop:=Lib.TabIs Tryz.prog w "internal/strconv.uint64pow10" .u64 Lib.pow10Tab
theorem Pow.on {w w':World}(h:Pow w)(hb:Below w.heap.size w w'):Pow w':=Lib.tabBelow_of_tabIs h w' hb
theorem itoa_any (n:Int)(w:World)(h1: -1000000000≤n)(h2:n≤1000000000)(hp:Pow w):
 Calls Tryz.prog 100 #[.int .i64 n] w fun e w'=>e= .returned (.string ⟨⟨Lib.itoa n⟩⟩)∧Below w.heap.size w w':=by
 refine(Tryz.strconv_Itoa n (by omega) (by omega) w hp).mono ?_
 rintro e w' ⟨rfl,k,os,rfl⟩
 exact⟨rfl,Lib.below_grow _ w (Nat.le_refl _) k os⟩
def truthL (n:Int):List UInt8:=if n=1 then[35,116] else[35,102]
set_option maxHeartbeats 1000000 in
theorem truth_any (n:Int)(w:World):
 Calls Tryz.prog 158 #[.int .i64 n] w fun e w'=>e= .returned (.string ⟨⟨truthL n⟩⟩)∧w'=w:=by
 cases hn:(n==1)
 ·have HV:Hid (truthL n=[35,102]):=by show _=_;unfold truthL;rw[beq_eq_false_iff_ne] at hn;rw[if_neg hn]
  go_enter Tryz.func158,Tryz.ntmps158
  go_wp2_with fail
  go_ret
  exact⟨ret_strl HV.out.symm,rfl⟩
 ·have HV:Hid (truthL n=[35,116]):=by show _=_;unfold truthL;rw[beq_iff_eq] at hn;rw[if_pos hn]
  go_enter Tryz.func158,Tryz.ntmps158
  go_wp2_with fail
  go_ret
  exact⟨ret_strl HV.out.symm,rfl⟩
theorem encode_ascii:∀ k:Nat,k<128→Utf8.encode (k:Int)=⟨⟨[UInt8.ofNat k]⟩⟩:=by decide +kernel
set_option maxHeartbeats 1000000 in
theorem char_any (n:Int)(w:World)(hc:charB n=true):
 Calls Tryz.prog 159 #[.int .i64 n] w fun e w'=>e= .returned (.string ⟨⟨charL n⟩⟩)∧w'=w:=by
 have ks:=str_app
 have HNm:Hid (charL n=35::92::(if hasName n then nameOf n else[UInt8.ofNat n.toNat])):=rfl
 have hln:(nameOf n).length≤7:=by unfold nameOf;repeat' split
                                  all_goals simp
 cases hn:hasName n
 ·have hr:33≤n∧n≤126:=by unfold charB at hc;rw[hn] at hc;simpa using hc
  obtain⟨k,rfl⟩:∃ k:Nat,n=k:=⟨n.toNat,by omega⟩
  have he:=encode_ascii k (by omega)
  go_enter Tryz.func159,Tryz.ntmps159
  go_wp2_with (go_at_call 151;refine(nameOf_any _ _).mono ?_)
  rintro e w1 ⟨rfl,rfl⟩
  rw[hn]
  go_wp2_with fail
  go_ret
  refine⟨ret_strl ?_,rfl⟩
  rw[HNm.out,hn];simp
 ·go_enter Tryz.func159,Tryz.ntmps159
  go_wp2_with (go_at_call 151;refine(nameOf_any _ _).mono ?_)
  rintro e w1 ⟨rfl,rfl⟩
  rw[hn]
  go_wp2_with fail
  go_ret
  refine⟨ret_strl ?_,rfl⟩
  rw[HNm.out,hn];simp
set_option maxHeartbeats 1000000 in
theorem number_any (n d:Int)(w:World)(n1: -1000000≤n)(n2:n≤1000000)(d1:1≤d)(d2:d≤1000000)(hp:Pow w):
 Calls Tryz.prog 157 #[.int .i64 n,.int .i64 d] w fun e w'=>e= .returned (.string ⟨⟨numL n d⟩⟩)∧Below w.heap.size w w':=by
 have hl1:=itoa_len n (by omega) (by omega)
 have hl2:=itoa_len d (by omega) (by omega)
 have ks:=str_app
 have HP:Hid (Pow w):=hp
 clear hp
 cases hd:(d==1)
 ·have HN:Hid (numL n d=Lib.itoa n++47::Lib.itoa d):=by show _=_;rw[beq_eq_false_iff_ne] at hd;unfold numL;rw[if_neg hd]
  go_enter Tryz.func157,Tryz.ntmps157
  go_wp2_with (go_at_call 100;refine(itoa_any n _ (by omega) (by omega) HP.out).mono ?_)
  rintro e w1 ⟨rfl,hb1⟩
  have HB1:Hid (Below w.heap.size w w1):=hb1
  clear hb1
  go_wp2_with (go_at_call 100;refine(itoa_any d _ (by omega) (by omega) (HP.out.on HB1.out)).mono ?_)
  rintro e w2 ⟨rfl,hb2⟩
  have HB2:Hid (Below w.heap.size w w2):=HB1.out.trans (hb2.mono HB1.out.size)
  clear hb2
  go_wp2_with fail
  go_ret
  refine⟨ret_strl ?_,HB2.out⟩
  rw[HN.out];first|done|simp
 ·have HN:Hid (numL n d=Lib.itoa n):=by show _=_;rw[beq_iff_eq] at hd;unfold numL;rw[if_pos hd]
  go_enter Tryz.func157,Tryz.ntmps157
  go_wp2_with (go_at_call 100;refine(itoa_any n _ (by omega) (by omega) HP.out).mono ?_)
  rintro e w1 ⟨rfl,hb1⟩
  have HB1:Hid (Below w.heap.size w w1):=hb1
  clear hb1
  go_wp2_with fail
  go_ret
  exact⟨ret_strl HN.out.symm,HB1.out⟩
set_option maxHeartbeats 1000000 in
theorem atom_0 (x:Nd)(w:World)(hk:x.kind=0):
 Calls Tryz.prog 104 #[nodeV x] w fun e w'=>e= .returned (.string ⟨⟨atomL x⟩⟩)∧Below w.heap.size w w':=by
 have HV:Hid (atomL x=[40,41]):=by show _=_;unfold atomL;rw[if_pos hk]
 have hb3:(x.kind==3)=false:=by rw[hk];decide
 have hb4:(x.kind==4)=false:=by rw[hk];decide
 have hb5:(x.kind==5)=false:=by rw[hk];decide
 have hb6:(x.kind==6)=false:=by rw[hk];decide
 have hb7:(x.kind==7)=false:=by rw[hk];decide
 clear hk
 unfold nodeV
 go_enter Tryz.func104,Tryz.ntmps104
 go_wp2_with fail
 go_ret
 exact⟨ret_strl HV.out.symm,below_box⟩
set_option maxHeartbeats 1000000 in
theorem atom_3 (x:Nd)(w:World)(ht:x.text.length≤400)(hk:x.kind=3):
 Calls Tryz.prog 104 #[nodeV x] w fun e w'=>e= .returned (.string ⟨⟨atomL x⟩⟩)∧Below w.heap.size w w':=by
 have HV:Hid (atomL x=quoteL x.text):=by show _=_;unfold atomL;rw[if_neg (by omega),if_pos hk]
 have hb3:(x.kind==3)=true:=by rw[hk];decide
 have hb4:(x.kind==4)=false:=by rw[hk];decide
 have hb5:(x.kind==5)=false:=by rw[hk];decide
 have hb6:(x.kind==6)=false:=by rw[hk];decide
 have hb7:(x.kind==7)=false:=by rw[hk];decide
 clear hk
 unfold nodeV
 go_enter Tryz.func104,Tryz.ntmps104
 go_wp2_with (go_at_call 156;refine(quoted_any x.text _ ht).mono ?_)
 rintro e w1 ⟨rfl,hb⟩
 have HB:Hid (Below w.heap.size w w1):=below_box.trans (hb.mono (by simp))
 clear hb
 go_wp2_with fail
 go_ret
 exact⟨ret_strl HV.out.symm,HB.out⟩
set_option maxHeartbeats 1000000 in
theorem atom_4 (x:Nd)(w:World)(hk:x.kind=4):
 Calls Tryz.prog 104 #[nodeV x] w fun e w'=>e= .returned (.string ⟨⟨atomL x⟩⟩)∧Below w.heap.size w w':=by
 have HV:Hid (atomL x=x.text):=by show _=_;unfold atomL;rw[if_neg (by omega),if_neg (by omega),if_pos hk]
 have hb3:(x.kind==3)=false:=by rw[hk];decide
 have hb4:(x.kind==4)=true:=by rw[hk];decide
 have hb5:(x.kind==5)=false:=by rw[hk];decide
 have hb6:(x.kind==6)=false:=by rw[hk];decide
 have hb7:(x.kind==7)=false:=by rw[hk];decide
 clear hk
 unfold nodeV
 go_enter Tryz.func104,Tryz.ntmps104
 go_wp2_with fail
 go_ret
 exact⟨ret_strl HV.out.symm,below_box⟩
set_option maxHeartbeats 1000000 in
theorem atom_5 (x:Nd)(w:World)(n1: -1000000≤x.n)(n2:x.n≤1000000)(d1:1≤x.d)(d2:x.d≤1000000)(hp:Pow w)(hk:x.kind=5):
 Calls Tryz.prog 104 #[nodeV x] w fun e w'=>e= .returned (.string ⟨⟨atomL x⟩⟩)∧Below w.heap.size w w':=by
 have HV:Hid (atomL x=numL x.n x.d):=by show _=_;unfold atomL;rw[if_neg (by omega),if_neg (by omega),if_neg (by omega),if_pos hk]
 have hb3:(x.kind==3)=false:=by rw[hk];decide
 have hb4:(x.kind==4)=false:=by rw[hk];decide
 have hb5:(x.kind==5)=true:=by rw[hk];decide
 have hb6:(x.kind==6)=false:=by rw[hk];decide
 have hb7:(x.kind==7)=false:=by rw[hk];decide
 clear hk
 have HPA:Hid (∀ o:Obj,Pow (w.alloc o)):=fun o=>hp.on below_box
 clear hp
 unfold nodeV
 go_enter Tryz.func104,Tryz.ntmps104
 go_wp2_with (go_at_call 157;refine(number_any x.n x.d _ n1 n2 d1 d2 (HPA.out _)).mono ?_)
 rintro e w1 ⟨rfl,hb⟩
 have HB:Hid (Below w.heap.size w w1):=below_box.trans (hb.mono (by simp))
 clear hb
 go_wp2_with fail
 go_ret
 exact⟨ret_strl HV.out.symm,HB.out⟩
set_option maxHeartbeats 1000000 in
theorem atom_6 (x:Nd)(w:World)(hk:x.kind=6):
 Calls Tryz.prog 104 #[nodeV x] w fun e w'=>e= .returned (.string ⟨⟨atomL x⟩⟩)∧Below w.heap.size w w':=by
 have HV:Hid (atomL x=truthL x.n):=by show _=_;unfold atomL;rw[if_neg (by omega),if_neg (by omega),if_neg (by omega),if_neg (by omega),if_pos hk];rfl
 have hb3:(x.kind==3)=false:=by rw[hk];decide
 have hb4:(x.kind==4)=false:=by rw[hk];decide
 have hb5:(x.kind==5)=false:=by rw[hk];decide
 have hb6:(x.kind==6)=true:=by rw[hk];decide
 have hb7:(x.kind==7)=false:=by rw[hk];decide
 clear hk
 unfold nodeV
 go_enter Tryz.func104,Tryz.ntmps104
 go_wp2_with (go_at_call 158;refine(truth_any x.n _).mono ?_)
 rintro e w1 ⟨rfl,rfl⟩
 go_wp2_with fail
 go_ret
 exact⟨ret_strl HV.out.symm,below_box⟩
set_option maxHeartbeats 1000000 in
theorem atom_7 (x:Nd)(w:World)(hc:charB x.n=true)(hk:x.kind=7):
 Calls Tryz.prog 104 #[nodeV x] w fun e w'=>e= .returned (.string ⟨⟨atomL x⟩⟩)∧Below w.heap.size w w':=by
 have HV:Hid (atomL x=charL x.n):=by show _=_;unfold atomL;rw[if_neg (by omega),if_neg (by omega),if_neg (by omega),if_neg (by omega),if_neg (by omega)]
 have hb3:(x.kind==3)=false:=by rw[hk];decide
 have hb4:(x.kind==4)=false:=by rw[hk];decide
 have hb5:(x.kind==5)=false:=by rw[hk];decide
 have hb6:(x.kind==6)=false:=by rw[hk];decide
 have hb7:(x.kind==7)=true:=by rw[hk];decide
 clear hk
 unfold nodeV
 go_enter Tryz.func104,Tryz.ntmps104
 go_wp2_with (go_at_call 159;refine(char_any x.n _ hc).mono ?_)
 rintro e w1 ⟨rfl,rfl⟩
 go_wp2_with fail
 go_ret
 exact⟨ret_strl HV.out.symm,below_box⟩
theorem foldl_snoc (S:Nat→List Nat)(f:Nat)(t:WS)(l:List Nat)(k:Nat)(h:k<l.length):(l.take (k+1)).foldl (meetF S f) t=meetF S f ((l.take k).foldl (meetF S f) t) l[k]:=by
 rw[List.take_succ_eq_append_getElem h,List.foldl_append];rfl
theorem fold_ok {n:Nat}{S:Nat→List Nat}(hS:∀ x,x<n→∀ y∈S x,y<n)(f:Nat):∀ (l:List Nat) (t:WS),(∀ y∈l,y<n)→t.Ok n→(l.foldl (meetF S f) t).Ok n
 |[],_,_,ht=>ht
 |y::r,t,hl,ht=>fold_ok hS f r _ (fun z hz=>hl z (List.mem_cons_of_mem _ hz)) (Ok.meet hS f t y ht (hl y List.mem_cons_self))
theorem fold_pot {n:Nat}{S:Nat→List Nat}(hS:∀ x,x<n→∀ y∈S x,y<n)(g:Nat→Nat)(f:Nat):∀ (l:List Nat) (t:WS),(∀ y∈l,y<n)→t.Ok n→(l.foldl (meetF S f) t).pot g≤t.pot g
 |[],_,_,_=>Nat.le_refl _
 |y::r,t,hl,ht=>Nat.le_trans (fold_pot hS g f r _ (fun z hz=>hl z (List.mem_cons_of_mem _ hz)) (Ok.meet hS f t y ht (hl y List.mem_cons_self))) (pot_meet hS g f t y ht (hl y List.mem_cons_self))
theorem fold_bd {n:Nat}{S:Nat→List Nat}(hS:∀ x,x<n→∀ y∈S x,y<n)(f:Nat):∀ (l:List Nat) (t:WS) (k:Nat),(∀ y∈l,y<n)→t.Ok n→t.Bd S k→(l.foldl (meetF S f) t).Bd S (k+l.length)
 |[],_,_,_,_,hk=>hk
 |y::r,t,k,hl,ht,hk=>by
  have:=fold_bd hS f r (meetF S f t y) (k+1) (fun z hz=>hl z (List.mem_cons_of_mem _ hz)) (Ok.meet hS f t y ht (hl y List.mem_cons_self)) (Bd.meet hS f t y k ht (hl y List.mem_cons_self) hk)
  simp only[List.foldl_cons,List.length_cons]
  rw[show k+(r.length+1)=k+1+r.length by omega];exact this
theorem fold_facts {N:Nat}{S:Nat→List Nat}(hS:∀ x,x<N→∀ y∈S x,y<N)(f:Nat)(s:WS)(n c k:Nat)(hok:s.Ok N)(hn:n<N)(hf:s.pot (fun _=>1)<f+1)(hbd:s.Bd S c)(hm:s.met.getD n 0=0)(hk:k≤(S n).length):
 (((S n).take k).foldl (meetF S f) ((s.hit n).enter n)).Ok N∧(((S n).take k).foldl (meetF S f) ((s.hit n).enter n)).pot (fun _=>1)<f∧(((S n).take k).foldl (meetF S f) ((s.hit n).enter n)).Bd S (c+1-(S n).length + k)∧(S n).length≤c:=by
 have h2:((s.hit n).enter n).Ok N:=(hok.hit hn).enter hn (hit_pos hok hn)
 have hl:∀ y∈(S n).take k,y<N:=fun y hy=>hS n hn y (List.mem_of_mem_take hy)
 have hp:=pot_hit hok hn (fun _=>1)
 have hp2:=pot_hit hok hn (fun x=>(S x).length)
 rw[if_pos hm] at hp hp2
 have hc:(S n).length≤c:=by have:=hbd n;omega
 refine⟨fold_ok hS f _ _ hl h2,?_,?_,hc⟩
 ·have:=fold_pot hS (fun _=>1) f _ _ hl h2
  have e:((s.hit n).enter n).pot (fun _=>1)=(s.hit n).pot (fun _=>1):=rfl
  omega
 ·have hb2:((s.hit n).enter n).Bd S (c+1-(S n).length):=by
   intro i
   show(s.hit n).met.getD i 0+((s.hit n).pot (fun x=>(S x).length):Nat)≤_
   rw[hit_met hok hn]
   have h1:=hbd i;have h3:=hbd n
   split<;>omega
  have:=fold_bd hS f _ _ _ hl h2 hb2
  rwa[List.length_take,Nat.min_eq_left hk] at this
theorem subsN_at (G:List Nd)(x:Nat)(h:x<G.length):subsN G x=G[x].subs.map Int.toNat:=by
 unfold subsN;rw[List.getElem?_eq_getElem h]
theorem subsB_at (l:List Int)(all:Int)(h:subsB l all=true)(k:Nat)(hk:k<l.length):0≤l.getD k 0∧l.getD k 0<all:=by
 unfold subsB at h
 have:=List.all_eq_true.1 h _ (List.getElem_mem hk)
 simp[List.getD,List.getElem?_eq_getElem hk] at this ⊢
 exact this
theorem subsN_lt (G:List Nd)(hsub:∀ x (h:x<G.length),subsB G[x].subs G.length=true):∀ x,x<G.length→∀ y∈subsN G x,y<G.length:=by
 intro x hx y hy
 rw[subsN_at G x hx] at hy
 obtain⟨v,hv,rfl⟩:=List.mem_map.1 hy
 have:=List.all_eq_true.1 (hsub x hx) v hv
 simp at this
 omega
set_option maxHeartbeats 2000000 in
theorem meet_any (G:List Nd)(b o cap:Nat)(W0:World)(hG:Hid (GraphAt W0 b o G))(_hn:G.length≤150)(hsub:Hid (∀ x (h:x<G.length),subsB G[x].subs G.length=true))(p bo bm bw:Nat)(A:Apart W0.heap.size p bo bm bw):
 ∀ (f:Nat) (s:WS) (a:Int) (w:World) (c:Nat),s.Ok G.length→0≤a→a<G.length→s.pot (fun _=>1)<f→s.Bd (subsN G) c→c+1≤1000000→Below W0.heap.size W0 w→
   WalkAt w p bo bm bw G.length (.slice (some ⟨b,o,none⟩) G.length cap) s→
   Calls Tryz.prog 45 #[.pointer (some ⟨p,0,none⟩),.int .i64 a] w fun e w'=>e= .returned (.tuple #[])∧
    WalkAt w' p bo bm bw G.length (.slice (some ⟨b,o,none⟩) G.length cap) (meetF (subsN G) f s a.toNat)∧Below W0.heap.size W0 w':=by
 intro f
 induction f with
 |zero=>intro s a w c _ _ _ h;omega
 |succ f ih=>
  intro s a w c hok ha0 ha hf hbd hc hb hw
  have IH:Hid _:=ih
  clear ih
  obtain⟨n,rfl⟩:=Int.eq_ofNat_of_zero_le ha0
  rw[Int.toNat_natCast]
  have han:n<G.length:=by omega
  have hml:n<s.met.length:=by rw[hok.lm];exact han
  have hbn:=hbd n
  have hnn:=hok.nn n
  have hw1:=hw.hit A hml
  have hb1:Below W0.heap.size W0 (w.setCell ⟨bm,n,none⟩ (.int .i64 (s.met.getD n 0+1))):=hb.setCell A.hm _
  obtain⟨c0,c1,c2,c3,rm,rw_,ro⟩:=hw
  have hmc:=(rm n hml).1
  have hmf:=(rm n hml).2
  have HOK:Hid _:=hok
  have HBD:Hid _:=hbd
  have hval:∃ m:Int,Hid (m=s.met.getD n 0):=⟨_,rfl⟩
  obtain⟨m,hm⟩:=hval
  have hmet1:(s.hit n).met.getD n 0=m+1:=by rw[hit_met hok han,if_pos rfl,hm.out]
  rw[←hm.out] at hmc hnn hbn hb1 hw1
  have hm1:m≤1000000:=by omega
  have HB1:Hid _:=hb1
  have HW1:Hid _:=hw1
  have HM1:Hid _:=hmet1
  clear hw1 hok hbd hb1 rm rw_ ro hml hbn hmet1
  go_enter Tryz.func45,Tryz.ntmps45
  go_upto_region 1 with fail
  generalize w.setCell ⟨bm,n,none⟩ (.int .i64 (m+1))=w1 at *
  clear c0 c1 c2 c3 hmc hmf
  obtain⟨d0,d1,d2,d3,rm,rw_,ro⟩:=HW1.out
  have hml:n<(s.hit n).met.length:=by rw[(HOK.out.hit han).lm];exact han
  have hwl:n<(s.hit n).wi.length:=by rw[(HOK.out.hit han).lw];exact han
  have hol:n<(s.hit n).op.length:=by rw[(HOK.out.hit han).lo];exact han
  have e0:=(rm n hml).1
  rw[HM1.out] at e0
  by_cases hmet:0<m
  ·have e1:=(rw_ n hwl).1
   have e2:=(rw_ n hwl).2
   have e3:=(ro n hol).1
   have HA:Hid _:=HW1.out.again A hwl
   have HBa:Hid _:=fun v=>HB1.out.setCell (p:=⟨bw,n,none⟩) A.hw v
   have HF:Hid (meetF (subsN G) (f+1) s n=(s.hit n).again n):=by show _=_;simp only[meetF];rw[if_pos (by rw[←hm.out];exact hmet)]
   rw[show(s.hit n).wi=s.wi from rfl] at e1 HA
   rw[show(s.hit n).op=s.op from rfl] at e3 HA
   clear rm rw_ ro hml hwl hol IH
   cases hwi:s.wi.getD n false
   ·cases hop:s.op.getD n false
    ·rw[hwi] at e1;rw[hop] at e3
     rw[hwi,hop] at HA
     clear hwi hop
     go_wp2_with fail
     go_region
     go_wp2_with fail
     refine bodyPost_ret (results_none rfl _ _ _) rfl ?_
     refine⟨rfl,?_,?_⟩
     ·rw[HF.out];exact HA.out.drew
     ·exact(HBa.out _).drew
    ·rw[hwi] at e1;rw[hop] at e3
     rw[hwi,hop] at HA
     clear hwi hop
     go_wp2_with fail
     go_region
     go_wp2_with fail
     refine bodyPost_ret (results_none rfl _ _ _) rfl ?_
     refine⟨rfl,?_,?_⟩
     ·rw[HF.out];exact HA.out.drew
     ·exact(HBa.out _).drew
   ·rw[hwi] at e1
    rw[hwi,Bool.true_or] at HA
    clear hwi e3
    go_wp2_with fail
    go_region
    go_wp2_with fail
    refine bodyPost_ret (results_none rfl _ _ _) rfl ?_
    refine⟨rfl,?_,?_⟩
    ·rw[HF.out];exact HA.out.drew
    ·exact(HBa.out _).drew
  ·have hm2:m≤0:=by omega
   have e3:=(ro n hol).1
   have e4:=(ro n hol).2
   have HE:Hid _:=HW1.out.putOp A hol true
   have HBe:Hid _:=HB1.out.setCell (p:=⟨bo,n,none⟩) A.ho (.bool true)
   have HF:Hid (meetF (subsN G) (f+1) s n=((subsN G n).foldl (meetF (subsN G) f) ((s.hit n).enter n)).leave n):=by show _=_;simp only[meetF];rw[if_neg (by rw[←hm.out];exact hmet)]
   have HM0:Hid (s.met.getD n 0=0):=by show _=_;rw[←hm.out];omega
   have HS:Hid _:=subsN_lt G hsub.out
   have hnode:=(hG.out n han).below HBe.out
   have HSN:Hid _:=subsN_at G n han
   have HSB:Hid _:=hsub.out n han
   have HI0:Hid _:=(hG.out n han).ints
   clear rm rw_ ro hml hwl hol hm hmet
   go_upto_region 4 with fail
   generalize w1.setCell ⟨bo,n,none⟩ (.bool true)=w2 at *
   obtain⟨c0,c1,c2,c3,c4,hi,ht,hs⟩:=hnode
   have HI:Hid _:=hi
   have HL:Hid _:=hs
   obtain⟨f0,f1,f2,f3,rm,rw_,ro⟩:=HE.out
   clear d0 d1 d2 d3 e0 e3 e4 c0 c1 c2 c3 hi ht hs f1 f2 f3 rm rw_ ro HB1 HW1 HM1
   generalize G[n]=x at *
   rcases HI0.out with h|⟨sb,so,hsa,hc⟩
   ·have HE0:Hid _:=h
    clear h
    go_wp2_with fail
    go_loopw [64] (fun i wr=>∃ k:Nat,k≤x.subs.length∧i= .int .i64 k∧Hid (WalkAt wr p bo bm bw G.length (.slice (some ⟨b,o,none⟩) G.length cap) (((subsN G n).take k).foldl (meetF (subsN G) f) ((s.hit n).enter n)))∧Hid (Below W0.heap.size W0 wr)) (fun i _=>x.subs.length-(intOf i).toNat)
    case atStart=>exact⟨0,Nat.zero_le _,rfl,HE.out,HBe.out⟩
    case round=>
     obtain⟨k,hk,rfl,hwk,hbk⟩:=hrel
     have hll:(subsN G n).length=x.subs.length:=by rw[HSN.out];simp
     have HLL:Hid _:=hll
     clear hll
     by_cases hlt:k<x.subs.length
     ·exfalso;rw[HE0.out] at hlt;simp at hlt
     ·have hkl:k=x.subs.length:=by omega
      have hw4:=hwk.out
      rw[List.take_of_length_le (by rw[HLL.out];omega)] at hw4
      have hokt:=(fold_facts HS.out f s n c (subsN G n).length HOK.out han hf HBD.out HM0.out (Nat.le_refl _)).1
      rw[List.take_of_length_le (Nat.le_refl _)] at hokt
      have hol:n<((subsN G n).foldl (meetF (subsN G) f) ((s.hit n).enter n)).op.length:=by rw[hokt.lo];exact han
      have HE2:Hid _:=hw4.putOp A hol false
      have HB4:Hid _:=hbk.out.setCell (p:=⟨bo,n,none⟩) A.ho (.bool false)
      have g1:=hw4.c1
      obtain⟨g2,g3⟩:=hw4.ro n hol
      clear hw4 hol hokt hwk hbk
      generalize ((subsN G n).foldl (meetF (subsN G) f) ((s.hit n).enter n))=t at *
      generalize t.op.getD n false=ob at *
      go_wp2_with fail
      go_end0
      refine⟨rfl,?_,HB4.out⟩
      rw[HF.out];exact HE2.out
   ·have HC:Hid _:=hc
    rw[hsa] at c4
    clear hc hsa
    go_wp2_with fail
    go_loopw [64] (fun i wr=>∃ k:Nat,k≤x.subs.length∧i= .int .i64 k∧Hid (WalkAt wr p bo bm bw G.length (.slice (some ⟨b,o,none⟩) G.length cap) (((subsN G n).take k).foldl (meetF (subsN G) f) ((s.hit n).enter n)))∧Hid (Below W0.heap.size W0 wr)) (fun i _=>x.subs.length-(intOf i).toNat)
    case atStart=>exact⟨0,Nat.zero_le _,rfl,HE.out,HBe.out⟩
    case round=>
     obtain⟨k,hk,rfl,hwk,hbk⟩:=hrel
     have hll:(subsN G n).length=x.subs.length:=by rw[HSN.out];simp
     have HLL:Hid _:=hll
     clear hll
     by_cases hlt:k<x.subs.length
     ·have hcell:=cell_below hbk.out (HC.out k hlt)
      obtain⟨tok,tpot,tbd,tc⟩:=fold_facts HS.out f s n c k HOK.out han hf HBD.out HM0.out (by rw[HLL.out];omega)
      obtain⟨v0,v1⟩:=subsB_at _ _ HSB.out k hlt
      have hgetk:(subsN G n)[k]'(by rw[HLL.out];exact hlt)=(x.subs.getD k 0).toNat:=by
       have e:∀ (l:List Nat) (hl:k<l.length),l=x.subs.map Int.toNat→l[k]=(x.subs.getD k 0).toNat:=by
        intro l hl e;subst e;simp[List.getD,List.getElem?_eq_getElem hlt]
       exact e _ _ HSN.out
      have HSTEP:Hid _:=foldl_snoc (subsN G) f ((s.hit n).enter n) (subsN G n) k (by rw[HLL.out];exact hlt)
      rw[hgetk] at HSTEP
      have hcl:c+1-(subsN G n).length + k+1≤1000000:=by have:=HLL.out;omega
      have HCL:Hid _:=hcl
      have hsl:x.subs.length≤1000000:=by have:=HLL.out;omega
      have TOK:Hid _:=tok
      have TPOT:Hid _:=tpot
      have TBD:Hid _:=tbd
      clear tok tpot tbd tc hgetk hcl
      generalize x.subs.getD k 0=v at *
      go_wp2_with fail
      refine(IH.out _ v _ _ TOK.out v0 v1 TPOT.out TBD.out HCL.out hbk.out hwk.out).mono ?_
      rintro e w3 ⟨rfl,hw3,hb3⟩
      rw[←HSTEP.out] at hw3
      have HW3:Hid _:=hw3
      have HB3:Hid _:=hb3
      clear hw3 hb3 hwk hbk hcell
      go_wp2_with fail
      go_roundw
      case rel=>exact⟨k+1,by omega,by go_num,HW3,HB3⟩
      case measure=>simp[intOf];omega
     ·have hkl:k=x.subs.length:=by omega
      have hw4:=hwk.out
      rw[List.take_of_length_le (by rw[HLL.out];omega)] at hw4
      have hokt:=(fold_facts HS.out f s n c (subsN G n).length HOK.out han hf HBD.out HM0.out (Nat.le_refl _)).1
      rw[List.take_of_length_le (Nat.le_refl _)] at hokt
      have hol:n<((subsN G n).foldl (meetF (subsN G) f) ((s.hit n).enter n)).op.length:=by rw[hokt.lo];exact han
      have HE2:Hid _:=hw4.putOp A hol false
      have HB4:Hid _:=hbk.out.setCell (p:=⟨bo,n,none⟩) A.ho (.bool false)
      have g1:=hw4.c1
      obtain⟨g2,g3⟩:=hw4.ro n hol
      clear hw4 hol hokt hwk hbk
      generalize ((subsN G n).foldl (meetF (subsN G) f) ((s.hit n).enter n))=t at *
      generalize t.op.getD n false=ob at *
      go_wp2_with fail
      go_end0
      refine⟨rfl,?_,HB4.out⟩
      rw[HF.out];exact HE2.out
structure Kept (p q:Nat) (w w':World):Prop where
 os:w'.os=w.os
 tape:w'.tape=w.tape
 output:w'.output=w.output
 size:w.heap.size≤w'.heap.size
 block:∀ k,k<w.heap.size→k≠p→k≠q→w'.heap[k]? =w.heap[k]?
theorem Kept.refl (p q:Nat)(w:World):Kept p q w w:=⟨rfl,rfl,rfl,Nat.le_refl _,fun _ _ _ _=>rfl⟩
def kindN (G:List Nd)(x:Nat):Int:=match G[x]? with|some y=>y.kind|none=>0
def atN (G:List Nd)(x:Nat):List UInt8:=match G[x]? with|some y=>atomL y|none=>[]
theorem kindN_at (G:List Nd)(x:Nat)(h:x<G.length):kindN G x=G[x].kind:=by unfold kindN;rw[List.getElem?_eq_getElem h]
theorem atN_at (G:List Nd)(x:Nat)(h:x<G.length):atN G x=atomL G[x]:=by unfold atN;rw[List.getElem?_eq_getElem h]
theorem subs_get (G:List Nd)(x:Nat)(h:x<G.length)(k:Nat)(hk:k<G[x].subs.length):(subsN G x).getD k 0=(G[x].subs.getD k 0).toNat:=by
 rw[subsN_at G x h];simp[List.getD,List.getElem?_eq_getElem hk]
theorem pair_two (G:List Nd)(y:Nat)(hy:y<G.length)(hb:kindB G[y]=true)(hk:kindN G y=1):(subsN G y).length=2:=by
 rw[subsN_at G y hy,List.length_map]
 rw[kindN_at G y hy] at hk
 unfold kindB at hb;rw[if_neg (by omega),if_pos hk] at hb;simp at hb;exact hb.1
theorem need_put_lt {t:TS}(h:t.long=false)(ho:t.out.length≤400)(a:Nat):need (t.put a)<need t:=by
 have:need (t.put a)=need (t.add (35::(Lib.itoa t.next++[61]))):=rfl
 rw[this];exact need_lt h ho (by simp)
structure OwnW (w:World) (B p bl bL n:Nat) (nv:Value) (t:TS) (v:Value):Prop where
 hB:B≤p
 blk:∃ q,(q= .pointer none∨q= .pointer (some ⟨p,4,none⟩))∧
  w.heap[p]? =some (.cells #[nv,.slice (some ⟨bL,0,none⟩) n n,.slice (some ⟨bl,0,none⟩) n n,.int .i64 t.next,q,v,.bool t.long] 118 (0,0))
 own:w.ownsRow B 5 1 v (Lib.byteCells t.out).length (Lib.byteCells t.out)
 rl:RowI w bl t.lab
 nb:v.ownBlock≠some bl
 ol:t.out.length≤400
 bl:bl<w.heap.size
structure KeptO (w w':World) (p bl:Nat) (v v':Value):Prop where
 os:w'.os=w.os
 tape:w'.tape=w.tape
 output:w'.output=w.output
 size:w.heap.size≤w'.heap.size
 block:∀ k,k<w.heap.size→k≠p→k≠bl→some k≠v.ownBlock→w'.heap[k]? =w.heap[k]?
 buf:v'.ownBlock=v.ownBlock∨∃ k,v'.ownBlock=some k∧w.heap.size≤k
theorem KeptO.refl (w:World)(p bl:Nat)(v:Value):KeptO w w p bl v v:=⟨rfl,rfl,rfl,Nat.le_refl _,fun _ _ _ _ _=>rfl,Or.inl rfl⟩
theorem KeptO.trans {w w' w'':World}{p bl:Nat}{v v' v'':Value}(h:KeptO w w' p bl v v')(k:KeptO w' w'' p bl v' v''):KeptO w w'' p bl v v'':=by
 refine⟨k.os.trans h.os,k.tape.trans h.tape,k.output.trans h.output,Nat.le_trans h.size k.size,fun i hi hb hl hv=>?_,?_⟩
 ·have hne:some i≠v'.ownBlock:=by
   rcases h.buf with e|⟨g,e,hg⟩
   ·rw[e];exact hv
   ·rw[e];intro x;simp only[Option.some.injEq] at x;omega
  exact(k.block i (Nat.lt_of_lt_of_le hi h.size) hb hl hne).trans (h.block i hi hb hl hv)
 ·rcases k.buf with e|⟨g,e,hg⟩
  ·rw[e];exact h.buf
  ·exact Or.inr ⟨g,e,Nat.le_trans h.size hg⟩
theorem KeptO.of_below {w w':World}{p bl:Nat}{v:Value}(h:Below w.heap.size w w'):KeptO w w' p bl v v:=⟨h.os,h.tape,h.output,h.size,fun k hk _ _ _=>h.block k hk,Or.inl rfl⟩
theorem KeptO.of_to {w w':World}{p bl:Nat}{v v':Value}(h:BldTo w w' p v v'):KeptO w w' p bl v v':=⟨h.os,h.tape,h.output,h.size,fun k hk hp _ hv=>h.block k hk hp hv,h.buf⟩
theorem KeptO.set {w:World}{p bl:Nat}{v:Value}{x:Addr}(hx:x.block=p∨x.block=bl)(u:Value):KeptO w (w.setCell x u) p bl v v:=
 ⟨rfl,rfl,rfl,by simp[World.setCell],fun k _ h1 h2 _=>Below.heap_setCell _ _ _ _ (by rcases hx with h|h<;>omega),Or.inl rfl⟩
theorem KeptO.below {w w':World}{B p bl:Nat}{v v':Value}(h:KeptO w w' p bl v v')(hB:B≤w.heap.size)(hp:B≤p)(hl:B≤bl)(hv:∀ k,v.ownBlock=some k→B≤k):Below B w w':=
 ⟨h.os,h.tape,h.output,h.size,fun k hk=>h.block k (by omega) (by omega) (by omega) (fun e=>by have:=hv k e.symm;omega)⟩
theorem RowI.of_block {w w':World}{b:Nat}{l:List Int}(h:RowI w b l)(e:w'.heap[b]? =w.heap[b]?):RowI w' b l:=fun i hi=>by
 rw[World.cell?_of_block (w:=w) (w':=w') (a:=⟨b,i,none⟩) e,World.frozen?_of_block (w:=w) (w':=w') (a:=⟨b,i,none⟩) e];exact h i hi
theorem OwnW.ownB {w:World}{B p bl bL n:Nat}{nv:Value}{t:TS}{v:Value}(h:OwnW w B p bl bL n nv t v):∀ k,v.ownBlock=some k→B≤k:=fun k hk=>(h.own.lt k hk).1
theorem wT:118≠5:=by decide
theorem OwnW.bld {w:World}{B p bl bL n:Nat}{nv:Value}{t:TS}{v:Value}(h:OwnW w B p bl bL n nv t v):∃ q,(q= .pointer none∨q= .pointer (some ⟨p,4,none⟩))∧
 BldAt w 118 4 B p #[nv,.slice (some ⟨bL,0,none⟩) n n,.slice (some ⟨bl,0,none⟩) n n,.int .i64 t.next,q,v,.bool t.long] v (Lib.byteCells t.out):=by
 obtain⟨q,hq,hb⟩:=h.blk
 exact⟨q,hq,h.hB,hb,by rcases hq with rfl|rfl<;>simp,rfl,h.own⟩
theorem OwnW.mark {w:World}{B p bl bL n:Nat}{nv:Value}{t:TS}{v:Value}(h:OwnW w B p bl bL n nv t v)(hne:p≠bl):
 OwnW (w.setCell ⟨p,6,none⟩ (.bool true)) B p bl bL n nv { t with long:=true } v:=by
 obtain⟨q,hq,hb⟩:=h.blk
 have hn:=Lib.ownBlock_ne h.own hb wT
 refine⟨h.hB,⟨q,hq,?_⟩,?_,?_,h.nb,h.ol,?_⟩
 ·have:=heap_setCell_same w p 6 _ _ (.bool true) hb
  exact this
 ·exact h.own.kept (row:=some p) ⟨rfl,rfl,rfl,by simp[World.setCell],fun k _ hk=>Below.heap_setCell _ _ _ _ (fun e=>hk (by simp[e]))⟩ (Or.inr hn)
 ·exact h.rl.of_block (Below.heap_setCell _ _ _ _ (fun e=>hne e.symm))
 ·have:=h.bl;simpa[World.setCell] using this
theorem OwnW.wrote {w w':World}{B p bl bL n:Nat}{nv:Value}{t:TS}{v v':Value}{s:List UInt8}{q:Value}(h:OwnW w B p bl bL n nv t v)(hne:p≠bl)(hl:t.long=false)(hs:t.out.length+s.length≤400)
 (h1:BldAt w' 118 4 B p ((usedC 4 p #[nv,.slice (some ⟨bL,0,none⟩) n n,.slice (some ⟨bl,0,none⟩) n n,.int .i64 t.next,q,v,.bool t.long]).setIfInBounds (4+1) v') v' (Lib.byteCells t.out++Lib.strCells ⟨⟨s⟩⟩))
 (h2:BldTo w w' p v v'):OwnW w' B p bl bL n nv (t.add s) v'∧KeptO w w' p bl v v':=by
 rw[add_fits hl hs]
 have e1:Lib.byteCells (t.out++s)=Lib.byteCells t.out++Lib.strCells ⟨⟨s⟩⟩:=by rw[Lib.byteCells_append];rfl
 refine⟨⟨h.hB,⟨_,Or.inr rfl,h1.blk⟩,?_,?_,?_,?_,Nat.lt_of_lt_of_le h.bl h2.size⟩,KeptO.of_to h2⟩
 ·show World.ownsRow _ _ _ _ _ (Lib.byteCells (t.out++s)).length (Lib.byteCells (t.out++s))
  rw[e1];exact h1.own
 ·exact h.rl.of_block (h2.block bl h.bl (fun e=>hne e.symm) (fun e=>h.nb e.symm))
 ·rcases h2.buf with e|⟨k,e,hk⟩
  ·rw[e];exact h.nb
  ·rw[e];intro x;simp only[Option.some.injEq] at x;have:=h.bl;omega
 ·show(t.out++s).length≤400
  rw[List.length_append];exact hs
set_option maxHeartbeats 1000000 in
set_option maxRecDepth 100000 in
theorem add_any {w:World}{B p bl bL n:Nat}{nv:Value}{t:TS}{v:Value}(h:OwnW w B p bl bL n nv t v)(hne:p≠bl)(hBw:B≤w.heap.size)(s:List UInt8):
 Calls Tryz.prog 99 #[.pointer (some ⟨p,0,none⟩),.string ⟨⟨s⟩⟩] w fun e w'=>e= .returned (.tuple #[])∧∃ v',OwnW w' B p bl bL n nv (t.add s) v'∧KeptO w w' p bl v v':=by
 obtain⟨q,hq,hbld⟩:=h.bld
 have HBL:Hid _:=hbld
 have HW:Hid (OwnW w B p bl bL n nv t v):=h
 have hol:=h.ol
 have e0:(Lib.byteCells t.out).length=t.out.length:=Lib.byteCells_length _
 have c6:w.cell? ⟨p,6,none⟩=some (.bool t.long):=hbld.cell 6
 have f6:w.frozen? ⟨p,6,none⟩=false:=hbld.frozen 6
 clear hbld h hq
 by_cases hov:400<t.out.length+s.length
 ·have HM:Hid _:=HW.out.mark hne
  have HA:Hid (t.add s={ t with long:=true }):=by
   show _=_
   cases hl:t.long
   ·rw[add_over hl hov]
   ·rw[add_long hl,←hl]
  go_enter Tryz.func99,Tryz.ntmps99
  go_wp2_with (go_at_call 153;refine(bldLen_any HBL.out).mono ?_)
  rintro e w1 ⟨rfl,rfl⟩
  rw[e0]
  go_wp2_with fail
  go_end0
  exact⟨rfl,v,by rw[HA.out];exact HM.out,KeptO.set (Or.inl rfl) _⟩
 ·cases hl:t.long
  ·rw[hl] at c6
   go_enter Tryz.func99,Tryz.ntmps99
   go_wp2_with (go_at_call 153;refine(bldLen_any HBL.out).mono ?_)
   rintro e w1 ⟨rfl,rfl⟩
   rw[e0]
   go_wp2_with (go_at_call 154;refine(writeString_any lies_writer wT HBL.out ⟨⟨s⟩⟩ (by show _+s.length≤_;omega) hBw).mono ?_)
   rintro e w2 ⟨rfl,v',h1,h2⟩
   have HR:Hid _:=HW.out.wrote hne hl (by omega) h1 h2
   clear h1 h2
   go_wp2_with fail
   go_end0
   exact⟨rfl,v',HR.out⟩
  ·rw[hl] at c6
   have HA:Hid (t.add s=t):=add_long hl s
   go_enter Tryz.func99,Tryz.ntmps99
   go_wp2_with (go_at_call 153;refine(bldLen_any HBL.out).mono ?_)
   rintro e w1 ⟨rfl,rfl⟩
   rw[e0]
   go_wp2_with fail
   go_end0
   exact⟨rfl,v,by rw[HA.out];exact HW.out,KeptO.refl _ _ _ _⟩
def TS.lay (t:TS)(a:Nat):TS:={ t with lab:=t.lab.set a t.next,next:=t.next+1 }
theorem lay_add (t:TS)(a:Nat):(TS.lay t a).add (35::(Lib.itoa t.next++[61]))=t.put a:=by
 cases hl:t.long
 ·by_cases h:400<t.out.length+(35::(Lib.itoa t.next++[61])).length
  ·rw[add_over (t:=TS.lay t a) hl h];unfold TS.put;rw[add_over hl h];rfl
  ·rw[add_fits (t:=TS.lay t a) hl (by show t.out.length+_≤400;omega)];unfold TS.put;rw[add_fits hl (by omega)];rfl
 ·rw[add_long (t:=TS.lay t a) hl];unfold TS.put;rw[add_long hl];rfl
theorem OwnW.lay {w:World}{B p bl bL n:Nat}{nv:Value}{t:TS}{v:Value}(h:OwnW w B p bl bL n nv t v)(hne:p≠bl){a:Nat}(ha:a<t.lab.length):
 OwnW ((w.setCell ⟨bl,a,none⟩ (.int .i64 t.next)).setCell ⟨p,3,none⟩ (.int .i64 (t.next+1))) B p bl bL n nv (TS.lay t a) v:=by
 obtain⟨q,hq,hb⟩:=h.blk
 have hn:=Lib.ownBlock_ne h.own hb wT
 have hb1:(w.setCell ⟨bl,a,none⟩ (.int .i64 t.next)).heap[p]? =some (.cells #[nv,.slice (some ⟨bL,0,none⟩) n n,.slice (some ⟨bl,0,none⟩) n n,.int .i64 t.next,q,v,.bool t.long] 118 (0,0)):=
  (Below.heap_setCell _ _ _ _ hne).trans hb
 have o1:=h.own.kept (w':=w.setCell ⟨bl,a,none⟩ (.int .i64 t.next)) (row:=some bl) ⟨rfl,rfl,rfl,by simp[World.setCell],fun k _ hk=>Below.heap_setCell _ _ _ _ (fun e=>hk (by simp[e]))⟩ (Or.inr h.nb)
 refine⟨h.hB,⟨q,hq,?_⟩,?_,?_,h.nb,h.ol,?_⟩
 ·have:=heap_setCell_same (w.setCell ⟨bl,a,none⟩ (.int .i64 t.next)) p 3 _ _ (.int .i64 (t.next+1)) hb1
  exact this
 ·exact o1.kept (row:=some p) ⟨rfl,rfl,rfl,by simp[World.setCell],fun k _ hk=>Below.heap_setCell _ _ _ _ (fun e=>hk (by simp[e]))⟩ (Or.inr hn)
 ·exact(h.rl.set a ha t.next).of_block (Below.heap_setCell _ _ _ _ (fun e=>hne e.symm))
 ·have:=h.bl;simpa[World.setCell] using this
def PowB (B:Nat)(w:World):Prop:=∀ w',Below B w w'→Pow w'
theorem OwnW.drew {w:World}{B p bl bL n:Nat}{nv:Value}{t:TS}{v:Value}(h:OwnW w B p bl bL n nv t v):OwnW w.drew B p bl bL n nv t v:=⟨h.hB,h.blk,h.own,h.rl,h.nb,h.ol,h.bl⟩
theorem OwnW.lt {w:World}{B p bl bL n:Nat}{nv:Value}{t:TS}{v:Value}(h:OwnW w B p bl bL n nv t v):p<w.heap.size:=by
 obtain⟨q,hq,hb⟩:=h.blk
 exact(Array.getElem?_eq_some_iff.1 hb).1
theorem OwnW.below {w w':World}{B p bl bL n:Nat}{nv:Value}{t:TS}{v:Value}(h:OwnW w B p bl bL n nv t v)(hb:Below w.heap.size w w'):OwnW w' B p bl bL n nv t v:=by
 obtain⟨q,hq,hk⟩:=h.blk
 refine⟨h.hB,⟨q,hq,(hb.block p h.lt).trans hk⟩,?_,h.rl.of_block (hb.block bl h.bl),h.nb,h.ol,Nat.lt_of_lt_of_le h.bl hb.size⟩
 exact h.own.kept (row:=none) ⟨hb.os,hb.tape,hb.output,hb.size,fun k hk _=>hb.block k hk⟩ (by cases v.ownBlock<;>simp)
set_option maxHeartbeats 1000000 in
set_option maxRecDepth 100000 in
theorem put_any {w:World}{B p bl bL n:Nat}{nv:Value}{t:TS}{v:Value}(h:OwnW w B p bl bL n nv t v)(hne:p≠bl)(hBw:B≤w.heap.size)(hn:t.lab.length=n)(hnx:t.next≤401)(a:Nat)(ha:a<n)(hBl:B≤bl)(hp:PowB B w):
 Calls Tryz.prog 101 #[.pointer (some ⟨p,0,none⟩),.int .i64 a] w fun e w'=>e= .returned (.tuple #[])∧∃ v',OwnW w' B p bl bL n nv (t.put a) v'∧KeptO w w' p bl v v':=by
 have HL:Hid _:=h.lay hne (a:=a) (by omega)
 have HKL:Hid (KeptO w ((w.setCell ⟨bl,a,none⟩ (.int .i64 t.next)).setCell ⟨p,3,none⟩ (.int .i64 (t.next+1))) p bl v v):=
  (KeptO.set (x:=⟨bl,a,none⟩) (Or.inr rfl) _).trans (KeptO.set (x:=⟨p,3,none⟩) (Or.inl rfl) _)
 obtain⟨q,hq,hb⟩:=h.blk
 have c2:w.cell? ⟨p,2,none⟩=some (.slice (some ⟨bl,0,none⟩) n n):=Lib.cell_of_heap hb 2
 have c3:w.cell? ⟨p,3,none⟩=some (.int .i64 t.next):=Lib.cell_of_heap hb 3
 have f3:w.frozen? ⟨p,3,none⟩=false:=Lib.frozen_of_heap hb 3
 obtain⟨ca,fa⟩:=h.rl a (by omega)
 have HP:Hid (PowB B w):=hp
 have HLW:Hid (OwnW w B p bl bL n nv t v):=h
 have hlen:=itoa_len t.next (by omega) (by omega)
 have ks:=str_app
 clear hp hb hq h
 go_enter Tryz.func101,Tryz.ntmps101
 go_wp2_with fail
 go_region
 all_goals
  go_wp2_with (go_at_call 100;refine(itoa_any t.next _ (by omega) (by omega) (HP.out _ (HKL.out.below hBw HLW.out.hB hBl HLW.out.ownB).drew)).mono ?_)
  rintro e w1 ⟨rfl,hb1⟩
  have HB1:Hid (OwnW w1 B p bl bL n nv (TS.lay t a) v):=HL.out.drew.below hb1
  have HK1:Hid (KeptO w w1 p bl v v):=HKL.out.trans (KeptO.of_below (((Below.refl _ _).drew).trans hb1))
  clear hb1
  go_wp2_with (go_at_call 99;refine(add_any HB1.out hne (Nat.le_trans hBw HK1.out.size) (35::(Lib.itoa t.next++[61]))).mono ?_)
  rintro e w2 ⟨rfl,v',h2,h3⟩
  have H2:Hid (OwnW w2 B p bl bL n nv (t.put a) v'):=by rw[lay_add] at h2;exact h2
  have H3:Hid (KeptO w w2 p bl v v'):=HK1.out.trans h3
  clear h2 h3
  go_wp2_with fail
  go_end0
  exact⟨rfl,v',H2.out,H3.out⟩
structure OCtx (G:List Nd) (b o:Nat) (W0:World) (p bl bL:Nat) (L:Nat→Bool) (Rc:Nat→Prop) (rk:Nat→Nat):Prop where
 hG:GraphAt W0 b o G
 hk:∀ x (h:x<G.length),kindB G[x]=true
 hs:∀ x (h:x<G.length),subsB G[x].subs G.length=true
 hn:G.length≤150
 hp:W0.heap.size≤p
 hl:W0.heap.size≤bl
 pl:p≠bl
 hL:∀ i,i<G.length→W0.cell? ⟨bL,i,none⟩=some (.bool (L i))
 pw:Pow W0
 rc:∀ x,Rc x→∀ y∈subsN G x,Rc y
 rr:∀ x,Rc x→∀ y∈subsN G x,kindN G y=1→L y=false→rk y<rk x
def NSaid (G:List Nd)(b o cap:Nat)(W0:World)(p bl bL:Nat)(L:Nat→Bool)(Rc:Nat→Prop)(f:Nat):Prop:=
 ∀ (t:TS) (a:Int) (w:World) (v:Value),t.Ok G.length L→0≤a→a<G.length→Rc a.toNat→need t≤f→Below W0.heap.size W0 w→OwnW w W0.heap.size p bl bL G.length (.slice (some ⟨b,o,none⟩) G.length cap) t v→
   Calls Tryz.prog 62 #[.pointer (some ⟨p,0,none⟩),.int .i64 a] w fun e w'=>e= .returned (.tuple #[])∧
    ∃ v',OwnW w' W0.heap.size p bl bL G.length (.slice (some ⟨b,o,none⟩) G.length cap) (WF (kindN G) (subsN G) (atN G) L f false t a.toNat) v'∧KeptO w w' p bl v v'
theorem subs_mem (G:List Nd)(x:Nat)(h:x<G.length)(k:Nat)(hk:k<G[x].subs.length):(G[x].subs.getD k 0).toNat∈subsN G x:=by
 rw[subsN_at G x h]
 simp only[List.mem_map]
 exact⟨G[x].subs.getD k 0,by simp[List.getD,List.getElem?_eq_getElem hk],rfl⟩
theorem KeptO.box {w w':World}{p bl:Nat}{v v':Value}{cs:Array Value}{T:TypeId}(h:KeptO (w.alloc (.cells cs T)) w' p bl v v')(hp:p<w.heap.size)(hl:bl<w.heap.size)(hv:∀ k,v.ownBlock=some k→k<w.heap.size):
 ∀ i z,cs[i]? =some z→w'.cell? ⟨w.heap.size,i,none⟩=some z:=fun i z hz=>by
 have:=h.block w.heap.size (by simp) (by omega) (by omega) (fun e=>by have:=hv _ e.symm;omega)
 rw[Lib.cell_of_heap (this.trans (heap_alloc_new w _))];exact hz
theorem OwnW.ownLt {w:World}{B p bl bL n:Nat}{nv:Value}{t:TS}{v:Value}(h:OwnW w B p bl bL n nv t v):∀ k,v.ownBlock=some k→k<w.heap.size:=fun k hk=>(h.own.lt k hk).2
set_option maxHeartbeats 1000000 in
set_option maxRecDepth 100000 in
theorem vector_step (G:List Nd)(b o cap:Nat)(W0:World)(p bl bL:Nat)(L:Nat→Bool)(Rc:Nat→Prop)(rk:Nat→Nat)(C:OCtx G b o W0 p bl bL L Rc rk)(f:Nat)(IA:Hid (NSaid G b o cap W0 p bl bL L Rc f))
 (n:Nat)(han:n<G.length)(hrc:Rc n)(k2:G[n].kind=2)(t:TS)(w:World)(v:Value)(ht:t.Ok G.length L)(hf:need (t.add [35,40])≤f)(hb:Below W0.heap.size W0 w)
 (hSLT:∀ x,x<G.length→∀ y∈subsN G x,y<G.length)(hS2:∀ x,x<G.length→kindN G x=1→(subsN G x).length=2)
 (hw:OwnW w W0.heap.size p bl bL G.length (.slice (some ⟨b,o,none⟩) G.length cap) t v):
 Calls Tryz.prog 103 #[.pointer (some ⟨p,0,none⟩),nodeV G[n]] w fun e w'=>e= .returned (.tuple #[])∧
  ∃ v',OwnW w' W0.heap.size p bl bL G.length (.slice (some ⟨b,o,none⟩) G.length cap) ((vecTo (WF (kindN G) (subsN G) (atN G) L f false) (subsN G n) (subsN G n).length (t.add [35,40])).add [41]) v'∧KeptO w w' p bl v v':=by
 have HC:Hid (OCtx G b o W0 p bl bL L Rc rk):=C
 have HB:Hid (Below W0.heap.size W0 w):=hb
 have HXI:Hid _:=(C.hG n han).ints
 have HXS:Hid _:=C.hs n han
 have HXK:Hid _:=C.hk n han
 have HSG:Hid (∀ k,k<G[n].subs.length→(subsN G n).getD k 0=(G[n].subs.getD k 0).toNat):=fun k hk=>subs_get G n han k hk
 have HRC:Hid (∀ k,k<G[n].subs.length→Rc (G[n].subs.getD k 0).toNat):=fun k hk=>C.rc n hrc _ (subs_mem G n han k hk)
 have HLL:Hid ((subsN G n).length=G[n].subs.length):=by show _=_;rw[subsN_at G n han];simp
 generalize G[n]=x at *
 have HNV:Hid (∀ k,need (vecTo (WF (kindN G) (subsN G) (atN G) L f false) (subsN G n) k (t.add [35,40]))≤f):=fun k=>Nat.le_trans (need_vec (fun t y=>need_WF f false t y) _ _ _) hf
 have HOV:Hid (∀ k,k≤x.subs.length→(vecTo (WF (kindN G) (subsN G) (atN G) L f false) (subsN G n) k (t.add [35,40])).Ok G.length L):=fun k hk=>
  vec_ok (fun t y ht hy=>WF_ok hSLT hS2 f false t y ht hy) (subsN G n) (hSLT n han) k _ (by rw[HLL.out];exact hk) (ht.add _)
 have hlen:x.subs.length≤20:=by have:=HXK.out;unfold kindB at this;rw[if_neg (by omega),if_neg (by omega),if_pos k2] at this;simp at this;exact this.1
 have HBX:Hid (OwnW (w.alloc (.cells #[.int .i64 x.kind,.string ⟨⟨x.text⟩⟩,.int .i64 x.n,.int .i64 x.d,.slice x.sa x.subs.length x.cap] 45)) W0.heap.size p bl bL G.length (.slice (some ⟨b,o,none⟩) G.length cap) t v):=hw.below below_box
 have HBOX:Hid _:=(⟨hw.lt,hw.bl,hw.ownLt⟩:p<w.heap.size∧bl<w.heap.size∧∀ k,v.ownBlock=some k→k<w.heap.size)
 have hsz:=hb.size
 have hne:=C.pl
 have HKB:Hid (∀ w' v',KeptO w w' p bl v v'→Below W0.heap.size W0 w'):=fun w' v' h=>hb.trans (h.below hsz C.hp C.hl hw.ownB)
 clear k2 C hb ht hf hw hSLT hS2 hrc
 unfold nodeV
 go_enter Tryz.func103,Tryz.ntmps103
 go_wp2_with (go_at_call 99;refine(add_any HBX.out hne (by simp;omega) [35,40]).mono ?_)
 rintro e w1 ⟨rfl,v1,h1,h2⟩
 have r4:=h2.box HBOX.out.1 HBOX.out.2.1 HBOX.out.2.2 4 _ rfl
 have H1:Hid (OwnW w1 W0.heap.size p bl bL G.length (.slice (some ⟨b,o,none⟩) G.length cap) (t.add [35,40]) v1):=h1
 have H2:Hid (KeptO w w1 p bl v v1):=(KeptO.of_below below_box).trans h2
 clear h1 h2
 rcases HXI.out with h|⟨sb,so,hsa,hc⟩
 ·have HE0:Hid (x.subs.length=0):=by show _=_;rw[h];rfl
  clear h HXI
  go_wp2_with fail
  go_loopw [11] (fun i wr=>∃ (k:Nat) (vk:Value),k≤x.subs.length∧i= .int .i64 k∧Hid (OwnW wr W0.heap.size p bl bL G.length (.slice (some ⟨b,o,none⟩) G.length cap) (vecTo (WF (kindN G) (subsN G) (atN G) L f false) (subsN G n) k (t.add [35,40])) vk)∧Hid (KeptO w wr p bl v vk)) (fun i _=>x.subs.length-(intOf i).toNat)
  case atStart=>exact⟨0,v1,Nat.zero_le _,rfl,H1.out,H2.out⟩
  case round=>
   obtain⟨k,vk,hk,rfl,hwk,hkk⟩:=hrel
   have HBK:Hid (Below W0.heap.size W0 wr):=HKB.out _ _ hkk.out
   have hszk:W0.heap.size≤wr.heap.size:=HBK.out.size
   by_cases hlt:k<x.subs.length
   ·exfalso;have:=HE0.out;omega
   ·have hkl:k=x.subs.length:=by omega
    go_wp2_with (go_at_call 99;refine(add_any hwk.out hne hszk [41]).mono ?_)
    rintro e w5 ⟨rfl,v5,hw5,hk5⟩
    rw[hkl,←HLL.out] at hw5
    have HW5:Hid _:=hw5
    have HK5:Hid _:=hkk.out.trans hk5
    clear hw5 hk5 hwk hkk
    go_wp2_with fail
    go_end0
    exact⟨rfl,v5,HW5.out,HK5.out⟩
 ·have HCE:Hid (∀ w':World,Below W0.heap.size W0 w'→∀ k,k<x.subs.length→w'.cell? ⟨sb,so+k,none⟩=some (.int .i64 (x.subs.getD k 0))):=fun w' hb' k hk=>cell_below hb' (hc k hk)
  clear hc HXI
  rw[hsa] at r4
  go_wp2_with fail
  go_loopw [11] (fun i wr=>∃ (k:Nat) (vk:Value),k≤x.subs.length∧i= .int .i64 k∧Hid (OwnW wr W0.heap.size p bl bL G.length (.slice (some ⟨b,o,none⟩) G.length cap) (vecTo (WF (kindN G) (subsN G) (atN G) L f false) (subsN G n) k (t.add [35,40])) vk)∧Hid (KeptO w wr p bl v vk)) (fun i _=>x.subs.length-(intOf i).toNat)
  case atStart=>exact⟨0,v1,Nat.zero_le _,rfl,H1.out,H2.out⟩
  case round=>
   obtain⟨k,vk,hk,rfl,hwk,hkk⟩:=hrel
   have HBK:Hid (Below W0.heap.size W0 wr):=HKB.out _ _ hkk.out
   have hszk:W0.heap.size≤wr.heap.size:=HBK.out.size
   by_cases hlt:k<x.subs.length
   ·have hcell:=HCE.out _ HBK.out k hlt
    have hv:=subsB_at _ _ HXS.out k hlt
    have HR:Hid _:=HRC.out k hlt
    have HGK:Hid _:=HSG.out k hlt
    have HOK:Hid _:=HOV.out k hk
    have HND:Hid _:=HNV.out k
    by_cases hk0:k=0
    ·have HST:Hid (vecTo (WF (kindN G) (subsN G) (atN G) L f false) (subsN G n) (k+1) (t.add [35,40])=WF (kindN G) (subsN G) (atN G) L f false (vecTo (WF (kindN G) (subsN G) (atN G) L f false) (subsN G n) k (t.add [35,40])) (x.subs.getD k 0).toNat):=by
      show _=_;rw[←HGK.out];simp only[vecTo];rw[if_pos hk0]
     generalize vecTo (WF (kindN G) (subsN G) (atN G) L f false) (subsN G n) k (t.add [35,40])=tk at *
     generalize x.subs.getD k 0=sv at *
     have hkz:(k:Int)≤0:=by omega
     have HK0:Hid _:=hk0
     clear hk0
     go_wp2_with (go_at_call 62;refine(IA.out _ sv _ _ HOK.out hv.1 hv.2 HR.out HND.out HBK.out hwk.out).mono ?_)
     rintro e w4 ⟨rfl,v4,hw4,hk4⟩
     rw[←HST.out] at hw4
     have HW4:Hid _:=hw4
     have HK4:Hid _:=hkk.out.trans hk4
     clear hw4 hk4 hwk hkk hcell HBK
     go_wp2_with fail
     go_roundw
     case rel=>exact⟨k+1,v4,by omega,by go_num,HW4,HK4⟩
     case measure=>simp[intOf];omega
    ·have HST:Hid (vecTo (WF (kindN G) (subsN G) (atN G) L f false) (subsN G n) (k+1) (t.add [35,40])=WF (kindN G) (subsN G) (atN G) L f false ((vecTo (WF (kindN G) (subsN G) (atN G) L f false) (subsN G n) k (t.add [35,40])).add [32]) (x.subs.getD k 0).toNat):=by
      show _=_;rw[←HGK.out];simp only[vecTo];rw[if_neg hk0]
     generalize vecTo (WF (kindN G) (subsN G) (atN G) L f false) (subsN G n) k (t.add [35,40])=tk at *
     generalize x.subs.getD k 0=sv at *
     have hkz:(0:Int)<(k:Int):=by omega
     have HOK2:Hid _:=HOK.out.add [32]
     have HND2:Hid _:=Nat.le_trans (need_add tk [32]) HND.out
     go_wp2_with (go_at_call 99;refine(add_any hwk.out hne hszk [32]).mono ?_)
     rintro e w3 ⟨rfl,v3,hw3,hk3⟩
     have HW3:Hid _:=hw3
     have HK3:Hid _:=hkk.out.trans hk3
     have HB3:Hid (Below W0.heap.size W0 w3):=HKB.out _ _ HK3.out
     clear hw3 hk3 hwk hkk hcell HBK
     go_wp2_with (go_at_call 62;refine(IA.out _ sv _ _ HOK2.out hv.1 hv.2 HR.out HND2.out HB3.out HW3.out).mono ?_)
     rintro e w4 ⟨rfl,v4,hw4,hk4⟩
     rw[←HST.out] at hw4
     have HW4:Hid _:=hw4
     have HK4:Hid _:=HK3.out.trans hk4
     clear hw4 hk4
     go_wp2_with fail
     go_roundw
     case rel=>exact⟨k+1,v4,by omega,by go_num,HW4,HK4⟩
     case measure=>simp[intOf];omega
   ·have hkl:k=x.subs.length:=by omega
    go_wp2_with (go_at_call 99;refine(add_any hwk.out hne hszk [41]).mono ?_)
    rintro e w5 ⟨rfl,v5,hw5,hk5⟩
    rw[hkl,←HLL.out] at hw5
    have HW5:Hid _:=hw5
    have HK5:Hid _:=hkk.out.trans hk5
    clear hw5 hk5 hwk hkk
    go_wp2_with fail
    go_end0
    exact⟨rfl,v5,HW5.out,HK5.out⟩
end Go.Proofs.YtlhimdjkkiflhaaGreatDoor
