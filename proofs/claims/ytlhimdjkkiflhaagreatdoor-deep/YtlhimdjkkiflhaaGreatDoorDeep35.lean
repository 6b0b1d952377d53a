import Derived.BigRegion
import Derived.Deep.OwnRows
import Derived.Test.YtlhimdjkkiflhaaGreatDoorDeep34
namespace Go.Proofs.YtlhimdjkkiflhaaGreatDoor
open Go.RowKit Go.Loop
theorem set_self (l:List Bool)(a:Nat):l.set a (l.getD a false)=l:=by
 apply List.ext_getElem?
 intro i
 rw[List.getElem?_set]
 by_cases e:a=i
 ·subst e
  rw[if_pos rfl]
  by_cases h:a<l.length
  ·rw[if_pos h,List.getElem?_eq_getElem h];simp[List.getD,List.getElem?_eq_getElem h]
  ·rw[if_neg h,List.getElem?_eq_none (by omega)]
 ·rw[if_neg e]
theorem infoBool:(Tryz.prog.info? 4).map (fun i=>(i.zero,i.size,i.bytes))=some (some (.bool false),1,1):=by kernel_rfl
theorem infoInt:(Tryz.prog.info? 3).map (fun i=>(i.zero,i.size,i.bytes))=some (some (.int .i64 0),1,8):=by kernel_rfl
theorem drew_heap (w:World):w.drew.heap=w.heap:=rfl
theorem alloc_heap (w:World)(o:Obj)(k:Nat):(w.alloc o).heap[k]? =if k=w.heap.size then some o else w.heap[k]?:=by
 show(w.heap.push o)[k]? =_
 rw[Array.getElem?_push]
theorem rowB_made {w:World}{k n:Nat}{t:TypeId}(h:w.heap[k]? =some (.cells (madeCells #[.bool false] n) t)):RowB w k (List.replicate n false):=by
 intro i hi
 rw[List.length_replicate] at hi
 have hl:(madeCells #[Value.bool false] n)[i]? =some (.bool false):=by
  rw[←Array.getElem?_toList,toList_madeCells_one,List.getElem?_replicate,if_pos hi]
 refine⟨?_,?_⟩
 ·unfold World.cell?;simp only[h];rw[getD_rep];simpa using hl
 ·unfold World.frozen?;simp[h]
theorem rowI_made {w:World}{k n:Nat}{t:TypeId}(h:w.heap[k]? =some (.cells (madeCells #[.int .i64 0] n) t)):RowI w k (List.replicate n 0):=by
 intro i hi
 rw[List.length_replicate] at hi
 have hl:(madeCells #[Value.int .i64 0] n)[i]? =some (.int .i64 0):=by
  rw[←Array.getElem?_toList,toList_madeCells_one,List.getElem?_replicate,if_pos hi]
 refine⟨?_,?_⟩
 ·unfold World.cell?;simp only[h];rw[getD_rep];simpa using hl
 ·unfold World.frozen?;simp[h]
theorem walk_made {w:World}{p bo bm bw n:Nat}{nv:Value}{t1 t2 t3 t4:TypeId}
 (hp:w.heap[p]? =some (.cells #[nv,.slice (some ⟨bo,0,none⟩) n n,.slice (some ⟨bm,0,none⟩) n n,.slice (some ⟨bw,0,none⟩) n n] t1))
 (ho:w.heap[bo]? =some (.cells (madeCells #[.bool false] n) t2))(hm:w.heap[bm]? =some (.cells (madeCells #[.int .i64 0] n) t3))(hw:w.heap[bw]? =some (.cells (madeCells #[.bool false] n) t4)):
 WalkAt w p bo bm bw n nv (WS.start n):=by
 refine⟨?_,?_,?_,?_,rowI_made hm,rowB_made hw,rowB_made ho⟩
 all_goals (unfold World.cell?;simp[hp])
theorem start_bd (S:Nat→List Nat)(n:Nat):(WS.start n).Bd S ((WS.start n).pot (fun x=>(S x).length)):=by
 intro i
 show(List.replicate n (0:Int)).getD i 0+_≤_
 rw[getD_rep];omega
theorem potL_le (g:Nat→Nat)(M:Nat)(h:∀ x,g x≤M):∀ (n i:Nat),potL g i (List.replicate n 0)≤n*M
 |0,_=>by simp[potL]
 |n+1,i=>by
  have:=potL_le g M h n (i+1)
  have:=h i
  simp only[List.replicate_succ,potL,if_true]
  rw[Nat.succ_mul];omega
theorem start_pot (S:Nat→List Nat)(M:Nat)(h:∀ x,(S x).length≤M)(n:Nat):(WS.start n).pot (fun x=>(S x).length)≤n*M:=potL_le _ M h n 0
set_option maxHeartbeats 4000000 in
theorem through_any (G:List Nd)(b o cap:Nat)(w:World)(hG:GraphAt w b o G)(hn:G.length≤150)(h1:1≤G.length)(hsub:∀ x (h:x<G.length),subsB G[x].subs G.length=true)(h20:∀ x,(subsN G x).length≤20):
 Calls Tryz.prog 27 #[.slice (some ⟨b,o,none⟩) G.length cap] w fun e w'=>∃ bm bw,e= .returned (.agg #[.slice (some ⟨bm,0,none⟩) G.length G.length,.slice (some ⟨bw,0,none⟩) G.length G.length])∧
  RowI w' bm (walkS (subsN G) G.length).met∧RowB w' bw (walkS (subsN G) G.length).wi∧Below w.heap.size w w':=by
 have HG:Hid _:=hG
 have HS:Hid _:=hsub
 clear hG hsub
 have mkb:=run_make_row' (P:=Tryz.prog) 66 4 (.bool false) 1 Tryz.underlying66 infoBool rfl .i64 .i64 G.length (by omega) (by omega)
 have mki:=run_make_row' (P:=Tryz.prog) 43 3 (.int .i64 0) 8 Tryz.underlying43 infoInt rfl .i64 .i64 G.length (by omega) (by omega)
 go_enter Tryz.func27,Tryz.ntmps27
 go_upto_region 1 with fail
 go_cut [3,7,10,13] (fun x3 x7 x10 x13 wc=>∃ p bo bm bw:Nat,x3= .pointer (some ⟨p,0,none⟩)∧x7= .slice (some ⟨bo,0,none⟩) G.length G.length∧x10= .slice (some ⟨bm,0,none⟩) G.length G.length∧x13= .slice (some ⟨bw,0,none⟩) G.length G.length∧
  Hid (Apart (w.heap.size+1) p bo bm bw∧WalkAt wc p bo bm bw G.length (.slice (some ⟨b,o,none⟩) G.length cap) (WS.start G.length)∧Below (w.heap.size+1) (w.alloc (.cells #[.slice none 0 0,.slice none 0 0] 68)) wc))
 case first=>
  go_region
  all_goals
   go_wp2_with fail
   go_meet
   case rel=>
    refine⟨_,_,_,_,rfl,rfl,rfl,rfl,?_⟩
    refine⟨⟨by omega,by omega,by omega,by omega,by omega,by omega,by omega,by omega,by omega,by omega⟩,walk_made (t1:=90) (t2:=4) (t3:=3) (t4:=4) ?_ ?_ ?_ ?_,?_⟩
    ·rw[drew_heap];simp only[alloc_heap,World.size_alloc];repeat' (first|rfl|(exfalso;omega)|split)
    ·rw[drew_heap];simp only[alloc_heap,World.size_alloc];repeat' (first|rfl|(exfalso;omega)|split)
    ·rw[drew_heap];simp only[alloc_heap,World.size_alloc];repeat' (first|rfl|(exfalso;omega)|split)
    ·rw[drew_heap];simp only[alloc_heap,World.size_alloc];repeat' (first|rfl|(exfalso;omega)|split)
    ·exact(((((Below.refl _ _).alloc (by simp) _).alloc (by simp) _).alloc (by simp) _).alloc (by simp) _).drew
 case rest=>
  obtain⟨p,bo,bm,bw,rfl,rfl,rfl,rfl,hcu⟩:=hcut
  have hbx:GraphAt (w.alloc (.cells #[.slice none 0 0,.slice none 0 0] 68)) b o G:=GraphAt.below HG.out below_box
  have hsz:(w.alloc (.cells #[.slice none 0 0,.slice none 0 0] 68)).heap.size=w.heap.size+1:=World.size_alloc ..
  have HA:Hid (Apart (w.alloc (.cells #[.slice none 0 0,.slice none 0 0] 68)).heap.size p bo bm bw):=by show Apart _ _ _ _ _;rw[hsz];exact hcu.out.1
  have HW:Hid (WalkAt wc p bo bm bw G.length (.slice (some ⟨b,o,none⟩) G.length cap) (WS.start G.length)):=hcu.out.2.1
  have HB:Hid (Below (w.alloc (.cells #[.slice none 0 0,.slice none 0 0] 68)).heap.size (w.alloc (.cells #[.slice none 0 0,.slice none 0 0] 68)) wc):=by show Below _ _ _;rw[hsz];exact hcu.out.2.2
  have HX:Hid (GraphAt (w.alloc (.cells #[.slice none 0 0,.slice none 0 0] 68)) b o G):=hbx
  have hpot:=start_pot (subsN G) 20 h20 G.length
  have HP:Hid ((WS.start G.length).pot (fun x=>(subsN G x).length)+1≤1000000):=by show _≤_;omega
  have HSS:Hid (∀ x (h:x<G.length),subsB G[x].subs G.length=true):=HS.out
  clear hcu hbx mkb mki hpot h20 HS
  go_wp2_with fail
  refine(meet_any G b o cap _ HX hn HSS p bo bm bw HA.out (G.length+1) (WS.start G.length) 0 wc _
   (start_ok _) (by omega) (by omega) (by show potL (fun _=>1) 0 (List.replicate G.length 0)<_;rw[potL_one];omega) (start_bd _ _) HP.out HB.out HW.out).mono ?_
  rintro e w2 ⟨rfl,hw2,hb2⟩
  obtain⟨hcell,hfz⟩:=blk_cells hb2
  have HB2:Hid _:=hb2
  have HW2:Hid _:=hw2
  obtain⟨q0,q1,q2,q3,_,_,_⟩:=hw2
  clear hb2 q0 q1
  go_wp2_with fail
  refine bodyPost_ret (by simp[results,Tryz.results27,go_sem,hcell];rfl) rfl ?_
  have a1:=HA.out.hm
  have a2:=HA.out.hw
  rw[hsz] at a1 a2
  have b1:(⟨w.heap.size,0,none⟩:Addr).block≠bm:=by show w.heap.size≠bm;omega
  have b2:(⟨w.heap.size,0,none⟩:Addr).block≠bw:=by show w.heap.size≠bw;omega
  have b3:(⟨w.heap.size,1,none⟩:Addr).block≠bm:=by show w.heap.size≠bm;omega
  have b4:(⟨w.heap.size,1,none⟩:Addr).block≠bw:=by show w.heap.size≠bw;omega
  have hbb:Below w.heap.size w w2:=below_box.trans (HB2.out.mono (by simp))
  exact⟨bm,bw,rfl,(HW2.out.rm.far b1 _).far b3 _,(HW2.out.rw.far b2 _).far b4 _,(hbb.setCell (Nat.le_refl _) _).setCell (Nat.le_refl _) _⟩
def labB (G:List Nd)(mode:Int)(i:Nat):Bool:=
 if mode=1 then(walkS (subsN G) G.length).wi.getD i false
 else if mode=2 then decide (1<(walkS (subsN G) G.length).met.getD i 0)&&decide (1≤kindN G i∧kindN G i≤3) else false
def cycB (G:List Nd):Bool:=(List.range G.length).any fun i=>(walkS (subsN G) G.length).wi.getD i false
def startT (n:Nat):TS:=⟨List.replicate n (-1),0,[],false⟩
def writeT (G:List Nd)(mode:Int)(F:Nat):TS:=WF (kindN G) (subsN G) (atN G) (labB G mode) F false (startT G.length) 0
def writeP (G:List Nd)(mode:Int)(F:Nat):List UInt8×Int:=
 if mode<0∨2<mode then([],1) else if rightB G=false then([],8) else if mode=0∧cycB G=true then([],9) else if(writeT G mode F).long=true then([],2) else((writeT G mode F).out,0)
theorem startT_ok (n:Nat)(L:Nat→Bool):(startT n).Ok n L:=
 ⟨by simp[startT],fun _=>by simp[startT],fun i=>by show -1≤(List.replicate n (-1:Int)).getD i (-1)∧(List.replicate n (-1:Int)).getD i (-1)<_;rw[getD_rep];simp[startT],fun i hi=>by
   change 0≤(List.replicate n (-1:Int)).getD i (-1) at hi;rw[getD_rep] at hi;omega,fun _=>by simp[startT],by simp[startT]⟩
theorem right_parts (G:List Nd)(h:rightB G=true):1≤G.length∧G.length≤150∧(∀ x (hx:x<G.length),kindB G[x]=true)∧(∀ x (hx:x<G.length),subsB G[x].subs G.length=true)∧(∀ x,(subsN G x).length≤20):=by
 unfold rightB at h
 simp only[Bool.and_eq_true,decide_eq_true_eq] at h
 obtain⟨⟨h1,h2⟩,h3⟩:=h
 have hk:∀ x (hx:x<G.length),kindB G[x]=true∧subsB G[x].subs G.length=true:=fun x hx=>by
  have:=List.all_eq_true.1 h3 G[x] (List.getElem_mem hx)
  simpa using this
 refine⟨h1,h2,fun x hx=>(hk x hx).1,fun x hx=>(hk x hx).2,fun x=>?_⟩
 by_cases hx:x<G.length
 ·rw[subsN_at G x hx,List.length_map]
  have hb:=(hk x hx).1
  unfold kindB at hb
  by_cases k0:G[x].kind=0
  ·rw[if_pos k0] at hb;simp at hb;rw[hb.2.2.2];simp
  rw[if_neg k0] at hb
  by_cases k1:G[x].kind=1
  ·rw[if_pos k1] at hb;simp at hb;omega
  rw[if_neg k1] at hb
  by_cases k2:G[x].kind=2
  ·rw[if_pos k2] at hb;simp at hb;omega
  rw[if_neg k2] at hb
  by_cases k3:G[x].kind=3
  ·rw[if_pos k3] at hb;simp at hb;rw[hb.2.2.2];simp
  rw[if_neg k3] at hb
  by_cases k4:G[x].kind=4
  ·rw[if_pos k4] at hb;simp at hb;rw[hb.1.2.2];simp
  rw[if_neg k4] at hb
  by_cases k5:G[x].kind=5
  ·rw[if_pos k5] at hb;simp at hb;rw[hb.2.2];simp
  rw[if_neg k5] at hb
  by_cases k6:G[x].kind=6
  ·rw[if_pos k6] at hb;simp at hb;rw[hb.2.2.2];simp
  rw[if_neg k6] at hb
  by_cases k7:G[x].kind=7
  ·rw[if_pos k7] at hb;simp at hb;rw[hb.2.2.2];simp
  rw[if_neg k7] at hb;exact absurd hb (by simp)
 ·unfold subsN;rw[List.getElem?_eq_none (by omega)];simp
theorem ret_two {a a':List UInt8}{n n':Int}(h1:a=a')(h2:n=n'):Ending.returned (.tuple #[.string ⟨⟨a⟩⟩,.int .i64 n])= .returned (.tuple #[.string ⟨⟨a'⟩⟩,.int .i64 n']):=by rw[h1,h2]
end Go.Proofs.YtlhimdjkkiflhaaGreatDoor
