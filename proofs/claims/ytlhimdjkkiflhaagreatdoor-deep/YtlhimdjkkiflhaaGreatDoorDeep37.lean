import Derived.Laws.OwnMore
import Derived.Test.YtlhimdjkkiflhaaGreatDoorDeep31
import Derived.Test.YtlhimdjkkiflhaaGreatDoorDeep36
namespace Go.Proofs.YtlhimdjkkiflhaaGreatDoor
open Go.RowKit Go.Loop
set_option maxHeartbeats 400000 in
theorem shared_any (k:Int)(w:World):
 Calls Tryz.prog 64 #[.int .i64 k] w fun e w'=>e= .returned (.bool (decide (1≤k∧k≤3)))∧w'=w:=by
 go_enter Tryz.func64,Tryz.ntmps64
 go_wp2
 all_goals
  go_ret
  refine⟨ret_bool ?_,rfl⟩
  rw[Bool.eq_iff_iff];simp;omega
def hasTo (G:List Nd)(mode:Int):Nat→List Bool
 |0=>List.replicate G.length false
 |k+1=>(hasTo G mode k).set k (labB G mode k)
theorem hasTo_len (G:List Nd)(mode:Int):∀ k,(hasTo G mode k).length=G.length
 |0=>by simp[hasTo]
 |k+1=>by simp[hasTo,hasTo_len G mode k]
theorem hasTo_get (G:List Nd)(mode:Int):∀ k,k≤G.length→∀ i,(hasTo G mode k).getD i false=if i<k then labB G mode i else false
 |0,_,i=>by simp only[hasTo];rw[getD_rep,if_neg (by omega)]
 |k+1,hk,i=>by
  simp only[hasTo]
  rw[getD_set _ _ _ _ _ (by rw[hasTo_len];omega),hasTo_get G mode k (by omega) i]
  by_cases e:i=k
  ·subst e;rw[if_pos rfl,if_pos (by omega)]
  ·rw[if_neg e]
   by_cases h:i<k
   ·rw[if_pos h,if_pos (by omega)]
   ·rw[if_neg h,if_neg (by omega)]
theorem hasTo_same (G:List Nd)(mode:Int)(k:Nat)(hk:k<G.length)(h:labB G mode k=false):hasTo G mode (k+1)=hasTo G mode k:=by
 show(hasTo G mode k).set k (labB G mode k)=_
 rw[h]
 have:=set_self (hasTo G mode k) k
 rw[hasTo_get G mode k (by omega) k,if_neg (by omega)] at this
 exact this
set_option maxHeartbeats 1000000 in
theorem index_any (l:List Bool)(bw n:Nat)(hl:l.length=n)(hn:n≤150)(w:World)(hr:RowB w bw l):
 Calls Tryz.prog 77 #[.slice (some ⟨bw,0,none⟩) n n,.bool true] w fun e w'=>(∃ z:Int,e= .returned (.int .i64 z)∧(0≤z↔l.any id=true))∧w'=w:=by
 have HR:Hid _:=hr
 clear hr
 go_enter Tryz.func77,Tryz.ntmps77
 go_wp2_with fail
 go_loopw [8] (fun i wr=>∃ k:Nat,k≤n∧i= .int .i64 k∧wr=w∧Hid (∀ j,j<k→l.getD j false=false)) (fun i _=>n-(intOf i).toNat)
 case atStart=>exact⟨0,Nat.zero_le _,rfl,rfl,fun j hj=>by omega⟩
 case round=>
  obtain⟨k,hk,rfl,rfl,hz⟩:=hrel
  by_cases hlt:k<n
  ·obtain⟨c,_⟩:=HR.out k (by omega)
   cases hv:l.getD k false
   ·rw[hv] at c
    have HV:Hid _:=hv
    clear hv
    go_wp2_with fail
    go_roundw
    case rel=>exact⟨k+1,by omega,by go_num,trivial,fun j hj=>by
     rcases Nat.lt_or_ge j k with h|h
     ·exact hz.out j h
     ·obtain rfl:j=k:=by omega
      exact HV.out⟩
    case measure=>simp[intOf];omega
   ·rw[hv] at c
    have HV:Hid (l.any id=true):=by
     rw[List.any_eq_true]
     have hkl:k<l.length:=by omega
     refine⟨l[k],List.getElem_mem hkl,?_⟩
     simp only[List.getD,List.getElem?_eq_getElem hkl,Option.getD_some] at hv
     exact hv
    clear hv
    go_wp2_with fail
    go_ret
    exact⟨⟨_,rfl,⟨fun _=>HV.out,fun _=>by omega⟩⟩,rfl⟩
  ·have HV:Hid (l.any id=false):=by
    rw[List.any_eq_false]
    intro x hx
    obtain⟨j,hj,rfl⟩:=List.mem_iff_getElem.1 hx
    have:=hz.out j (by omega)
    simp only[List.getD,List.getElem?_eq_getElem hj,Option.getD_some] at this
    simp[this]
   go_wp2_with fail
   go_ret
   exact⟨⟨_,rfl,⟨fun h=>by omega,fun h=>by rw[HV.out] at h;exact absurd h (by simp)⟩⟩,rfl⟩
set_option maxHeartbeats 1000000 in
theorem loops_any (l:List Bool)(bw n:Nat)(hl:l.length=n)(hn:n≤150)(vm:Value)(hvm:∃ a c d,vm= .slice a c d)(w:World)(hr:RowB w bw l):
 Calls Tryz.prog 28 #[.agg #[vm,.slice (some ⟨bw,0,none⟩) n n]] w fun e w'=>e= .returned (.bool (l.any id))∧Below w.heap.size w w':=by
 obtain⟨a,c,d,rfl⟩:=hvm
 have HR:Hid (RowB (w.alloc (.cells #[.slice a c d,.slice (some ⟨bw,0,none⟩) n n] 68)) bw l):=fun i hi=>by
  obtain⟨h1,h2⟩:=hr i hi
  have hb:bw<w.heap.size:=cell_lt h1
  rw[below_box.cell (p:=⟨bw,i,none⟩) hb,below_box.frozen (p:=⟨bw,i,none⟩) hb];exact⟨h1,h2⟩
 clear hr
 have hcon:Calls Tryz.prog 46 #[.slice (some ⟨bw,0,none⟩) n n,.bool true] (w.alloc (.cells #[.slice a c d,.slice (some ⟨bw,0,none⟩) n n] 68)) fun e w'=>e= .returned (.bool (l.any id))∧w'=(w.alloc (.cells #[.slice a c d,.slice (some ⟨bw,0,none⟩) n n] 68)):=by
  generalize w.alloc (.cells #[.slice a c d,.slice (some ⟨bw,0,none⟩) n n] 68)=w1 at *
  go_enter Tryz.func46,Tryz.ntmps46
  go_wp2_with fail
  refine(index_any l bw n hl hn _ HR.out).mono ?_
  rintro e w2 ⟨⟨z,rfl,hz⟩,rfl⟩
  have HZ:Hid _:=hz
  clear hz
  go_wp2_with fail
  go_ret
  refine⟨ret_bool ?_,rfl⟩
  rw[Bool.eq_iff_iff];simp[←HZ.out]
 have HC:Hid _:=hcon
 clear hcon HR
 go_enter Tryz.func28,Tryz.ntmps28
 go_wp2_with fail
 refine Calls.mono HC.out ?_
 rintro e w2 ⟨rfl,rfl⟩
 go_wp2_with fail
 go_ret
 exact⟨rfl,below_box⟩
theorem RowB.below {w w':World}{b:Nat}{l:List Bool}{B:Nat}(h:RowB w b l)(hb:Below B w w')(hB:b<B):RowB w' b l:=fun i hi=>by
 rw[hb.cell (p:=⟨b,i,none⟩) hB,hb.frozen (p:=⟨b,i,none⟩) hB];exact h i hi
theorem RowI.below {w w':World}{b:Nat}{l:List Int}{B:Nat}(h:RowI w b l)(hb:Below B w w')(hB:b<B):RowI w' b l:=fun i hi=>by
 rw[hb.cell (p:=⟨b,i,none⟩) hB,hb.frozen (p:=⟨b,i,none⟩) hB];exact h i hi
set_option maxHeartbeats 2000000 in
theorem labelled_any (G:List Nd)(b o cap:Nat)(mode:Int)(hm:mode=0∨mode=1∨mode=2)(bm bw:Nat)(w:World)(hG:GraphAt w b o G)(hn:G.length≤150)(hok:(walkS (subsN G) G.length).Ok G.length)
 (hrm:RowI w bm (walkS (subsN G) G.length).met)(hrw:RowB w bw (walkS (subsN G) G.length).wi):
 Calls Tryz.prog 40 #[.slice (some ⟨b,o,none⟩) G.length cap,.int .i64 mode,.agg #[.slice (some ⟨bm,0,none⟩) G.length G.length,.slice (some ⟨bw,0,none⟩) G.length G.length]] w
  fun e w'=>∃ bL,e= .returned (.slice (some ⟨bL,0,none⟩) G.length G.length)∧RowB w' bL (hasTo G mode G.length)∧Below w.heap.size w w':=by
 have HG:Hid _:=hG
 have HM:Hid _:=hrm
 have HW:Hid _:=hrw
 have HO:Hid _:=hok
 have HMD:Hid _:=hm
 clear hG hrm hrw hok hm
 have mkb:=run_make_row' (P:=Tryz.prog) 66 4 (.bool false) 1 Tryz.underlying66 infoBool rfl .i64 .i64 G.length (by omega) (by omega)
 have HR0:Hid (RowB ((w.alloc (.cells #[.slice (some ⟨bm,0,none⟩) G.length G.length,.slice (some ⟨bw,0,none⟩) G.length G.length] 68)).alloc (.cells (madeCells #[.bool false] G.length) 4)) (w.heap.size+1) (hasTo G mode 0)):=by
  have:=heap_alloc_new (w.alloc (.cells #[.slice (some ⟨bm,0,none⟩) G.length G.length,.slice (some ⟨bw,0,none⟩) G.length G.length] 68)) (.cells (madeCells #[.bool false] G.length) 4)
  rw[World.size_alloc] at this
  exact rowB_made this
 have HB0:Hid (Below (w.heap.size+1) (w.alloc (.cells #[.slice (some ⟨bm,0,none⟩) G.length G.length,.slice (some ⟨bw,0,none⟩) G.length G.length] 68)) ((w.alloc (.cells #[.slice (some ⟨bm,0,none⟩) G.length G.length,.slice (some ⟨bw,0,none⟩) G.length G.length] 68)).alloc (.cells (madeCells #[.bool false] G.length) 4))):=
  (Below.refl _ _).alloc (by simp) _
 obtain⟨wa,hwa⟩:∃ wa,Hid (wa=w.alloc (.cells #[.slice (some ⟨bm,0,none⟩) G.length G.length,.slice (some ⟨bw,0,none⟩) G.length G.length] 68)):=⟨_,rfl⟩
 go_enter Tryz.func40,Tryz.ntmps40
 go_wp2_with fail
 go_loopw [14] (fun i wr=>∃ k:Nat,k≤G.length∧i= .int .i64 k∧Hid (RowB wr (w.heap.size+1) (hasTo G mode k))∧Hid (Below (w.heap.size+1) wa wr)) (fun i _=>G.length-(intOf i).toNat)
 case atStart=>exact⟨0,Nat.zero_le _,rfl,HR0.out,by show Below _ _ _;rw[hwa.out];exact HB0.out⟩
 case round=>
  obtain⟨k,hk,rfl,hr,hb⟩:=hrel
  have hbb:Below w.heap.size w wr:=below_box.trans ((hwa.out▸hb.out).mono (by omega))
  by_cases hlt:k<G.length
  ·have q0:wr.cell? ⟨w.heap.size,0,none⟩=some (.slice (some ⟨bm,0,none⟩) G.length G.length):=by
    rw[hb.out.cell (p:=⟨w.heap.size,0,none⟩) (show w.heap.size<w.heap.size+1 by omega),hwa.out,World.cell?_alloc_at _ _ _ _ rfl];rfl
   have q1:wr.cell? ⟨w.heap.size,1,none⟩=some (.slice (some ⟨bw,0,none⟩) G.length G.length):=by
    rw[hb.out.cell (p:=⟨w.heap.size,1,none⟩) (show w.heap.size<w.heap.size+1 by omega),hwa.out,World.cell?_alloc_at _ _ _ _ rfl];rfl
   obtain⟨cm,_⟩:=HM.out k (by rw[HO.out.lm];exact hlt)
   obtain⟨cw,_⟩:=HW.out k (by rw[HO.out.lw];exact hlt)
   have cm':=cell_below hbb cm
   have cw':=cell_below hbb cw
   obtain⟨ch,cf⟩:=hr.out k (by rw[hasTo_len];exact hlt)
   have n0:=((HG.out k hlt).below hbb).kind
   have HKD:Hid _:=kindN_at G k hlt
   have HLB:Hid (labB G mode k=if mode=1 then(walkS (subsN G) G.length).wi.getD k false else if mode=2 then decide (1<(walkS (subsN G) G.length).met.getD k 0)&&decide (1≤kindN G k∧kindN G k≤3) else false):=rfl
   rw[HKD.out] at HLB
   have HSET:∀ v,Hid (RowB (wr.setCell ⟨w.heap.size+1,k,none⟩ (.bool v)) (w.heap.size+1) ((hasTo G mode k).set k v)):=fun v=>hr.out.set k (by rw[hasTo_len];exact hlt) v
   have HBS:∀ v,Hid (Below (w.heap.size+1) wa (wr.setCell ⟨w.heap.size+1,k,none⟩ (.bool v))):=fun v=>hb.out.setCell (p:=⟨w.heap.size+1,k,none⟩) (Nat.le_refl _) _
   have HSM:Hid (labB G mode k=false→hasTo G mode (k+1)=hasTo G mode k):=hasTo_same G mode k hlt
   have HST:Hid (hasTo G mode (k+1)=(hasTo G mode k).set k (labB G mode k)):=rfl
   clear cm cw HKD hbb mkb HR0 HB0
   generalize (walkS (subsN G) G.length).wi.getD k false=wv at *
   generalize (walkS (subsN G) G.length).met.getD k 0=mv at *
   generalize G[k].kind=kd at *
   generalize (hasTo G mode k).getD k false=hv at *
   rcases HMD.out with h0|h0|h0
   ·have e1:(mode==1)=false:=by rw[h0];decide
    have e2:(mode==2)=false:=by rw[h0];decide
    have HL:Hid (labB G mode k=false):=by show _=_;rw[HLB.out,if_neg (by omega),if_neg (by omega)]
    have HE:Hid _:=HSM.out HL.out
    clear h0 HSET HBS
    go_wp2_with fail
    go_roundw
    case rel=>exact⟨k+1,by omega,by go_num,by show RowB _ _ _;rw[HE.out];exact hr.out,hb⟩
    case measure=>simp[intOf];omega
   ·have e1:(mode==1)=true:=by rw[h0];decide
    have HL:Hid (labB G mode k=wv):=by show _=_;rw[HLB.out,if_pos h0]
    have HS1:=HSET wv
    have HB1:=HBS wv
    clear h0 HSET HBS
    go_wp2_with fail
    go_roundw
    case rel=>exact⟨k+1,by omega,by go_num,by show RowB _ _ _;rw[HST.out,HL.out];exact HS1.out,HB1⟩
    case measure=>simp[intOf];omega
   ·have e1:(mode==1)=false:=by rw[h0];decide
    have e2:(mode==2)=true:=by rw[h0];decide
    have HL:Hid (labB G mode k=(decide (1<mv)&&decide (1≤kd∧kd≤3))):=by show _=_;rw[HLB.out,if_neg (by omega),if_pos h0]
    have HS1:=HSET (decide (1<mv)&&decide (1≤kd∧kd≤3))
    have HB1:=HBS (decide (1<mv)&&decide (1≤kd∧kd≤3))
    clear h0 HSET HBS
    by_cases hmv:1<mv
    ·rw[decide_eq_true hmv,Bool.true_and,Bool.decide_and] at HS1 HB1 HL
     go_wp2_with (go_at_call 64;refine(shared_any _ _).mono ?_;rintro e w' ⟨rfl,rfl⟩)
     go_roundw
     case rel=>exact⟨k+1,by omega,by go_num,by show RowB _ _ _;rw[HST.out,HL.out];exact HS1.out,HB1⟩
     case measure=>simp[intOf];omega
    ·have hmv':mv≤1:=by omega
     rw[decide_eq_false hmv,Bool.false_and] at HS1 HB1 HL
     clear hmv
     go_wp2_with fail
     go_roundw
     case rel=>exact⟨k+1,by omega,by go_num,by show RowB _ _ _;rw[HST.out,HL.out];exact HS1.out,HB1⟩
     case measure=>simp[intOf];omega
  ·obtain rfl:k=G.length:=by omega
   have HF:Hid (Below w.heap.size w wr):=hbb
   go_wp2_with fail
   go_ret
   exact⟨_,rfl,hr.out,HF.out⟩
theorem any_cyc (G:List Nd)(h:(walkS (subsN G) G.length).Ok G.length):(walkS (subsN G) G.length).wi.any id=cycB G:=by
 have hl:=h.lw
 unfold cycB
 rw[Bool.eq_iff_iff,List.any_eq_true,List.any_eq_true]
 constructor
 ·rintro ⟨x,hx,hv⟩
  obtain⟨j,hj,rfl⟩:=List.mem_iff_getElem.1 hx
  refine⟨j,List.mem_range.2 (by omega),?_⟩
  simp only[List.getD,List.getElem?_eq_getElem hj,Option.getD_some]
  exact hv
 ·rintro ⟨j,hj,hv⟩
  have hj2:j<(walkS (subsN G) G.length).wi.length:=by rw[hl];exact List.mem_range.1 hj
  refine⟨_,List.getElem_mem hj2,?_⟩
  simp only[List.getD,List.getElem?_eq_getElem hj2,Option.getD_some] at hv
  exact hv
theorem Pow.on' {w w':World}(h:Pow w)(hb:Below w.heap.size w w'):Pow w':=h.on hb
theorem tail_any (G:List Nd)(b o cap:Nat)(mode:Int)(hm:mode=0∨mode=1∨mode=2)(F:Nat)(hF:403≤F)(w:World)(bm bw:Nat)(hr:rightB G=true)(hG:GraphAt w b o G)(hp:Pow w)
 (hrm:RowI w bm (walkS (subsN G) G.length).met)(hrw:RowB w bw (walkS (subsN G) G.length).wi)(hc:mode=0→cycB G=false):
 Calls Tryz.prog 40 #[.slice (some ⟨b,o,none⟩) G.length cap,.int .i64 mode,.agg #[.slice (some ⟨bm,0,none⟩) G.length G.length,.slice (some ⟨bw,0,none⟩) G.length G.length]] w
  fun e w1=>∃ bL,e= .returned (.slice (some ⟨bL,0,none⟩) G.length G.length)∧Below w.heap.size w w1∧
   Calls Tryz.prog 39 #[.slice (some ⟨b,o,none⟩) G.length cap,.slice (some ⟨bL,0,none⟩) G.length G.length] w1 fun e w'=>e= .returned (.tuple #[.string ⟨⟨outL (writeT G mode F)⟩⟩,.bool (okL (writeT G mode F))])∧Below w1.heap.size w1 w':=by
 obtain⟨h1,h150,hk,hs,h20⟩:=right_parts G hr
 have hok:(walkS (subsN G) G.length).Ok G.length:=Ok.meet (subsN_lt G hs) _ _ _ (start_ok _) (by omega)
 refine(labelled_any G b o cap mode hm bm bw w hG h150 hok hrm hrw).mono ?_
 rintro e w1 ⟨bL,rfl,hrl,hb⟩
 obtain⟨Rc,rk,r0,r1,r2⟩:=rank_some G hr mode hm hc
 refine⟨bL,rfl,hb,?_⟩
 refine writerWrite_any G b o cap w1 bL (labB G mode) Rc rk (fun p bl hp1 hp2 hp3=>⟨hG.below hb,hk,hs,h150,hp1,hp2,hp3,fun i hi=>?_,hp.on hb,r1,r2⟩) r0 (by omega) h150 F hF (out_some G hr (labB G mode) F (by omega))
 have:=(hrl i (by rw[hasTo_len];exact hi)).1
 rw[hasTo_get G mode _ (Nat.le_refl _) i,if_pos hi] at this
 exact this
set_option maxHeartbeats 2000000 in
set_option maxRecDepth 100000 in
theorem ownWrite_any (G:List Nd)(b o cap:Nat)(mode:Int)(F:Nat)(hF:403≤F)(w:World)(hlen:G.length≤maxLen)(hG:GraphAt w b o G)(hp:Pow w):
 Calls Tryz.prog 19 #[(.slice (some ⟨b,o,none⟩) G.length cap),.int .i64 mode] w fun e w'=>e= .returned (.tuple #[.string ⟨⟨(writeP G mode F).1⟩⟩,.int .i64 (writeP G mode F).2])∧Below w.heap.size w w':=by
 have HG:Hid (GraphAt w b o G):=hG
 have HP:Hid (Pow w):=hp
 have HLM:Hid (G.length≤maxLen):=hlen
 clear hG hp hlen
 by_cases hm:mode<0∨2<mode
 ·have HV:Hid (writeP G mode F=([],1)):=by show _=_;unfold writeP;rw[if_pos hm]
  have m0:(mode != 0)=true:=by simp;omega
  have m1:(mode != 1)=true:=by simp;omega
  have m2:(mode != 2)=true:=by simp;omega
  go_enter Tryz.func19,Tryz.ntmps19
  go_wp2_with fail
  go_ret2
  exact⟨ret_two (a:=[]) (by rw[HV.out]) (by rw[HV.out]),Below.refl _ _⟩
 ·have hmode:mode=0∨mode=1∨mode=2:=by omega
  have HM:Hid (¬ (mode<0∨2<mode)):=hm
  have HMD:Hid _:=hmode
  clear hm
  cases hr:rightB G
  ·have HV:Hid (writeP G mode F=([],8)):=by show _=_;unfold writeP;rw[if_neg HM.out,if_pos hr]
   rcases hmode with rfl|rfl|rfl
   all_goals
    go_enter Tryz.func19,Tryz.ntmps19
    go_wp2_with fail
    refine(right_any G b o cap _ HLM.out HG.out).mono ?_
    rw[hr];rintro e w2 ⟨rfl,hb2⟩
    go_wp2_with fail
    go_ret2
    exact⟨ret_two (a:=[]) (by rw[HV.out]) (by rw[HV.out]),hb2⟩
  ·obtain⟨h1,h150,hk,hs,h20⟩:=right_parts G hr
   have HKK:Hid (∀ x (hx:x<G.length),kindB G[x]=true):=hk
   have HSS:Hid (∀ x (hx:x<G.length),subsB G[x].subs G.length=true):=hs
   have H20:Hid (∀ x,(subsN G x).length≤20):=h20
   have HOK:Hid ((walkS (subsN G) G.length).Ok G.length):=Ok.meet (subsN_lt G hs) _ _ _ (start_ok _) (by omega)
   have HR:Hid (rightB G=true):=hr
   have HRK:Hid ((mode=0→cycB G=false)→∃ (Rc:Nat→Prop) (rk:Nat→Nat),Rc 0∧(∀ x,Rc x→∀ y∈subsN G x,Rc y)∧(∀ x,Rc x→∀ y∈subsN G x,kindN G y=1→labB G mode y=false→rk y<rk x)):=rank_some G hr mode hmode
   have HOT:Hid _:=out_some G hr (labB G mode) F (by omega)
   clear hk hs h20
   by_cases h0:mode=0
   ·subst h0
    go_enter Tryz.func19,Tryz.ntmps19
    go_wp2_with fail
    refine(right_any G b o cap _ HLM.out HG.out).mono ?_
    rw[hr];rintro e w2 ⟨rfl,hb2⟩
    have HG2:Hid (GraphAt w2 b o G):=GraphAt.below HG.out hb2
    have HB2:Hid (Below w.heap.size w w2):=hb2
    clear hb2
    go_wp2_with fail
    refine(through_any G b o cap _ HG2.out h150 h1 HSS.out H20.out).mono ?_
    rintro e w3 ⟨bm,bw,rfl,hrm,hrw,hb3⟩
    have HRM:Hid _:=hrm
    have HRW:Hid _:=hrw
    have HG3:Hid (GraphAt w3 b o G):=GraphAt.below HG2.out hb3
    have HB3:Hid (Below w.heap.size w w3):=HB2.out.trans (hb3.mono HB2.out.size)
    have hbm:bm<w3.heap.size:=cell_lt (hrm 0 (by rw[HOK.out.lm];omega)).1
    have hbw:bw<w3.heap.size:=cell_lt (hrw 0 (by rw[HOK.out.lw];omega)).1
    clear hrm hrw hb3
    go_wp2_with fail
    obtain⟨w4,hw4⟩:∃ w4,w4=w3.alloc (.cells #[.slice (some ⟨bm,0,none⟩) G.length G.length,.slice (some ⟨bw,0,none⟩) G.length G.length] 68):=⟨_,rfl⟩
    rw[←hw4]
    have hx:Below w3.heap.size w3 w4:=by rw[hw4];exact below_box
    have hcl:∀ j,w4.cell? ⟨w3.heap.size,j,none⟩=(#[.slice (some ⟨bm,0,none⟩) G.length G.length,.slice (some ⟨bw,0,none⟩) G.length G.length]:Array Value)[j]?:=fun j=>by rw[hw4,World.cell?_alloc_at _ _ _ _ rfl]
    have h4:w3.heap.size<w4.heap.size:=by rw[hw4];simp
    refine(loops_any _ bw G.length HOK.out.lw h150 _ ⟨_,_,_,rfl⟩ _ (RowB.below HRW.out hx hbw)).mono ?_
    rw[any_cyc G HOK.out]
    cases hcy:cycB G
    ·rintro e w5 ⟨rfl,hb5⟩
     have d0:w5.cell? ⟨w3.heap.size,0,none⟩=some (.slice (some ⟨bm,0,none⟩) G.length G.length):=by rw[hb5.cell (p:=⟨w3.heap.size,0,none⟩) h4,hcl];rfl
     have d1:w5.cell? ⟨w3.heap.size,1,none⟩=some (.slice (some ⟨bw,0,none⟩) G.length G.length):=by rw[hb5.cell (p:=⟨w3.heap.size,1,none⟩) h4,hcl];rfl
     have hb35:Below w3.heap.size w3 w5:=hx.trans (hb5.mono (by omega))
     have HT:Hid _:=tail_any G b o cap 0 (by omega) F hF w5 bm bw HR.out (GraphAt.below HG3.out hb35) (HP.out.on' (HB3.out.trans (hb35.mono HB3.out.size))) (RowI.below HRM.out hb35 hbm) (RowB.below HRW.out hb35 hbw) (fun _=>hcy)
     have HB5:Hid (Below w.heap.size w w5):=HB3.out.trans (hb35.mono HB3.out.size)
     have HM:Hid (¬ ((0:Int)<0∨(2:Int)<0)):=by show ¬ _;omega
     clear hcl hx h4 hb5 hb35 hw4
     go_wp2_with fail
     refine Calls.mono HT.out ?_
     rintro e w6 ⟨bL,rfl,hb6,hwr⟩
     have HWR:Hid _:=hwr
     have HB6:Hid (Below w.heap.size w w6):=HB5.out.trans (hb6.mono HB5.out.size)
     clear hb6 hwr HT
     go_wp2_with fail
     refine Calls.mono HWR.out ?_
     rintro e w7 ⟨rfl,hb7⟩
     have HB7:Hid (Below w.heap.size w w7):=HB6.out.trans (hb7.mono HB6.out.size)
     clear hb7 HWR
     cases hlg:(writeT G 0 F).long
     ·have HV:Hid (writeP G 0 F=((writeT G 0 F).out,0)):=by show _=_;unfold writeP;rw[if_neg HM.out,if_neg (by rw[HR.out];simp),if_neg (show ¬ ((0:Int)=0∧cycB G=true) from fun h=>by rw[hcy] at h;exact absurd h.2 (by simp)),if_neg (by rw[hlg];simp)]
      have HO:Hid (outL (writeT G 0 F)=(writeT G 0 F).out):=by show _=_;unfold outL;rw[hlg];rfl
      have ho:okL (writeT G 0 F)=true:=by unfold okL;rw[hlg];rfl
      rw[ho]
      clear ho
      go_wp2_with fail
      go_ret2
      exact⟨ret_two (by rw[HV.out,HO.out]) (by rw[HV.out]),HB7.out⟩
     ·have HV:Hid (writeP G 0 F=([],2)):=by show _=_;unfold writeP;rw[if_neg HM.out,if_neg (by rw[HR.out];simp),if_neg (show ¬ ((0:Int)=0∧cycB G=true) from fun h=>by rw[hcy] at h;exact absurd h.2 (by simp)),if_pos hlg]
      have ho:okL (writeT G 0 F)=false:=by unfold okL;rw[hlg];rfl
      rw[ho]
      clear ho
      go_wp2_with fail
      go_ret2
      exact⟨ret_two (a:=[]) (by rw[HV.out]) (by rw[HV.out]),HB7.out⟩
    ·rintro e w5 ⟨rfl,hb5⟩
     have HB5:Hid (Below w.heap.size w w5):=HB3.out.trans ((hx.trans (hb5.mono (by omega))).mono HB3.out.size)
     have HV:Hid (writeP G 0 F=([],9)):=by show _=_;unfold writeP;rw[if_neg (by omega),if_neg (by rw[HR.out];simp),if_pos ⟨rfl,hcy⟩]
     clear hcl hx h4 hb5 hw4
     go_wp2_with fail
     go_ret2
     exact⟨ret_two (a:=[]) (by rw[HV.out]) (by rw[HV.out]),HB5.out⟩
   ·have hm12:mode=1∨mode=2:=by omega
    have HNC:Hid (¬ (mode=0∧cycB G=true)):=fun h=>h0 h.1
    have HN0:Hid (mode=0→cycB G=false):=fun h=>absurd h h0
    have m0:(mode==0)=false:=by simp;omega
    have HM12:Hid _:=hm12
    clear hmode
    have mchk:(mode != 0&&(mode != 1&&mode != 2))=false:=by
     rcases hm12 with rfl|rfl<;>rfl
    have m0':(mode != 0)=true:=by simp;omega
    by_cases hm1:mode=1
    ·subst hm1
     go_enter Tryz.func19,Tryz.ntmps19
     go_wp2_with fail
     refine(right_any G b o cap _ HLM.out HG.out).mono ?_
     rw[hr];rintro e w2 ⟨rfl,hb2⟩
     have HG2:Hid (GraphAt w2 b o G):=GraphAt.below HG.out hb2
     have HB2:Hid (Below w.heap.size w w2):=hb2
     clear hb2
     go_wp2_with fail
     refine(through_any G b o cap _ HG2.out h150 h1 HSS.out H20.out).mono ?_
     rintro e w3 ⟨bm,bw,rfl,hrm,hrw,hb3⟩
     have hbm:bm<w3.heap.size:=cell_lt (hrm 0 (by rw[HOK.out.lm];omega)).1
     have hbw:bw<w3.heap.size:=cell_lt (hrw 0 (by rw[HOK.out.lw];omega)).1
     have HB3:Hid (Below w.heap.size w w3):=HB2.out.trans (hb3.mono HB2.out.size)
     have HT:Hid _:=tail_any G b o cap 1 (by omega) F hF (w3.alloc (.cells #[.slice (some ⟨bm,0,none⟩) G.length G.length,.slice (some ⟨bw,0,none⟩) G.length G.length] 68)) bm bw HR.out (GraphAt.below (GraphAt.below HG2.out hb3) below_box) (HP.out.on (HB3.out.trans (below_box.mono HB3.out.size))) (RowI.below hrm below_box hbm) (RowB.below hrw below_box hbw) (fun h=>by omega)
     have HB5:Hid (Below w.heap.size w (w3.alloc (.cells #[.slice (some ⟨bm,0,none⟩) G.length G.length,.slice (some ⟨bw,0,none⟩) G.length G.length] 68))):=HB3.out.trans (below_box.mono HB3.out.size)
     clear hrm hrw hb3 hbm hbw
     go_wp2_with fail
     refine Calls.mono HT.out ?_
     rintro e w6 ⟨bL,rfl,hb6,hwr⟩
     have HWR:Hid _:=hwr
     have HB6:Hid (Below w.heap.size w w6):=HB5.out.trans (hb6.mono HB5.out.size)
     clear hb6 hwr HT
     go_wp2_with fail
     refine Calls.mono HWR.out ?_
     rintro e w7 ⟨rfl,hb7⟩
     have HB7:Hid (Below w.heap.size w w7):=HB6.out.trans (hb7.mono HB6.out.size)
     clear hb7 HWR
     cases hlg:(writeT G 1 F).long
     ·have HV:Hid (writeP G 1 F=((writeT G 1 F).out,0)):=by show _=_;unfold writeP;rw[if_neg HM.out,if_neg (by rw[HR.out];simp),if_neg HNC.out,if_neg (by rw[hlg];simp)]
      have HO:Hid (outL (writeT G 1 F)=(writeT G 1 F).out):=by show _=_;unfold outL;rw[hlg];rfl
      have ho:okL (writeT G 1 F)=true:=by unfold okL;rw[hlg];rfl
      rw[ho]
      clear ho
      go_wp2_with fail
      go_ret2
      exact⟨ret_two (by rw[HV.out,HO.out]) (by rw[HV.out]),HB7.out⟩
     ·have HV:Hid (writeP G 1 F=([],2)):=by show _=_;unfold writeP;rw[if_neg HM.out,if_neg (by rw[HR.out];simp),if_neg HNC.out,if_pos hlg]
      have ho:okL (writeT G 1 F)=false:=by unfold okL;rw[hlg];rfl
      rw[ho]
      clear ho
      go_wp2_with fail
      go_ret2
      exact⟨ret_two (a:=[]) (by rw[HV.out]) (by rw[HV.out]),HB7.out⟩
    ·obtain rfl:mode=2:=by omega
     go_enter Tryz.func19,Tryz.ntmps19
     go_wp2_with fail
     refine(right_any G b o cap _ HLM.out HG.out).mono ?_
     rw[hr];rintro e w2 ⟨rfl,hb2⟩
     have HG2:Hid (GraphAt w2 b o G):=GraphAt.below HG.out hb2
     have HB2:Hid (Below w.heap.size w w2):=hb2
     clear hb2
     go_wp2_with fail
     refine(through_any G b o cap _ HG2.out h150 h1 HSS.out H20.out).mono ?_
     rintro e w3 ⟨bm,bw,rfl,hrm,hrw,hb3⟩
     have hbm:bm<w3.heap.size:=cell_lt (hrm 0 (by rw[HOK.out.lm];omega)).1
     have hbw:bw<w3.heap.size:=cell_lt (hrw 0 (by rw[HOK.out.lw];omega)).1
     have HB3:Hid (Below w.heap.size w w3):=HB2.out.trans (hb3.mono HB2.out.size)
     have HT:Hid _:=tail_any G b o cap 2 (by omega) F hF (w3.alloc (.cells #[.slice (some ⟨bm,0,none⟩) G.length G.length,.slice (some ⟨bw,0,none⟩) G.length G.length] 68)) bm bw HR.out (GraphAt.below (GraphAt.below HG2.out hb3) below_box) (HP.out.on (HB3.out.trans (below_box.mono HB3.out.size))) (RowI.below hrm below_box hbm) (RowB.below hrw below_box hbw) (fun h=>by omega)
     have HB5:Hid (Below w.heap.size w (w3.alloc (.cells #[.slice (some ⟨bm,0,none⟩) G.length G.length,.slice (some ⟨bw,0,none⟩) G.length G.length] 68))):=HB3.out.trans (below_box.mono HB3.out.size)
     clear hrm hrw hb3 hbm hbw
     go_wp2_with fail
     refine Calls.mono HT.out ?_
     rintro e w6 ⟨bL,rfl,hb6,hwr⟩
     have HWR:Hid _:=hwr
     have HB6:Hid (Below w.heap.size w w6):=HB5.out.trans (hb6.mono HB5.out.size)
     clear hb6 hwr HT
     go_wp2_with fail
     refine Calls.mono HWR.out ?_
     rintro e w7 ⟨rfl,hb7⟩
     have HB7:Hid (Below w.heap.size w w7):=HB6.out.trans (hb7.mono HB6.out.size)
     clear hb7 HWR
     cases hlg:(writeT G 2 F).long
     ·have HV:Hid (writeP G 2 F=((writeT G 2 F).out,0)):=by show _=_;unfold writeP;rw[if_neg HM.out,if_neg (by rw[HR.out];simp),if_neg HNC.out,if_neg (by rw[hlg];simp)]
      have HO:Hid (outL (writeT G 2 F)=(writeT G 2 F).out):=by show _=_;unfold outL;rw[hlg];rfl
      have ho:okL (writeT G 2 F)=true:=by unfold okL;rw[hlg];rfl
      rw[ho]
      clear ho
      go_wp2_with fail
      go_ret2
      exact⟨ret_two (by rw[HV.out,HO.out]) (by rw[HV.out]),HB7.out⟩
     ·have HV:Hid (writeP G 2 F=([],2)):=by show _=_;unfold writeP;rw[if_neg HM.out,if_neg (by rw[HR.out];simp),if_neg HNC.out,if_pos hlg]
      have ho:okL (writeT G 2 F)=false:=by unfold okL;rw[hlg];rfl
      rw[ho]
      clear ho
      go_wp2_with fail
      go_ret2
      exact⟨ret_two (a:=[]) (by rw[HV.out]) (by rw[HV.out]),HB7.out⟩
def ndOf (x:Nd0):Value→Nd
 | .slice a _ c=>⟨x.kind,x.text,x.n,x.d,x.subs.map fun k:Nat=>(k:Int),a,c⟩
 |_=>⟨x.kind,x.text,x.n,x.d,x.subs.map fun k:Nat=>(k:Int),none,0⟩
def bareOf (x:Nd0):Nd:=⟨x.kind,x.text,x.n,x.d,x.subs.map fun k:Nat=>(k:Int),none,0⟩
def ndsOf:List Nd0→List Value→List Nd
 |x::l,sv::svs=>ndOf x sv::ndsOf l svs
 |_,_=>[]
theorem ndsOf_length:∀ (l:List Nd0) (svs:List Value),svs.length=l.length→(ndsOf l svs).length=l.length
 |[],_,_=>by simp[ndsOf]
 |x::l,[],h=>by simp at h
 |x::l,sv::svs,h=>by
  have:=ndsOf_length l svs (by simpa using h)
  simp[ndsOf,this]
theorem ndOf_bare (x:Nd0)(sv:Value):bareN (ndOf x sv)=bareOf x:=by
 cases sv<;>rfl
theorem ndsOf_bare:∀ (l:List Nd0) (svs:List Value),svs.length=l.length→(ndsOf l svs).map bareN=l.map bareOf
 |[],_,_=>by simp[ndsOf]
 |x::l,[],h=>by simp at h
 |x::l,sv::svs,h=>by
  have:=ndsOf_bare l svs (by simpa using h)
  simp[ndsOf,this,ndOf_bare]
theorem ndsOf_get:∀ (l:List Nd0) (svs:List Value) (i:Nat),svs.length=l.length→i<l.length→∃ x sv,l[i]? =some x∧svs[i]? =some sv∧(ndsOf l svs)[i]? =some (ndOf x sv)∧∀ j,j<5→(nds l svs)[i*5+j]? =(nd5 x sv)[j]?
 |[],_,i,_,h=>by simp at h
 |x::l,[],_,h,_=>by simp at h
 |x::l,sv::svs,0,h,_=>by
  refine⟨x,sv,rfl,rfl,rfl,fun j hj=>?_⟩
  simp only[nds,Nat.zero_mul,Nat.zero_add]
  rw[List.getElem?_append_left (by simp[nd5];omega)]
 |x::l,sv::svs,i+1,h,hi=>by
  obtain⟨y,sy,h1,h2,h3,h4⟩:=ndsOf_get l svs i (by simpa using h) (by simpa using hi)
  refine⟨y,sy,by simpa using h1,by simpa using h2,by simpa[ndsOf] using h3,fun j hj=>?_⟩
  rw[←h4 j hj]
  simp only[nds]
  rw[List.getElem?_append_right (by simp[nd5];omega)]
  congr 1
  simp[nd5];omega
theorem graphAt_of {w:World}{lo:Nat}{nv:Value}{svs:List Value}{nodes:List Nd0}(h:NodesAt w lo nv svs nodes)(hne:nodes≠[])(hlen:∀ x∈nodes,x.text.length≤maxLen∧x.subs.length≤maxLen):
 ∃ b cap,nv= .slice (some ⟨b,0,none⟩) (ndsOf nodes svs).length cap∧(ndsOf nodes svs).length=nodes.length∧GraphAt w b 0 (ndsOf nodes svs)∧(ndsOf nodes svs).map bareN=nodes.map bareOf:=by
 obtain⟨hrow,hl,hsub⟩:=h
 have hL:=ndsOf_length nodes svs hl
 rcases hrow.2 with⟨_,h0⟩|⟨g,cap,cur,rfl,h1,h2,h3,h4,h5,h6⟩
 ·exact absurd (List.length_eq_zero_iff.1 h0) hne
 ·refine⟨g,cap,by rw[hL],hL,fun i hi=>?_,ndsOf_bare nodes svs hl⟩
  rw[hL] at hi
  obtain⟨x,sv,k1,k2,k3,k4⟩:=ndsOf_get nodes svs i hl hi
  have hx:(ndsOf nodes svs)[i]=ndOf x sv:=by
   have:=List.getElem?_eq_getElem (by rw[hL];exact hi:i<(ndsOf nodes svs).length)
   rw[this] at k3
   exact Option.some.inj k3
  rw[hx]
  have hc:∀ j,j<5→w.cell? ⟨g,0+i*5+j,none⟩=(nd5 x sv)[j]?:=fun j hj=>by
   rw[←k4 j hj,Nat.zero_add]
   exact World.ownsRow.cellAt hrow _ (by omega)
  have hb:=hlen x (List.mem_of_getElem? k1)
  have hs:=hsub i x sv k1 k2
  have c0:=hc 0 (by omega)
  have c1:=hc 1 (by omega)
  have c2:=hc 2 (by omega)
  have c3:=hc 3 (by omega)
  have c4:=hc 4 (by omega)
  simp only[nd5,List.getElem?_cons_zero,List.getElem?_cons_succ,Nat.add_zero] at c0 c1 c2 c3 c4
  rcases hs with⟨rfl,he⟩|⟨b,rfl,_,hblk⟩
  ·refine⟨c0,c1,c2,c3,?_,.inl ?_,hb.1,?_⟩
   ·simpa[ndOf,he] using c4
   ·simp[ndOf,he]
   ·simpa[ndOf] using hb.2
  ·refine⟨c0,c1,c2,c3,?_,.inr ⟨b,0,rfl,fun j hj=>?_⟩,hb.1,?_⟩
   ·simpa[ndOf] using c4
   ·simp only[ndOf,List.length_map] at hj
    simp only[World.cell?,hblk,ndOf]
    simp[hj]
   ·simpa[ndOf] using hb.2
end Go.Proofs.YtlhimdjkkiflhaaGreatDoor
namespace Go.Loop
def goodT (T:List Tok)(dp:Nat):Bool:=
 match rdDatum T dp 2000 ⟨0,false,[]⟩ ⟨0,0,[]⟩ with
 | .ok d _=>goodB d d&&(match numN d 100000 d ⟨[],[]⟩ with
   |some g=>decide (g.2.nodes.length≤999999)
   |none=>false)
 |_=>true
theorem goodT_good {T:List Tok}{dp:Nat}(h:goodT T dp=true)(d:Dt)(s':RSt)(hr:rdDatum T dp 2000 ⟨0,false,[]⟩ ⟨0,0,[]⟩= .ok d s'):goodB d d=true∧∃ k g,numN d 100000 d ⟨[],[]⟩=some (k,g)∧g.nodes.length≤999999:=by
 unfold goodT at h
 rw[hr] at h
 simp only[Bool.and_eq_true] at h
 refine⟨h.1,?_⟩
 have h2:=h.2
 cases hn:numN d 100000 d ⟨[],[]⟩ with
 |none=>rw[hn] at h2;cases h2
 |some g=>
  rw[hn] at h2
  exact⟨g.1,g.2,rfl,of_decide_eq_true h2⟩
def deepT (o c:List UInt8)(k:Nat):List UInt8:=(List.replicate k o).flatten++120::(List.replicate k c).flatten
def chkT (T:List Tok)(len o k d:Nat):Bool:=
 match rdDatum T d 2000 ⟨0,false,[]⟩ ⟨0,0,[]⟩ with
 | .out=>false
 | .fail e a=>decide (d<k)&&decide (e=6)&&decide (a=o*d)
 | .ok x s=>decide (k≤d)&&goodB x x&&(match numN x 100000 x ⟨[],[]⟩ with
   |none=>false
   |some g=>decide (g.2.nodes.length≤150)&&decide (((T[s.k-1]?).map (·.to_)).getD 0=len))
def chkK (o c:List UInt8)(k:Nat):Bool:=
 let T:=gatherP ((deepT o c k).length + 1) (deepT o c k) 0
 (List.range 31).all fun d=>chkT T (deepT o c k).length o.length k d
theorem chkT_good {T:List Tok}{len o k d:Nat}(h:chkT T len o k d=true):goodT T d=true:=by
 unfold chkT at h
 unfold goodT
 cases hr:rdDatum T d 2000 ⟨0,false,[]⟩ ⟨0,0,[]⟩ with
 |out=>rfl
 |fail e a=>rfl
 |ok x s=>
  rw[hr] at h
  simp only[Bool.and_eq_true] at h ⊢
  refine⟨h.1.2,?_⟩
  have h2:=h.2
  cases hn:numN x 100000 x ⟨[],[]⟩ with
  |none=>rw[hn] at h2;cases h2
  |some g=>
   rw[hn] at h2
   simp only[Bool.and_eq_true,decide_eq_true_eq] at h2 ⊢
   omega
theorem chkT_read {t:List UInt8}{o k d:Nat}(hl:t.length≤400)(hd:d≤30)(h:chkT (gatherP (t.length+1) t 0) t.length o k d=true):∃ nodes,readN t d=some (nodes,if k≤d then(t.length,0) else(o*d,6)):=by
 unfold chkT at h
 unfold readN
 rw[if_neg (by omega),if_neg (by omega),Int.toNat_natCast]
 cases hr:rdDatum (gatherP (t.length+1) t 0) d 2000 ⟨0,false,[]⟩ ⟨0,0,[]⟩ with
 |out=>rw[hr] at h;cases h
 |fail e a=>
  rw[hr] at h
  simp only[Bool.and_eq_true,decide_eq_true_eq] at h
  obtain⟨⟨h1,rfl⟩,rfl⟩:=h
  exact⟨[],by rw[if_neg (by omega)]⟩
 |ok x s=>
  rw[hr] at h
  simp only[Bool.and_eq_true,decide_eq_true_eq] at h
  have h2:=h.2
  cases hn:numN x 100000 x ⟨[],[]⟩ with
  |none=>rw[hn] at h2;cases h2
  |some g=>
   rw[hn] at h2
   simp only[Bool.and_eq_true,decide_eq_true_eq] at h2
   refine⟨g.2.nodes,?_⟩
   show Option.map _ (numN x 100000 x ⟨[],[]⟩)=_
   rw[hn,if_pos h.1.1]
   show some (if 150<g.2.nodes.length then _ else _)=_
   rw[if_neg (by omega),h2.2]
set_option maxRecDepth 1000000
theorem deep_list:(List.range 40).all (chkK [40] [41])=true:=by decide +kernel
theorem deep_vec:(List.range 40).all (chkK [35,40] [41])=true:=by decide +kernel
theorem deep_quote:(List.range 40).all (chkK [39] [])=true:=by decide +kernel
def awakeT:List UInt8:=[35,55,61,40,97,32,46,32,35,55,35,41,32,98]
def awakeN:List Nd0:=[⟨1,[],0,0,[1,0]⟩,⟨4,[97],0,0,[]⟩]
theorem awake_good:goodT (gatherP (awakeT.length+1) awakeT 0) 5=true:=by decide +kernel
theorem awake_read:readN awakeT 5=some (awakeN,12,0):=by decide +kernel
end Go.Loop
namespace Go.Proofs.YtlhimdjkkiflhaaGreatDoor
open Go.RowKit Go.Loop
def awakeOut:List UInt8:=[35,48,61,40,97,32,46,32,35,48,35,41]
set_option maxRecDepth 1000000 in
theorem awake_write:writeP (awakeN.map bareOf) 2 403=(awakeOut,0):=by decide +kernel
theorem awake_mem {w:World}{nv:Value}{svs:List Value}(h:NodesAt w 0 nv svs awakeN):∃ b cap sb so sc G,nv= .slice (some ⟨b,0,none⟩) 2 cap∧w.cell? ⟨b,0,none⟩=some (.int .i64 1)∧w.cell? ⟨b,4,none⟩=some (.slice (some ⟨sb,so,none⟩) 2 sc)∧w.cell? ⟨b,5,none⟩=some (.int .i64 4)∧
 w.cell? ⟨sb,so,none⟩=some (.int .i64 1)∧w.cell? ⟨sb,so+1,none⟩=some (.int .i64 0)∧GraphAt w b 0 G∧G.length=2∧writeP G 2 403=(awakeOut,0):=by
 have hm:(1:Nat)≤maxLen∧(2:Nat)≤maxLen:=by unfold maxLen;omega
 obtain⟨b,cap,rfl,hl,hG,hbare⟩:=graphAt_of h (by simp[awakeN]) (fun x hx=>by
  simp only[awakeN,List.mem_cons,List.not_mem_nil,or_false] at hx
  rcases hx with rfl|rfl
  ·exact⟨Nat.zero_le _,hm.2⟩
  ·exact⟨hm.1,Nat.zero_le _⟩)
 have hl2:(ndsOf awakeN svs).length=2:=hl
 have hwp:=(writeP_same _ _ (hbare.trans (by simp[awakeN,bareOf,bareN]:awakeN.map bareOf=(awakeN.map bareOf).map bareN)) 2 403).trans awake_write
 have h0:=hG 0 (by omega)
 have h1:=hG 1 (by omega)
 have e0:bareN (ndsOf awakeN svs)[0]=bareOf ⟨1,[],0,0,[1,0]⟩:=by
  have:=congrArg (fun l=>l[0]?) hbare
  simp only[List.getElem?_map] at this
  rw[List.getElem?_eq_getElem (by omega:0<(ndsOf awakeN svs).length)] at this
  exact Option.some.inj this
 have e1:bareN (ndsOf awakeN svs)[1]=bareOf ⟨4,[97],0,0,[]⟩:=by
  have:=congrArg (fun l=>l[1]?) hbare
  simp only[List.getElem?_map] at this
  rw[List.getElem?_eq_getElem (by omega:1<(ndsOf awakeN svs).length)] at this
  exact Option.some.inj this
 generalize (ndsOf awakeN svs)[0]=x0 at h0 e0
 generalize (ndsOf awakeN svs)[1]=x1 at h1 e1
 obtain⟨k0,t0,n0,d0,s0,a0,c0⟩:=x0
 obtain⟨k1,t1,n1,d1,s1,a1,c1⟩:=x1
 simp only[bareN,bareOf,List.map_cons,List.map_nil,Nd.mk.injEq,and_true] at e0 e1
 obtain⟨rfl,rfl,rfl,rfl,rfl⟩:=e0
 obtain⟨rfl,rfl,rfl,rfl,rfl⟩:=e1
 rcases h0.ints with hx|⟨sb,so,rfl,hc⟩
 ·cases hx
 ·have q0:=hc 0 (by simp)
  have q1:=hc 1 (by simp)
  exact⟨b,cap,sb,so,c0,ndsOf awakeN svs,by rw[hl2],by simpa using h0.kind,by simpa using h0.subs,by simpa using h1.kind,by simpa using q0,by simpa using q1,hG,hl2,hwp⟩
end Go.Proofs.YtlhimdjkkiflhaaGreatDoor
namespace Go.Ren
open Go Go.Conc Go.ConcX Go.RowKit Go.Proofs Go.Loop Go.Proofs.YtlhimdjkkiflhaaGreatDoor
def c20 (f:Func):Code:=f.body.getD .skip
def c20a (f:Func):Code:=Ren.fstC (c20 f)
def o20 (f:Func):Array Oper:=Ren.opsC (Ren.fstC (Ren.sndC (c20 f)))
def c20d (f:Func):Code:=Ren.sndC (Ren.sndC (c20 f))
theorem fz20:Tryz.prog.funcs[20]? =some Tryz.f20:=by kernel_rfl
theorem c20_eq:Tryz.f20.body=some (.seq (c20a Tryz.f20) (.seq (.region 1 (o20 Tryz.f20) false) (c20d Tryz.f20))):=by kernel_rfl
theorem nt20:Tryz.f20.ntmps=73:=by kernel_rfl
theorem t73:(#[]++Array.replicate (73-(#[]:Array Value).size) undef:Array Value)=#[undef,undef,undef,undef,undef,undef,undef,undef,undef,undef,undef,undef,undef,undef,undef,undef,undef,undef,undef,undef,undef,undef,undef,undef,undef,undef,undef,undef,undef,undef,undef,undef,undef,undef,undef,undef,undef,undef,undef,undef,undef,undef,undef,undef,undef,undef,undef,undef,undef,undef,undef,undef,undef,undef,undef,undef,undef,undef,undef,undef,undef,undef,undef,undef,undef,undef,undef,undef,undef,undef,undef,undef,undef]:=by
 generalize undef=u
 simp[Array.replicate,List.replicate]
theorem enter20:Frame.enter Tryz.prog 20 #[] .normal=(base 20).at ⟨#[undef,undef,undef,undef,undef,undef,undef,undef,undef,undef,undef,undef,undef,undef,undef,undef,undef,undef,undef,undef,undef,undef,undef,undef,undef,undef,undef,undef,undef,undef,undef,undef,undef,undef,undef,undef,undef,undef,undef,undef,undef,undef,undef,undef,undef,undef,undef,undef,undef,undef,undef,undef,undef,undef,undef,undef,undef,undef,undef,undef,undef,undef,undef,undef,undef,undef,undef,undef,undef,undef,undef,undef,undef],[]⟩ [.code (.seq (c20a Tryz.f20) (.seq (.region 1 (o20 Tryz.f20) false) (c20d Tryz.f20)))]:=by
 rw[enter_at _ fz20 c20_eq,nt20,t73]
theorem ok20a:okCode Tryz.prog Fz Sz (c20a Tryz.f20)=true:=by kernel_rfl
theorem ok20d:okCode Tryz.prog Fz Sz (c20d Tryz.f20)=true:=by kernel_rfl
theorem len20:(o20 Tryz.f20).size=8:=by kernel_rfl
def op20 (f:Func)(i:Nat):Oper:=(o20 f)[i]!
theorem at20_0:(o20 Tryz.f20)[0]? =some (op20 Tryz.f20 0):=by kernel_rfl
theorem op20_0:(op20 Tryz.f20 0).op= .call { callee:= .value (.func 18),args:=#[.const (.string ⟨⟨[35,55,61,40,97,32,46,32,35,55,35,41,32,98]⟩⟩),.const (.int .i64 5)],argTypes:=#[9,3] }:=by kernel_rfl
theorem gd20_0:(op20 Tryz.f20 0).guard=none:=by kernel_rfl
theorem ds20_0:((o20 Tryz.f20)[0]?).bind (·.dst)=some 7:=by kernel_rfl
theorem ok20r:([1,2,3,4,5,6,7].all fun i=>((o20 Tryz.f20)[i]?).all fun o=>okOp Tryz.prog Fz Sz o.op)=true:=by kernel_rfl
theorem bd18:(Tryz.prog.funcs[18]?).any (fun fn=>fn.body.isSome)=true:=by kernel_rfl
theorem nm18:(Tryz.prog.funcs[18]?).any (fun fn=>fn.name != "runtime.NumGoroutine")=true:=by kernel_rfl
theorem res20:Tryz.f20.results=#[.tmp 0]:=by kernel_rfl
theorem Pow.heapB {w w':World}(h:Pow w)(hb:HeapB w w'):Pow w':=by
 have hb':Below w.heap.size w { w with heap:=w'.heap }:=⟨rfl,rfl,rfl,hb.1,hb.2⟩
 have:=Pow.on h hb'
 unfold YtlhimdjkkiflhaaGreatDoor.Pow Lib.TabIs World.var? at this ⊢
 exact this
theorem _root_.Go.Proofs.YtlhimdjkkiflhaaGreatDoor.GraphAt.heapE {w w':World}{b o:Nat}{G:List Nd}(h:GraphAt w b o G)(e:w'.heap=w.heap):GraphAt w' b o G:=fun i hi=>by
 have hc:∀ a,w'.cell? a=w.cell? a:=fun a=>by unfold World.cell?;rw[e]
 have hn:=h i hi
 refine⟨by rw[hc];exact hn.kind,by rw[hc];exact hn.text,by rw[hc];exact hn.n,by rw[hc];exact hn.d,by rw[hc];exact hn.subs,?_,hn.tlen,hn.slen⟩
 rcases hn.ints with h0|⟨b1,o1,e1,h1⟩
 ·exact .inl h0
 ·exact .inr ⟨b1,o1,e1,fun j hj=>by rw[hc];exact h1 j hj⟩
theorem CoReach.top' {Ψ:CoGoal}{cs:List Frame}{w:World}{b:Frame}{a:Act}{ops:Array Oper}{i:Nat}{rest:List Nat}{kk:List Item}{s:List UInt8}{dep:Int}(hgood:∀ dp:Nat,dep=dp→dp≤30→GoodText s dp){d:Tmp}(hd:(ops[i]?).bind (·.dst)=some d){a':Value→Act}(ha:∀ v,a.put (some d) v=a' v)(h:∀ v w',TopPost s dep w v w'→CoReach Tryz.prog Sz Ψ (b.at (a' v) (.inRegion ops rest::kk)) cs w'):
 CoReach Tryz.prog Sz Ψ (Frame.enter Tryz.prog 18 #[.string ⟨⟨s⟩⟩,.int .i64 dep] .normal) (b.at a (.inRegion ops (i::rest)::kk)::cs) w:=
 CoReach.top hgood fun v w' h1=>by rw[hd,ha];exact h v w' h1
section
variable {Ψ:CoGoal} {cs:List Frame} {w:World} {b:Frame} {a:Act} {ops:Array Oper} {i:Nat} {rest:List Nat} {kk:List Item}
set_option maxRecDepth 100000 in
set_option maxHeartbeats 8000000 in
theorem CoReach.awake (hp:Pow w)(h:∀ w',HeapB w w'→CoReach Tryz.prog Sz Ψ (b.at (a.put ((ops[i]?).bind (·.dst)) (.bool true)) (.inRegion ops rest::kk)) cs w'):
 CoReach Tryz.prog Sz Ψ (Frame.enter Tryz.prog 20 #[] .normal) (b.at a (.inRegion ops (i::rest)::kk)::cs) w:=by
 have mixed:Tryz.prog.follows Departure.mixedOrders=true:=by kernel_rfl
 have HH:Hid _:=h
 have HP:Hid (Pow w):=hp
 clear h hp
 rw[enter20]
 refine CoReach.seq ?_
 refine CoReach.code cloz ok20a rfl ⟨_,fz20⟩ rfl fun τ d=>?_
 have HB1:Hid (HeapB w (w.re τ d)):=⟨Nat.le_refl _,fun _ _=>rfl⟩
 generalize w.re τ d=w1 at *
 generalize hkk:([.code (.seq (.region 1 (o20 Tryz.f20) false) (c20d Tryz.f20))]:List Item)=kq
 dsimp only[c20a,c20,Ren.fstC,Tryz.f20,Option.getD]
 go_wp2_with fail
 subst hkk
 show CoReach _ _ _ _ _ _
 refine CoReach.seq ?_
 refine CoReach.region ?_
 rw[len20,show List.range 8=[0,1,2,3,4,5,6,7] from rfl]
 refine CoReach.enter' (f:=18) (xs:=#[.const (.string ⟨⟨[35,55,61,40,97,32,46,32,35,55,35,41,32,98]⟩⟩),.const (.int .i64 5)]) (ats:=#[9,3]) (args:=#[.string ⟨⟨awakeT⟩⟩,.int .i64 5]) at20_0 gd20_0 (by decide) op20_0 bd18 nm18 (by simp[okX,plainV]) (by simp[Act.eval,awakeT]) ?_
 refine CoReach.top' (fun dp hd hdp=>by
  obtain rfl:dp=5:=by omega
  exact fun d s' hr=>goodT_good awake_good d s' hr) ds20_0 (a':=fun v=>⟨#[.bool false,undef,undef,undef,undef,undef,undef,v,undef,undef,undef,undef,undef,undef,undef,undef,undef,undef,undef,undef,undef,undef,undef,undef,undef,undef,undef,undef,undef,undef,undef,undef,undef,undef,undef,undef,undef,undef,undef,undef,undef,undef,undef,undef,undef,undef,undef,undef,undef,undef,undef,undef,undef,undef,undef,undef,undef,undef,undef,undef,undef,undef,undef,undef,undef,undef,undef,undef,undef,undef,undef,undef,undef],[]⟩) (fun v=>by simp[Act.put]) fun v w2 hpost=>?_
 obtain⟨hb2,nodes,at_,e,nv,svs,hr,rfl,hn⟩:=hpost
 rw[show readN awakeT 5=some (awakeN,12,0) from awake_read] at hr
 simp only[Option.some.injEq,Prod.mk.injEq] at hr
 obtain⟨rfl,rfl,rfl⟩:=hr
 obtain⟨bb,cap,sb,so,sc,G,rfl,m0,m4,m5,s0,s1,hG,hGl,hwr⟩:=awake_mem hn
 clear hn
 have HB2:Hid (HeapB w w2):=HB1.out.trans hb2
 clear HB1 hb2
 refine CoReach.ops cloz rfl ⟨_,fz20⟩ rfl ok20r 1 ((o20 Tryz.f20).toList.drop 1) (by rw[List.length_drop,Array.length_toList,len20];rfl) (fun j=>by rw[List.getElem?_drop,Array.getElem?_toList]) fun τ' d'=>?_
 have HB3:Hid (HeapB w (w2.re τ' d')):=HeapB.heap HB2.out rfl
 have HG3:Hid (GraphAt (w2.re τ' d') bb 0 G):=GraphAt.heapE hG rfl
 have HM3:Hid ((w2.re τ' d').cell? ⟨bb,0,none⟩=some (.int .i64 1)∧(w2.re τ' d').cell? ⟨bb,4,none⟩=some (.slice (some ⟨sb,so,none⟩) 2 sc)∧(w2.re τ' d').cell? ⟨bb,5,none⟩=some (.int .i64 4)∧(w2.re τ' d').cell? ⟨sb,so,none⟩=some (.int .i64 1)∧(w2.re τ' d').cell? ⟨sb,so+1,none⟩=some (.int .i64 0)):=⟨m0,m4,m5,s0,s1⟩
 clear m0 m4 m5 s0 s1 hG HB2
 generalize w2.re τ' d'=w3 at *
 generalize hkk:([.code (c20d Tryz.f20)]:List Item)=kq
 dsimp only[o20,c20,Ren.opsC,Ren.fstC,Ren.sndC,Tryz.f20,Option.getD]
 simp only[List.drop_succ_cons,List.drop_zero]
 go_wp2_with fail
 subst hkk
 show CoReach _ _ _ _ _ _
 refine CoReach.code cloz ok20d rfl ⟨_,fz20⟩ rfl fun τ d=>?_
 have HB4:Hid (HeapB w (w3.re τ d)):=HeapB.heap HB3.out rfl
 have HG4:Hid (GraphAt (w3.re τ d) bb 0 G):=GraphAt.heapE HG3.out rfl
 have HM4:Hid ((w3.re τ d).cell? ⟨bb,0,none⟩=some (.int .i64 1)∧(w3.re τ d).cell? ⟨bb,4,none⟩=some (.slice (some ⟨sb,so,none⟩) 2 sc)∧(w3.re τ d).cell? ⟨bb,5,none⟩=some (.int .i64 4)∧(w3.re τ d).cell? ⟨sb,so,none⟩=some (.int .i64 1)∧(w3.re τ d).cell? ⟨sb,so+1,none⟩=some (.int .i64 0)):=HM3.out
 clear HB3 HG3 HM3
 generalize w3.re τ d=w4 at *
 obtain⟨m0,m4,m5,s0,s1⟩:=HM4.out
 have HW:Hid _:=ownWrite_any G bb 0 cap 2 403 (Nat.le_refl _) w4 (by rw[hGl];unfold maxLen;omega) HG4.out (Pow.heapB HP.out HB4.out)
 rw[hGl,hwr] at HW
 clear HG4 hGl hwr
 dsimp only[c20d,c20,Ren.fstC,Ren.sndC,Tryz.f20,Option.getD]
 go_wp2_with fail
 refine Calls.mono HW.out ?_
 rintro e w5 ⟨rfl,hb5⟩
 have HB5:Hid (HeapB w w5):=HB4.out.trans (HeapB.of hb5)
 have n4:=cell_below hb5 m4
 have r0:=cell_below hb5 s0
 have r1:=cell_below hb5 s1
 clear hb5 m0 m4 m5 s0 s1 HM4 HW HB4
 unfold awakeOut
 go_wp2_with fail
 show ∀ todo,CoReach _ _ _ _ _ _
 intro todo
 refine CoReach.leaveM cloz rfl rfl fz20 (results_tmp res20 _ _ _) ?_
 exact HH.out _ (HeapB.heap HB5.out rfl)
end
end Go.Ren
