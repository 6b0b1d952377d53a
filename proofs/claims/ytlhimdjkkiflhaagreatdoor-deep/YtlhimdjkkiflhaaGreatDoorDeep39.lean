/-
  Deep: whatever the three numbers, so many lists, vectors or quotes within one another are read just where they are not deeper than asked for; else the place is the first one that is too deep. Its conditions: those of the form alone; the tables of strconv and of math/bits hold what the program's text lays.
-/
import Derived.Conc.LeavingOf
import Derived.Deep.DeepHandedRow
import Derived.Lib.LaidTab
import Derived.ChangeShapes
import Derived.WideShapes
import Derived.OpenShut
import Derived.SevenTiedAt
import Derived.Test.YtlhimdjkkiflhaaGreatDoorCards
import Derived.Test.YtlhimdjkkiflhaaGreatDoorTie
import Derived.RowKit
import Derived.Test.YtlhimdjkkiflhaaGreatDoorDeep38
namespace Go.Ren
open Go Go.Conc Go.ConcX Go.RowKit Go.Proofs Go.Loop Go.Proofs.YtlhimdjkkiflhaaGreatDoor
theorem CoReach.addS {P:Program}{F:FuncId→Bool}{S:Sd}{Ψ:CoGoal}{b:Frame}{a:Act}{cs:List Frame}{w:World}{ops:Array Oper}{i:Nat}{rest:List Nat}{o:Oper}{kk:List Item}(hC:Clo P F S)(ho:ops[i]? =some o)(hw:o.guard=none)(hk:b.kind≠ .early){x y d:Tmp}{ty:TypeId}{p q:List UInt8}(hop:o.op= .binOp .add ty (.tmp x) (.tmp y) ty)(hx:a.eval (.tmp x)= .string ⟨⟨p⟩⟩)(hy:a.eval (.tmp y)= .string ⟨⟨q⟩⟩)(hl:p.length+q.length≤9223372036854775807)(hd:o.dst=some d){a':Act}(ha:a.put (some d) (.string ⟨⟨p++q⟩⟩)=a')
 (h:CoReach P S Ψ (b.at a' (.inRegion ops rest::kk)) cs w):CoReach P S Ψ (b.at a (.inRegion ops (i::rest)::kk)) cs w:=by
 subst ha
 refine CoReach.opv hC (by rw[hop];rfl) ho (by simp[Region.wanted,hw]) hk fun τ dd=>⟨.string ⟨⟨p++q⟩⟩,w.re τ dd,?_,?_⟩
 ·unfold execOp
  rw[hop]
  dsimp only
  rw[hx,hy]
  simp[binOp,str_app,go_sem,hl]
 ·rw[hd];exact h.re rfl
theorem at7r_0:(r7 Tryz.f7)[0]? =some (or7 Tryz.f7 0):=by kernel_rfl
theorem at7r_1:(r7 Tryz.f7)[1]? =some (or7 Tryz.f7 1):=by kernel_rfl
theorem at7r_2:(r7 Tryz.f7)[2]? =some (or7 Tryz.f7 2):=by kernel_rfl
theorem at7r_3:(r7 Tryz.f7)[3]? =some (or7 Tryz.f7 3):=by kernel_rfl
theorem at7r_4:(r7 Tryz.f7)[4]? =some (or7 Tryz.f7 4):=by kernel_rfl
theorem op7r_0:(or7 Tryz.f7 0).op= .move (.tmp 12):=by kernel_rfl
theorem op7r_1:(or7 Tryz.f7 1).op= .move (.tmp 13):=by kernel_rfl
theorem op7r_2:(or7 Tryz.f7 2).op= .binOp .add 9 (.tmp 47) (.tmp 48) 9:=by kernel_rfl
theorem op7r_3:(or7 Tryz.f7 3).op= .move (.tmp 9):=by kernel_rfl
theorem op7r_4:(or7 Tryz.f7 4).op= .call { callee:= .value (.func 18),args:=#[.tmp 49,.tmp 50],argTypes:=#[9,3] }:=by kernel_rfl
theorem gd7r_0:(or7 Tryz.f7 0).guard=none:=by kernel_rfl
theorem gd7r_1:(or7 Tryz.f7 1).guard=none:=by kernel_rfl
theorem gd7r_2:(or7 Tryz.f7 2).guard=none:=by kernel_rfl
theorem gd7r_3:(or7 Tryz.f7 3).guard=none:=by kernel_rfl
theorem gd7r_4:(or7 Tryz.f7 4).guard=none:=by kernel_rfl
theorem ds7r_0:(or7 Tryz.f7 0).dst=some 47:=by kernel_rfl
theorem ds7r_1:(or7 Tryz.f7 1).dst=some 48:=by kernel_rfl
theorem ds7r_2:(or7 Tryz.f7 2).dst=some 49:=by kernel_rfl
theorem ds7r_3:(or7 Tryz.f7 3).dst=some 50:=by kernel_rfl
theorem ds7r_4:((r7 Tryz.f7)[4]?).bind (·.dst)=some 51:=by kernel_rfl
theorem ok7q:([5,6,7,8,9,10,11].all fun i=>((r7 Tryz.f7)[i]?).all fun o=>okOp Tryz.prog Fz Sz o.op)=true:=by kernel_rfl
section
variable {Ψ:CoGoal} {w w9:World}
set_option maxRecDepth 100000 in
set_option maxHeartbeats 8000000 in
theorem CoReach.deep3 {n dep kind:Int}{K D:Nat}{o c s t:List UInt8}{v25 v26 v27 v28 v29 v30 v31 v32 v33 v34 v38 v39 v40 v41 v42 v43 v44 v45:Value}(hD:D≤30)(hs:s.length≤200)(ht:t.length≤200)(ho:o.length≤2)(hgood:GoodText (s++t) D)(hread:∃ nodes,readN (s++t) D=some (nodes,if K≤D then((s++t).length,0) else(o.length*D,6)))(hb:HeapB w w9)
 (h:∀ w' a todo,a.defers=[]→a.tmps.getD 6 undef= .bool true→HeapB w w'→CoReach Tryz.prog Sz Ψ (outFr (base 7) a todo) [] w'):
 CoReach Tryz.prog Sz Ψ ((base 7).at ⟨#[.int .i64 n,.int .i64 dep,.int .i64 kind,undef,undef,undef,.bool false,.bool true,.int .i64 (K:Nat),.int .i64 (D:Nat),.string ⟨⟨o⟩⟩,.string ⟨⟨c⟩⟩,.string ⟨⟨s⟩⟩,.string ⟨⟨t⟩⟩,.int .i64 (K:Nat),undef,undef,undef,.bool true,.bool true,.bool false,.int .i64 n,.int .i64 (K:Nat),.int .i64 dep,.int .i64 (D:Nat),v25,v26,v27,v28,v29,v30,v31,v32,v33,v34,.int .i64 (K:Nat),.int .i64 (K:Nat),.bool false,v38,v39,v40,v41,v42,v43,v44,v45,undef,undef,undef,undef,undef,undef,undef,undef,undef,undef,undef,undef,undef,undef,undef,undef,undef,undef,undef,undef,undef,undef,undef,undef,undef,undef,undef,undef,undef,undef,undef,undef,undef],[]⟩ [.code (q7 Tryz.f7 10)]) [] w9:=by
 have mixed:Tryz.prog.follows Departure.mixedOrders=true:=by kernel_rfl
 have HB9:Hid (HeapB w w9):=hb
 have HH:Hid _:=h
 have HG:Hid _:=hgood
 have HR:Hid _:=hread
 clear hb h hgood hread
 rw[q7_10]
 refine CoReach.seq ?_
 refine CoReach.region ?_
 rw[len7r,show List.range 12=[0,1,2,3,4,5,6,7,8,9,10,11] from rfl]
 refine CoReach.move' cloz at7r_0 gd7r_0 (by decide) op7r_0 ds7r_0 (a':=⟨#[.int .i64 n,.int .i64 dep,.int .i64 kind,undef,undef,undef,.bool false,.bool true,.int .i64 (K:Nat),.int .i64 (D:Nat),.string ⟨⟨o⟩⟩,.string ⟨⟨c⟩⟩,.string ⟨⟨s⟩⟩,.string ⟨⟨t⟩⟩,.int .i64 (K:Nat),undef,undef,undef,.bool true,.bool true,.bool false,.int .i64 n,.int .i64 (K:Nat),.int .i64 dep,.int .i64 (D:Nat),v25,v26,v27,v28,v29,v30,v31,v32,v33,v34,.int .i64 (K:Nat),.int .i64 (K:Nat),.bool false,v38,v39,v40,v41,v42,v43,v44,v45,undef,.string ⟨⟨s⟩⟩,undef,undef,undef,undef,undef,undef,undef,undef,undef,undef,undef,undef,undef,undef,undef,undef,undef,undef,undef,undef,undef,undef,undef,undef,undef,undef,undef,undef,undef,undef,undef],[]⟩) (by simp[Act.eval,Act.put]) ?_
 refine CoReach.move' cloz at7r_1 gd7r_1 (by decide) op7r_1 ds7r_1 (a':=⟨#[.int .i64 n,.int .i64 dep,.int .i64 kind,undef,undef,undef,.bool false,.bool true,.int .i64 (K:Nat),.int .i64 (D:Nat),.string ⟨⟨o⟩⟩,.string ⟨⟨c⟩⟩,.string ⟨⟨s⟩⟩,.string ⟨⟨t⟩⟩,.int .i64 (K:Nat),undef,undef,undef,.bool true,.bool true,.bool false,.int .i64 n,.int .i64 (K:Nat),.int .i64 dep,.int .i64 (D:Nat),v25,v26,v27,v28,v29,v30,v31,v32,v33,v34,.int .i64 (K:Nat),.int .i64 (K:Nat),.bool false,v38,v39,v40,v41,v42,v43,v44,v45,undef,.string ⟨⟨s⟩⟩,.string ⟨⟨t⟩⟩,undef,undef,undef,undef,undef,undef,undef,undef,undef,undef,undef,undef,undef,undef,undef,undef,undef,undef,undef,undef,undef,undef,undef,undef,undef,undef,undef,undef,undef,undef],[]⟩) (by simp[Act.eval,Act.put]) ?_
 refine CoReach.addS cloz at7r_2 gd7r_2 (by decide) (p:=s) (q:=t) op7r_2 (by simp[Act.eval]) (by simp[Act.eval]) (by omega) ds7r_2 (a':=⟨#[.int .i64 n,.int .i64 dep,.int .i64 kind,undef,undef,undef,.bool false,.bool true,.int .i64 (K:Nat),.int .i64 (D:Nat),.string ⟨⟨o⟩⟩,.string ⟨⟨c⟩⟩,.string ⟨⟨s⟩⟩,.string ⟨⟨t⟩⟩,.int .i64 (K:Nat),undef,undef,undef,.bool true,.bool true,.bool false,.int .i64 n,.int .i64 (K:Nat),.int .i64 dep,.int .i64 (D:Nat),v25,v26,v27,v28,v29,v30,v31,v32,v33,v34,.int .i64 (K:Nat),.int .i64 (K:Nat),.bool false,v38,v39,v40,v41,v42,v43,v44,v45,undef,.string ⟨⟨s⟩⟩,.string ⟨⟨t⟩⟩,.string ⟨⟨s++t⟩⟩,undef,undef,undef,undef,undef,undef,undef,undef,undef,undef,undef,undef,undef,undef,undef,undef,undef,undef,undef,undef,undef,undef,undef,undef,undef,undef,undef,undef,undef],[]⟩) (by simp[Act.put]) ?_
 refine CoReach.move' cloz at7r_3 gd7r_3 (by decide) op7r_3 ds7r_3 (a':=⟨#[.int .i64 n,.int .i64 dep,.int .i64 kind,undef,undef,undef,.bool false,.bool true,.int .i64 (K:Nat),.int .i64 (D:Nat),.string ⟨⟨o⟩⟩,.string ⟨⟨c⟩⟩,.string ⟨⟨s⟩⟩,.string ⟨⟨t⟩⟩,.int .i64 (K:Nat),undef,undef,undef,.bool true,.bool true,.bool false,.int .i64 n,.int .i64 (K:Nat),.int .i64 dep,.int .i64 (D:Nat),v25,v26,v27,v28,v29,v30,v31,v32,v33,v34,.int .i64 (K:Nat),.int .i64 (K:Nat),.bool false,v38,v39,v40,v41,v42,v43,v44,v45,undef,.string ⟨⟨s⟩⟩,.string ⟨⟨t⟩⟩,.string ⟨⟨s++t⟩⟩,.int .i64 (D:Nat),undef,undef,undef,undef,undef,undef,undef,undef,undef,undef,undef,undef,undef,undef,undef,undef,undef,undef,undef,undef,undef,undef,undef,undef,undef,undef,undef,undef],[]⟩) (by simp[Act.eval,Act.put]) ?_
 refine CoReach.enter' (f:=18) (xs:=#[.tmp 49,.tmp 50]) (ats:=#[9,3]) (args:=#[.string ⟨⟨s++t⟩⟩,.int .i64 (D:Nat)]) at7r_4 gd7r_4 (by decide) op7r_4 bd18 nm18 (by simp[okX]) (by simp[Act.eval]) ?_
 refine CoReach.top' (fun dp hd hdp=>by
  obtain rfl:dp=D:=by omega
  exact HG.out) ds7r_4 (a':=fun v=>⟨#[.int .i64 n,.int .i64 dep,.int .i64 kind,undef,undef,undef,.bool false,.bool true,.int .i64 (K:Nat),.int .i64 (D:Nat),.string ⟨⟨o⟩⟩,.string ⟨⟨c⟩⟩,.string ⟨⟨s⟩⟩,.string ⟨⟨t⟩⟩,.int .i64 (K:Nat),undef,undef,undef,.bool true,.bool true,.bool false,.int .i64 n,.int .i64 (K:Nat),.int .i64 dep,.int .i64 (D:Nat),v25,v26,v27,v28,v29,v30,v31,v32,v33,v34,.int .i64 (K:Nat),.int .i64 (K:Nat),.bool false,v38,v39,v40,v41,v42,v43,v44,v45,undef,.string ⟨⟨s⟩⟩,.string ⟨⟨t⟩⟩,.string ⟨⟨s++t⟩⟩,.int .i64 (D:Nat),v,undef,undef,undef,undef,undef,undef,undef,undef,undef,undef,undef,undef,undef,undef,undef,undef,undef,undef,undef,undef,undef,undef,undef,undef,undef,undef,undef],[]⟩) (fun v=>by simp[Act.put]) fun v w2 hpost=>?_
 obtain⟨hb2,nodes,at_,er,nv,svs,hr,rfl,hn⟩:=hpost
 obtain⟨nodes',hr'⟩:=HR.out
 rw[hr'] at hr
 simp only[Option.some.injEq,Prod.mk.injEq] at hr
 obtain⟨-,he⟩:=hr
 have HB2:Hid (HeapB w w2):=HB9.out.trans hb2
 obtain⟨na,nc,rfl⟩:=ownsRow_slice hn.1
 clear HB9 hb2 HG HR hr' hn
 refine CoReach.ops cloz rfl ⟨_,fz7⟩ rfl ok7q 5 ((r7 Tryz.f7).toList.drop 5) (by rw[List.length_drop,Array.length_toList,len7r];rfl) (fun j=>by rw[List.getElem?_drop,Array.getElem?_toList]) fun τ' d'=>?_
 have HB3:Hid (HeapB w (w2.re τ' d')):=HeapB.heap HB2.out rfl
 clear HB2
 generalize w2.re τ' d'=w3 at *
 generalize hkk:([.code (q7 Tryz.f7 11)]:List Item)=kq
 dsimp only[r7,p7,q7,c7,Ren.opsC,Ren.fstC,Ren.sndC,Tryz.f7,Option.getD]
 simp only[List.drop_succ_cons,List.drop_zero]
 go_wp2_with fail
 subst hkk
 show CoReach _ _ _ _ _ _
 refine CoReach.code cloz ok7_11 rfl ⟨_,fz7⟩ rfl fun τ d=>?_
 have HB4:Hid (HeapB w (w3.re τ d)):=HeapB.heap HB3.out rfl
 clear HB3
 generalize w3.re τ d=w4 at *
 dsimp only[q7,c7,Ren.fstC,Ren.sndC,Tryz.f7,Option.getD]
 by_cases hKD:K≤D
 ·rw[if_pos hKD] at he
  simp only[Prod.mk.injEq,List.length_append] at he
  obtain⟨h1,rfl⟩:=he
  subst h1
  go_wp2_with fail
  show ∀ todo,CoReach _ _ _ _ _ _
  intro todo
  exact HH.out _ _ todo rfl (by simp<;>first|done|omega) (HeapB.heap HB4.out rfl)
 ·rw[if_neg hKD] at he
  simp only[Prod.mk.injEq] at he
  obtain⟨h1,rfl⟩:=he
  subst h1
  go_wp2_with fail
  show ∀ todo,CoReach _ _ _ _ _ _
  intro todo
  have hm:((o.length:Int)*(D:Int))≤60:=by
   have:o.length*D≤2*30:=Nat.mul_le_mul ho hD
   exact_mod_cast this
  have hm0:(0:Int)≤(o.length:Int)*(D:Int):=by exact_mod_cast Nat.zero_le (o.length*D)
  generalize hz:(o.length:Int)*(D:Int)=z at hm hm0
  have hw:wrap64 z=z:=by unfold wrap64;omega
  exact HH.out _ _ todo rfl (by simp[hz,hw]) (HeapB.heap HB4.out rfl)
end
theorem chk_of {o c:List UInt8}(h:(List.range 40).all (chkK o c)=true){K D:Nat}(hK:K<40)(hD:D<31):chkT (gatherP ((deepT o c K).length + 1) (deepT o c K) 0) (deepT o c K).length o.length K D=true:=by
 have h1:=List.all_eq_true.1 h K (List.mem_range.2 hK)
 unfold chkK at h1
 exact List.all_eq_true.1 h1 D (List.mem_range.2 hD)
theorem deepT_len {o c:List UInt8}{K:Nat}(hK:K<40)(ho:o.length≤2)(hc:c.length≤2):(List.replicate K o).flatten.length≤200∧(120::(List.replicate K c).flatten).length≤200∧(deepT o c K).length≤400:=by
 have h1:K*o.length≤40*2:=Nat.mul_le_mul (by omega) ho
 have h2:K*c.length≤40*2:=Nat.mul_le_mul (by omega) hc
 have e1:=flat_len o K
 have e2:=flat_len c K
 refine⟨by omega,by simp only[List.length_cons];omega,?_⟩
 unfold deepT
 simp only[List.length_append,List.length_cons]
 omega
section
variable {Ψ:CoGoal} {w:World}
theorem CoReach.deep {n dep kind:Int}(n1: -9223372036854775808≤n)(n2:n≤9223372036854775807)(d1: -9223372036854775808≤dep)(d2:dep≤9223372036854775807)(k1: -9223372036854775808≤kind)(k2:kind≤9223372036854775807)(hp:YtlhimdjkkiflhaaGreatDoor.Pow w)
 (h:∀ w' a todo,a.defers=[]→a.tmps.getD 6 undef= .bool true→HeapB w w'→CoReach Tryz.prog Sz Ψ (outFr (base 7) a todo) [] w'):
 CoReach Tryz.prog Sz Ψ (Frame.enter Tryz.prog 7 #[.int .i64 n,.int .i64 dep,.int .i64 kind] .normal) [] w:=by
 refine CoReach.deep0 hp fun w1 hb1=>?_
 obtain⟨K,hK,eK⟩:∃ K:Nat,K<40∧pickI n 40=K:=⟨(pickI n 40).toNat,by have:=pickI_ge (c:=n) (n:=40);have:=pickI_lt (c:=n) (n:=40) (by omega);omega,by have:=pickI_ge (c:=n) (n:=40);omega⟩
 obtain⟨D,hD,eD⟩:∃ D:Nat,D<31∧pickI dep 31=D:=⟨(pickI dep 31).toNat,by have:=pickI_ge (c:=dep) (n:=31);have:=pickI_lt (c:=dep) (n:=31) (by omega);omega,by have:=pickI_ge (c:=dep) (n:=31);omega⟩
 have hn:∀ w,Calls Tryz.prog 17 #[.int .i64 n,.int .i64 40] w fun e w'=>e= .returned (.int .i64 (K:Nat))∧w'=w:=fun w=>by rw[←eK];exact pick_any n 40 w n1 n2 (by omega) (by omega)
 have hd:∀ w,Calls Tryz.prog 17 #[.int .i64 dep,.int .i64 31] w fun e w'=>e= .returned (.int .i64 (D:Nat))∧w'=w:=fun w=>by rw[←eD];exact pick_any dep 31 w d1 d2 (by omega) (by omega)
 have hk:∀ w,Calls Tryz.prog 17 #[.int .i64 kind,.int .i64 3] w fun e w'=>e= .returned (.int .i64 (pickI kind 3))∧w'=w:=fun w=>pick_any kind 3 w k1 k2 (by omega) (by omega)
 have hq:pickI kind 3=0∨pickI kind 3=1∨pickI kind 3=2:=by have:=pickI_ge (c:=kind) (n:=3);have:=pickI_lt (c:=kind) (n:=3) (by omega);omega
 rcases hq with hq|hq|hq<;>rw[hq] at hk
 ·obtain⟨l1,l2,l3⟩:=deepT_len (o:=[40]) (c:=[41]) hK (by decide) (by decide)
  refine CoReach.deep1_0 hn hd hk hb1 fun w2 _ _ _ _ _ _ _ _ _ _ hb2=>?_
  refine CoReach.deep2 (o:=[40]) (c:=[41]) (by omega) (by decide) (by decide) hb2 fun w3 _ _ _ _ _ _ _ _ hb3=>?_
  exact CoReach.deep3 (by omega) l1 l2 (by decide) (fun d s' hr=>goodT_good (chkT_good (chk_of deep_list hK hD)) d s' hr) (chkT_read (t:=deepT [40] [41] K) l3 (by omega) (chk_of deep_list hK hD)) hb3 h
 ·obtain⟨l1,l2,l3⟩:=deepT_len (o:=[35,40]) (c:=[41]) hK (by decide) (by decide)
  refine CoReach.deep1_1 hn hd hk hb1 fun w2 _ _ _ _ _ _ _ _ _ _ hb2=>?_
  refine CoReach.deep2 (o:=[35,40]) (c:=[41]) (by omega) (by decide) (by decide) hb2 fun w3 _ _ _ _ _ _ _ _ hb3=>?_
  exact CoReach.deep3 (by omega) l1 l2 (by decide) (fun d s' hr=>goodT_good (chkT_good (chk_of deep_vec hK hD)) d s' hr) (chkT_read (t:=deepT [35,40] [41] K) l3 (by omega) (chk_of deep_vec hK hD)) hb3 h
 ·obtain⟨l1,l2,l3⟩:=deepT_len (o:=[39]) (c:=[]) hK (by decide) (by decide)
  refine CoReach.deep1_2 hn hd hk hb1 fun w2 _ _ _ _ _ _ _ _ _ _ hb2=>?_
  refine CoReach.deep2 (o:=[39]) (c:=[]) (by omega) (by decide) (by decide) hb2 fun w3 _ _ _ _ _ _ _ _ hb3=>?_
  exact CoReach.deep3 (by omega) l1 l2 (by decide) (fun d s' hr=>goodT_good (chkT_good (chk_of deep_quote hK hD)) d s' hr) (chkT_read (t:=deepT [39] [] K) l3 (by omega) (chk_of deep_quote hK hD)) hb3 h
end
theorem getD_rn (a:Act)(ρ:Rn)(i:Nat):(a.rn ρ).tmps.getD i undef=rv ρ (a.tmps.getD i undef):=by
 simp only[Act.rn,Array.getD_eq_getD_getElem?,Array.getElem?_map]
 cases a.tmps[i]?<;>simp[rv_undef]
theorem init7:Tryz.prog.inits.idxOf? 7=none:=by kernel_rfl
theorem pow_heap {w w':World}(h:YtlhimdjkkiflhaaGreatDoor.Pow w)(e:w'.heap[1]? =w.heap[1]?):YtlhimdjkkiflhaaGreatDoor.Pow w':=by
 have g:Tryz.prog.globalNamed "internal/strconv.uint64pow10" =some 1:=by kernel_rfl
 unfold YtlhimdjkkiflhaaGreatDoor.Pow Lib.TabIs World.var? at h ⊢
 rw[g] at h ⊢
 simp only[Option.bind_some] at h ⊢
 rw[e];exact h
theorem deep_runs {W:World}{n dep kind:Int}{Post:Value→World→Prop}(hb:Tryz.prog.globals.size≤W.heap.size)(hl:∀ r o,r<4→W.heap[r]? =some o→NewOk o∧∀ ρ:Rn,ro ρ o=o)(hp:YtlhimdjkkiflhaaGreatDoor.Pow W)
 (n1: -9223372036854775808≤n)(n2:n≤9223372036854775807)(d1: -9223372036854775808≤dep)(d2:dep≤9223372036854775807)(k1: -9223372036854775808≤kind)(k2:kind≤9223372036854775807)
 (hPost:∀ W':World,W'.tape=W.tape→W'.os=W.os→W'.output=W.output→W.heap.size≤W'.heap.size→(∀ b,b<W.heap.size→W'.heap[b]? =W.heap[b]?)→Post (.bool true) W'):
 ∃ N last o w' t',runNT Tryz.prog (N+1) (solo (G (Frame.enter Tryz.prog 7 #[.int .i64 n,.int .i64 dep,.int .i64 kind] .normal) []) W) #[]=(.ended o w',t')∧runN Tryz.prog N (solo (G (Frame.enter Tryz.prog 7 #[.int .i64 n,.int .i64 dep,.int .i64 kind] .normal) []) W)= .next last∧step Tryz.prog last= .ended o w'∧Conc.Good Tryz.prog Post last o w' t':=by
 have hS0:Sim Tryz.prog Sz (extR idR Tryz.prog.globals.size W.heap.size) (pw1 Tryz.prog Sz W) W:=pw1_sim (by rw[gsz];decide) (by rw[gsz];decide) hb fun r o _ h2 ho=>hl r o (by rw[gsz] at h2;exact h2) ho
 have hP0:YtlhimdjkkiflhaaGreatDoor.Pow (pw1 Tryz.prog Sz W):=pow_heap hp (pw1_live hb (by decide) (by rw[gsz];decide))
 have key:=runs_of_co (Post:=Post) (f:=7) (args:=#[.int .i64 n,.int .i64 dep,.int .i64 kind]) hS0 (fun v hv=>by
  simp at hv
  rcases hv with rfl|rfl|rfl<;>simp[rv]) (CoReach.deep n1 n2 d1 d2 k1 k2 hP0 fun w' a todo hd h6 hB=>CoReach.last (v:= .bool true) rfl hd fz7 init7 (fun ρ W'=>(results_tmp res7 _ _ _).trans (by rw[getD_rn,h6];simp[rv])) (fun ρ W'=>by simp[results,go_sem]) fun W' ρ hO hS hρ=>hPost W' hO.tape hO.os hO.output hO.size fun b hb'=>old_all hS0 hO hS hρ (fun r hr=>hB.2 r hr) hb')
 have e:(#[.int .i64 n,.int .i64 dep,.int .i64 kind]:Array Value).map (rv (extR idR Tryz.prog.globals.size W.heap.size))=#[.int .i64 n,.int .i64 dep,.int .i64 kind]:=by simp[rv]
 rw[e] at key
 exact key
end Go.Ren
namespace Go.Ren
open Go Go.Conc
variable {H:Type} {enc:TypeId×Value→H}
theorem leaving_of_row {a:Assume}{C:Checked}{os:Os}{f:FuncId}{fn:Func}{s:ChangeSpec}{conds:List PathCond}{apart fresh handsOn again:Bool}{laid:List (String×DataW Unit)}
 (own:ownKnob C.prog.godebug=none)(started:os.Started)(hfn:C.prog.funcs[f]? =some fn)
 (witness:∃ (w:World) (tape:Tape) (i:Input),w.os=os∧(w.forCall tape i).Shaped C.prog∧i.vars=[]∧Input.okWide C.prog (w.forCall tape i) .any w.heap.size f i∧
   (OpenSpec.ofChange s).preRow enc C.prog fn conds apart laid (w.forCall tape i).memory i.args∧a.holds C.prog (lone (Frame.enter C.prog f i.args .normal) [] (w.forCall tape i)))
 (runs:∀ (W:World) (base:Nat) (args:Array Value) (ds gs:List (DataW H)) (before:List MemPlace),
   (∀ (j:Nat) t v,fn.params[j]? =some t→args[j]? =some v→Value.okWide C.prog W .any base t v)→
   DataW.Whole enc C.prog fn.params.toList s.vars apart W args.toList ds gs before→
   (DataW.weightsEach C.prog (fn.params.toList++(OpenSpec.ofChange s).bare.plain.varTypes C.prog) (ds++gs)).all (·≤reachBytes)=true→
   laidMetH C.prog laid W→
   W.ShapedOpen C.prog→
   ∃ M last o w' t',runNT C.prog (M+1) (solo (G (Frame.enter C.prog f args .normal) []) W) #[]=(.ended o w',t')∧runN C.prog M (solo (G (Frame.enter C.prog f args .normal) []) W)= .next last∧
     step C.prog last= .ended o w'∧Conc.Good C.prog (fun v W'=>s.post enc C.prog fn apart fresh handsOn again W args v W') last o w' t'):
 ReturnsInLeavingWide a C os f .any ((OpenSpec.ofChange s).preRow enc C.prog fn conds apart laid) (s.post enc C.prog fn apart fresh handsOn again):=by
 refine returnsInLeavingWide_of_good own started witness ?_
 intro w tape i _ hsh _ hok hpre hholds
 obtain⟨_,_,_,fn',hfn',_,_,_,_,hval⟩:=hok
 have e:fn'=fn:=Option.some.inj (hfn'.symm.trans hfn)
 subst e
 obtain⟨⟨hp,hl⟩,hz⟩:=hpre
 obtain⟨ds,gs,before,hw,hc,hk⟩:=OpenSpec.pre_parts hp
 have hw':=DataW.Whole.of_heap (w':=w.forCall tape i) (by rfl) hw
 obtain⟨M,last,o,w',t',h1,h2,h3,h4⟩:=runs (w.forCall tape i) w.heap.size i.args ds gs before hval hw' (hz.weights hw) (hl.of_heap (by rfl)) hsh
 exact⟨M,last,o,w',t',h1,h2,h3,h4.mono fun v hp=>ChangeSpec.post_blind hp⟩
theorem tied_goes (Lk:Looks){p:Pinned}{s:OpenSpec}{c:OpenClaim}(kinds:List LaidKind)(tests:Bool)(har:Bool×String)(lk:Bool)
 (hc:c.holds p s)(hw:c.wfByText s=true)(htie:c.laidByTextAt Lk p kinds tests)
 (hst:c.start= .entering)(hnb:c.noBlocks=false∧c.again=false)(hm:p.checked.prog.mainIs=some (har.1,har.2.toList))(hn:(!har.1&&har.2.isEmpty&&!lk)=false)
 (hl:∀ f fn,p.checked.prog.funcNamed c.func=some f→p.checked.prog.funcs[f]? =some fn→lk=p.checked.prog.looks []∧∀ (j:Nat) t,fn.params[j]? =some t→p.checked.prog.wantsStandIn t=false)
 (hg:true=c.goesBy p.checked.prog):
 Claim7.holds p (.plain s) { stood:={ row:=c,standIns:=[],harness:=har,looks:=lk },kinds:=[],alts:=[],goes:=true,laidByText:=true,laidKinds:=kinds,laidTests:=tests,laidLooks:=Lk }:=by
 have h6:∀ r:OpenClaim,Claim7.isSixth { stood:={ row:=r,standIns:=[],harness:=har,looks:=lk },kinds:=[] }=false:=fun r=>by simpa[Claim7.isSixth] using hn
 exact⟨Claim7.tied_new_at Lk kinds tests (Claim7.new_of_sixth hc har lk hst hnb hm (h6 c) hl) hw,fun D hD=>by(cases hD),htie,(fun h=>by cases h),hg⟩
end Go.Ren
namespace Go.Proofs.YtlhimdjkkiflhaaGreatDoor
open Go.ChangeShapes Go.WideShapes Go.ChangeAt Go.RowKit Go.Loop Go.Ren
theorem gPow:Tryz.prog.globalNamed "internal/strconv.uint64pow10" =some 1:=by kernel_rfl
theorem g32:Tryz.prog.globalNamed "math/bits.deBruijn32tab" =some 2:=by kernel_rfl
theorem g64:Tryz.prog.globalNamed "math/bits.deBruijn64tab" =some 3:=by kernel_rfl
theorem gPowType:(Tryz.prog.globals[1]?).map (·.type)=some 300:=by kernel_rfl
theorem g32Type:(Tryz.prog.globals[2]?).map (·.type)=some 306:=by kernel_rfl
theorem g64Type:(Tryz.prog.globals[3]?).map (·.type)=some 307:=by kernel_rfl
theorem cellsPow:Tryz.prog.cellsOf 300=20:=by kernel_rfl
theorem cells32:Tryz.prog.cellsOf 306=32:=by kernel_rfl
theorem cells64:Tryz.prog.cellsOf 307=64:=by kernel_rfl
theorem cellsU64:Tryz.prog.cellsOf 137=1:=by kernel_rfl
theorem cellsU8:Tryz.prog.cellsOf 5=1:=by kernel_rfl
theorem own:ownKnob Tryz.prog.godebug=none:=by kernel_rfl
def tab32:List Int:=[0,1,28,2,29,14,24,3,30,22,20,15,25,17,4,8,31,27,13,23,21,19,16,7,26,12,18,6,11,5,10,9]
def tab64:List Int:=[0,1,56,2,57,49,28,3,61,58,42,50,38,29,17,4,62,47,59,36,45,43,51,22,53,39,33,30,24,18,12,5,63,55,48,27,60,41,37,16,46,35,44,21,52,32,23,11,54,26,40,15,34,20,31,10,25,14,19,9,13,8,7,6]
theorem tabs_of_laid {W:World}(h:laidMetH Tryz.prog Rows.deepRow.laid W):
 Pow W∧W.var? Tryz.prog "math/bits.deBruijn32tab" =some (tab32.map (Value.int .u8)).toArray∧W.var? Tryz.prog "math/bits.deBruijn64tab" =some (tab64.map (Value.int .u8)).toArray:=by
 have h':laidMet Tryz.prog Rows.deepRow.laid W:=h
 obtain⟨ps,hl,_,_⟩:=h'
 obtain⟨g1,t1,cs1,fuel1,p1,q1,hg1,ht1,hvar1,hd1,hl2,_⟩:=hl
 obtain⟨g2,t2,cs2,fuel2,p2,q2,hg2,ht2,hvar2,hd2,hl3,_⟩:=hl2
 obtain⟨g',t',cs,fuel,p,q,hg',ht',hvar,hd,_,_⟩:=hl3
 obtain rfl:=Option.some.inj (gPow.symm.trans hg')
 obtain rfl:=Option.some.inj (gPowType.symm.trans ht')
 obtain rfl:=Option.some.inj (g32.symm.trans hg1)
 obtain rfl:=Option.some.inj (g32Type.symm.trans ht1)
 obtain rfl:=Option.some.inj (g64.symm.trans hg2)
 obtain rfl:=Option.some.inj (g64Type.symm.trans ht2)
 refine⟨?_,?_,?_⟩
 ·show Lib.TabIs _ _ _ _ _
  unfold Lib.TabIs
  rw[hvar,←Lib.cells_of_tab (k:= .u64) (zs:=Lib.pow10Tab) Tryz.underlying300 Tryz.underlying137 cellsU64 cellsPow hd]
 ·rw[hvar1,←Lib.cells_of_tab (k:= .u8) (zs:=tab32) Tryz.underlying306 Tryz.underlying5 cellsU8 cells32 hd1]
 ·rw[hvar2,←Lib.cells_of_tab (k:= .u8) (zs:=tab64) Tryz.underlying307 Tryz.underlying5 cellsU8 cells64 hd2]
theorem tab_bare {W:World}{name:String}{g:Nat}{k:IntKind}{zs:List Int}{o:Obj}(hg:Tryz.prog.globalNamed name=some g)(h:W.var? Tryz.prog name=some (zs.map (Value.int k)).toArray)(ho:W.heap[g]? =some o):NewOk o∧∀ ρ:Rn,ro ρ o=o:=by
 unfold World.var? at h
 rw[hg] at h
 simp only[Option.bind_some,ho] at h
 cases o with
 |cells c t f=>
  simp only[Option.some.injEq] at h
  subst h
  refine⟨trivial,fun ρ=>?_⟩
  show Obj.cells (Array.map (rv ρ) _) t f=_
  rw[map_fix.2 fun x hx=>?_]
  obtain⟨z,_,rfl⟩:=List.mem_map.1 (List.mem_toArray.1 hx)
  simp[rv]
 |_=>cases h
theorem cell_int {P:Program}{w:World}{r:Reach}{b:Nat}{t:TypeId}{v:Value}{k:IntKind}(ht:P.underlying t=some (.int k))(h:Cell.ok P w r b t v):∃ n,v= .int k n:=by
 unfold Cell.ok at h
 rw[ht] at h
 cases v<;>first|exact h.elim|skip
 obtain⟨rfl,_⟩:=h
 exact⟨_,rfl⟩
theorem ct3:Tryz.prog.cellTypes Tryz.prog.depth 3=some [3]:=by kernel_rfl
theorem row0:((begin Tryz.prog (fun _ _=>0) default).world.heap[0]?).bind Obj.row? =some (#[.int .i64 0],3):=by kernel_rfl
theorem bd3:Tryz.prog.buildable 3=true:=by kernel_rfl
set_option maxRecDepth 100000 in
theorem zero_bare {W:World}(h:W.ShapedOpen Tryz.prog){o:Obj}(ho:W.heap[0]? =some o):NewOk o∧∀ ρ:Rn,ro ρ o=o:=by
 obtain⟨cs,h1,_,h2⟩:=h.1 0 _ _ (by rw[gsz];decide) row0
 obtain⟨ts,h3,_,h4⟩:=h2 bd3
 rw[ct3] at h3
 cases h3
 rw[h1] at ho
 cases ho
 refine⟨trivial,fun ρ=>?_⟩
 show Obj.cells (cs.map (rv ρ)) 3 _=_
 rw[map_fix.2 fun x hx=>?_]
 obtain⟨i,hi⟩:=Array.mem_iff_getElem?.1 hx
 obtain⟨u,hu,hc⟩:=h4 i x hi
 have hu3:u=3:=by
  have:([3]:List TypeId)[i%1]? =some u:=hu
  rw[Nat.mod_one] at this
  simpa using this.symm
 subst hu3
 obtain⟨n,rfl⟩:=cell_int Tryz.underlying3 hc
 simp[rv]
theorem tables_bare {W:World}(hsh:W.ShapedOpen Tryz.prog)(hp:Pow W)(h32:W.var? Tryz.prog "math/bits.deBruijn32tab" =some (tab32.map (Value.int .u8)).toArray)(h64:W.var? Tryz.prog "math/bits.deBruijn64tab" =some (tab64.map (Value.int .u8)).toArray)(r:Nat)(o:Obj)(h4:r<4)(ho:W.heap[r]? =some o):NewOk o∧∀ ρ:Rn,ro ρ o=o:=by
 have hr:r=0∨r=1∨r=2∨r=3:=by omega
 rcases hr with rfl|rfl|rfl|rfl
 ·exact zero_bare hsh ho
 ·exact tab_bare gPow hp ho
 ·exact tab_bare g32 h32 ho
 ·exact tab_bare g64 h64 ho
theorem size_of_tab {W:World}(h64:W.var? Tryz.prog "math/bits.deBruijn64tab" =some (tab64.map (Value.int .u8)).toArray):Tryz.prog.globals.size≤W.heap.size:=by
 rw[gsz]
 rcases Nat.lt_or_ge 3 W.heap.size with h|h
 ·exact h
 ·unfold World.var? at h64
  rw[g64] at h64
  simp only[Option.bind_some,Array.getElem?_eq_none h] at h64
  cases h64
def putCells (cs:Array Value):Obj→Obj
 | .cells _ t frozen=> .cells cs t frozen
 |o=>o
def tabW (P:Program)(os:Os):World:={ World.holding P os ⟨#[],#[],[]⟩ with heap:=(((World.holding P os ⟨#[],#[],[]⟩).heap.modify 1 (putCells (Lib.pow10Tab.map (Value.int .u64)).toArray)).modify 2 (putCells (tab32.map (Value.int .u8)).toArray)).modify 3 (putCells (tab64.map (Value.int .u8)).toArray) }
theorem deep_met (os:Os):laidMet Tryz.prog Rows.deepRow.laid ((tabW Tryz.prog os).forCall (fun _ _=>0) ⟨#[],#[.int .i64 0,.int .i64 0,.int .i64 0],[]⟩).memory:=
 laidMet_of_run' 8 (by kernel_rfl) (by kernel_rfl)
theorem deep_reads (os:Os){H:Type}(enc:TypeId×Value→H):∃ places,DataW.whole enc Tryz.prog ((tabW Tryz.prog os).forCall (fun _ _=>0) ⟨#[],#[.int .i64 0,.int .i64 0,.int .i64 0],[]⟩).memory Tryz.f7.params.toList Rows.deepSpec.vars false #[Value.int .i64 0,.int .i64 0,.int .i64 0].toList 8=some ([.lit (.int .i64 0),.lit (.int .i64 0),.lit (.int .i64 0)],[],places):=
 ⟨[],by kernel_rfl⟩
theorem wf_i64 {n:Int}(h:(Lit.int .i64 n).wf=true): -9223372036854775808≤n∧n≤9223372036854775807:=by
 have e:IntKind.i64.min=-9223372036854775808:=rfl
 have h':=h
 simp only[Lit.wf] at h'
 simpa[e] using h'
set_option maxRecDepth 100000 in
theorem deep_lifted (os:Os)(started:os.Started)(H:Type)(enc:TypeId×Value→H):
 ReturnsInLeavingWide {} Tryz.checked os 7 .any ((OpenSpec.ofChange Rows.deepSpec).preRow enc Tryz.prog Tryz.f7 Rows.deepRow.domain false Rows.deepRow.laid) (Rows.deepSpec.post enc Tryz.prog Tryz.f7 false true false false):=by
 obtain⟨places,hx⟩:=deep_reads os enc
 refine leaving_of_row (C:=Tryz.checked) own started Tryz.func7
  (witness_row_at (enc:=enc) (C:=Tryz.checked) false (tabW Tryz.prog os) #[.int .i64 0,.int .i64 0,.int .i64 0] rfl (by kernel_rfl) (by kernel_rfl) (by kernel_rfl)
    (OpenSpec.preRow_of_cond 8 hx (by kernel_rfl) (fun k hk=>by cases hk) (by kernel_rfl) (deep_met os))) ?_
 intro W base args ds gs before hval hW _ hL hsh
 have hval:∀ (j:Nat) t v,Tryz.f7.params[j]? =some t→args[j]? =some v→Value.okWide Tryz.prog W .any base t v:=hval
 have hW':=hW
 obtain⟨p,q,hA0,hV,rfl,hfz,hnd⟩:=hW
 have hA:DataW.TrodAll enc Tryz.prog W 0 (fun _=>true) true Tryz.f7.params.toList args.toList ds p:=hA0
 rw[Tryz.params7] at hA hval
 obtain⟨v0,v1,v2,d0,d1,d2,p0,p1,p2,rfl,rfl,rfl,h0,h1,h2⟩:=trodAll_three hA
 obtain⟨rfl,rfl⟩:=trodVars_none hV
 obtain⟨n,rfl,rfl,rfl,w0⟩:=open_int Tryz.underlying3 (hval 0 3 v0 rfl rfl) h0
 obtain⟨dep,rfl,rfl,rfl,w1⟩:=open_int Tryz.underlying3 (hval 1 3 v1 rfl rfl) h1
 obtain⟨kind,rfl,rfl,rfl,w2⟩:=open_int Tryz.underlying3 (hval 2 3 v2 rfl rfl) h2
 obtain⟨n1,n2⟩:=wf_i64 w0
 obtain⟨e1,e2⟩:=wf_i64 w1
 obtain⟨k1,k2⟩:=wf_i64 w2
 obtain⟨hp,h32,h64⟩:=tabs_of_laid hL
 have hgs:Tryz.prog.globals.size≤W.heap.size:=size_of_tab h64
 refine deep_runs hgs (tables_bare hsh hp h32 h64) hp n1 n2 e1 e2 k1 k2 fun W' ht ho hu hsz hold=>?_
 have hb:Below W.heap.size W W':=⟨ho,ht,hu,hsz,hold⟩
 refine⟨_,_,_,[],[],[],hW',trodAll_mk1 (shut_bool Tryz.underlying4 _),?_,rfl,hb.frame _,fun h=>by cases h⟩
 have:=trodAll_mk3 (enc:=enc) (P:=Tryz.prog) (w:=W') (base:=0) (spare:=fun b=>decide (b<W.heap.size)) (held:=true) (shut_int Tryz.underlying3 w0) (shut_int Tryz.underlying3 w1) (shut_int Tryz.underlying3 w2)
 exact this
theorem deep_said:Rows.DeepSaid:=
 OpenClaim.holds_of_wide_leaving 7 Tryz.f7 rfl rfl rfl rfl rfl rfl rfl ⟨rfl,rfl,rfl,rfl,rfl⟩ rfl rfl rfl rfl rfl (by kernel_rfl) Tryz.func7 (by kernel_rfl)
  (of_decide_eq_true (by kernel_rfl)) (by unfold Func.isWrapper;first|(rw[if_pos (by decide +kernel)];kernel_rfl)|(rw[if_neg (by decide +kernel)];exact⟨rfl,rfl⟩))
  (fun os started H enc _=>by rw[OpenClaim.pre_eq_preRow];exact deep_lifted os started H enc)
theorem deep_plain (f:FuncId)(fn:Func)(hf:Tryz.pinned.checked.prog.funcNamed Rows.deepRow.func=some f)(hfn:Tryz.pinned.checked.prog.funcs[f]? =some fn):
 true=Tryz.pinned.checked.prog.looks []∧∀ (j:Nat) t,fn.params[j]? =some t→Tryz.pinned.checked.prog.wantsStandIn t=false:=by
 obtain rfl:f=7:=Option.some.inj ((show Tryz.prog.funcNamed Rows.deepRow.func=some 7 by kernel_rfl).symm.trans hf) |>.symm
 obtain rfl:fn=Tryz.f7:=(Option.some.inj (Tryz.func7.symm.trans hfn)).symm
 refine⟨by kernel_rfl,fun j t ht=>?_⟩
 rw[Tryz.params7] at ht
 have hm:t∈[3,3,3]:=by simpa using Array.mem_of_getElem? ht
 have hall:([3,3,3].all fun u=>!Tryz.prog.wantsStandIn u)=true:=by kernel_rfl
 exact(show Tryz.prog.wantsStandIn t=false by simpa using List.all_eq_true.1 hall t hm)
theorem deep_card:Rows.DeepCardSaid:=
 tied_goes .later _ _ _ _ deep_said (by kernel_rfl) deep_row_tie rfl ⟨rfl,rfl⟩ (by kernel_rfl) rfl deep_plain (by kernel_rfl)
end Go.Proofs.YtlhimdjkkiflhaaGreatDoor
#print axioms Go.Proofs.YtlhimdjkkiflhaaGreatDoor.deep_card
