import Derived.Test.YtlhimdjkkiflhaaGreatDoorCut33
import Derived.Test.YtlhimdjkkiflhaaGreatDoorCut35
set_option maxHeartbeats 8000000
set_option maxRecDepth 100000
namespace Go.Ren
open Go Go.Conc Go.ConcX Go.RowKit Go.Proofs Go.Loop Go.Proofs.YtlhimdjkkiflhaaGreatDoor
def gJ (zs:List Int):List Nat:=(zs.take 20).map λz=>(j8 z 7).toNat
theorem xM (zs:List Int):(gJ zs).length=min 20 zs.length:=by simp[gJ]
theorem RP (zs:List Int):∀p∈gJ zs,p<7:=λp hp=>by
 obtain⟨z,_,rfl⟩:=zaH.1 hp;have:=oF (c:=z) (n:=7);have:=xD (c:=z) (n:=7) (by omega);omega
theorem J5 (zs:List Int)(k:Nat)(h1:k<20)(h2:k<zs.length):(gJ zs).take (k+1)=(gJ zs).take k++[(j8 (zs.getD k 0) 7).toNat]:=by
 have hk:(gJ zs)[k]?=some (j8 (zs.getD k 0) 7).toNat:=by
  simp only[gJ,zbt,List.getElem?_take,if_pos h1,zbG,zai h2];rfl
 rw[List.take_add_one,hk];rfl
theorem J6 (ps:List Nat)(p:Nat):ai (ps++[p])=ai ps++cX p:=by simp[ai,bN]
section
variable {Ψ:bq}{w w1:World}
end
end Go.Ren
namespace Go.Ren
open Go.Proofs.Tryz
open Go Go.Conc Go.ConcX Go.RowKit Go.Proofs Go.Loop Go.Proofs.YtlhimdjkkiflhaaGreatDoor
def Nu:Code→Code
 |.block _ c=>c
 |c=>c
def Bi:Code→Code
 |.loop c=>c
 |c=>c
def l6i (f:Func):Code:=Ren.cJ (p6 f 4)
def Hr (f:Func):Code:=Bi (Nu (Ren.cd (p6 f 4)))
def J7 (f:Func):Array Oper:=Ren.gB (Ren.cJ (Ren.cJ (Hr f)))
def Bt (f:Func):Array Oper:=Ren.gB (Nu (Ren.cJ (Ren.cd (Hr f))))
def l6n (f:Func):Code:=Ren.cd (Ren.cd (Hr f))
def Hs (f:Func)(i:Nat):Oper:=(J7 f)[i]!
def qH (f:Func)(i:Nat):Oper:=(Bt f)[i]!
theorem ab5:p6 Tryz.f6 4=.seq (l6i Tryz.f6) (.block 0 (.loop (Hr Tryz.f6))):=by kernel_rfl
theorem F2:Hr Tryz.f6=.seq (.seq (.region 6 (J7 Tryz.f6) false) (.cond (.tmp 28) .skip (.exit 0))) (.seq (.block 1 (.region 8 (Bt Tryz.f6) false)) (l6n Tryz.f6)):=by kernel_rfl
theorem aah:bh prog Fz Sz (l6i Tryz.f6)=true:=by kernel_rfl
theorem aai:bh prog Fz Sz (l6n Tryz.f6)=true:=by kernel_rfl
theorem ab6 (X eA eE eB:Value):iw (jq X eA eE eB) (l6i Tryz.f6)=true:=by kernel_rfl
theorem ab7 (X eA eE eB:Value):iw (jq X eA eE eB) (l6n Tryz.f6)=true:=by kernel_rfl
theorem Th:(J7 Tryz.f6).size=8:=by kernel_rfl
theorem Ti:(Bt Tryz.f6).size=11:=by kernel_rfl
theorem ab8:([3,4,5,6,7].all λi=>((J7 Tryz.f6)[i]?).all λo=>eN prog Fz Sz o.op)=true:=by kernel_rfl
theorem ab9 (X eA eE eB:Value):([3,4,5,6,7].all λi=>((J7 Tryz.f6)[i]?).all (fw (jq X eA eE eB) (J7 Tryz.f6)))=true:=by kernel_rfl
theorem aca:([6,7,8,9,10].all λi=>((Bt Tryz.f6)[i]?).all λo=>eN prog Fz Sz o.op)=true:=by kernel_rfl
theorem acb (X eA eE eB:Value):([6,7,8,9,10].all λi=>((Bt Tryz.f6)[i]?).all (fw (jq X eA eE eB) (Bt Tryz.f6)))=true:=by kernel_rfl
theorem VA:(J7 Tryz.f6)[0]?=some (Hs Tryz.f6 0):=by kernel_rfl
theorem VB:(Hs Tryz.f6 0).op=.move (.tmp 7):=by kernel_rfl
theorem VC:(Hs Tryz.f6 0).guard=none:=by kernel_rfl
theorem VD:(Hs Tryz.f6 0).dst=some 21:=by kernel_rfl
theorem VE:eN prog Fz Sz (Hs Tryz.f6 0).op=true:=by kernel_rfl
theorem VF (X eA eE eB:Value):fw (jq X eA eE eB) (J7 Tryz.f6) (Hs Tryz.f6 0)=true:=by kernel_rfl
theorem VG:(J7 Tryz.f6)[1]?=some (Hs Tryz.f6 1):=by kernel_rfl
theorem VH:(Hs Tryz.f6 1).op=.move (.tmp 0):=by kernel_rfl
theorem VI:(Hs Tryz.f6 1).guard=none:=by kernel_rfl
theorem VJ:(Hs Tryz.f6 1).dst=some 22:=by kernel_rfl
theorem VK:(J7 Tryz.f6)[2]?=some (Hs Tryz.f6 2):=by kernel_rfl
theorem Nv:(Hs Tryz.f6 2).op=.call { callee:= .builtin .len,args:=#[.tmp 22],argTypes:=#[43] }:=by kernel_rfl
theorem VL:(Hs Tryz.f6 2).guard=none:=by kernel_rfl
theorem VM:(Hs Tryz.f6 2).dst=some 23:=by kernel_rfl
theorem VN:(Bt Tryz.f6)[0]?=some (qH Tryz.f6 0):=by kernel_rfl
theorem VO:(qH Tryz.f6 0).op=.move (.tmp 6):=by kernel_rfl
theorem VP:(qH Tryz.f6 0).guard=none:=by kernel_rfl
theorem VQ:(qH Tryz.f6 0).dst=some 31:=by kernel_rfl
theorem VR:eN prog Fz Sz (qH Tryz.f6 0).op=true:=by kernel_rfl
theorem VS (X eA eE eB:Value):fw (jq X eA eE eB) (Bt Tryz.f6) (qH Tryz.f6 0)=true:=by kernel_rfl
theorem VT:(Bt Tryz.f6)[1]?=some (qH Tryz.f6 1):=by kernel_rfl
theorem VU:(qH Tryz.f6 1).op=.buildSlice 46 7 #[(0,.const (.string { data:=#[32,98,99] })),(1,.const (.string { data:=#[32,40,100,32,101,41] })),(2,.const (.string { data:=#[32,35,40,102,41] })),(3,.const (.string { data:=#[32,39,103] })),(4,.const (.string { data:=#[32,40,104,32,46,32,105,41] })),(5,.const (.string { data:=#[10,59,32,106,10] })),(6,.const (.string { data:=#[32,45] }))]:=by kernel_rfl
theorem VW:(qH Tryz.f6 1).guard=none:=by kernel_rfl
theorem VX:(qH Tryz.f6 1).dst=some 32:=by kernel_rfl
theorem VY:eN prog Fz Sz (qH Tryz.f6 1).op=true:=by kernel_rfl
theorem Nw (X eA eE eB:Value):fw (jq X eA eE eB) (Bt Tryz.f6) (qH Tryz.f6 1)=true:=by kernel_rfl
theorem VZ:(Bt Tryz.f6)[2]?=some (qH Tryz.f6 2):=by kernel_rfl
theorem V0:(qH Tryz.f6 2).op=.move (.tmp 0):=by kernel_rfl
theorem V1:(qH Tryz.f6 2).guard=none:=by kernel_rfl
theorem V2:(qH Tryz.f6 2).dst=some 33:=by kernel_rfl
theorem V3:(Bt Tryz.f6)[3]?=some (qH Tryz.f6 3):=by kernel_rfl
theorem V4:(qH Tryz.f6 3).op=.move (.tmp 7):=by kernel_rfl
theorem V5:(qH Tryz.f6 3).guard=none:=by kernel_rfl
theorem V6:(qH Tryz.f6 3).dst=some 34:=by kernel_rfl
theorem V7:eN prog Fz Sz (qH Tryz.f6 3).op=true:=by kernel_rfl
theorem V8 (X eA eE eB:Value):fw (jq X eA eE eB) (Bt Tryz.f6) (qH Tryz.f6 3)=true:=by kernel_rfl
theorem V9:(Bt Tryz.f6)[4]?=some (qH Tryz.f6 4):=by kernel_rfl
theorem Nx:(qH Tryz.f6 4).op=.indexAddr 43 (.tmp 33) (.tmp 34):=by kernel_rfl
theorem Wa:(qH Tryz.f6 4).guard=none:=by kernel_rfl
theorem Wb:(qH Tryz.f6 4).dst=some 35:=by kernel_rfl
theorem Wc:(Bt Tryz.f6)[5]?=some (qH Tryz.f6 5):=by kernel_rfl
theorem Wd:(qH Tryz.f6 5).op=.load 3 (.tmp 35):=by kernel_rfl
theorem We:(qH Tryz.f6 5).guard=none:=by kernel_rfl
theorem Wh:(qH Tryz.f6 5).dst=some 36:=by kernel_rfl
section
variable {Ψ:bq}{w:World}
theorem bg.Wi {v21 v23 v24 v25 v26 v27 v28 v29 v30 v31 v32 v34 v36 v37 v38 v39 v40 eA eE eB:Value}{sa:Option Addr}{len cap k:Nat}{cut:Int}{ls:List UInt8}{w1:World}{kk:List Item}(acd:k≤20)(hb:aI w w1)
 (h:∀w' v21 v23 v24 v25 v26 v27,aI w w'→bg prog Sz Ψ (base 6) (jq (.slice sa len cap) (.slice sa len cap) eE eB) ⟨#[undef,.int .i64 cut,undef,undef,.bool false,.bool true,.string ⟨⟨ls⟩⟩,.int .i64 (k:Nat),undef,undef,undef,undef,undef,undef,undef,undef,undef,undef,.bool true,.bool true,.bool false,v21,undef,v23,v24,v25,v26,v27,.bool (decide (k<len)&&decide (k<20)),v29,v30,v31,v32,undef,v34,undef,v36,v37,v38,v39,v40,undef,undef,undef,undef,undef,undef,undef,undef,undef,undef,undef,undef,undef,undef,undef,undef,undef,undef,undef,undef,undef,undef,undef,undef,undef,undef,undef,undef,undef,undef,undef,undef,undef,undef,undef,undef,undef,undef,undef,undef,undef,undef,undef,undef,undef,undef,undef,undef,undef,undef,undef,undef,undef,undef,undef,undef,undef,undef,undef,undef,undef,undef,undef,undef],[]⟩ kk w'):
 bg prog Sz Ψ (base 6) (jq (.slice sa len cap) eA eE eB) ⟨#[undef,.int .i64 cut,undef,undef,.bool false,.bool true,.string ⟨⟨ls⟩⟩,.int .i64 (k:Nat),undef,undef,undef,undef,undef,undef,undef,undef,undef,undef,.bool true,.bool true,.bool false,v21,undef,v23,v24,v25,v26,v27,v28,v29,v30,v31,v32,undef,v34,undef,v36,v37,v38,v39,v40,undef,undef,undef,undef,undef,undef,undef,undef,undef,undef,undef,undef,undef,undef,undef,undef,undef,undef,undef,undef,undef,undef,undef,undef,undef,undef,undef,undef,undef,undef,undef,undef,undef,undef,undef,undef,undef,undef,undef,undef,undef,undef,undef,undef,undef,undef,undef,undef,undef,undef,undef,undef,undef,undef,undef,undef,undef,undef,undef,undef,undef,undef,undef,undef],[]⟩ (.code (.region 6 (J7 Tryz.f6) false)::kk) w1:=by
 have mixed:prog.follows Departure.mixedOrders=true:=by kernel_rfl
 have HH:Hid _:=h;have k8:Hid (aI w w1):=hb;clear h hb;refine bg.region ?_;rw[Th,show List.range 8=[0,1,2,3,4,5,6,7] from rfl];refine bg.NV dV VA VC (by decide) VE (VF _ _ _ _) (.int .i64 (k:Nat)) (λw' _=>by simp[execOp,VB,Act.eval]) VD rfl ?_;refine bg.mvS (DO:=jq (.slice sa len cap) (.slice sa len cap) eE eB) VG VI (by decide) (X:= .slice sa len cap) VH (λB hB=>mK [] _ 0 _ rfl (by rw[hB];simp[Act.put])) VJ (λB=>wx [(0,_)] [(33,_),(35,_)] 22 _ _ rfl B) ?_;refine bg.yX VK VL (by decide) (X:= .int .i64 (len:Nat)) (λρ=>by simp[rv]) (λρ W=>?_) (λρ W=>?_) VM rfl rfl ?_
 ·exact(Te Nv (mK [(0,_)] _ 22 _ rfl (by rw[oY];simp[Act.put])) W).1
 ·exact(Te Nv (mK [(0,_)] _ 22 _ rfl (by rw[oY];simp[Act.put])) W).2
 refine bg.ops dV rfl ⟨_,FU⟩ rfl ab8 (ab9 _ _ _ _) 3 ((J7 Tryz.f6).toList.drop 3) (by rw[zah,zbh,Th];rfl) (λj=>by rw[zaQ,zaR]) λnA d'=>?_;have iz:Hid (aI w (w1.re nA d')):=aI.heap k8.out rfl;clear k8;generalize w1.re nA d'=w3 at *;dsimp only[J7,Hr,Bi,Nu,o6,p6,q6,c6,Ren.gB,Ren.cJ,Ren.cd,Tryz.f6,Option.getD];simp only[zaX,zaJ];by_cases hlt:k<len
 ·have e20:decide ((k:Int)<20)=decide (k<20):=by simp only[decide_eq_decide];omega
  go_wp2_with fail;show bg _ _ _ _ _ _ _ _;have:=HH.out;simp only[hlt,decide_true,zaW]at this;exact this _ _ _ _ _ _ _ iz.out
 ·go_wp2_with fail;show bg _ _ _ _ _ _ _ _;have:=HH.out;simp only[hlt,decide_false,Bool.false_and]at this;exact this _ _ _ _ _ _ _ iz.out
end
section
variable {Ψ:bq}{w:World}
theorem bg.ace {v21 v23 v24 v25 v26 v27 v28 v29 v30 v31 v32 v34 v36 v37 v38 v39 v40 eA eE eB:Value}{b o len cap k:Nat}{z:Int}{q:Nat}{cut:Int}{ls:List UInt8}{w1:World}{kk:List Item}(_hmax:len≤9223372036854775807)(hlt:k<len)(acd:k<20)(hl:ls.length≤2+8*k)(hq:q<7)(gl:∀w',aI w w'→Iu Sz Ψ w' ⟨b,o+k,none⟩ (.int .i64 z))(Ny:∀w,Calls prog 17 #[.int .i64 z,.int .i64 7] w λe w'=>e=.returned (.int .i64 (q:Nat))∧w'=w)(hb:aI w w1)
 (h:∀w' v29 v30 v31 v32 v34 v36 v37 v38 v39 v40,aI w w'→bg prog Sz Ψ (base 6) (jq (.slice (some ⟨b,o,none⟩) len cap) eA (.slice (some ⟨b,o,none⟩) len cap) (.pointer (some ⟨b,o+k,none⟩))) ⟨#[undef,.int .i64 cut,undef,undef,.bool false,.bool true,.string ⟨⟨ls++cX q⟩⟩,.int .i64 (k:Nat),undef,undef,undef,undef,undef,undef,undef,undef,undef,undef,.bool true,.bool true,.bool false,v21,undef,v23,v24,v25,v26,v27,v28,v29,v30,v31,v32,undef,v34,undef,v36,v37,v38,v39,v40,undef,undef,undef,undef,undef,undef,undef,undef,undef,undef,undef,undef,undef,undef,undef,undef,undef,undef,undef,undef,undef,undef,undef,undef,undef,undef,undef,undef,undef,undef,undef,undef,undef,undef,undef,undef,undef,undef,undef,undef,undef,undef,undef,undef,undef,undef,undef,undef,undef,undef,undef,undef,undef,undef,undef,undef,undef,undef,undef,undef,undef,undef,undef,undef],[]⟩ kk w'):
 bg prog Sz Ψ (base 6) (jq (.slice (some ⟨b,o,none⟩) len cap) eA eE eB) ⟨#[undef,.int .i64 cut,undef,undef,.bool false,.bool true,.string ⟨⟨ls⟩⟩,.int .i64 (k:Nat),undef,undef,undef,undef,undef,undef,undef,undef,undef,undef,.bool true,.bool true,.bool false,v21,undef,v23,v24,v25,v26,v27,v28,v29,v30,v31,v32,undef,v34,undef,v36,v37,v38,v39,v40,undef,undef,undef,undef,undef,undef,undef,undef,undef,undef,undef,undef,undef,undef,undef,undef,undef,undef,undef,undef,undef,undef,undef,undef,undef,undef,undef,undef,undef,undef,undef,undef,undef,undef,undef,undef,undef,undef,undef,undef,undef,undef,undef,undef,undef,undef,undef,undef,undef,undef,undef,undef,undef,undef,undef,undef,undef,undef,undef,undef,undef,undef,undef,undef],[]⟩ (.code (.region 8 (Bt Tryz.f6) false)::kk) w1:=by
 have mixed:prog.follows Departure.mixedOrders=true:=by kernel_rfl
 have ks:=Hm;have HH:Hid _:=h;have k8:Hid (aI w w1):=hb;have HPk:Hid _:=Ny;clear h hb Ny;refine bg.region ?_;rw[Ti,show List.range 11=[0,1,2,3,4,5,6,7,8,9,10] from rfl];refine bg.NV dV VN VP (by decide) VR (VS _ _ _ _) (.string ⟨⟨ls⟩⟩) (λw' _=>by simp[execOp,VO,Act.eval]) VQ rfl ?_;refine bg.BP dV VY VT (λρ=>by simp[Region.wanted,VW]) (by decide) (jF (Nw undef undef undef undef)).2.1 (jF (Nw (.slice (some ⟨b,o,none⟩) len cap) eA eE eB)).1 VX rfl λτ d=>⟨.slice (some ⟨w1.heap.size,0,none⟩) 7 7,(w1.re τ d).alloc (.cells #[.string ⟨#[32,98,99]⟩,.string ⟨#[32,40,100,32,101,41]⟩,.string ⟨#[32,35,40,102,41]⟩,.string ⟨#[32,39,103]⟩,.string ⟨#[32,40,104,32,46,32,105,41]⟩,.string ⟨#[10,59,32,106,10]⟩,.string ⟨#[32,45]⟩] 9),?_,?_⟩
 ·unfold execOp;simp[VU,Act.eval,go_sem];rfl
 have ij:Hid (aI w ((w1.re τ d).alloc (.cells #[.string ⟨#[32,98,99]⟩,.string ⟨#[32,40,100,32,101,41]⟩,.string ⟨#[32,35,40,102,41]⟩,.string ⟨#[32,39,103]⟩,.string ⟨#[32,40,104,32,46,32,105,41]⟩,.string ⟨#[10,59,32,106,10]⟩,.string ⟨#[32,45]⟩] 9))):=k8.out.trans ((show aI w1 (w1.re τ d) from⟨zaa _,λ_ _=>rfl⟩).trans (aI.of ((Below.refl _ _).alloc (zaa _) _)));have HX:Hid (((w1.re τ d).alloc (.cells #[.string ⟨#[32,98,99]⟩,.string ⟨#[32,40,100,32,101,41]⟩,.string ⟨#[32,35,40,102,41]⟩,.string ⟨#[32,39,103]⟩,.string ⟨#[32,40,104,32,46,32,105,41]⟩,.string ⟨#[10,59,32,106,10]⟩,.string ⟨#[32,45]⟩] 9)).heap[w1.heap.size]?=some (.cells #[.string ⟨#[32,98,99]⟩,.string ⟨#[32,40,100,32,101,41]⟩,.string ⟨#[32,35,40,102,41]⟩,.string ⟨#[32,39,103]⟩,.string ⟨#[32,40,104,32,46,32,105,41]⟩,.string ⟨#[10,59,32,106,10]⟩,.string ⟨#[32,45]⟩] 9)):=by
  show(w1.heap.push _)[w1.heap.size]?=_;simp
 generalize hw2:(w1.re τ d).alloc (.cells #[.string ⟨#[32,98,99]⟩,.string ⟨#[32,40,100,32,101,41]⟩,.string ⟨#[32,35,40,102,41]⟩,.string ⟨#[32,39,103]⟩,.string ⟨#[32,40,104,32,46,32,105,41]⟩,.string ⟨#[10,59,32,106,10]⟩,.string ⟨#[32,45]⟩] 9)=w2 at *;generalize w1.heap.size=p at *;clear hw2 k8;refine bg.mvS (DO:=(jq (.slice (some ⟨b,o,none⟩) len cap) eA (.slice (some ⟨b,o,none⟩) len cap) eB)) VZ V1 (by decide) (X:=(.slice (some ⟨b,o,none⟩) len cap)) V0 (λB hB=>mK [] _ 0 _ rfl (by rw[hB];simp[Act.put])) V2 (λB=>wx [(0,_),(22,_)] [(35,_)] 33 _ _ rfl B) ?_;refine bg.NV dV V3 V5 (by decide) V7 (V8 _ _ _ _) (.int .i64 (k:Nat)) (λw' _=>by simp[execOp,V4,Act.eval,Act.put]) V6 rfl ?_;refine bg.XV (DO:=(jq (.slice (some ⟨b,o,none⟩) len cap) eA (.slice (some ⟨b,o,none⟩) len cap) (.pointer (some ⟨b,o+k,none⟩)))) V9 Wa (by decide) (X:=(.pointer (some ⟨b,o+k,none⟩))) (λρ W=>?_) (λρ W=>?_) Wb (λB=>wx [(0,_),(22,_),(33,_)] [] 35 _ _ rfl B) ?_
 ·exact(Tf Nx (mK [(0,_),(22,_)] _ 33 _ rfl (by rw[oY];simp[Act.put])) (Lm rfl (by simp[Act.eval,Act.put])) hlt W).1
 ·exact(Tf Nx (mK [(0,_),(22,_)] _ 33 _ rfl (by rw[oY];simp[Act.put])) (Lm rfl (by simp[Act.eval,Act.put])) hlt W).2
 refine bg.XW Wc We (by decide) Wd (ad:=⟨b,o+k,none⟩) (λρ=>mK [(0,_),(22,_),(33,_)] [] 35 _ rfl (by rw[oY];simp[Act.put])) (gl w2 ij.out) (λρ=>by simp[rv]) (Vu _ _) Wh rfl rfl ?_;refine bg.ops dV rfl ⟨_,FU⟩ rfl aca (acb _ _ _ _) 6 ((Bt Tryz.f6).toList.drop 6) (by rw[zah,zbh,Ti];rfl) (λj=>by rw[zaQ,zaR]) λnA d'=>?_;have iz:Hid (aI w (w2.re nA d')):=aI.heap ij.out rfl;have hX:(w2.re nA d').heap[p]?=some (.cells #[.string ⟨#[32,98,99]⟩,.string ⟨#[32,40,100,32,101,41]⟩,.string ⟨#[32,35,40,102,41]⟩,.string ⟨#[32,39,103]⟩,.string ⟨#[32,40,104,32,46,32,105,41]⟩,.string ⟨#[10,59,32,106,10]⟩,.string ⟨#[32,45]⟩] 9):=HX.out;clear ij HX;generalize w2.re nA d'=w3 at *;dsimp only[Bt,Hr,Bi,Nu,o6,p6,q6,c6,Ren.gB,Ren.cJ,Ren.cd,Tryz.f6,Option.getD];simp only[zaX,zaJ];go_wp2_with fail;refine Calls.mono (HPk.out _) ?_;rintro e w' ⟨rfl,hw⟩;rw[hw];clear hw;have hq7:q=0∨q=1∨q=2∨q=3∨q=4∨q=5∨q=6:=by omega
 have hp:p<w3.heap.size:=by
  rcases zag p w3.heap.size with h|h
  ·exact h
  ·rw[zaU h]at hX;cases hX
 clear hq;rcases hq7 with rfl|rfl|rfl|rfl|rfl|rfl|rfl
 all_goals
  have hc0:w3.cell? ⟨p,0,none⟩=some (.string ⟨#[32,98,99]⟩):=by simp[World.cell?,hX]
  have hc1:w3.cell? ⟨p,1,none⟩=some (.string ⟨#[32,40,100,32,101,41]⟩):=by simp[World.cell?,hX]
  have hc2:w3.cell? ⟨p,2,none⟩=some (.string ⟨#[32,35,40,102,41]⟩):=by simp[World.cell?,hX]
  have hc3:w3.cell? ⟨p,3,none⟩=some (.string ⟨#[32,39,103]⟩):=by simp[World.cell?,hX]
  have hc4:w3.cell? ⟨p,4,none⟩=some (.string ⟨#[32,40,104,32,46,32,105,41]⟩):=by simp[World.cell?,hX]
  have hc5:w3.cell? ⟨p,5,none⟩=some (.string ⟨#[10,59,32,106,10]⟩):=by simp[World.cell?,hX]
  have WW:w3.cell? ⟨p,6,none⟩=some (.string ⟨#[32,45]⟩):=by simp[World.cell?,hX]
  clear hX;go_wp2_with fail;show bg _ _ _ _ _ _ _ _;exact HH.out _ _ _ _ _ _ _ _ _ _ _ iz.out
end
section
variable {Ψ:bq}{w:World}
theorem bg.acf {sa:Option Addr}{len cap:Nat}{zs:List Int}{cut:Int}(yC:len≤9223372036854775807)(hlen:zs.length=len)(hz:∀j,j<len→-9223372036854775808≤zs.getD j 0∧zs.getD j 0≤9223372036854775807)
 (hcell:∀j,j<len→∃b o,sa=some ⟨b,o,none⟩∧∀w',aI w w'→Iu Sz Ψ w' ⟨b,o+j,none⟩ (.int .i64 (zs.getD j 0)))
 (h:∀w' eA eE eB v21 v23 v24 v25 v26 v27 v28 v29 v30 v31 v32 v34 v36 v37 v38 v39 v40,aI w w'→bg prog Sz Ψ (base 6) (jq (.slice sa len cap) eA eE eB) ⟨#[undef,.int .i64 cut,undef,undef,.bool false,.bool true,.string ⟨⟨ai (gJ zs)⟩⟩,.int .i64 ((gJ zs).length :Nat),undef,undef,undef,undef,undef,undef,undef,undef,undef,undef,.bool true,.bool true,.bool false,v21,undef,v23,v24,v25,v26,v27,v28,v29,v30,v31,v32,undef,v34,undef,v36,v37,v38,v39,v40,undef,undef,undef,undef,undef,undef,undef,undef,undef,undef,undef,undef,undef,undef,undef,undef,undef,undef,undef,undef,undef,undef,undef,undef,undef,undef,undef,undef,undef,undef,undef,undef,undef,undef,undef,undef,undef,undef,undef,undef,undef,undef,undef,undef,undef,undef,undef,undef,undef,undef,undef,undef,undef,undef,undef,undef,undef,undef,undef,undef,undef,undef,undef,undef],[]⟩ [.code (q6 Tryz.f6 5)] w'):
 ∀(m k:Nat) (v21 v23 v24 v25 v26 v27 v28 v29 v30 v31 v32 v34 v36 v37 v38 v39 v40 eA eE eB:Value) (ls:List UInt8) (w1:World),m+k=20→k≤len→ls.length≤2+8*k→ls=ai ((gJ zs).take k)→aI w w1→bg prog Sz Ψ (base 6) (jq (.slice sa len cap) eA eE eB) ⟨#[undef,.int .i64 cut,undef,undef,.bool false,.bool true,.string ⟨⟨ls⟩⟩,.int .i64 (k:Nat),undef,undef,undef,undef,undef,undef,undef,undef,undef,undef,.bool true,.bool true,.bool false,v21,undef,v23,v24,v25,v26,v27,v28,v29,v30,v31,v32,undef,v34,undef,v36,v37,v38,v39,v40,undef,undef,undef,undef,undef,undef,undef,undef,undef,undef,undef,undef,undef,undef,undef,undef,undef,undef,undef,undef,undef,undef,undef,undef,undef,undef,undef,undef,undef,undef,undef,undef,undef,undef,undef,undef,undef,undef,undef,undef,undef,undef,undef,undef,undef,undef,undef,undef,undef,undef,undef,undef,undef,undef,undef,undef,undef,undef,undef,undef,undef,undef,undef,undef],[]⟩ [.code (Hr Tryz.f6),.inLoop (Hr Tryz.f6),.inBlock 0,.code (q6 Tryz.f6 5)] w1:=by
 intro m
 induction m with
 |zero=>
  intro k v21 v23 v24 v25 v26 v27 v28 v29 v30 v31 v32 v34 v36 v37 v38 v39 v40 eA eE eB ls w1 hm hk hl hls hb;obtain rfl:k=20:=by omega
  rw[F2];refine bg.seq ?_;refine bg.seq ?_;refine bg.Wi (by omega) hb λw2 _ _ _ _ _ _ hb2=>?_;refine bg.cond (t:=false) rfl (by simp[Act.eval]) ?_;refine bg.exit (k':=[.code (q6 Tryz.f6 5)]) rfl ?_;have hn:(gJ zs).length=20:=by rw[xM];omega
  have e:ls=ai (gJ zs):=by rw[hls,zaI (by omega)]
  subst e;have:=h;rw[hn]at this;exact this _ _ _ _ _ _ _ _ _ _ _ _ _ _ _ _ _ _ _ _ _ hb2
 |succ m ih=>
  intro k v21 v23 v24 v25 v26 v27 v28 v29 v30 v31 v32 v34 v36 v37 v38 v39 v40 eA eE eB ls w1 hm hk hl hls hb;by_cases hlt:k<len
  ·obtain⟨b,o,rfl,hc⟩:=hcell k hlt;obtain⟨q,hq,eq⟩:∃q:Nat,q<7∧j8 (zs.getD k 0) 7=q:=⟨(j8 (zs.getD k 0) 7).toNat,by have:=oF (c:=zs.getD k 0) (n:=7);have:=xD (c:=zs.getD k 0) (n:=7) (by omega);omega,by have:=oF (c:=zs.getD k 0) (n:=7);omega⟩;have HN:(gJ zs).take (k+1)=(gJ zs).take k++[q]:=by
    have:=J5 zs k (by omega) (by omega);rw[eq]at this;exact this
   have hpl:=zI q;have HI:Hid (∀(v21 v23 v24 v25 v26 v27 v28 v29 v30 v31 v32 v34 v36 v37 v38 v39 v40 eA eE eB:Value) (w1:World),aI w w1→bg prog Sz Ψ (base 6) (jq (.slice (some ⟨b,o,none⟩) len cap) eA eE eB) ⟨#[undef,.int .i64 cut,undef,undef,.bool false,.bool true,.string ⟨⟨ls++cX q⟩⟩,.int .i64 (k+1:Nat),undef,undef,undef,undef,undef,undef,undef,undef,undef,undef,.bool true,.bool true,.bool false,v21,undef,v23,v24,v25,v26,v27,v28,v29,v30,v31,v32,undef,v34,undef,v36,v37,v38,v39,v40,undef,undef,undef,undef,undef,undef,undef,undef,undef,undef,undef,undef,undef,undef,undef,undef,undef,undef,undef,undef,undef,undef,undef,undef,undef,undef,undef,undef,undef,undef,undef,undef,undef,undef,undef,undef,undef,undef,undef,undef,undef,undef,undef,undef,undef,undef,undef,undef,undef,undef,undef,undef,undef,undef,undef,undef,undef,undef,undef,undef,undef,undef,undef,undef],[]⟩ [.code (Hr Tryz.f6),.inLoop (Hr Tryz.f6),.inBlock 0,.code (q6 Tryz.f6 5)] w1):=λv21 v23 v24 v25 v26 v27 v28 v29 v30 v31 v32 v34 v36 v37 v38 v39 v40 eA eE eB w1 hb=>ih (k+1) v21 v23 v24 v25 v26 v27 v28 v29 v30 v31 v32 v34 v36 v37 v38 v39 v40 eA eE eB (ls++cX q) w1 (by omega) (by omega) (by rw[zaw];omega) (by rw[HN,J6,hls]) hb;clear ih;have Ny:∀w,Calls prog 17 #[.int .i64 (zs.getD k 0),.int .i64 7] w λe w'=>e=.returned (.int .i64 (q:Nat))∧w'=w:=λw=>by rw[←eq];exact Dy _ 7 w (hz k hlt).1 (hz k hlt).2 (by omega) (by omega)
   generalize zs.getD k 0=z at hc Ny;clear h hcell hls HN hz hlen eq;have mixed:prog.follows Departure.mixedOrders=true:=by kernel_rfl
   generalize pZ:Hr Tryz.f6=bd at HI ⊢;generalize hkq:([.inLoop bd,.inBlock 0,.code (q6 Tryz.f6 5)]:List Item)=kq at HI ⊢;rw[←pZ,F2];refine bg.seq ?_;refine bg.seq ?_;refine bg.Wi (by omega) hb λw2 u21 u23 u24 u25 u26 u27 hb2=>?_;refine bg.cond (t:=true) rfl (by simp[Act.eval];omega) ?_;refine bg.skip ?_;refine bg.seq ?_;refine bg.block ?_;refine bg.ace yC hlt (by omega) hl hq hc Ny hb2 λw3 u29 u30 u31 u32 u34 u36 u37 u38 u39 u40 hb3=>?_;refine bg.inBlock ?_;refine bg.code dV aai (ab7 _ _ _ _) rfl ⟨_,FU⟩ rfl λτ d=>?_;have sk:Hid (aI w (w3.re τ d)):=aI.heap hb3 rfl;clear hb3 hb2 hb hc Ny hl hpl;generalize w3.re τ d=w4 at *;dsimp only[l6n,Hr,Bi,Nu,p6,q6,c6,Ren.cJ,Ren.cd,Tryz.f6,Option.getD];go_wp2_with fail;subst hkq;show bg _ _ _ _ _ _ _ _;refine bg.inLoop ?_;exact HI.out _ _ _ _ _ _ _ _ _ _ _ _ _ _ _ _ _ _ _ _ _ sk.out
  ·rw[F2];refine bg.seq ?_;refine bg.seq ?_;refine bg.Wi (by omega) hb λw2 _ _ _ _ _ _ hb2=>?_;refine bg.cond (t:=false) rfl (by simp[Act.eval];omega) ?_;refine bg.exit (k':=[.code (q6 Tryz.f6 5)]) rfl ?_;obtain rfl:k=len:=by omega
   have hn:(gJ zs).length=k:=by rw[xM];omega
   have e:ls=ai (gJ zs):=by rw[hls,zaI (by omega)]
   subst e;have:=h;rw[hn]at this;exact this _ _ _ _ _ _ _ _ _ _ _ _ _ _ _ _ _ _ _ _ _ hb2
theorem bg.acg {sa:Option Addr}{len cap:Nat}{zs:List Int}{cut:Int}{w1:World}(yC:len≤9223372036854775807)(hlen:zs.length=len)(hz:∀j,j<len→-9223372036854775808≤zs.getD j 0∧zs.getD j 0≤9223372036854775807)
 (hcell:∀j,j<len→∃b o,sa=some ⟨b,o,none⟩∧∀w',aI w w'→Iu Sz Ψ w' ⟨b,o+j,none⟩ (.int .i64 (zs.getD j 0)))(hb:aI w w1)
 (h:∀w' eA eE eB v21 v23 v24 v25 v26 v27 v28 v29 v30 v31 v32 v34 v36 v37 v38 v39 v40,aI w w'→bg prog Sz Ψ (base 6) (jq (.slice sa len cap) eA eE eB) ⟨#[undef,.int .i64 cut,undef,undef,.bool false,.bool true,.string ⟨⟨ai (gJ zs)⟩⟩,.int .i64 ((gJ zs).length :Nat),undef,undef,undef,undef,undef,undef,undef,undef,undef,undef,.bool true,.bool true,.bool false,v21,undef,v23,v24,v25,v26,v27,v28,v29,v30,v31,v32,undef,v34,undef,v36,v37,v38,v39,v40,undef,undef,undef,undef,undef,undef,undef,undef,undef,undef,undef,undef,undef,undef,undef,undef,undef,undef,undef,undef,undef,undef,undef,undef,undef,undef,undef,undef,undef,undef,undef,undef,undef,undef,undef,undef,undef,undef,undef,undef,undef,undef,undef,undef,undef,undef,undef,undef,undef,undef,undef,undef,undef,undef,undef,undef,undef,undef,undef,undef,undef,undef,undef,undef],[]⟩ [.code (q6 Tryz.f6 5)] w'):
 bg prog Sz Ψ (base 6) (jq (.slice sa len cap) undef undef undef) ⟨#[undef,.int .i64 cut,undef,undef,.bool false,.bool true,undef,undef,undef,undef,undef,undef,undef,undef,undef,undef,undef,undef,.bool true,undef,undef,undef,undef,undef,undef,undef,undef,undef,undef,undef,undef,undef,undef,undef,undef,undef,undef,undef,undef,undef,undef,undef,undef,undef,undef,undef,undef,undef,undef,undef,undef,undef,undef,undef,undef,undef,undef,undef,undef,undef,undef,undef,undef,undef,undef,undef,undef,undef,undef,undef,undef,undef,undef,undef,undef,undef,undef,undef,undef,undef,undef,undef,undef,undef,undef,undef,undef,undef,undef,undef,undef,undef,undef,undef,undef,undef,undef,undef,undef,undef,undef,undef,undef,undef,undef],[]⟩ [.code (q6 Tryz.f6 2)] w1:=by
 have mixed:prog.follows Departure.mixedOrders=true:=by kernel_rfl
 have k8:Hid (aI w w1):=hb;have HL:Hid (∀w1,aI w w1→_):=λw1 hb=>bg.acf yC hlen hz hcell h 20 0 undef undef undef undef undef undef undef undef undef undef undef undef undef undef undef undef undef undef undef undef [40,97] w1 rfl (zaj _) (by simp) rfl hb;clear hb h hcell hz;rw[abT];refine bg.seq ?_;refine bg.code dV Z0 (Z6 _ _ _ _) rfl ⟨_,FU⟩ rfl λτ d=>?_;have ij:Hid (aI w (w1.re τ d)):=aI.heap k8.out rfl;clear k8;generalize w1.re τ d=w2 at *;generalize gU:([.code (q6 Tryz.f6 3)]:List Item)=kq;dsimp only[p6,q6,c6,Ren.cJ,Ren.cd,Tryz.f6,Option.getD];go_wp2_with fail;subst gU;show bg _ _ _ _ _ _ _ _;rw[abU];refine bg.seq ?_;refine bg.code dV Z1 (Z7 _ _ _ _) rfl ⟨_,FU⟩ rfl λτ d=>?_;have iz:Hid (aI w (w2.re τ d)):=aI.heap ij.out rfl;clear ij;generalize w2.re τ d=w3 at *;generalize gU:([.code (q6 Tryz.f6 4)]:List Item)=kq;dsimp only[p6,q6,c6,Ren.cJ,Ren.cd,Tryz.f6,Option.getD];go_wp2_with fail;subst gU;show bg _ _ _ _ _ _ _ _;rw[abV];refine bg.seq ?_;rw[ab5];refine bg.seq ?_;refine bg.code dV aah (ab6 _ _ _ _) rfl ⟨_,FU⟩ rfl λτ d=>?_;have sk:Hid (aI w (w3.re τ d)):=aI.heap iz.out rfl;clear iz;generalize w3.re τ d=w4 at *;generalize gU:([.code (.block 0 (.loop (Hr Tryz.f6))),.code (q6 Tryz.f6 5)]:List Item)=kq;dsimp only[l6i,p6,q6,c6,Ren.cJ,Ren.cd,Tryz.f6,Option.getD];go_wp2_with fail;subst gU;show bg _ _ _ _ _ _ _ _;refine bg.block ?_;refine bg.loop ?_;exact HL.out _ sk.out
end
section
variable {Ψ:bq}{w w4:World}{X eA eE eB:Value}
theorem bg.ach {v7 v21 v23 v24 v25 v26 v27 v28 v29 v30 v31 v32 v34 v36 v37 v38 v39 v40:Value}{cut:Int}{s:List UInt8}{q:Nat}(hs:s.length≤200)(hq:q<s.length)(Ny:∀w,Calls prog 17 #[.int .i64 cut,.int .i64 (s.length:Nat)] w λe w'=>e=.returned (.int .i64 (q:Nat))∧w'=w)(hb:aI w w4)
 (h:∀w',aI w w'→bg prog Sz Ψ (base 6) (jq X eA eE eB) ⟨#[undef,.int .i64 cut,undef,undef,.bool false,.bool true,.string ⟨⟨s⟩⟩,v7,.int .i64 (1+(q:Int)),undef,undef,undef,undef,undef,undef,undef,undef,undef,.bool true,.bool true,.bool false,v21,undef,v23,v24,v25,v26,v27,v28,v29,v30,v31,v32,undef,v34,undef,v36,v37,v38,v39,v40,.int .i64 cut,.string ⟨⟨s⟩⟩,.int .i64 (s.length:Nat),.int .i64 (q:Nat),.int .i64 (1+(q:Int)),undef,undef,undef,undef,undef,undef,undef,undef,undef,undef,undef,undef,undef,undef,undef,undef,undef,undef,undef,undef,undef,undef,undef,undef,undef,undef,undef,undef,undef,undef,undef,undef,undef,undef,undef,undef,undef,undef,undef,undef,undef,undef,undef,undef,undef,undef,undef,undef,undef,undef,undef,undef,undef,undef,undef,undef,undef,undef,undef],[]⟩ [.code (q6 Tryz.f6 6)] w'):
 bg prog Sz Ψ (base 6) (jq X eA eE eB) ⟨#[undef,.int .i64 cut,undef,undef,.bool false,.bool true,.string ⟨⟨s⟩⟩,v7,undef,undef,undef,undef,undef,undef,undef,undef,undef,undef,.bool true,.bool true,.bool false,v21,undef,v23,v24,v25,v26,v27,v28,v29,v30,v31,v32,undef,v34,undef,v36,v37,v38,v39,v40,undef,undef,undef,undef,undef,undef,undef,undef,undef,undef,undef,undef,undef,undef,undef,undef,undef,undef,undef,undef,undef,undef,undef,undef,undef,undef,undef,undef,undef,undef,undef,undef,undef,undef,undef,undef,undef,undef,undef,undef,undef,undef,undef,undef,undef,undef,undef,undef,undef,undef,undef,undef,undef,undef,undef,undef,undef,undef,undef,undef,undef,undef,undef,undef],[]⟩ [.code (q6 Tryz.f6 5)] w4:=by
 have mixed:prog.follows Departure.mixedOrders=true:=by kernel_rfl
 have sk:Hid (aI w w4):=hb;have HH:Hid _:=h;have HPk:Hid _:=Ny;clear hb h Ny;rw[abW];refine bg.seq ?_;refine bg.code dV Z2 (Z8 _ _ _ _) rfl ⟨_,FU⟩ rfl λτ d=>?_;have A6:Hid (aI w (w4.re τ d)):=aI.heap sk.out rfl;clear sk;generalize w4.re τ d=w5 at *;generalize gU:([.code (q6 Tryz.f6 6)]:List Item)=kq;dsimp only[p6,q6,c6,Ren.cJ,Ren.cd,Tryz.f6,Option.getD];go_wp2_with fail;refine Calls.mono (HPk.out _) ?_;rintro e w' ⟨rfl,hw⟩;rw[hw];clear hw;go_wp2_with fail;subst gU;show bg _ _ _ _ _ _ _ _;exact HH.out _ A6.out
end
theorem J8 {o:Oper}{a:Act}{x y:Tmp}{s:List UInt8}{k:Nat}{z:Int}(hop:o.op=.slice 9 (.tmp x) none (some (.tmp y)) none)(hx:a.eval (.tmp x)=.string ⟨⟨s⟩⟩)(hy:a.eval (.tmp y)=.int .i64 z)(hz:z=(k:Int))(hl:k≤s.length)(w:World):(execOp a.eval o).run prog w=.ok (.value (.string ⟨⟨s.take k⟩⟩)) w:=by
 subst hz;have e:(ByteArray.mk (Array.mk s)).extract 0 k=⟨⟨s.take k⟩⟩:=by
  apply ByteArray.ext;simp[ByteArray.data_extract,List.extract_eq_take_drop]
 unfold execOp;rw[hop];dsimp only;simp only[zaM,Option.map_none,hx,hy];simp[go_sem,underlying9,e,hl]
theorem Ht {o:Oper}{a:Act}{x y:Operand}{p q:List UInt8}(hop:o.op=.binOp .add 9 x y 9)(hx:a.eval x=.string ⟨⟨p⟩⟩)(hy:a.eval y=.string ⟨⟨q⟩⟩)(hl:p.length+q.length≤1000000)(w:World):(execOp a.eval o).run prog w=.ok (.value (.string ⟨⟨p++q⟩⟩)) w:=by
 unfold execOp;rw[hop];dsimp only;rw[hx,hy];simp[binOp,Hm,go_sem];omega
section
variable {Ψ:bq}{w w4:World}{X eA eE eB:Value}
theorem bg.aci {v21 v23 v24 v25 v26 v27 v28 v29 v30 v31 v32 v34 v36 v37 v38 v39 v40 v7:Value}{cut:Int}{s:List UInt8}{q A1:Nat}{E1:Int}(hs:s.length≤200)(hq:q<s.length)(uk:∃nodes,bJ (s.take (q+1)) 5=some (nodes,A1,E1))(hb:aI w w4)
 (h:∀w' y9 F3 F4 F5 F6 F7 F8 F9 Ga,aI w w'→bg prog Sz Ψ (base 6) (jq X eA eE eB) ⟨#[undef,.int .i64 cut,undef,undef,.bool false,.bool true,.string ⟨⟨s⟩⟩,v7,.int .i64 (1+(q:Int)),y9,.int .i64 (A1:Nat),.int .i64 E1,undef,undef,undef,undef,undef,undef,.bool true,.bool true,.bool false,v21,undef,v23,v24,v25,v26,v27,v28,v29,v30,v31,v32,undef,v34,undef,v36,v37,v38,v39,v40,.int .i64 cut,.string ⟨⟨s⟩⟩,.int .i64 (s.length:Nat),.int .i64 (q:Nat),.int .i64 (1+(q:Int)),F3,F4,F5,F6,F7,F8,F9,Ga,undef,undef,undef,undef,undef,undef,undef,undef,undef,undef,undef,undef,undef,undef,undef,undef,undef,undef,undef,undef,undef,undef,undef,undef,undef,undef,undef,undef,undef,undef,undef,undef,undef,undef,undef,undef,undef,undef,undef,undef,undef,undef,undef,undef,undef,undef,undef,undef,undef,undef,undef],[]⟩ [.code (q6 Tryz.f6 7)] w'):
 bg prog Sz Ψ (base 6) (jq X eA eE eB) ⟨#[undef,.int .i64 cut,undef,undef,.bool false,.bool true,.string ⟨⟨s⟩⟩,v7,.int .i64 (1+(q:Int)),undef,undef,undef,undef,undef,undef,undef,undef,undef,.bool true,.bool true,.bool false,v21,undef,v23,v24,v25,v26,v27,v28,v29,v30,v31,v32,undef,v34,undef,v36,v37,v38,v39,v40,.int .i64 cut,.string ⟨⟨s⟩⟩,.int .i64 (s.length:Nat),.int .i64 (q:Nat),.int .i64 (1+(q:Int)),undef,undef,undef,undef,undef,undef,undef,undef,undef,undef,undef,undef,undef,undef,undef,undef,undef,undef,undef,undef,undef,undef,undef,undef,undef,undef,undef,undef,undef,undef,undef,undef,undef,undef,undef,undef,undef,undef,undef,undef,undef,undef,undef,undef,undef,undef,undef,undef,undef,undef,undef,undef,undef,undef,undef,undef,undef,undef,undef],[]⟩ [.code (q6 Tryz.f6 6)] w4:=by
 have mixed:prog.follows Departure.mixedOrders=true:=by kernel_rfl
 have Tj:Hid (aI w w4):=hb;have HH:Hid _:=h;have HR:Hid _:=uk;clear hb h uk;rw[abX];refine bg.seq ?_;refine bg.region ?_;rw[Nh,show List.range 11=[0,1,2,3,4,5,6,7,8,9,10] from rfl];refine bg.NV dV Qb Qd (by decide) QU (QT _ _ _ _) (.string ⟨⟨s⟩⟩) (λw' _=>by simp[execOp,Qc,Act.eval]) Qe rfl ?_;refine bg.NV dV Qf Qh (by decide) QW (QV _ _ _ _) (.int .i64 (1+(q:Int))) (λw' _=>by simp[execOp,Qg,Act.eval,Act.put]) Qi rfl ?_;refine bg.NV dV Qj Ql (by decide) QY (QX _ _ _ _) (.string ⟨⟨s.take (q+1)⟩⟩) (λw' _=>J8 (s:=s) (k:=q+1) (z:=1+(q:Int)) Qk (by simp[Act.eval,Act.put]) (by simp[Act.eval,Act.put]) (by omega) (by omega) w') Qm rfl ?_;refine bg.Vv (dep:=5) (s:=s.take (q+1)) (λdp _ _ d s' hr=>r8 (by simp;omega) dp d s' hr) Qn Qp (by decide) Qo (by simp[gL,jc]) (by simp[eR,jq]) (by simp[Act.eval,Act.put]) Qq rfl (λ_=>rfl) λv w2 kQ=>?_;obtain⟨hb2,nodes,at_,er,nv,bS,hr,rfl,hn⟩:=kQ;obtain⟨Nz,l4⟩:=HR.out;have xR:bJ (s.take (q+1)) 5=some (nodes,at_,er):=hr;rw[l4]at xR;simp only[zap,zab]at xR;obtain⟨-,rfl,rfl⟩:=xR;have ij:Hid (aI w w2):=Tj.out.trans hb2;obtain⟨na,nc,rfl⟩:=bQ hn.1;clear Tj hb2 HR l4 hn hr;refine bg.ops dV rfl ⟨_,FU⟩ rfl Vr (aab _ _ _ _) 4 ((o6 Tryz.f6 6).toList.drop 4) (by rw[zah,zbh,Nh];rfl) (λj=>by rw[zaQ,zaR]) λnA d'=>?_;have iz:Hid (aI w (w2.re nA d')):=aI.heap ij.out rfl;clear ij;generalize w2.re nA d'=w3 at *;generalize gU:([.code (q6 Tryz.f6 7)]:List Item)=kq;dsimp only[o6,p6,q6,c6,Ren.gB,Ren.cJ,Ren.cd,Tryz.f6,Option.getD];simp only[zaX,zaJ];go_wp2_with fail;subst gU;show bg _ _ _ _ _ _ _ _;exact HH.out _ _ _ _ _ _ _ _ _ _ iz.out
end
section
variable {Ψ:bq}{w w4:World}{X eA eE eB:Value}
theorem bg.acj {v21 v23 v24 v25 v26 v27 v28 v29 v30 v31 v32 v34 v36 v37 v38 v39 v40 v7 F3 F4 F5 F6 F7 F8 F9 Ga y9:Value}{cut:Int}{s:List UInt8}{q A1 A2:Nat}{E1 E2:Int}(hs:s.length≤200)(uk:∃nodes,bJ (s++[41]) 5=some (nodes,A2,E2))(hb:aI w w4)
 (h:∀w' RQ RS RU RV RX RY RZ R1,aI w w'→bg prog Sz Ψ (base 6) (jq X eA eE eB) ⟨#[undef,.int .i64 cut,undef,undef,.bool false,.bool true,.string ⟨⟨s⟩⟩,v7,.int .i64 (1+(q:Int)),y9,.int .i64 (A1:Nat),.int .i64 E1,RQ,.int .i64 (A2:Nat),.int .i64 E2,undef,undef,undef,.bool true,.bool true,.bool false,v21,undef,v23,v24,v25,v26,v27,v28,v29,v30,v31,v32,undef,v34,undef,v36,v37,v38,v39,v40,.int .i64 cut,.string ⟨⟨s⟩⟩,.int .i64 (s.length:Nat),.int .i64 (q:Nat),.int .i64 (1+(q:Int)),F3,F4,F5,F6,F7,F8,F9,Ga,RS,RU,RV,RX,RY,RZ,R1,undef,undef,undef,undef,undef,undef,undef,undef,undef,undef,undef,undef,undef,undef,undef,undef,undef,undef,undef,undef,undef,undef,undef,undef,undef,undef,undef,undef,undef,undef,undef,undef,undef,undef,undef,undef,undef,undef,undef,undef,undef,undef,undef,undef],[]⟩ [.code (q6 Tryz.f6 8)] w'):
 bg prog Sz Ψ (base 6) (jq X eA eE eB) ⟨#[undef,.int .i64 cut,undef,undef,.bool false,.bool true,.string ⟨⟨s⟩⟩,v7,.int .i64 (1+(q:Int)),y9,.int .i64 (A1:Nat),.int .i64 E1,undef,undef,undef,undef,undef,undef,.bool true,.bool true,.bool false,v21,undef,v23,v24,v25,v26,v27,v28,v29,v30,v31,v32,undef,v34,undef,v36,v37,v38,v39,v40,.int .i64 cut,.string ⟨⟨s⟩⟩,.int .i64 (s.length:Nat),.int .i64 (q:Nat),.int .i64 (1+(q:Int)),F3,F4,F5,F6,F7,F8,F9,Ga,undef,undef,undef,undef,undef,undef,undef,undef,undef,undef,undef,undef,undef,undef,undef,undef,undef,undef,undef,undef,undef,undef,undef,undef,undef,undef,undef,undef,undef,undef,undef,undef,undef,undef,undef,undef,undef,undef,undef,undef,undef,undef,undef,undef,undef,undef,undef,undef,undef,undef,undef],[]⟩ [.code (q6 Tryz.f6 7)] w4:=by
 have mixed:prog.follows Departure.mixedOrders=true:=by kernel_rfl
 have Tj:Hid (aI w w4):=hb;have HH:Hid _:=h;have HR:Hid _:=uk;clear hb h uk;rw[abY];refine bg.seq ?_;refine bg.region ?_;rw[Ni,show List.range 10=[0,1,2,3,4,5,6,7,8,9] from rfl];refine bg.NV dV Qr Qt (by decide) Q0 (QZ _ _ _ _) (.string ⟨⟨s⟩⟩) (λw' _=>by simp[execOp,Qs,Act.eval]) Qu rfl ?_;refine bg.NV dV Qw Qy (by decide) Q2 (Q1 _ _ _ _) (.string ⟨⟨s++[41]⟩⟩) (λw' _=>Ht (p:=s) (q:=[41]) Qx (by simp[Act.eval,Act.put]) rfl (by simp;omega) w') QA rfl ?_;refine bg.Vv (dep:=5) (s:=s++[41]) (λdp _ _ d s' hr=>r8 (by simp;omega) dp d s' hr) QB QD (by decide) QC (by simp[gL,jc]) (by simp[eR,jq]) (by simp[Act.eval,Act.put]) QE rfl (λ_=>rfl) λv w2 kQ=>?_;obtain⟨hb2,nodes,at_,er,nv,bS,hr,rfl,hn⟩:=kQ;obtain⟨Nz,l4⟩:=HR.out;have xR:bJ (s++[41]) 5=some (nodes,at_,er):=hr;rw[l4]at xR;simp only[zap,zab]at xR;obtain⟨-,rfl,rfl⟩:=xR;have ij:Hid (aI w w2):=Tj.out.trans hb2;obtain⟨na,nc,rfl⟩:=bQ hn.1;clear Tj hb2 HR l4 hn hr;refine bg.ops dV rfl ⟨_,FU⟩ rfl Vs (aac _ _ _ _) 3 ((o6 Tryz.f6 7).toList.drop 3) (by rw[zah,zbh,Ni];rfl) (λj=>by rw[zaQ,zaR]) λnA d'=>?_;have iz:Hid (aI w (w2.re nA d')):=aI.heap ij.out rfl;clear ij;generalize w2.re nA d'=w3 at *;generalize gU:([.code (q6 Tryz.f6 8)]:List Item)=kq;dsimp only[o6,p6,q6,c6,Ren.gB,Ren.cJ,Ren.cd,Tryz.f6,Option.getD];simp only[zaX,zaJ];go_wp2_with fail;subst gU;show bg _ _ _ _ _ _ _ _;exact HH.out _ _ _ _ _ _ _ _ _ iz.out
end
section
variable {Ψ:bq}{w w4:World}{X eA eE eB:Value}
theorem bg.ack {v21 v23 v24 v25 v26 v27 v28 v29 v30 v31 v32 v34 v36 v37 v38 v39 v40 v7 RQ F3 F4 F5 F6 F7 F8 F9 Ga RS RU RV RX RY RZ R1 y9:Value}{cut:Int}{s:List UInt8}{q A1 A2 A3:Nat}{E1 E2 E3:Int}(hs:s.length≤200)(uk:∃nodes,bJ (41::s) 5=some (nodes,A3,E3))(hb:aI w w4)
 (h:∀w' y15 y61 y62 y63 y64 y65 y66 y67,aI w w'→bg prog Sz Ψ (base 6) (jq X eA eE eB) ⟨#[undef,.int .i64 cut,undef,undef,.bool false,.bool true,.string ⟨⟨s⟩⟩,v7,.int .i64 (1+(q:Int)),y9,.int .i64 (A1:Nat),.int .i64 E1,RQ,.int .i64 (A2:Nat),.int .i64 E2,y15,.int .i64 (A3:Nat),.int .i64 E3,.bool true,.bool true,.bool false,v21,undef,v23,v24,v25,v26,v27,v28,v29,v30,v31,v32,undef,v34,undef,v36,v37,v38,v39,v40,.int .i64 cut,.string ⟨⟨s⟩⟩,.int .i64 (s.length:Nat),.int .i64 (q:Nat),.int .i64 (1+(q:Int)),F3,F4,F5,F6,F7,F8,F9,Ga,RS,RU,RV,RX,RY,RZ,R1,y61,y62,y63,y64,y65,y66,y67,undef,undef,undef,undef,undef,undef,undef,undef,undef,undef,undef,undef,undef,undef,undef,undef,undef,undef,undef,undef,undef,undef,undef,undef,undef,undef,undef,undef,undef,undef,undef,undef,undef,undef,undef,undef,undef],[]⟩ [.code (q6 Tryz.f6 9)] w'):
 bg prog Sz Ψ (base 6) (jq X eA eE eB) ⟨#[undef,.int .i64 cut,undef,undef,.bool false,.bool true,.string ⟨⟨s⟩⟩,v7,.int .i64 (1+(q:Int)),y9,.int .i64 (A1:Nat),.int .i64 E1,RQ,.int .i64 (A2:Nat),.int .i64 E2,undef,undef,undef,.bool true,.bool true,.bool false,v21,undef,v23,v24,v25,v26,v27,v28,v29,v30,v31,v32,undef,v34,undef,v36,v37,v38,v39,v40,.int .i64 cut,.string ⟨⟨s⟩⟩,.int .i64 (s.length:Nat),.int .i64 (q:Nat),.int .i64 (1+(q:Int)),F3,F4,F5,F6,F7,F8,F9,Ga,RS,RU,RV,RX,RY,RZ,R1,undef,undef,undef,undef,undef,undef,undef,undef,undef,undef,undef,undef,undef,undef,undef,undef,undef,undef,undef,undef,undef,undef,undef,undef,undef,undef,undef,undef,undef,undef,undef,undef,undef,undef,undef,undef,undef,undef,undef,undef,undef,undef,undef,undef],[]⟩ [.code (q6 Tryz.f6 8)] w4:=by
 have mixed:prog.follows Departure.mixedOrders=true:=by kernel_rfl
 have Tj:Hid (aI w w4):=hb;have HH:Hid _:=h;have HR:Hid _:=uk;clear hb h uk;rw[abZ];refine bg.seq ?_;refine bg.region ?_;rw[Nj,show List.range 10=[0,1,2,3,4,5,6,7,8,9] from rfl];refine bg.NV dV QF QI (by decide) Q4 (Q3 _ _ _ _) (.string ⟨⟨s⟩⟩) (λw' _=>by simp[execOp,QH,Act.eval]) QJ rfl ?_;refine bg.NV dV QK QM (by decide) Q6 (Q5 _ _ _ _) (.string ⟨⟨41::s⟩⟩) (λw' _=>Ht (p:=[41]) (q:=s) QL rfl (by simp[Act.eval,Act.put]) (by simp;omega) w') QN rfl ?_;refine bg.Vv (dep:=5) (s:=41::s) (λdp _ _ d s' hr=>r8 (by simp;omega) dp d s' hr) QO QQ (by decide) QP (by simp[gL,jc]) (by simp[eR,jq]) (by simp[Act.eval,Act.put]) QR rfl (λ_=>rfl) λv w2 kQ=>?_;obtain⟨hb2,nodes,at_,er,nv,bS,hr,rfl,hn⟩:=kQ;obtain⟨Nz,l4⟩:=HR.out;have xR:bJ (41::s) 5=some (nodes,at_,er):=hr;rw[l4]at xR;simp only[zap,zab]at xR;obtain⟨-,rfl,rfl⟩:=xR;have ij:Hid (aI w w2):=Tj.out.trans hb2;obtain⟨na,nc,rfl⟩:=bQ hn.1;clear Tj hb2 HR l4 hn hr;refine bg.ops dV rfl ⟨_,FU⟩ rfl Vt (aad _ _ _ _) 3 ((o6 Tryz.f6 8).toList.drop 3) (by rw[zah,zbh,Nj];rfl) (λj=>by rw[zaQ,zaR]) λnA d'=>?_;have iz:Hid (aI w (w2.re nA d')):=aI.heap ij.out rfl;clear ij;generalize w2.re nA d'=w3 at *;generalize gU:([.code (q6 Tryz.f6 9)]:List Item)=kq;dsimp only[o6,p6,q6,c6,Ren.gB,Ren.cJ,Ren.cd,Tryz.f6,Option.getD];simp only[zaX,zaJ];go_wp2_with fail;subst gU;show bg _ _ _ _ _ _ _ _;exact HH.out _ _ _ _ _ _ _ _ _ iz.out
end
end Go.Ren
namespace Go.Ren
open Go Go.Conc Go.ConcX Go.RowKit Go.Proofs Go.Loop Go.Proofs.YtlhimdjkkiflhaaGreatDoor
theorem J9 (s:List UInt8)(q:Nat)(h:q<s.length):(ByteArray.mk (Array.mk s))[q]'(by simpa[ByteArray.size]using h)=s.getD q 0:=by
 rw[zbG,zai h];rfl
section
variable {Ψ:bq}{w w4:World}
end
end Go.Ren
namespace Go.Ren
open Go.Proofs.Tryz
open Go Go.Conc Go.ConcX Go.RowKit Go.Proofs Go.Loop Go.Proofs.YtlhimdjkkiflhaaGreatDoor
section
variable {Ψ:bq}{w w4:World}{X eA eE eB:Value}
theorem bg.acm {v21 v23 v24 v25 v26 v27 v28 v29 v30 v31 v32 v34 v36 v37 v38 v39 v40 v7 RQ y15 F3 F4 F5 F6 F7 F8 F9 Ga RS RU RV RX RY RZ R1 y61 y62 y63 y64 y65 y66 y67 y9:Value}{cut:Int}{s:List UInt8}{q A1:Nat}{E1:Int}(hs:s.length≤200)(hq:q<s.length)(hA:if s.getD q 0=35 then A1=q∧E1=3 else A1=q+1∧E1=4)(hb:aI w w4)
 (h:∀w' a todo,a.defers=[]→a.tmps.getD 4 undef=.bool true→aI w w'→Ir prog Sz Ψ (base 6) (jq X eA eE eB) a todo w'):
 bg prog Sz Ψ (base 6) (jq X eA eE eB) ⟨#[undef,.int .i64 cut,undef,undef,.bool false,.bool true,.string ⟨⟨s⟩⟩,v7,.int .i64 (1+(q:Int)),y9,.int .i64 (A1:Nat),.int .i64 E1,RQ,.int .i64 ((s.length+1:Nat):Int),.int .i64 0,y15,.int .i64 ((0:Nat):Int),.int .i64 3,.bool true,.bool true,.bool false,v21,undef,v23,v24,v25,v26,v27,v28,v29,v30,v31,v32,undef,v34,undef,v36,v37,v38,v39,v40,.int .i64 cut,.string ⟨⟨s⟩⟩,.int .i64 (s.length:Nat),.int .i64 (q:Nat),.int .i64 (1+(q:Int)),F3,F4,F5,F6,F7,F8,F9,Ga,RS,RU,RV,RX,RY,RZ,R1,y61,y62,y63,y64,y65,y66,y67,undef,undef,undef,undef,undef,undef,undef,undef,undef,undef,undef,undef,undef,undef,undef,undef,undef,undef,undef,undef,undef,undef,undef,undef,undef,undef,undef,undef,undef,undef,undef,undef,undef,undef,undef,undef,undef],[]⟩ [.code (q6 Tryz.f6 9)] w4:=by
 have mixed:prog.follows Departure.mixedOrders=true:=by kernel_rfl
 have iz:Hid (aI w w4):=hb;have HH:Hid _:=h;clear hb h;refine bg.code dV Z3 (Z9 _ _ _ _) rfl ⟨_,FU⟩ rfl λτ d=>?_;have sk:Hid (aI w (w4.re τ d)):=aI.heap iz.out rfl;clear iz;generalize w4.re τ d=w5 at *;dsimp only[q6,c6,Ren.cd,Tryz.f6,Option.getD];have uJ:=J9 s q hq;by_cases Un:s.getD q 0=35
 ·rw[Un]at uJ;have hB:((((ByteArray.mk (Array.mk s))[q]'(by simpa[ByteArray.size]using hq)).toNat :Int)==35)=true:=by rw[uJ];rfl
  rw[if_pos Un]at hA;obtain⟨LU,rfl⟩:=hA;have Sw:(A1:Int)=q:=by omega
  clear uJ;go_wp2_with fail;show ∀todo,Ir _ _ _ _ _ _ _ _;intro todo;exact HH.out _ _ todo rfl (by simp<;>first|done|omega) (aI.heap sk.out rfl)
 ·have hB:((((ByteArray.mk (Array.mk s))[q]'(by simpa[ByteArray.size]using hq)).toNat :Int)==35)=false:=by
   rw[uJ,beq_eq_false_iff_ne];intro e;exact Un (UInt8.toNat.inj (by have e2:((35:UInt8).toNat :Int)=35:=rfl;omega))
  rw[if_neg Un]at hA;obtain⟨LU,rfl⟩:=hA;have Sw:(A1:Int)=1+q:=by omega
  clear uJ;go_wp2_with fail;show ∀todo,Ir _ _ _ _ _ _ _ _;intro todo;exact HH.out _ _ todo rfl (by simp<;>first|done|omega) (aI.heap sk.out rfl)
end
end Go.Ren
