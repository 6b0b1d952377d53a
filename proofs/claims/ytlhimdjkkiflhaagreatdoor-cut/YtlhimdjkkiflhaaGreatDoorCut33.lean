import Derived.Test.YtlhimdjkkiflhaaGreatDoorCut32
set_option maxHeartbeats 8000000
set_option maxRecDepth 100000
namespace Go.Ren
open Go.Proofs.Tryz
open Go Go.Conc Go.ConcX Go.RowKit Go.Proofs Go.Loop Go.Proofs.YtlhimdjkkiflhaaGreatDoor
theorem Hm (a b:List UInt8):(ByteArray.mk (Array.mk a))++(ByteArray.mk (Array.mk b))=⟨⟨a++b⟩⟩:=by
 apply ByteArray.ext;simp
def c6 (f:Func):Code:=f.body.getD .skip
def q6 (f:Func):Nat→Code
 |0=>c6 f
 |n+1=>Ren.cd (q6 f n)
def p6 (f:Func)(n:Nat):Code:=Ren.cJ (q6 f n)
def o6 (f:Func)(n:Nat):Array Oper:=Ren.gB (p6 f n)
theorem FU:prog.funcs[6]?=some Tryz.f6:=by kernel_rfl
theorem ZY:Tryz.f6.body=some (.seq (p6 Tryz.f6 0) (.seq (.region 1 (o6 Tryz.f6 1) false) (q6 Tryz.f6 2))):=by kernel_rfl
theorem abT:q6 Tryz.f6 2=.seq (p6 Tryz.f6 2) (q6 Tryz.f6 3):=by kernel_rfl
theorem abU:q6 Tryz.f6 3=.seq (p6 Tryz.f6 3) (q6 Tryz.f6 4):=by kernel_rfl
theorem abV:q6 Tryz.f6 4=.seq (p6 Tryz.f6 4) (q6 Tryz.f6 5):=by kernel_rfl
theorem abW:q6 Tryz.f6 5=.seq (p6 Tryz.f6 5) (q6 Tryz.f6 6):=by kernel_rfl
theorem abX:q6 Tryz.f6 6=.seq (.region 10 (o6 Tryz.f6 6) false) (q6 Tryz.f6 7):=by kernel_rfl
theorem abY:q6 Tryz.f6 7=.seq (.region 11 (o6 Tryz.f6 7) false) (q6 Tryz.f6 8):=by kernel_rfl
theorem abZ:q6 Tryz.f6 8=.seq (.region 12 (o6 Tryz.f6 8) false) (q6 Tryz.f6 9):=by kernel_rfl
theorem nt6:Tryz.f6.ntmps=105:=by kernel_rfl
theorem t105 (x0 x1:Value):(#[x0,x1]++Array.replicate (105-#[x0,x1].size) undef:Array Value)=#[x0,x1,undef,undef,undef,undef,undef,undef,undef,undef,undef,undef,undef,undef,undef,undef,undef,undef,undef,undef,undef,undef,undef,undef,undef,undef,undef,undef,undef,undef,undef,undef,undef,undef,undef,undef,undef,undef,undef,undef,undef,undef,undef,undef,undef,undef,undef,undef,undef,undef,undef,undef,undef,undef,undef,undef,undef,undef,undef,undef,undef,undef,undef,undef,undef,undef,undef,undef,undef,undef,undef,undef,undef,undef,undef,undef,undef,undef,undef,undef,undef,undef,undef,undef,undef,undef,undef,undef,undef,undef,undef,undef,undef,undef,undef,undef,undef,undef,undef,undef,undef,undef,undef,undef,undef]:=by
 generalize undef=u;simp[Array.replicate,List.replicate]
theorem Vp (x0 x1:Value):Frame.enter prog 6 #[x0,x1] .normal=(base 6).at ⟨#[x0,x1,undef,undef,undef,undef,undef,undef,undef,undef,undef,undef,undef,undef,undef,undef,undef,undef,undef,undef,undef,undef,undef,undef,undef,undef,undef,undef,undef,undef,undef,undef,undef,undef,undef,undef,undef,undef,undef,undef,undef,undef,undef,undef,undef,undef,undef,undef,undef,undef,undef,undef,undef,undef,undef,undef,undef,undef,undef,undef,undef,undef,undef,undef,undef,undef,undef,undef,undef,undef,undef,undef,undef,undef,undef,undef,undef,undef,undef,undef,undef,undef,undef,undef,undef,undef,undef,undef,undef,undef,undef,undef,undef,undef,undef,undef,undef,undef,undef,undef,undef,undef,undef,undef,undef],[]⟩ [.code (.seq (p6 Tryz.f6 0) (.seq (.region 1 (o6 Tryz.f6 1) false) (q6 Tryz.f6 2)))]:=by
 rw[enter_at _ FU ZY,nt6,t105]
theorem ZZ:bh prog Fz Sz (p6 Tryz.f6 0)=true:=by kernel_rfl
theorem Z0:bh prog Fz Sz (p6 Tryz.f6 2)=true:=by kernel_rfl
theorem Z1:bh prog Fz Sz (p6 Tryz.f6 3)=true:=by kernel_rfl
theorem Z2:bh prog Fz Sz (p6 Tryz.f6 5)=true:=by kernel_rfl
theorem Z3:bh prog Fz Sz (q6 Tryz.f6 9)=true:=by kernel_rfl
theorem Ng:(o6 Tryz.f6 1).size=2:=by kernel_rfl
theorem Nh:(o6 Tryz.f6 6).size=11:=by kernel_rfl
theorem Ni:(o6 Tryz.f6 7).size=10:=by kernel_rfl
theorem Nj:(o6 Tryz.f6 8).size=10:=by kernel_rfl
def jw (f:Func)(n i:Nat):Oper:=(o6 f n)[i]!
theorem P7:(o6 Tryz.f6 1)[0]?=some (jw Tryz.f6 1 0):=by kernel_rfl
theorem P8:(jw Tryz.f6 1 0).op=.call { callee:= .value (.func 20),args:=#[],argTypes:=#[] }:=by kernel_rfl
theorem P9:(jw Tryz.f6 1 0).guard=none:=by kernel_rfl
theorem Qa:((o6 Tryz.f6 1)[0]?).bind (·.dst)=some 18:=by kernel_rfl
theorem Qb:(o6 Tryz.f6 6)[0]?=some (jw Tryz.f6 6 0):=by kernel_rfl
theorem Qc:(jw Tryz.f6 6 0).op=.move (.tmp 6):=by kernel_rfl
theorem Qd:(jw Tryz.f6 6 0).guard=none:=by kernel_rfl
theorem Qe:(jw Tryz.f6 6 0).dst=some 47:=by kernel_rfl
theorem Qf:(o6 Tryz.f6 6)[1]?=some (jw Tryz.f6 6 1):=by kernel_rfl
theorem Qg:(jw Tryz.f6 6 1).op=.move (.tmp 8):=by kernel_rfl
theorem Qh:(jw Tryz.f6 6 1).guard=none:=by kernel_rfl
theorem Qi:(jw Tryz.f6 6 1).dst=some 48:=by kernel_rfl
theorem Qj:(o6 Tryz.f6 6)[2]?=some (jw Tryz.f6 6 2):=by kernel_rfl
theorem Qk:(jw Tryz.f6 6 2).op=.slice 9 (.tmp 47) none (some (.tmp 48)) none:=by kernel_rfl
theorem Ql:(jw Tryz.f6 6 2).guard=none:=by kernel_rfl
theorem Qm:(jw Tryz.f6 6 2).dst=some 49:=by kernel_rfl
theorem Qn:(o6 Tryz.f6 6)[3]?=some (jw Tryz.f6 6 3):=by kernel_rfl
theorem Qo:(jw Tryz.f6 6 3).op=.call { callee:= .value (.func 18),args:=#[.tmp 49,.const (.int .i64 5)],argTypes:=#[9,3] }:=by kernel_rfl
theorem Qp:(jw Tryz.f6 6 3).guard=none:=by kernel_rfl
theorem Qq:((o6 Tryz.f6 6)[3]?).bind (·.dst)=some 50:=by kernel_rfl
theorem Qr:(o6 Tryz.f6 7)[0]?=some (jw Tryz.f6 7 0):=by kernel_rfl
theorem Qs:(jw Tryz.f6 7 0).op=.move (.tmp 6):=by kernel_rfl
theorem Qt:(jw Tryz.f6 7 0).guard=none:=by kernel_rfl
theorem Qu:(jw Tryz.f6 7 0).dst=some 55:=by kernel_rfl
theorem Qw:(o6 Tryz.f6 7)[1]?=some (jw Tryz.f6 7 1):=by kernel_rfl
theorem Qx:(jw Tryz.f6 7 1).op=.binOp .add 9 (.tmp 55) (.const (.string { data:=#[41] })) 9:=by kernel_rfl
theorem Qy:(jw Tryz.f6 7 1).guard=none:=by kernel_rfl
theorem QA:(jw Tryz.f6 7 1).dst=some 56:=by kernel_rfl
theorem QB:(o6 Tryz.f6 7)[2]?=some (jw Tryz.f6 7 2):=by kernel_rfl
theorem QC:(jw Tryz.f6 7 2).op=.call { callee:= .value (.func 18),args:=#[.tmp 56,.const (.int .i64 5)],argTypes:=#[9,3] }:=by kernel_rfl
theorem QD:(jw Tryz.f6 7 2).guard=none:=by kernel_rfl
theorem QE:((o6 Tryz.f6 7)[2]?).bind (·.dst)=some 57:=by kernel_rfl
theorem QF:(o6 Tryz.f6 8)[0]?=some (jw Tryz.f6 8 0):=by kernel_rfl
theorem QH:(jw Tryz.f6 8 0).op=.move (.tmp 6):=by kernel_rfl
theorem QI:(jw Tryz.f6 8 0).guard=none:=by kernel_rfl
theorem QJ:(jw Tryz.f6 8 0).dst=some 62:=by kernel_rfl
theorem QK:(o6 Tryz.f6 8)[1]?=some (jw Tryz.f6 8 1):=by kernel_rfl
theorem QL:(jw Tryz.f6 8 1).op=.binOp .add 9 (.const (.string { data:=#[41] })) (.tmp 62) 9:=by kernel_rfl
theorem QM:(jw Tryz.f6 8 1).guard=none:=by kernel_rfl
theorem QN:(jw Tryz.f6 8 1).dst=some 63:=by kernel_rfl
theorem QO:(o6 Tryz.f6 8)[2]?=some (jw Tryz.f6 8 2):=by kernel_rfl
theorem QP:(jw Tryz.f6 8 2).op=.call { callee:= .value (.func 18),args:=#[.tmp 63,.const (.int .i64 5)],argTypes:=#[9,3] }:=by kernel_rfl
theorem QQ:(jw Tryz.f6 8 2).guard=none:=by kernel_rfl
theorem QR:((o6 Tryz.f6 8)[2]?).bind (·.dst)=some 64:=by kernel_rfl
theorem Vq:([1].all λi=>((o6 Tryz.f6 1)[i]?).all λo=>eN prog Fz Sz o.op)=true:=by kernel_rfl
theorem Vr:([4,5,6,7,8,9,10].all λi=>((o6 Tryz.f6 6)[i]?).all λo=>eN prog Fz Sz o.op)=true:=by kernel_rfl
theorem Vs:([3,4,5,6,7,8,9].all λi=>((o6 Tryz.f6 7)[i]?).all λo=>eN prog Fz Sz o.op)=true:=by kernel_rfl
theorem Vt:([3,4,5,6,7,8,9].all λi=>((o6 Tryz.f6 8)[i]?).all λo=>eN prog Fz Sz o.op)=true:=by kernel_rfl
theorem bd6:(prog.funcs[20]?).any (λfn=>fn.body.isSome)=true:=by kernel_rfl
theorem nm6:(prog.funcs[20]?).any (λfn=>fn.name != "runtime.NumGoroutine")=true:=by kernel_rfl
theorem ab0:Tryz.f6.results=#[.tmp 4]:=by kernel_rfl
theorem Z4:prog.inits.idxOf? 6=none:=by kernel_rfl
theorem Te {ev:Operand→Value}{o:Oper}{t:Tmp}{sa:Option Addr}{len cap:Nat}(hop:o.op=.call { callee:= .builtin .len,args:=#[.tmp t],argTypes:=#[43] })(e:ev (.tmp t)=.slice sa len cap)(W:World):(execOp ev o).run prog W=.ok (.value (.int .i64 (len:Nat))) W∧(execOp ev o).events prog W #[]=#[]:=by
 unfold execOp;constructor<;>simp[hop,resolve,invoke,go_sem,e]
theorem Tf {ev:Operand→Value}{o:Oper}{t s:Tmp}{b of len cap k:Nat}(hop:o.op=.indexAddr 43 (.tmp t) (.tmp s))(e:ev (.tmp t)=.slice (some ⟨b,of,none⟩) len cap)(e2:ev (.tmp s)=.int .i64 (k:Nat))(hlt:k<len)(W:World):(execOp ev o).run prog W=.ok (.value (.pointer (some ⟨b,of+k,none⟩))) W∧(execOp ev o).events prog W #[]=#[]:=by
 unfold execOp;constructor<;>simp[hop,go_sem,e,e2,underlying43,hlt]
theorem Vu (ad:Addr)(z:Int)(W:World)(h:W.cell? ad=some (.int .i64 z)):(Instr.loadAt 3 (.pointer (some ad))).run prog W=.ok (.int .i64 z) W∧∀ev∈(Instr.loadAt 3 (.pointer (some ad))).events prog W #[],ev.loc=.cell ad∧ev.write=false:=by
 constructor<;>simp[Instr.loadAt,go_sem,h]
def jq (X eA eE eB:Value):List (Nat×Value):=[(0,X),(22,eA),(33,eE),(35,eB)]
theorem Z5 (X eA eE eB:Value):iw (jq X eA eE eB) (p6 Tryz.f6 0)=true:=by kernel_rfl
theorem Z6 (X eA eE eB:Value):iw (jq X eA eE eB) (p6 Tryz.f6 2)=true:=by kernel_rfl
theorem Z7 (X eA eE eB:Value):iw (jq X eA eE eB) (p6 Tryz.f6 3)=true:=by kernel_rfl
theorem Z8 (X eA eE eB:Value):iw (jq X eA eE eB) (p6 Tryz.f6 5)=true:=by kernel_rfl
theorem Z9 (X eA eE eB:Value):iw (jq X eA eE eB) (q6 Tryz.f6 9)=true:=by kernel_rfl
theorem aaa (X eA eE eB:Value):([1].all λi=>((o6 Tryz.f6 1)[i]?).all (fw (jq X eA eE eB) (o6 Tryz.f6 1)))=true:=by kernel_rfl
theorem aab (X eA eE eB:Value):([4,5,6,7,8,9,10].all λi=>((o6 Tryz.f6 6)[i]?).all (fw (jq X eA eE eB) (o6 Tryz.f6 6)))=true:=by kernel_rfl
theorem QT (X eA eE eB:Value):fw (jq X eA eE eB) (o6 Tryz.f6 6) (jw Tryz.f6 6 0)=true:=by kernel_rfl
theorem QU:eN prog Fz Sz (jw Tryz.f6 6 0).op=true:=by kernel_rfl
theorem QV (X eA eE eB:Value):fw (jq X eA eE eB) (o6 Tryz.f6 6) (jw Tryz.f6 6 1)=true:=by kernel_rfl
theorem QW:eN prog Fz Sz (jw Tryz.f6 6 1).op=true:=by kernel_rfl
theorem QX (X eA eE eB:Value):fw (jq X eA eE eB) (o6 Tryz.f6 6) (jw Tryz.f6 6 2)=true:=by kernel_rfl
theorem QY:eN prog Fz Sz (jw Tryz.f6 6 2).op=true:=by kernel_rfl
theorem aac (X eA eE eB:Value):([3,4,5,6,7,8,9].all λi=>((o6 Tryz.f6 7)[i]?).all (fw (jq X eA eE eB) (o6 Tryz.f6 7)))=true:=by kernel_rfl
theorem QZ (X eA eE eB:Value):fw (jq X eA eE eB) (o6 Tryz.f6 7) (jw Tryz.f6 7 0)=true:=by kernel_rfl
theorem Q0:eN prog Fz Sz (jw Tryz.f6 7 0).op=true:=by kernel_rfl
theorem Q1 (X eA eE eB:Value):fw (jq X eA eE eB) (o6 Tryz.f6 7) (jw Tryz.f6 7 1)=true:=by kernel_rfl
theorem Q2:eN prog Fz Sz (jw Tryz.f6 7 1).op=true:=by kernel_rfl
theorem aad (X eA eE eB:Value):([3,4,5,6,7,8,9].all λi=>((o6 Tryz.f6 8)[i]?).all (fw (jq X eA eE eB) (o6 Tryz.f6 8)))=true:=by kernel_rfl
theorem Q3 (X eA eE eB:Value):fw (jq X eA eE eB) (o6 Tryz.f6 8) (jw Tryz.f6 8 0)=true:=by kernel_rfl
theorem Q4:eN prog Fz Sz (jw Tryz.f6 8 0).op=true:=by kernel_rfl
theorem Q5 (X eA eE eB:Value):fw (jq X eA eE eB) (o6 Tryz.f6 8) (jw Tryz.f6 8 1)=true:=by kernel_rfl
theorem Q6:eN prog Fz Sz (jw Tryz.f6 8 1).op=true:=by kernel_rfl
theorem bg.ab1 {Ψ:bq}{σ:List (Nat×Value)}{b:Frame}{a:Act}{w:World}{ops:Array Oper}{i:Nat}{rest:List Nat}{o:Oper}{kk:List Item}(hp:YtlhimdjkkiflhaaGreatDoor.Pow w)(ho:ops[i]?=some o)(hw:o.guard=none)(hk:b.kind≠.early)(hop:o.op=.call { callee:= .value (.func 20),args:=#[],argTypes:=#[] }){d:Tmp}(hd:(ops[i]?).bind (·.dst)=some d)(xP:eR σ (.tmp d)=true){a':Act}(ha:a.put (some d) (.bool true)=a')(h:∀w',aI w w'→bg prog Sz Ψ b σ a' (.inRegion ops rest::kk) w'):bg prog Sz Ψ b σ a (.inRegion ops (i::rest)::kk) w:=by
 subst ha;exact bg.Sk (f:=20) (xs:=#[]) (ats:=#[]) (args:=#[]) ho hw hk hop bd6 nm6 (by simp) (by simp) (by simp) λρ h1 h2 h3 eG=>af.Vo hp λw' hb=>pR.ofJ dV eG hd xP h1 h2 h3 (h w' hb)
theorem bg.Vv {Ψ:bq}{σ:List (Nat×Value)}{b:Frame}{a:Act}{w:World}{ops:Array Oper}{i:Nat}{rest:List Nat}{o:Oper}{kk:List Item}{s:List UInt8}{dep:Int}{xs:Array Operand}{ats:Array TypeId}(cQ:∀dp:Nat,dep=dp→dp≤30→mm s dp)(ho:ops[i]?=some o)(hw:o.guard=none)(hk:b.kind≠.early)(hop:o.op=.call { callee:= .value (.func 18),args:=xs,argTypes:=ats })(hx:xs.all (gL Sz)=true)(hj:xs.all (eR σ)=true)(rj:xs.map a.eval=#[.string ⟨⟨s⟩⟩,.int .i64 dep]){d:Tmp}(hd:(ops[i]?).bind (·.dst)=some d)(xP:eR σ (.tmp d)=true){a':Value→Act}(ha:∀v,a.put (some d) v=a' v)(h:∀v w',vd s dep w v w'→bg prog Sz Ψ b σ (a' v) (.inRegion ops rest::kk) w'):bg prog Sz Ψ b σ a (.inRegion ops (i::rest)::kk) w:=
 bg.Sk (f:=18) ho hw hk hop (by kernel_rfl) (by kernel_rfl) hx hj rj λρ h1 h2 h3 eG=>af.Zt cQ λv w' hb=>pR.ofJ dV eG hd xP h1 h2 h3 (by rw[ha];exact h v w' hb)
section
variable {Ψ:bq}{w:World}
theorem bg.ab2 {X:Value}{cut:Int}(hp:YtlhimdjkkiflhaaGreatDoor.Pow w)(h:∀w',aI w w'→bg prog Sz Ψ (base 6) (jq X undef undef undef) ⟨#[undef,.int .i64 cut,undef,undef,.bool false,.bool true,undef,undef,undef,undef,undef,undef,undef,undef,undef,undef,undef,undef,.bool true,undef,undef,undef,undef,undef,undef,undef,undef,undef,undef,undef,undef,undef,undef,undef,undef,undef,undef,undef,undef,undef,undef,undef,undef,undef,undef,undef,undef,undef,undef,undef,undef,undef,undef,undef,undef,undef,undef,undef,undef,undef,undef,undef,undef,undef,undef,undef,undef,undef,undef,undef,undef,undef,undef,undef,undef,undef,undef,undef,undef,undef,undef,undef,undef,undef,undef,undef,undef,undef,undef,undef,undef,undef,undef,undef,undef,undef,undef,undef,undef,undef,undef,undef,undef,undef,undef],[]⟩ [.code (q6 Tryz.f6 2)] w'):bg prog Sz Ψ (base 6) (jq X undef undef undef) ⟨#[undef,.int .i64 cut,undef,undef,undef,undef,undef,undef,undef,undef,undef,undef,undef,undef,undef,undef,undef,undef,undef,undef,undef,undef,undef,undef,undef,undef,undef,undef,undef,undef,undef,undef,undef,undef,undef,undef,undef,undef,undef,undef,undef,undef,undef,undef,undef,undef,undef,undef,undef,undef,undef,undef,undef,undef,undef,undef,undef,undef,undef,undef,undef,undef,undef,undef,undef,undef,undef,undef,undef,undef,undef,undef,undef,undef,undef,undef,undef,undef,undef,undef,undef,undef,undef,undef,undef,undef,undef,undef,undef,undef,undef,undef,undef,undef,undef,undef,undef,undef,undef,undef,undef,undef,undef,undef,undef],[]⟩ [.code (.seq (p6 Tryz.f6 0) (.seq (.region 1 (o6 Tryz.f6 1) false) (q6 Tryz.f6 2)))] w:=by
 have mixed:prog.follows Departure.mixedOrders=true:=by kernel_rfl
 have HH:Hid _:=h;clear h;refine bg.seq ?_;refine bg.code dV ZZ (Z5 _ _ _ _) rfl ⟨_,FU⟩ rfl λτ d=>?_;have k8:Hid (aI w (w.re τ d)):=⟨zaa _,λ_ _=>rfl⟩;have HP:Hid (YtlhimdjkkiflhaaGreatDoor.Pow (w.re τ d)):=Pow.Tb hp k8.out;clear hp;generalize w.re τ d=w1 at *;generalize gU:([.code (.seq (.region 1 (o6 Tryz.f6 1) false) (q6 Tryz.f6 2))]:List Item)=kq;dsimp only[p6,q6,c6,Ren.cJ,Tryz.f6,Option.getD];go_wp2_with fail;subst gU;show bg _ _ _ _ _ _ _ _;refine bg.seq ?_;refine bg.region ?_;rw[Ng,show List.range 2=[0,1] from rfl];refine bg.ab1 HP.out P7 P9 (by decide) P8 Qa rfl rfl λw2 hb2=>?_;have ij:Hid (aI w w2):=k8.out.trans hb2;clear k8 hb2 HP;refine bg.ops dV rfl ⟨_,FU⟩ rfl Vq (aaa _ _ _ _) 1 ((o6 Tryz.f6 1).toList.drop 1) (by rw[zah,zbh,Ng];rfl) (λj=>by rw[zaQ,zaR]) λnA d'=>?_;have iz:Hid (aI w (w2.re nA d')):=aI.heap ij.out rfl;clear ij;generalize w2.re nA d'=w3 at *;generalize gU:([.code (q6 Tryz.f6 2)]:List Item)=kq;dsimp only[o6,p6,q6,c6,Ren.gB,Ren.cJ,Ren.cd,Tryz.f6,Option.getD];simp only[zaX,zaJ];go_wp2_with fail;subst gU;show bg _ _ _ _ _ _ _ _;exact HH.out _ iz.out
end
end Go.Ren
