/-
  Reads: whatever the text and the depth, the program's Read and the document's Read give the same: the same nodes, the same place, the same fault. Its conditions: those of the form alone.
-/
import Derived.Conc.LeavingOf
import Derived.Deep.DeepHandedRow
import Derived.Lib.LaidTab
import Derived.ChangeShapes
import Derived.WideShapes
import Derived.OpenShut
import Derived.SevenTiedAt
import Derived.RowKit
import Derived.ChangeMaps5
import Derived.Test.YtlhimdjkkiflhaaGreatReads35
import Derived.Test.YtlhimdjkkiflhaaGreatReads39
set_option maxHeartbeats 8000000
set_option maxRecDepth 100000
open Go renaming undef→Γ,Value→Δ,World→Λ,Frame→Ξ,TypeId→η
open Option renaming getD→Θ
open Array renaming replicate→Φ
open Go.Act renaming eval→Ω,put→ζ
namespace Go.Ren
open Go.Proofs.Tryz
open Go Go.Conc Go.ConcX Go.RowKit Go.Proofs Go.Loop Go.Proofs.YtlhimdjkkiflhaaGreat
def cL (f:Func):Code:=f.body.getD .skip
def cLa (f:Func):Code:=Ren.cY (cL f)
def oL (f:Func):Array Oper:=Ren.ib (Ren.cY (Ren.bS (cL f)))
def Wa (f:Func):Code:=Ren.bS (Ren.bS (cL f))
theorem fzL:prog.funcs[4]?=some Tryz.f4:=by kernel_rfl
theorem aap:Tryz.f4.body=some (.seq (cLa Tryz.f4) (.seq (.region 1 (oL Tryz.f4) false) (Wa Tryz.f4))):=by kernel_rfl
theorem ntL:Tryz.f4.ntmps=50:=by kernel_rfl
theorem t50 (x y:Δ):(#[x,y]++Φ (50-#[x,y].size) Γ:Array Δ)=#[x,y,Γ,Γ,Γ,Γ,Γ,Γ,Γ,Γ,Γ,Γ,Γ,Γ,Γ,Γ,Γ,Γ,Γ,Γ,Γ,Γ,Γ,Γ,Γ,Γ,Γ,Γ,Γ,Γ,Γ,Γ,Γ,Γ,Γ,Γ,Γ,Γ,Γ,Γ,Γ,Γ,Γ,Γ,Γ,Γ,Γ,Γ,Γ,Γ]:=by
 generalize Γ=u;simp[Φ,List.replicate]
theorem U9 (x y:Δ):Ξ.enter prog 4 #[x,y] .normal=(base 4).at ⟨#[x,y,Γ,Γ,Γ,Γ,Γ,Γ,Γ,Γ,Γ,Γ,Γ,Γ,Γ,Γ,Γ,Γ,Γ,Γ,Γ,Γ,Γ,Γ,Γ,Γ,Γ,Γ,Γ,Γ,Γ,Γ,Γ,Γ,Γ,Γ,Γ,Γ,Γ,Γ,Γ,Γ,Γ,Γ,Γ,Γ,Γ,Γ,Γ,Γ],[]⟩ [.code (.seq (cLa Tryz.f4) (.seq (.region 1 (oL Tryz.f4) false) (Wa Tryz.f4)))]:=by
 rw[enter_at _ fzL aap,ntL,t50]
theorem adU:br prog Fz Sz (cLa Tryz.f4)=true:=by kernel_rfl
theorem adV:br prog Fz Sz (Wa Tryz.f4)=true:=by kernel_rfl
theorem aaq:(oL Tryz.f4).size=10:=by kernel_rfl
def Oi (f:Func)(i:Nat):Oper:=(oL f)[i]!
theorem aar:(oL Tryz.f4)[0]?=some (Oi Tryz.f4 0):=by kernel_rfl
theorem aas:(oL Tryz.f4)[1]?=some (Oi Tryz.f4 1):=by kernel_rfl
theorem aat:(oL Tryz.f4)[2]?=some (Oi Tryz.f4 2):=by kernel_rfl
theorem aau:(Oi Tryz.f4 0).op=.move (.tmp 0):=by kernel_rfl
theorem aav:(Oi Tryz.f4 1).op=.move (.tmp 1):=by kernel_rfl
theorem aaw:(Oi Tryz.f4 2).op=.call { callee:= .value (.func 5),args:=#[.tmp 14,.tmp 15],argTypes:=#[9,3] }:=by kernel_rfl
theorem aax:(Oi Tryz.f4 0).guard=none:=by kernel_rfl
theorem aay:(Oi Tryz.f4 1).guard=none:=by kernel_rfl
theorem aaz:(Oi Tryz.f4 2).guard=none:=by kernel_rfl
theorem aaA:(Oi Tryz.f4 0).dst=some 14:=by kernel_rfl
theorem aaB:(Oi Tryz.f4 1).dst=some 15:=by kernel_rfl
theorem aaC:((oL Tryz.f4)[2]?).bind (·.dst)=some 16:=by kernel_rfl
theorem adW:([3,4,5,6,7,8,9].all λi=>((oL Tryz.f4)[i]?).all λo=>jx prog Fz Sz o.op)=true:=by kernel_rfl
theorem bdT:(prog.funcs[5]?).any (λfn=>fn.body.isSome)=true:=by kernel_rfl
theorem nmT:(prog.funcs[5]?).any (λfn=>fn.name != "runtime.NumGoroutine")=true:=by kernel_rfl
theorem adX:Tryz.f4.results=#[.tmp 4,.tmp 5]:=by kernel_rfl
theorem Ku {s:List UInt8}(h:s.length≤400)(dp:Nat):om s dp:=⟨λd s' hr=>Er h dp d s' hr,T4 _ _⟩
def Iy (s:List UInt8)(dep:Int)(w:Λ)(v:Δ)(w':Λ):Prop:=
 bm w w'∧∃nodes at_ e a c,fE s dep=some (nodes,at_,e)∧v=.tuple #[.slice a nodes.length c,.bool true]
section
variable {Ψ:dZ}{cs:List Ξ}{w:Λ}{b:Ξ}{a:Act}{ops:Array Oper}{i:Nat}{rest:List Nat}{kk:List Item}
theorem ae.adY {s:List UInt8}{dep:Int}{d:Tmp}(hd:(ops[i]?).bind (·.dst)=some d){a':Δ→Act}(ha:∀v,a.put (some d) v=a' v)(h:∀v w',Bv s dep w v w'→ae prog Sz Ψ (b.at (a' v) (.inRegion ops rest::kk)) cs w'):ae prog Sz Ψ (Ξ.enter prog 5 #[.string ⟨⟨s⟩⟩,.int .i64 dep] .normal) (b.at a (.inRegion ops (i::rest)::kk)::cs) w:=
 ae.top (λdp _ _ h4=>Ku h4 dp) λv w' h1=>by rw[hd,ha];exact h v w' h1
theorem ae.adZ {s:List UInt8}{dep:Int}(h:∀v w',Iy s dep w v w'→xD prog Sz Ψ cs v w'):ae prog Sz Ψ (Ξ.enter prog 4 #[.string ⟨⟨s⟩⟩,.int .i64 dep] .normal) cs w:=by
 have mixed:prog.follows Departure.mixedOrders=true:=by kernel_rfl
 have HH:Hid _:=h;clear h;rw[U9];refine ae.seq ?_;refine ae.code fX adU rfl ⟨_,fzL⟩ rfl λτ d=>?_;have zN:Hid (bm w (w.re τ d)):=⟨zab _,λ_ _=>rfl⟩;generalize w.re τ d=w1 at *;generalize kX:([.code (.seq (.region 1 (oL Tryz.f4) false) (Wa Tryz.f4))]:List Item)=kq;dsimp only[cLa,cL,Ren.cY,Tryz.f4,Θ];go_wp2_with fail;subst kX;show ae _ _ _ _ _ _;refine ae.seq ?_;refine ae.region ?_;rw[aaq,show List.range 10=[0,1,2,3,4,5,6,7,8,9] from rfl];refine ae.move' fX aar aax (by decide) aau aaA (a':=⟨#[.string ⟨⟨s⟩⟩,.int .i64 dep,Γ,Γ,.slice none 0 0,.bool false,Γ,Γ,Γ,Γ,Γ,Γ,Γ,Γ,.string ⟨⟨s⟩⟩,Γ,Γ,Γ,Γ,Γ,Γ,Γ,Γ,Γ,Γ,Γ,Γ,Γ,Γ,Γ,Γ,Γ,Γ,Γ,Γ,Γ,Γ,Γ,Γ,Γ,Γ,Γ,Γ,Γ,Γ,Γ,Γ,Γ,Γ,Γ],[]⟩) (by simp[Ω,ζ]) ?_;refine ae.move' fX aas aay (by decide) aav aaB (a':=⟨#[.string ⟨⟨s⟩⟩,.int .i64 dep,Γ,Γ,.slice none 0 0,.bool false,Γ,Γ,Γ,Γ,Γ,Γ,Γ,Γ,.string ⟨⟨s⟩⟩,.int .i64 dep,Γ,Γ,Γ,Γ,Γ,Γ,Γ,Γ,Γ,Γ,Γ,Γ,Γ,Γ,Γ,Γ,Γ,Γ,Γ,Γ,Γ,Γ,Γ,Γ,Γ,Γ,Γ,Γ,Γ,Γ,Γ,Γ,Γ,Γ],[]⟩) (by simp[Ω,ζ]) ?_;refine ae.xC (f:=5) (xs:=#[.tmp 14,.tmp 15]) (ats:=#[9,3]) (args:=#[.string ⟨⟨s⟩⟩,.int .i64 dep]) aat aaz (by decide) aaw bdT nmT (by simp[gN]) (by simp[Ω]) ?_;refine ae.adY aaC (a':=λv=>⟨#[.string ⟨⟨s⟩⟩,.int .i64 dep,Γ,Γ,.slice none 0 0,.bool false,Γ,Γ,Γ,Γ,Γ,Γ,Γ,Γ,.string ⟨⟨s⟩⟩,.int .i64 dep,v,Γ,Γ,Γ,Γ,Γ,Γ,Γ,Γ,Γ,Γ,Γ,Γ,Γ,Γ,Γ,Γ,Γ,Γ,Γ,Γ,Γ,Γ,Γ,Γ,Γ,Γ,Γ,Γ,Γ,Γ,Γ,Γ,Γ],[]⟩) (λv=>by simp[ζ]) λv w2 l9=>?_;obtain⟨hb2,nodes,at_,e,nv,ay,hr,rfl,hn⟩:=l9;obtain⟨na,nc,rfl,hoc⟩:=Kr hn;have pS:Hid (bm w w2):=zN.out.trans hb2;have HR:Hid _:=hr;clear zN hb2 hn hr;refine ae.ops fX rfl ⟨_,fzL⟩ rfl adW 3 ((oL Tryz.f4).toList.drop 3) (by rw[zan,zco,aaq];rfl) (λj=>by rw[zck,zcp]) λAJ d'=>?_;have yK:Hid (bm w (w2.re AJ d')):=bm.heap pS.out rfl;have HO3:Hid (uY (w2.re AJ d') na nodes):=hoc;clear hoc pS;generalize w2.re AJ d'=w3 at *;generalize kX:([.code (Wa Tryz.f4)]:List Item)=kq;dsimp only[oL,cL,Ren.ib,Ren.cY,Ren.bS,Tryz.f4,Θ];simp only[zca,zbJ];go_wp2_with fail;subst kX;show ae _ _ _ _ _ _;refine ae.code fX adV rfl ⟨_,fzL⟩ rfl λτ d=>?_;have EA:Hid (bm w (w3.re τ d)):=bm.heap yK.out rfl;have HO4:Hid (uY (w3.re τ d) na nodes):=HO3.out;clear yK HO3;generalize w3.re τ d=w4 at *;have HRF:Hid _:=Ry ⟨⟨s⟩⟩ dep w4;obtain⟨hs0,hs1,hs2⟩:=Eu HR.out;have HS2:Hid _:=hs2;have HS1:Hid _:=hs1;clear hs1 hs2;dsimp only[Wa,cL,Ren.cY,Ren.bS,Tryz.f4,Θ];go_wp2_with fail;refine zae HRF.out ?_;rintro e5 w5 ⟨qA,Va,at2,V4,iT,cK,hr2,rfl,Vy⟩;clear HRF;have hr3:fE s dep=some (Va,at2,V4):=hr2;rw[HR.out]at hr3;simp only[zaG,zah]at hr3;obtain⟨rfl,rfl,rfl⟩:=hr3;obtain⟨na2,nc2,rfl,aaD⟩:=Ks Vy;have Uo:Hid _:=BO nodes na na2 nc nc2 w5 (HO4.out.below qA) aaD (zaj HS1.out (by decide)) (λx hx=>zaj (HS2.out x hx) (by decide));have OI:Hid (bm w w5):=EA.out.trans (bm.of qA);clear qA Vy aaD hr2 HO4 EA;go_wp2_with fail;refine zae Uo.out ?_;rintro e6 w6 ⟨rfl,uq⟩;have Bu:Hid (bm w w6):=OI.out.trans (bm.of uq);clear uq Uo OI;have fin:∀(tm:Array Δ) (todo:List Item) (w7:Λ),w7.heap=w6.heap→tm.getD 4 Γ=.slice na nodes.length nc→tm.getD 5 Γ=.bool true→ae prog Sz Ψ (fJ (base 4) ⟨tm,[]⟩ todo) cs w7:=λtm todo w7 hw h4 h5=>by
  refine ae.Bw rfl rfl fzL ((results_tmp2 adX _ _ _).trans (by rw[h4,h5])) ?_;exact HH.out _ _ ⟨bm.heap Bu.out hw,nodes,at_,e,na,nc,HR.out,rfl⟩
 have pC:Hid _:=fin;clear fin;by_cases he:e=0
 ·subst he;clear hs0;go_wp2_with fail;show ∀todo,ae _ _ _ _ _ _;exact λtodo=>pC.out _ todo _ rfl rfl rfl
 ·have hne:(e != 0)=true:=by simpa using he
  obtain rfl:=hs0.resolve_left he;go_wp2_with fail;show ∀todo,ae _ _ _ _ _ _;exact λtodo=>pC.out _ todo _ rfl rfl rfl
theorem ae.law' {s:List UInt8}{dep:Int}{d:Tmp}(hd:(ops[i]?).bind (·.dst)=some d){a':Δ→Act}(ha:∀v,a.put (some d) v=a' v)(h:∀v w',Iy s dep w v w'→ae prog Sz Ψ (b.at (a' v) (.inRegion ops rest::kk)) cs w'):ae prog Sz Ψ (Ξ.enter prog 4 #[.string ⟨⟨s⟩⟩,.int .i64 dep] .normal) (b.at a (.inRegion ops (i::rest)::kk)::cs) w:=
 ae.adZ λv w' hp=>xD.of fX (by rw[hd,ha];exact h v w' hp)
end
def cR (f:Func):Code:=f.body.getD .skip
def cRa (f:Func):Code:=Ren.cY (cR f)
def oR (f:Func):Array Oper:=Ren.ib (Ren.cY (Ren.bS (cR f)))
def Wb (f:Func):Code:=Ren.cY (Ren.bS (Ren.bS (cR f)))
def oQ (f:Func):Array Oper:=Ren.ib (Ren.cY (Ren.bS (Ren.bS (Ren.bS (cR f)))))
def SG (f:Func):Code:=Ren.bS (Ren.bS (Ren.bS (Ren.bS (cR f))))
theorem Vb:prog.funcs[3]?=some Tryz.f3:=by kernel_rfl
theorem aaE:Tryz.f3.body=some (.seq (cRa Tryz.f3) (.seq (.region 1 (oR Tryz.f3) false) (.seq (Wb Tryz.f3) (.seq (.region 4 (oQ Tryz.f3) false) (SG Tryz.f3))))):=by kernel_rfl
theorem ntR:Tryz.f3.ntmps=25:=by kernel_rfl
theorem t25 (x y:Δ):(#[x,y]++Φ (25-#[x,y].size) Γ:Array Δ)=#[x,y,Γ,Γ,Γ,Γ,Γ,Γ,Γ,Γ,Γ,Γ,Γ,Γ,Γ,Γ,Γ,Γ,Γ,Γ,Γ,Γ,Γ,Γ,Γ]:=by
 generalize Γ=u;simp[Φ,List.replicate]
theorem Vc (x y:Δ):Ξ.enter prog 3 #[x,y] .normal=(base 3).at ⟨#[x,y,Γ,Γ,Γ,Γ,Γ,Γ,Γ,Γ,Γ,Γ,Γ,Γ,Γ,Γ,Γ,Γ,Γ,Γ,Γ,Γ,Γ,Γ,Γ],[]⟩ [.code (.seq (cRa Tryz.f3) (.seq (.region 1 (oR Tryz.f3) false) (.seq (Wb Tryz.f3) (.seq (.region 4 (oQ Tryz.f3) false) (SG Tryz.f3)))))]:=by
 rw[enter_at _ Vb aaE,ntR,t25]
theorem ad0:br prog Fz Sz (cRa Tryz.f3)=true:=by kernel_rfl
theorem ad1:br prog Fz Sz (Wb Tryz.f3)=true:=by kernel_rfl
theorem ad2:br prog Fz Sz (SG Tryz.f3)=true:=by kernel_rfl
theorem aaF:(oR Tryz.f3).size=6:=by kernel_rfl
theorem aaG:(oQ Tryz.f3).size=7:=by kernel_rfl
def opR (f:Func)(i:Nat):Oper:=(oR f)[i]!
def Oj (f:Func)(i:Nat):Oper:=(oQ f)[i]!
theorem aaH:(oR Tryz.f3)[0]?=some (opR Tryz.f3 0):=by kernel_rfl
theorem aaI:(opR Tryz.f3 0).op=.call { callee:= .value (.func 4),args:=#[.const (.string ⟨⟨[35,48,61,40,97,32,46,32,35,48,35,41]⟩⟩),.const (.int .i64 2)],argTypes:=#[9,3] }:=by kernel_rfl
theorem aaJ:(opR Tryz.f3 0).guard=none:=by kernel_rfl
theorem aaK:((oR Tryz.f3)[0]?).bind (·.dst)=some 8:=by kernel_rfl
theorem ad3:([1,2,3,4,5].all λi=>((oR Tryz.f3)[i]?).all λo=>jx prog Fz Sz o.op)=true:=by kernel_rfl
theorem aaL:(oQ Tryz.f3)[0]?=some (Oj Tryz.f3 0):=by kernel_rfl
theorem aaM:(oQ Tryz.f3)[1]?=some (Oj Tryz.f3 1):=by kernel_rfl
theorem aaN:(oQ Tryz.f3)[2]?=some (Oj Tryz.f3 2):=by kernel_rfl
theorem aaO:(Oj Tryz.f3 0).op=.move (.tmp 0):=by kernel_rfl
theorem aaP:(Oj Tryz.f3 1).op=.move (.tmp 1):=by kernel_rfl
theorem aaQ:(Oj Tryz.f3 2).op=.call { callee:= .value (.func 4),args:=#[.tmp 19,.tmp 20],argTypes:=#[9,3] }:=by kernel_rfl
theorem aaR:(Oj Tryz.f3 0).guard=none:=by kernel_rfl
theorem aaS:(Oj Tryz.f3 1).guard=none:=by kernel_rfl
theorem aaT:(Oj Tryz.f3 2).guard=none:=by kernel_rfl
theorem aaU:(Oj Tryz.f3 0).dst=some 19:=by kernel_rfl
theorem aaV:(Oj Tryz.f3 1).dst=some 20:=by kernel_rfl
theorem aaW:((oQ Tryz.f3)[2]?).bind (·.dst)=some 21:=by kernel_rfl
theorem ad4:([3,4,5,6].all λi=>((oQ Tryz.f3)[i]?).all λo=>jx prog Fz Sz o.op)=true:=by kernel_rfl
theorem bdL:(prog.funcs[4]?).any (λfn=>fn.body.isSome)=true:=by kernel_rfl
theorem nmL:(prog.funcs[4]?).any (λfn=>fn.name != "runtime.NumGoroutine")=true:=by kernel_rfl
theorem ad5:Tryz.f3.results=#[.tmp 4]:=by kernel_rfl
theorem ae.reads {Ψ:dZ}{w:Λ}{s:List UInt8}{dep:Int}(h:∀w' a todo,a.defers=[]→a.tmps.getD 4 Γ=.bool true→bm w w'→ae prog Sz Ψ (fJ (base 3) a todo) [] w'):ae prog Sz Ψ (Ξ.enter prog 3 #[.string ⟨⟨s⟩⟩,.int .i64 dep] .normal) [] w:=by
 have mixed:prog.follows Departure.mixedOrders=true:=by kernel_rfl
 have HH:Hid _:=h;clear h;rw[Vc];refine ae.seq ?_;refine ae.code fX ad0 rfl ⟨_,Vb⟩ rfl λτ d=>?_;have zN:Hid (bm w (w.re τ d)):=⟨zab _,λ_ _=>rfl⟩;generalize w.re τ d=w1 at *;generalize kX:([.code (.seq (.region 1 (oR Tryz.f3) false) (.seq (Wb Tryz.f3) (.seq (.region 4 (oQ Tryz.f3) false) (SG Tryz.f3))))]:List Item)=kq;dsimp only[cRa,cR,Ren.cY,Tryz.f3,Θ];go_wp2_with fail;subst kX;show ae _ _ _ _ _ _;refine ae.seq ?_;refine ae.region ?_;rw[aaF,show List.range 6=[0,1,2,3,4,5] from rfl];refine ae.xC (f:=4) (xs:=#[.const (.string ⟨⟨[35,48,61,40,97,32,46,32,35,48,35,41]⟩⟩),.const (.int .i64 2)]) (ats:=#[9,3]) (args:=#[.string ⟨⟨Oh⟩⟩,.int .i64 2]) aaH aaJ (by decide) aaI bdL nmL (by simp[gN,lC]) (by simp[Ω,Oh]) ?_;refine ae.law' aaK (a':=λv=>⟨#[.string ⟨⟨s⟩⟩,.int .i64 dep,Γ,Γ,.bool false,Γ,Γ,Γ,v,Γ,Γ,Γ,Γ,Γ,Γ,Γ,Γ,Γ,Γ,Γ,Γ,Γ,Γ,Γ,Γ],[]⟩) (λv=>by simp[ζ]) λv w2 l9=>?_;obtain⟨hb2,nodes,at_,e,a5,c5,hr,rfl⟩:=l9;have hl:=Kt;rw[hr]at hl;simp only[zbA,zaG,zah]at hl;rw[hl.1];clear hl hr;have pS:Hid (bm w w2):=zN.out.trans hb2;clear zN hb2;refine ae.ops fX rfl ⟨_,Vb⟩ rfl ad3 1 ((oR Tryz.f3).toList.drop 1) (by rw[zan,zco,aaF];rfl) (λj=>by rw[zck,zcp]) λAJ d'=>?_;have yK:Hid (bm w (w2.re AJ d')):=bm.heap pS.out rfl;clear pS;generalize w2.re AJ d'=w3 at *;generalize kX:([.code (.seq (Wb Tryz.f3) (.seq (.region 4 (oQ Tryz.f3) false) (SG Tryz.f3)))]:List Item)=kq;dsimp only[oR,cR,Ren.ib,Ren.cY,Ren.bS,Tryz.f3,Θ];simp only[zca,zbJ];go_wp2_with fail;subst kX;show ae _ _ _ _ _ _;refine ae.seq ?_;refine ae.code fX ad1 rfl ⟨_,Vb⟩ rfl λτ d=>?_;have EA:Hid (bm w (w3.re τ d)):=bm.heap yK.out rfl;clear yK;generalize w3.re τ d=w4 at *;generalize kX:([.code (.seq (.region 4 (oQ Tryz.f3) false) (SG Tryz.f3))]:List Item)=kq;dsimp only[Wb,cR,Ren.cY,Ren.bS,Tryz.f3,Θ];go_wp2_with fail;subst kX;show ae _ _ _ _ _ _;refine ae.seq ?_;refine ae.region ?_;rw[aaG,show List.range 7=[0,1,2,3,4,5,6] from rfl];refine ae.move' fX aaL aaR (by decide) aaO aaU (by simp only[Ω,ζ,zaz,zaO,zaM];rfl) ?_;refine ae.move' fX aaM aaS (by decide) aaP aaV (by simp only[Ω,ζ,zaz,zaO,zaM];rfl) ?_;refine ae.xC (f:=4) (xs:=#[.tmp 19,.tmp 20]) (ats:=#[9,3]) (args:=#[.string ⟨⟨s⟩⟩,.int .i64 dep]) aaN aaT (by decide) aaQ bdL nmL (by simp[gN]) (by simp[Ω]) ?_;refine ae.law' aaW (λv=>by simp only[ζ,zaz,zaO,zaM];rfl) λv w5 l9=>?_;obtain⟨qA,ad6,at',e',a6,c6,-,rfl⟩:=l9;have OI:Hid (bm w w5):=EA.out.trans qA;clear EA qA;refine ae.ops fX rfl ⟨_,Vb⟩ rfl ad4 3 ((oQ Tryz.f3).toList.drop 3) (by rw[zan,zco,aaG];rfl) (λj=>by rw[zck,zcp]) λAJ d'=>?_;have Bu:Hid (bm w (w5.re AJ d')):=bm.heap OI.out rfl;clear OI;generalize w5.re AJ d'=w6 at *;generalize kX:([.code (SG Tryz.f3)]:List Item)=kq;dsimp only[oQ,cR,Ren.ib,Ren.cY,Ren.bS,Tryz.f3,Θ];simp only[zca,zbJ];go_wp2_with fail;subst kX;show ae _ _ _ _ _ _;refine ae.code fX ad2 rfl ⟨_,Vb⟩ rfl λτ d=>?_;have MW:Hid (bm w (w6.re τ d)):=bm.heap Bu.out rfl;clear Bu;generalize w6.re τ d=w7 at *;dsimp only[SG,cR,Ren.cY,Ren.bS,Tryz.f3,Θ];go_wp2_with fail;show ∀todo,ae _ _ _ _ _ _;intro todo;exact HH.out _ _ _ rfl rfl (bm.heap MW.out rfl)
end Go.Ren
namespace Go.Ren
open Go Go.Conc
variable {H:Type}{enc:η×Δ→H}
theorem yh {a:Assume}{C:Checked}{os:Os}{f:FuncId}{fn:Func}{s:ChangeSpec}{conds:List PathCond}{apart fresh handsOn again:Bool}{laid:List (String×DataW Unit)}
 (own:ownKnob C.prog.godebug=none)(started:os.Started)(hfn:C.prog.funcs[f]?=some fn)
 (witness:∃(w:Λ) (tape:Tape) (i:Input),w.os=os∧(w.forCall tape i).Shaped C.prog∧i.vars=[]∧Input.okWide C.prog (w.forCall tape i) .any w.heap.size f i∧
   (OpenSpec.ofChange s).preRow enc C.prog fn conds apart laid (w.forCall tape i).memory i.args∧a.holds C.prog (lone (Ξ.enter C.prog f i.args .normal) [] (w.forCall tape i)))
 (runs:∀(W:Λ) (base:Nat) (args:Array Δ) (ds gs:List (DataW H)) (before:List MemPlace),
   (∀(j:Nat) t v,fn.params[j]?=some t→args[j]?=some v→Δ.okWide C.prog W .any base t v)→
   DataW.Whole enc C.prog fn.params.toList s.vars apart W args.toList ds gs before→
   (DataW.weightsEach C.prog (fn.params.toList++(OpenSpec.ofChange s).bare.plain.varTypes C.prog) (ds++gs)).all (·≤reachBytes)=true→
   laidMetH C.prog laid W→
   W.ShapedOpen C.prog→
   ∃M last o w' t',runNT C.prog (M+1) (solo (G (Ξ.enter C.prog f args .normal) []) W) #[]=(.ended o w',t')∧runN C.prog M (solo (G (Ξ.enter C.prog f args .normal) []) W)=.next last∧
    step C.prog last=.ended o w'∧Conc.Good C.prog (λv W'=>s.post enc C.prog fn apart fresh handsOn again W args v W') last o w' t'):
 ReturnsInLeavingWide a C os f .any ((OpenSpec.ofChange s).preRow enc C.prog fn conds apart laid) (s.post enc C.prog fn apart fresh handsOn again):=by
 refine returnsInLeavingWide_of_good own started witness ?_;intro w tape i _ Dh _ bM ad7 ad8;obtain⟨_,_,_,fn',SN,_,_,_,_,hval⟩:=bM;have e:fn'=fn:=zaY (SN.symm.trans hfn);subst e;obtain⟨⟨hp,hl⟩,hz⟩:=ad7;obtain⟨ds,gs,before,hw,hc,hk⟩:=OpenSpec.pre_parts hp;have hw':=DataW.Whole.of_heap (w':=w.forCall tape i) (by rfl) hw;obtain⟨M,last,o,w',t',h1,h2,h3,h4⟩:=runs (w.forCall tape i) w.heap.size i.args ds gs before hval hw' (hz.weights hw) (hl.of_heap (by rfl)) Dh;exact⟨M,last,o,w',t',h1,h2,h3,h4.mono λv hp=>ChangeSpec.post_blind hp⟩
end Go.Ren
namespace Go.Proofs.YtlhimdjkkiflhaaGreat
open Go.Proofs.Tryz
open Go.ChangeShapes Go.WideShapes Go.ChangeAt Go.RowKit Go.Loop Go.Ren Go.Conc
theorem RB (a:Act)(ρ:Rn)(i:Nat):(a.rn ρ).tmps.getD i Γ=rv ρ (a.tmps.getD i Γ):=by
 simp only[Act.rn,zby,zaw];cases a.tmps[i]?<;>simp[dY]
theorem aaX:prog.inits.idxOf? 3=none:=by kernel_rfl
theorem Gr {W:Λ}{s:List UInt8}{dep:Int}{Post:Δ→Λ→Prop}(hb:prog.globals.size≤W.heap.size)
 (aaY:∀W':Λ,W'.tape=W.tape→W'.os=W.os→W'.output=W.output→W.heap.size≤W'.heap.size→(∀b,b<W.heap.size→W'.heap[b]?=W.heap[b]?)→Post (.bool true) W'):
 ∃N last o w' t',runNT prog (N+1) (solo (G (Ξ.enter prog 3 #[.string ⟨⟨s⟩⟩,.int .i64 dep] .normal) []) W) #[]=(.ended o w',t')∧runN prog N (solo (G (Ξ.enter prog 3 #[.string ⟨⟨s⟩⟩,.int .i64 dep] .normal) []) W)=.next last∧step prog last=.ended o w'∧Conc.Good prog Post last o w' t':=by
 have hS0:iO prog Sz (dT jR prog.globals.size W.heap.size) (Ud prog Sz W) W:=Qy (by rw[Oq];decide) (by rw[Oq];decide) hb λr o h1 h2 _=>by
  have VB:1≤r:=h1;rw[Oq]at h2;omega
 have key:=F8 (Post:=Post) (f:=3) (args:=#[.string ⟨⟨s⟩⟩,.int .i64 dep]) hS0 (λv hv=>by
  simp at hv;rcases hv with rfl|rfl<;>simp[rv]) (ae.reads λw' a todo hd h4 hB=>ae.last (v:= .bool true) rfl hd Vb aaX (λρ W'=>(results_tmp ad5 _ _ _).trans (by rw[RB,h4];simp[rv])) (λρ W'=>by simp[results,go_sem]) λW' ρ hO hS vk=>aaY W' hO.tape hO.os hO.output hO.size λb hb'=>Qx hS0 hO hS vk (λr hr=>hB.2 r hr) hb')
 have e:(#[.string ⟨⟨s⟩⟩,.int .i64 dep]:Array Δ).map (rv (dT jR prog.globals.size W.heap.size))=#[.string ⟨⟨s⟩⟩,.int .i64 dep]:=by simp[rv]
 rw[e]at key;exact key
theorem own:ownKnob prog.godebug=none:=by kernel_rfl
theorem ad9:((begin prog (λ_ _=>0) default).world.heap[0]?).bind Obj.row? =some (#[.int .i64 0],3):=by kernel_rfl
theorem yY {W:Λ}(h:W.ShapedOpen prog):prog.globals.size≤W.heap.size:=by
 obtain⟨cs,h1,_,h2⟩:=h.1 0 _ _ (by rw[Oq];decide) ad9;rw[Oq];exact(zag.1 h1).1
theorem Kv (os:Os):laidMet prog Rows.readsRow.laid ((Λ.holding prog os ⟨#[],#[],[]⟩).forCall (λ_ _=>0) ⟨#[],#[.string ⟨#[]⟩,.int .i64 0],[]⟩).memory:=
 laidMet_of_run' 8 (by kernel_rfl) (by kernel_rfl)
theorem Ew (os:Os){H:Type}(enc:η×Δ→H):∃places,DataW.whole enc prog ((Λ.holding prog os ⟨#[],#[],[]⟩).forCall (λ_ _=>0) ⟨#[],#[.string ⟨#[]⟩,.int .i64 0],[]⟩).memory Tryz.f3.params.toList Rows.readsSpec.vars false #[Δ.string ⟨#[]⟩,.int .i64 0].toList 8=some ([.lit (.string []),.lit (.int .i64 0)],[],places):=
 ⟨[],by kernel_rfl⟩
theorem B0 (os:Os)(started:os.Started)(H:Type)(enc:η×Δ→H):ReturnsInLeavingWide {} Tryz.checked os 3 .any ((OpenSpec.ofChange Rows.readsSpec).preRow enc prog Tryz.f3 Rows.readsRow.domain false Rows.readsRow.laid) (Rows.readsSpec.post enc prog Tryz.f3 false true false false):=by
 obtain⟨places,hx⟩:=Ew os enc;refine yh (C:=Tryz.checked) own started func3
  (witness_row_at (enc:=enc) (C:=Tryz.checked) false (Λ.holding prog os ⟨#[],#[],[]⟩) #[.string ⟨#[]⟩,.int .i64 0] rfl (by kernel_rfl) (by kernel_rfl) (by kernel_rfl)
    (OpenSpec.preRow_of_cond 8 hx (by kernel_rfl) (λk hk=>by cases hk) (by kernel_rfl) (Kv os))) ?_
 intro W base args ds gs before hval hW _ hL Dh;have hval:∀(j:Nat) t v,Tryz.f3.params[j]?=some t→args[j]?=some v→Δ.okWide prog W .any base t v:=hval;have hW':=hW;obtain⟨p,q,Vq,hV,rfl,EP,JB⟩:=hW;have hA:DataW.TrodAll enc prog W 0 (λ_=>true) true Tryz.f3.params.toList args.toList ds p:=Vq;rw[params3]at hA hval;obtain⟨v0,v1,d0,d1,p0,p1,rfl,rfl,rfl,h0,h1⟩:=trodAll_two hA;obtain⟨rfl,rfl⟩:=trodVars_none hV;obtain⟨s,rfl,rfl,rfl,w0⟩:=ChangeMaps.open_string underlying9 (hval 0 9 v0 rfl rfl) h0;obtain⟨dep,rfl,rfl,rfl,w1⟩:=open_int underlying3 (hval 1 3 v1 rfl rfl) h1;refine Gr (s:=s.data.toList) (yY Dh) λW' ht ho hu hsz hold=>?_;have hb:Below W.heap.size W W':=⟨ho,ht,hu,hsz,hold⟩;refine⟨_,_,_,[],[],[],hW',trodAll_mk1 (shut_bool underlying4 _),?_,rfl,hb.frame _,λh=>by cases h⟩;have:=trodAll_mk2 (enc:=enc) (P:=prog) (w:=W') (base:=0) (spare:=λb=>decide (b<W.heap.size)) (held:=true) (ChangeMaps.shut_string underlying9 w0) (shut_int underlying3 w1);exact this
theorem reads_said:Rows.ReadsSaid:=
 OpenClaim.holds_of_wide_leaving 3 Tryz.f3 rfl rfl rfl rfl rfl rfl rfl ⟨rfl,rfl,rfl,rfl,rfl⟩ rfl rfl rfl rfl rfl (by kernel_rfl) func3 (by kernel_rfl)
  (of_decide_eq_true (by kernel_rfl)) (by unfold Func.isWrapper;first|(rw[zac (by decide +kernel)];kernel_rfl)|(rw[zaa (by decide +kernel)];exact⟨rfl,rfl⟩))
  (λos started H enc _=>by rw[OpenClaim.pre_eq_preRow];exact B0 os started H enc)
end Go.Proofs.YtlhimdjkkiflhaaGreat
#print axioms Go.Proofs.YtlhimdjkkiflhaaGreat.reads_said
