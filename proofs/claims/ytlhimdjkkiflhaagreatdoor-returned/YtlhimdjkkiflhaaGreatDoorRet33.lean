/-
  Returned: whatever the text and the depth, what is read is right: it reads alike up to where it ends; what was read is written, and read again, as it was; or there is a fault and nothing is read. Its conditions: those of the form alone; the tables of strconv and of math/bits hold what the program's text lays.
-/
import Derived.Test.YtlhimdjkkiflhaaGreatDoorCards
import Derived.Test.YtlhimdjkkiflhaaGreatDoorTie
import Derived.RowKit
import Derived.ChangeMaps5
import Derived.Test.YtlhimdjkkiflhaaGreatDoorRet32
set_option maxHeartbeats 8000000
set_option maxRecDepth 100000
open Go renaming Value→Γ,World→Δ,TypeId→Θ
namespace Go.Ren
open Go.Proofs.Tryz
open Go Go.Conc Go.ConcX Go.RowKit Go.Proofs Go.Loop Go.Proofs.YtlhimdjkkiflhaaGreatDoor
theorem Wm (a:Act)(ρ:Rn)(i:Nat):(a.rn ρ).tmps.getD i undef=rv ρ (a.tmps.getD i undef):=by
 simp only[Act.rn,zbE,zaz];cases a.tmps[i]?<;>simp[eu]
theorem acz:prog.inits.idxOf? 9=none:=by kernel_rfl
theorem SB {w w':Δ}(h:YtlhimdjkkiflhaaGreatDoor.Pow w)(e:w'.heap[1]?=w.heap[1]?):YtlhimdjkkiflhaaGreatDoor.Pow w':=by
 have g:prog.globalNamed "internal/strconv.uint64pow10" =some 1:=by kernel_rfl
 unfold YtlhimdjkkiflhaaGreatDoor.Pow Lib.TabIs Δ.var? at h ⊢;rw[g]at h ⊢;simp only[zce]at h ⊢;rw[e];exact h
theorem AY {W:Δ}{s:List UInt8}{dep:Int}{Post:Γ→Δ→Prop}(hb:prog.globals.size≤W.heap.size)(hl:∀r o,r<4→W.heap[r]?=some o→l6 o∧∀ρ:Rn,ro ρ o=o)(hp:YtlhimdjkkiflhaaGreatDoor.Pow W)
 (acA:∀W':Δ,W'.tape=W.tape→W'.os=W.os→W'.output=W.output→W.heap.size≤W'.heap.size→(∀b,b<W.heap.size→W'.heap[b]?=W.heap[b]?)→Post (.bool true) W'):
 ∃N last o w' t',runNT prog (N+1) (solo (G (Frame.enter prog 9 #[.string ⟨⟨s⟩⟩,.int .i64 dep] .normal) []) W) #[]=(.ended o w',t')∧runN prog N (solo (G (Frame.enter prog 9 #[.string ⟨⟨s⟩⟩,.int .i64 dep] .normal) []) W)=.next last∧step prog last=.ended o w'∧Conc.Good prog Post last o w' t':=by
 have Vm:ja prog Sz (ek jR prog.globals.size W.heap.size) (XQ prog Sz W) W:=Vn (by rw[O8];decide) (by rw[O8];decide) hb λr o _ h2 ho=>hl r o (by rw[O8]at h2;exact h2) ho;have hP0:YtlhimdjkkiflhaaGreatDoor.Pow (XQ prog Sz W):=SB hp (tG hb (by decide) (by rw[O8];decide));have key:=JC (Post:=Post) (f:=9) (args:=#[.string ⟨⟨s⟩⟩,.int .i64 dep]) Vm (λv hv=>by
  simp at hv;rcases hv with rfl|rfl<;>simp[rv]) (aa.returned hP0 λw' a todo hd h6 hB=>aa.last (v:= .bool true) rfl hd NW acz (λρ W'=>(results_tmp ae0 _ _ _).trans (by rw[Wm,h6];simp[rv])) (λρ W'=>by simp[results,go_sem]) λW' ρ hO hS wH=>acA W' hO.tape hO.os hO.output hO.size λb hb'=>Vl Vm hO hS wH (λr hr=>hB.2 r hr) hb')
 have e:(#[.string ⟨⟨s⟩⟩,.int .i64 dep]:Array Γ).map (rv (ek jR prog.globals.size W.heap.size))=#[.string ⟨⟨s⟩⟩,.int .i64 dep]:=by simp[rv]
 rw[e]at key;exact key
end Go.Ren
namespace Go.Proofs.YtlhimdjkkiflhaaGreatDoor
open Go.Proofs.Tryz
open Go.ChangeShapes Go.WideShapes Go.ChangeAt Go.RowKit Go.Loop Go.Ren
theorem acB:prog.globalNamed "internal/strconv.uint64pow10" =some 1:=by kernel_rfl
theorem g32:prog.globalNamed "math/bits.deBruijn32tab" =some 2:=by kernel_rfl
theorem g64:prog.globalNamed "math/bits.deBruijn64tab" =some 3:=by kernel_rfl
theorem SC:(prog.globals[1]?).map (·.type)=some 300:=by kernel_rfl
theorem Wn:(prog.globals[2]?).map (·.type)=some 306:=by kernel_rfl
theorem Wo:(prog.globals[3]?).map (·.type)=some 307:=by kernel_rfl
theorem SD:prog.cellsOf 300=20:=by kernel_rfl
theorem Wp:prog.cellsOf 306=32:=by kernel_rfl
theorem Wq:prog.cellsOf 307=64:=by kernel_rfl
theorem SE:prog.cellsOf 137=1:=by kernel_rfl
theorem K1:prog.cellsOf 5=1:=by kernel_rfl
theorem own:ownKnob prog.godebug=none:=by kernel_rfl
def K2:List Int:=[0,1,28,2,29,14,24,3,30,22,20,15,25,17,4,8,31,27,13,23,21,19,16,7,26,12,18,6,11,5,10,9]
def GU:List Int:=[0,1,56,2,57,49,28,3,61,58,42,50,38,29,17,4,62,47,59,36,45,43,51,22,53,39,33,30,24,18,12,5,63,55,48,27,60,41,37,16,46,35,44,21,52,32,23,11,54,26,40,15,34,20,31,10,25,14,19,9,13,8,7,6]
theorem DK {W:Δ}(h:laidMetH prog Rows.returnedRow.laid W):Pow W∧W.var? prog "math/bits.deBruijn32tab" =some (K2.map (Γ.int .u8)).toArray∧W.var? prog "math/bits.deBruijn64tab" =some (GU.map (Γ.int .u8)).toArray:=by
 have h':laidMet prog Rows.returnedRow.laid W:=h;obtain⟨ps,hl,_,_⟩:=h';obtain⟨g1,t1,cs1,afi,p1,q1,hg1,rH,acC,IK,hl2,_⟩:=hl;obtain⟨g2,t2,cs2,afj,p2,q2,hg2,ht2,acD,hd2,ZG,_⟩:=hl2;obtain⟨g',t',cs,fuel,p,q,tK,Ie,afb,hd,_,_⟩:=ZG;obtain rfl:=zaM (acB.symm.trans tK);obtain rfl:=zaM (SC.symm.trans Ie);obtain rfl:=zaM (g32.symm.trans hg1);obtain rfl:=zaM (Wn.symm.trans rH);obtain rfl:=zaM (g64.symm.trans hg2);obtain rfl:=zaM (Wo.symm.trans ht2);refine⟨?_,?_,?_⟩
 ·show Lib.TabIs _ _ _ _ _;unfold Lib.TabIs;rw[afb,←Lib.cells_of_tab (k:= .u64) (zs:=Lib.pow10Tab) underlying300 underlying137 SE SD hd]
 ·rw[acC,←Lib.cells_of_tab (k:= .u8) (zs:=K2) underlying306 underlying5 K1 Wp IK]
 ·rw[acD,←Lib.cells_of_tab (k:= .u8) (zs:=GU) underlying307 underlying5 K1 Wq hd2]
theorem Ad {W:Δ}{name:String}{g:Nat}{k:IntKind}{zs:List Int}{o:Obj}(hg:prog.globalNamed name=some g)(h:W.var? prog name=some (zs.map (Γ.int k)).toArray)(ho:W.heap[g]?=some o):l6 o∧∀ρ:Rn,ro ρ o=o:=by
 unfold Δ.var? at h;rw[hg]at h;simp only[zce,ho]at h;cases o with
 |cells c t f=>
  simp only[zaE]at h;subst h;refine⟨trivial,λρ=>?_⟩;show Obj.cells (Array.map (rv ρ) _) t f=_;rw[bF.2 λx hx=>?_];obtain⟨z,_,rfl⟩:=zbo.1 (zca.1 hx);simp[rv]
 |_=>cases h
theorem SG {P:Program}{w:Δ}{r:Reach}{b:Nat}{t:Θ}{v:Γ}{k:IntKind}(ht:P.underlying t=some (.int k))(h:Cell.ok P w r b t v):∃n,v=.int k n:=by
 unfold Cell.ok at h;rw[ht]at h;cases v<;>first|exact h.elim|skip
 obtain⟨rfl,_⟩:=h;exact⟨_,rfl⟩
theorem ct3:prog.cellTypes prog.depth 3=some [3]:=by kernel_rfl
theorem afc:((begin prog (λ_ _=>0) default).world.heap[0]?).bind Obj.row? =some (#[.int .i64 0],3):=by kernel_rfl
theorem bd3:prog.buildable 3=true:=by kernel_rfl
theorem Nt {W:Δ}(h:W.ShapedOpen prog){o:Obj}(ho:W.heap[0]?=some o):l6 o∧∀ρ:Rn,ro ρ o=o:=by
 obtain⟨cs,h1,_,h2⟩:=h.1 0 _ _ (by rw[O8];decide) afc;obtain⟨ts,h3,_,h4⟩:=h2 bd3;rw[ct3]at h3;cases h3;rw[h1]at ho;cases ho;refine⟨trivial,λρ=>?_⟩;show Obj.cells (cs.map (rv ρ)) 3 _=_;rw[bF.2 λx hx=>?_];obtain⟨i,hi⟩:=Array.mem_iff_getElem?.1 hx;obtain⟨u,hu,hc⟩:=h4 i x hi;have hu3:u=3:=by
  have:([3]:List Θ)[i%1]?=some u:=hu;rw[Nat.mod_one]at this;simpa using this.symm
 subst hu3;obtain⟨n,rfl⟩:=SG underlying3 hc;simp[rv]
theorem GX {W:Δ}(C8:W.ShapedOpen prog)(hp:Pow W)(h32:W.var? prog "math/bits.deBruijn32tab" =some (K2.map (Γ.int .u8)).toArray)(Ws:W.var? prog "math/bits.deBruijn64tab" =some (GU.map (Γ.int .u8)).toArray)(r:Nat)(o:Obj)(h4:r<4)(ho:W.heap[r]?=some o):l6 o∧∀ρ:Rn,ro ρ o=o:=by
 have hr:r=0∨r=1∨r=2∨r=3:=by omega
 rcases hr with rfl|rfl|rfl|rfl
 ·exact Nt C8 ho
 ·exact Ad acB hp ho
 ·exact Ad g32 h32 ho
 ·exact Ad g64 Ws ho
theorem GY {W:Δ}(Ws:W.var? prog "math/bits.deBruijn64tab" =some (GU.map (Γ.int .u8)).toArray):prog.globals.size≤W.heap.size:=by
 rw[O8];rcases zaw 3 W.heap.size with h|h
 ·exact h
 ·unfold Δ.var? at Ws;rw[g64]at Ws;simp only[zce,zbQ h]at Ws;cases Ws
def putCells (cs:Array Γ):Obj→Obj
 |.cells _ t frozen=> .cells cs t frozen
 |o=>o
def Z6 (P:Program)(os:Os):Δ:={ Δ.holding P os ⟨#[],#[],[]⟩with heap:=(((Δ.holding P os ⟨#[],#[],[]⟩).heap.modify 1 (putCells (Lib.pow10Tab.map (Γ.int .u64)).toArray)).modify 2 (putCells (K2.map (Γ.int .u8)).toArray)).modify 3 (putCells (GU.map (Γ.int .u8)).toArray) }
theorem DL (os:Os):laidMet prog Rows.returnedRow.laid ((Z6 prog os).forCall (λ_ _=>0) ⟨#[],#[.string ⟨#[]⟩,.int .i64 0],[]⟩).memory:=
 laidMet_of_run' 8 (by kernel_rfl) (by kernel_rfl)
theorem Ae (os:Os){H:Type}(enc:Θ×Γ→H):∃places,DataW.whole enc prog ((Z6 prog os).forCall (λ_ _=>0) ⟨#[],#[.string ⟨#[]⟩,.int .i64 0],[]⟩).memory f9.params.toList Rows.returnedSpec.vars false #[Γ.string ⟨#[]⟩,.int .i64 0].toList 8=some ([.lit (.string []),.lit (.int .i64 0)],[],places):=
 ⟨[],by kernel_rfl⟩
theorem wz (os:Os)(started:os.Started)(H:Type)(enc:Θ×Γ→H):ReturnsInLeavingWide {} Tryz.checked os 9 .any ((OpenSpec.ofChange Rows.returnedSpec).preRow enc prog f9 Rows.returnedRow.domain false Rows.returnedRow.laid) (Rows.returnedSpec.post enc prog f9 false true false false):=by
 obtain⟨places,hx⟩:=Ae os enc;refine Ac (C:=Tryz.checked) own started func9
  (witness_row_at (enc:=enc) (C:=Tryz.checked) false (Z6 prog os) #[.string ⟨#[]⟩,.int .i64 0] rfl (by kernel_rfl) (by kernel_rfl) (by kernel_rfl)
    (OpenSpec.preRow_of_cond 8 hx (by kernel_rfl) (λk hk=>by cases hk) (by kernel_rfl) (DL os))) ?_
 intro W base args ds gs before hval hW _ hL C8;have hval:∀(j:Nat) t v,f9.params[j]?=some t→args[j]?=some v→Γ.okWide prog W .any base t v:=hval;have hW':=hW;obtain⟨p,q,hA0,hV,rfl,Oe,hnd⟩:=hW;have hA:DataW.TrodAll enc prog W 0 (λ_=>true) true f9.params.toList args.toList ds p:=hA0;rw[params9]at hA hval;obtain⟨v0,v1,d0,d1,p0,p1,rfl,rfl,rfl,h0,h1⟩:=trodAll_two hA;obtain⟨rfl,rfl⟩:=trodVars_none hV;obtain⟨s,rfl,rfl,rfl,w0⟩:=ChangeMaps.open_string underlying9 (hval 0 9 v0 rfl rfl) h0;obtain⟨dep,rfl,rfl,rfl,w1⟩:=open_int underlying3 (hval 1 3 v1 rfl rfl) h1;obtain⟨hp,h32,Ws⟩:=DK hL;have hgs:prog.globals.size≤W.heap.size:=GY Ws;refine AY (s:=s.data.toList) hgs (GX C8 hp h32 Ws) hp λW' ht ho hu hsz hold=>?_;have hb:Below W.heap.size W W':=⟨ho,ht,hu,hsz,hold⟩;refine⟨_,_,_,[],[],[],hW',trodAll_mk1 (shut_bool underlying4 _),?_,rfl,hb.frame _,λh=>by cases h⟩;have:=trodAll_mk2 (enc:=enc) (P:=prog) (w:=W') (base:=0) (spare:=λb=>decide (b<W.heap.size)) (held:=true) (ChangeMaps.shut_string underlying9 w0) (shut_int underlying3 w1);exact this
theorem AZ:Rows.ReturnedSaid:=
 OpenClaim.holds_of_wide_leaving 9 f9 rfl rfl rfl rfl rfl rfl rfl ⟨rfl,rfl,rfl,rfl,rfl⟩ rfl rfl rfl rfl rfl (by kernel_rfl) func9 (by kernel_rfl)
  (of_decide_eq_true (by kernel_rfl)) (by unfold Func.isWrapper;first|(rw[zab (by decide +kernel)];kernel_rfl)|(rw[zaa (by decide +kernel)];exact⟨rfl,rfl⟩))
  (λos started H enc _=>by rw[OpenClaim.pre_eq_preRow];exact wz os started H enc)
theorem Af (f:FuncId)(fn:Func)(hf:Tryz.pinned.checked.prog.funcNamed Rows.returnedRow.func=some f)(hfn:Tryz.pinned.checked.prog.funcs[f]?=some fn):true=Tryz.pinned.checked.prog.looks []∧∀(j:Nat) t,fn.params[j]?=some t→Tryz.pinned.checked.prog.wantsStandIn t=false:=by
 obtain rfl:f=9:=zaM ((show prog.funcNamed Rows.returnedRow.func=some 9 by kernel_rfl).symm.trans hf) |>.symm
 obtain rfl:fn=f9:=(zaM (func9.symm.trans hfn)).symm;refine⟨by kernel_rfl,λj t ht=>?_⟩;rw[params9]at ht;have hm:t∈[9,3]:=by simpa using zbF ht
 have hall:([9,3].all λu=>!prog.wantsStandIn u)=true:=by kernel_rfl
 exact(show prog.wantsStandIn t=false by simpa using zaC.1 hall t hm)
theorem returned_card:Rows.ReturnedCardSaid:=
 Ns .later _ _ _ _ AZ (by kernel_rfl) returned_row_tie rfl ⟨rfl,rfl⟩ (by kernel_rfl) rfl Af (by kernel_rfl)
end Go.Proofs.YtlhimdjkkiflhaaGreatDoor
#print axioms Go.Proofs.YtlhimdjkkiflhaaGreatDoor.returned_card
