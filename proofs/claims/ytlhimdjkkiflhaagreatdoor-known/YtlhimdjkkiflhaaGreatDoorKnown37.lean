/-
  Known: whatever the number, the answers of the document's examples are the ones that it tells: what Read, Write and Reckon give for them. Its conditions: those of the form alone; the tables of strconv and of math/bits hold what the program's text lays.
-/
import Derived.Conc.LeavingOf
import Derived.Deep.DeepHandedRow
import Derived.Lib.LaidTab
import Derived.ChangeShapes
import Derived.WideShapes
import Derived.OpenShut
import Derived.SevenTiedAt
import Derived.Test.YtlhimdjkkiflhaaGreatDoorCards
import Derived.Test.YtlhimdjkkiflhaaGreatDoorTie
import Derived.RowKit
import Derived.Test.YtlhimdjkkiflhaaGreatDoorKnown36
set_option maxHeartbeats 8000000
set_option maxRecDepth 100000
namespace Go.Ren
open Go Go.Conc
variable {H:Type}{enc:TypeId×Value→H}
theorem xS {a:Assume}{C:Checked}{os:Os}{f:FuncId}{fn:Func}{s:ChangeSpec}{conds:List PathCond}{apart fresh handsOn again:Bool}{laid:List (String×DataW Unit)}
 (own:ownKnob C.prog.godebug=none)(started:os.Started)(hfn:C.prog.funcs[f]?=some fn)
 (witness:∃(w:World) (tape:Tape) (i:Input),w.os=os∧(w.forCall tape i).Shaped C.prog∧i.vars=[]∧Input.okWide C.prog (w.forCall tape i) .any w.heap.size f i∧
   (OpenSpec.ofChange s).preRow enc C.prog fn conds apart laid (w.forCall tape i).memory i.args∧a.holds C.prog (lone (Frame.enter C.prog f i.args .normal) [] (w.forCall tape i)))
 (runs:∀(W:World) (base:Nat) (args:Array Value) (ds gs:List (DataW H)) (before:List MemPlace),
   (∀(j:Nat) t v,fn.params[j]?=some t→args[j]?=some v→Value.okWide C.prog W .any base t v)→
   DataW.Whole enc C.prog fn.params.toList s.vars apart W args.toList ds gs before→
   (DataW.weightsEach C.prog (fn.params.toList++(OpenSpec.ofChange s).bare.plain.varTypes C.prog) (ds++gs)).all (·≤reachBytes)=true→
   laidMetH C.prog laid W→
   W.ShapedOpen C.prog→
   ∃M last o w' t',runNT C.prog (M+1) (solo (G (Frame.enter C.prog f args .normal) []) W) #[]=(.ended o w',t')∧runN C.prog M (solo (G (Frame.enter C.prog f args .normal) []) W)=.next last∧
    step C.prog last=.ended o w'∧Conc.Good C.prog (λv W'=>s.post enc C.prog fn apart fresh handsOn again W args v W') last o w' t'):
 ReturnsInLeavingWide a C os f .any ((OpenSpec.ofChange s).preRow enc C.prog fn conds apart laid) (s.post enc C.prog fn apart fresh handsOn again):=by
 refine returnsInLeavingWide_of_good own started witness ?_;intro w tape i _ NP _ bX afS afT;obtain⟨_,_,_,Z9,Uh,_,_,_,_,hval⟩:=bX;have e:Z9=fn:=Option.some.inj (Uh.symm.trans hfn);subst e;obtain⟨⟨hp,hl⟩,hz⟩:=afS;obtain⟨ds,gs,before,hw,hc,hk⟩:=OpenSpec.pre_parts hp;have hw':=DataW.Whole.of_heap (w':=w.forCall tape i) (by rfl) hw;obtain⟨M,last,o,w',t',h1,h2,h3,h4⟩:=runs (w.forCall tape i) w.heap.size i.args ds gs before hval hw' (hz.weights hw) (hl.of_heap (by rfl)) NP;exact⟨M,last,o,w',t',h1,h2,h3,h4.mono λv hp=>ChangeSpec.post_blind hp⟩
theorem LA (Lk:Looks){p:Pinned}{s:OpenSpec}{c:OpenClaim}(kinds:List LaidKind)(tests:Bool)(Ww:Bool×String)(lk:Bool)
 (hc:c.holds p s)(hw:c.wfByText s=true)(afU:c.laidByTextAt Lk p kinds tests)
 (hst:c.start=.entering)(X2:c.noBlocks=false∧c.again=false)(hm:p.checked.prog.mainIs=some (Ww.1,Ww.2.toList))(hn:(!Ww.1&&Ww.2.isEmpty&&!lk)=false)
 (hl:∀f fn,p.checked.prog.funcNamed c.func=some f→p.checked.prog.funcs[f]?=some fn→lk=p.checked.prog.looks []∧∀(j:Nat) t,fn.params[j]?=some t→p.checked.prog.wantsStandIn t=false)
 (hg:true=c.goesBy p.checked.prog):
 Claim7.holds p (.plain s) { stood:={ row:=c,standIns:=[],harness:=Ww,looks:=lk },kinds:=[],alts:=[],goes:=true,laidByText:=true,laidKinds:=kinds,laidTests:=tests,laidLooks:=Lk }:=by
 have h6:∀r:OpenClaim,Claim7.isSixth { stood:={ row:=r,standIns:=[],harness:=Ww,looks:=lk },kinds:=[] }=false:=λr=>by simpa[Claim7.isSixth]using hn
 exact⟨Claim7.tied_new_at Lk kinds tests (Claim7.new_of_sixth hc Ww lk hst X2 hm (h6 c) hl) hw,λD hD=>by(cases hD),afU,(λh=>by cases h),hg⟩
end Go.Ren
namespace Go.Proofs.YtlhimdjkkiflhaaGreatDoor
open Go.Proofs.Tryz
open Go.ChangeShapes Go.WideShapes Go.ChangeAt Go.RowKit Go.Loop Go.Ren
theorem ace:prog.globalNamed "internal/strconv.uint64pow10" =some 1:=by kernel_rfl
theorem g32:prog.globalNamed "math/bits.deBruijn32tab" =some 2:=by kernel_rfl
theorem g64:prog.globalNamed "math/bits.deBruijn64tab" =some 3:=by kernel_rfl
theorem Pw:(prog.globals[1]?).map (·.type)=some 300:=by kernel_rfl
theorem SK:(prog.globals[2]?).map (·.type)=some 306:=by kernel_rfl
theorem SL:(prog.globals[3]?).map (·.type)=some 307:=by kernel_rfl
theorem Px:prog.cellsOf 300=20:=by kernel_rfl
theorem SM:prog.cellsOf 306=32:=by kernel_rfl
theorem SN:prog.cellsOf 307=64:=by kernel_rfl
theorem Py:prog.cellsOf 137=1:=by kernel_rfl
theorem I8:prog.cellsOf 5=1:=by kernel_rfl
theorem own:ownKnob prog.godebug=none:=by kernel_rfl
def I9:List Int:=[0,1,28,2,29,14,24,3,30,22,20,15,25,17,4,8,31,27,13,23,21,19,16,7,26,12,18,6,11,5,10,9]
def EE:List Int:=[0,1,56,2,57,49,28,3,61,58,42,50,38,29,17,4,62,47,59,36,45,43,51,22,53,39,33,30,24,18,12,5,63,55,48,27,60,41,37,16,46,35,44,21,52,32,23,11,54,26,40,15,34,20,31,10,25,14,19,9,13,8,7,6]
theorem BF {W:World}(h:laidMetH prog Rows.knownRow.laid W):Pow W∧W.var? prog "math/bits.deBruijn32tab" =some (I9.map (Value.int .u8)).toArray∧W.var? prog "math/bits.deBruijn64tab" =some (EE.map (Value.int .u8)).toArray:=by
 have h':laidMet prog Rows.knownRow.laid W:=h;obtain⟨ps,hl,_,_⟩:=h';obtain⟨g1,t1,cs1,af2,p1,q1,hg1,mn,acf,BN,hl2,_⟩:=hl;obtain⟨g2,t2,cs2,af3,p2,q2,hg2,Q8,acg,WX,hl3,_⟩:=hl2;obtain⟨g',t',cs,fuel,p,q,sj,YP,afV,hd,_,_⟩:=hl3;obtain rfl:=Option.some.inj (ace.symm.trans sj);obtain rfl:=Option.some.inj (Pw.symm.trans YP);obtain rfl:=Option.some.inj (g32.symm.trans hg1);obtain rfl:=Option.some.inj (SK.symm.trans mn);obtain rfl:=Option.some.inj (g64.symm.trans hg2);obtain rfl:=Option.some.inj (SL.symm.trans Q8);refine⟨?_,?_,?_⟩
 ·show Lib.TabIs _ _ _ _ _;unfold Lib.TabIs;rw[afV,←Lib.cells_of_tab (k:= .u64) (zs:=Lib.pow10Tab) underlying300 underlying137 Py Px hd]
 ·rw[acf,←Lib.cells_of_tab (k:= .u8) (zs:=I9) underlying306 underlying5 I8 SM BN]
 ·rw[acg,←Lib.cells_of_tab (k:= .u8) (zs:=EE) underlying307 underlying5 I8 SN WX]
theorem xT {W:World}{name:String}{g:Nat}{k:IntKind}{zs:List Int}{o:Obj}(hg:prog.globalNamed name=some g)(h:W.var? prog name=some (zs.map (Value.int k)).toArray)(ho:W.heap[g]?=some o):lr o∧∀ρ:Rn,ro ρ o=o:=by
 unfold World.var? at h;rw[hg]at h;simp only[zbv,ho]at h;cases o with
 |cells c t f=>
  simp only[zam]at h;subst h;refine⟨trivial,λρ=>?_⟩;show Obj.cells (Array.map (rv ρ) _) t f=_;rw[bj.2 λx hx=>?_];obtain⟨z,_,rfl⟩:=zaP.1 (zbf.1 hx);simp[rv]
 |_=>cases h
theorem Pz {P:Program}{w:World}{r:Reach}{b:Nat}{t:TypeId}{v:Value}{k:IntKind}(ht:P.underlying t=some (.int k))(h:Cell.ok P w r b t v):∃n,v=.int k n:=by
 unfold Cell.ok at h;rw[ht]at h;cases v<;>first|exact h.elim|skip
 obtain⟨rfl,_⟩:=h;exact⟨_,rfl⟩
theorem ct3:prog.cellTypes prog.depth 3=some [3]:=by kernel_rfl
theorem afW:((begin prog (λ_ _=>0) default).world.heap[0]?).bind Obj.row? =some (#[.int .i64 0],3):=by kernel_rfl
theorem bd3:prog.buildable 3=true:=by kernel_rfl
theorem LB {W:World}(h:W.ShapedOpen prog){o:Obj}(ho:W.heap[0]?=some o):lr o∧∀ρ:Rn,ro ρ o=o:=by
 obtain⟨cs,h1,_,h2⟩:=h.1 0 _ _ (by rw[Nb];decide) afW;obtain⟨ts,h3,_,h4⟩:=h2 bd3;rw[ct3]at h3;cases h3;rw[h1]at ho;cases ho;refine⟨trivial,λρ=>?_⟩;show Obj.cells (cs.map (rv ρ)) 3 _=_;rw[bj.2 λx hx=>?_];obtain⟨i,hi⟩:=Array.mem_iff_getElem?.1 hx;obtain⟨u,hu,hc⟩:=h4 i x hi;have hu3:u=3:=by
  have:([3]:List TypeId)[i%1]?=some u:=hu;rw[Nat.mod_one]at this;simpa using this.symm
 subst hu3;obtain⟨n,rfl⟩:=Pz underlying3 hc;simp[rv]
theorem EF {W:World}(NP:W.ShapedOpen prog)(hp:Pow W)(h32:W.var? prog "math/bits.deBruijn32tab" =some (I9.map (Value.int .u8)).toArray)(SP:W.var? prog "math/bits.deBruijn64tab" =some (EE.map (Value.int .u8)).toArray)(r:Nat)(o:Obj)(h4:r<4)(ho:W.heap[r]?=some o):lr o∧∀ρ:Rn,ro ρ o=o:=by
 have hr:r=0∨r=1∨r=2∨r=3:=by omega
 rcases hr with rfl|rfl|rfl|rfl
 ·exact LB NP ho
 ·exact xT ace hp ho
 ·exact xT g32 h32 ho
 ·exact xT g64 SP ho
theorem EG {W:World}(SP:W.var? prog "math/bits.deBruijn64tab" =some (EE.map (Value.int .u8)).toArray):prog.globals.size≤W.heap.size:=by
 rw[Nb];rcases zag 3 W.heap.size with h|h
 ·exact h
 ·unfold World.var? at SP;rw[g64]at SP;simp only[zbv,zaY h]at SP;cases SP
def putCells (cs:Array Value):Obj→Obj
 |.cells _ t frozen=> .cells cs t frozen
 |o=>o
def Wx (P:Program)(os:Os):World:={ World.holding P os ⟨#[],#[],[]⟩with heap:=(((World.holding P os ⟨#[],#[],[]⟩).heap.modify 1 (putCells (Lib.pow10Tab.map (Value.int .u64)).toArray)).modify 2 (putCells (I9.map (Value.int .u8)).toArray)).modify 3 (putCells (EE.map (Value.int .u8)).toArray) }
theorem LC (os:Os):laidMet prog Rows.knownRow.laid ((Wx prog os).forCall (λ_ _=>0) ⟨#[],#[.int .i64 0],[]⟩).memory:=
 laidMet_of_run' 8 (by kernel_rfl) (by kernel_rfl)
theorem EH (os:Os){H:Type}(enc:TypeId×Value→H):∃places,DataW.whole enc prog ((Wx prog os).forCall (λ_ _=>0) ⟨#[],#[.int .i64 0],[]⟩).memory Tryz.f5.params.toList Rows.knownSpec.vars false #[Value.int .i64 0].toList 8=some ([.lit (.int .i64 0)],[],places):=
 ⟨[],by kernel_rfl⟩
theorem wf_i64 {n:Int}(h:(Lit.int .i64 n).wf=true): -9223372036854775808≤n∧n≤9223372036854775807:=by
 have e:IntKind.i64.min=-9223372036854775808:=rfl;have h':=h;simp only[Lit.wf]at h';simpa[e]using h'
theorem BG (os:Os)(started:os.Started)(H:Type)(enc:TypeId×Value→H):ReturnsInLeavingWide {} Tryz.checked os 5 .any ((OpenSpec.ofChange Rows.knownSpec).preRow enc prog Tryz.f5 Rows.knownRow.domain false Rows.knownRow.laid) (Rows.knownSpec.post enc prog Tryz.f5 false true false false):=by
 obtain⟨places,hx⟩:=EH os enc;refine xS (C:=Tryz.checked) own started func5
  (witness_row_at (enc:=enc) (C:=Tryz.checked) false (Wx prog os) #[.int .i64 0] rfl (by kernel_rfl) (by kernel_rfl) (by kernel_rfl)
    (OpenSpec.preRow_of_cond 8 hx (by kernel_rfl) (λk hk=>by cases hk) (by kernel_rfl) (LC os))) ?_
 intro W base args ds gs before hval hW _ hL NP;have hval:∀(j:Nat) t v,Tryz.f5.params[j]?=some t→args[j]?=some v→Value.okWide prog W .any base t v:=hval;have hW':=hW;obtain⟨p,q,WN,hV,rfl,Mh,hnd⟩:=hW;have hA:DataW.TrodAll enc prog W 0 (λ_=>true) true Tryz.f5.params.toList args.toList ds p:=WN;rw[params5]at hA hval;obtain⟨v0,d0,rfl,rfl,h0⟩:=trodAll_one hA;obtain⟨rfl,rfl⟩:=trodVars_none hV;obtain⟨n,rfl,rfl,rfl,w0⟩:=open_int underlying3 (hval 0 3 v0 rfl rfl) h0;obtain⟨n1,n2⟩:=wf_i64 w0;obtain⟨hp,h32,SP⟩:=BF hL;have hgs:prog.globals.size≤W.heap.size:=EG SP;refine G7 hgs (EF NP hp h32 SP) hp n1 n2 λW' ht ho hu hsz hold=>?_;have hb:Below W.heap.size W W':=⟨ho,ht,hu,hsz,hold⟩;refine⟨_,_,_,[],[],[],hW',trodAll_mk1 (shut_bool underlying4 _),?_,rfl,hb.frame _,λh=>by cases h⟩;have:=trodAll_mk1 (enc:=enc) (P:=prog) (w:=W') (base:=0) (spare:=λb=>decide (b<W.heap.size)) (held:=true) (shut_int underlying3 w0);exact this
theorem G8:Rows.KnownSaid:=
 OpenClaim.holds_of_wide_leaving 5 Tryz.f5 rfl rfl rfl rfl rfl rfl rfl ⟨rfl,rfl,rfl,rfl,rfl⟩ rfl rfl rfl rfl rfl (by kernel_rfl) func5 (by kernel_rfl)
  (of_decide_eq_true (by kernel_rfl)) (by unfold Func.isWrapper;first|(rw[if_pos (by decide +kernel)];kernel_rfl)|(rw[if_neg (by decide +kernel)];exact⟨rfl,rfl⟩))
  (λos started H enc _=>by rw[OpenClaim.pre_eq_preRow];exact BG os started H enc)
theorem EI (f:FuncId)(fn:Func)(hf:Tryz.pinned.checked.prog.funcNamed Rows.knownRow.func=some f)(hfn:Tryz.pinned.checked.prog.funcs[f]?=some fn):true=Tryz.pinned.checked.prog.looks []∧∀(j:Nat) t,fn.params[j]?=some t→Tryz.pinned.checked.prog.wantsStandIn t=false:=by
 obtain rfl:f=5:=Option.some.inj ((show prog.funcNamed Rows.knownRow.func=some 5 by kernel_rfl).symm.trans hf) |>.symm
 obtain rfl:fn=Tryz.f5:=(Option.some.inj (func5.symm.trans hfn)).symm;refine⟨by kernel_rfl,λj t ht=>?_⟩;rw[params5]at ht;have hm:t∈[3]:=by simpa using zaX ht
 have hall:([3].all λu=>!prog.wantsStandIn u)=true:=by kernel_rfl
 exact(show prog.wantsStandIn t=false by simpa using zav.1 hall t hm)
theorem known_card:Rows.KnownCardSaid:=
 LA .later _ _ _ _ G8 (by kernel_rfl) known_row_tie rfl ⟨rfl,rfl⟩ (by kernel_rfl) rfl EI (by kernel_rfl)
end Go.Proofs.YtlhimdjkkiflhaaGreatDoor
#print axioms Go.Proofs.YtlhimdjkkiflhaaGreatDoor.known_card
