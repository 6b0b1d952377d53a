/-
  Cut: whatever the numbers and the place: a list of words that is cut off anywhere behind its beginning ends too early, at its length; whole it is read; with a ) ahead it is wrong there. Its conditions: those of the form alone; the tables of strconv and of math/bits hold what the program's text lays.
-/
import Derived.Conc.LeavingOf
import Derived.Deep.DeepHandedRow
import Derived.Lib.LaidTab
import Derived.ChangeShapes
import Derived.WideShapes
import Derived.OpenShut
import Derived.SevenTiedAt
import Derived.Test.YtlhimdjkkiflhaaGreatDoorCards
import Derived.Test.YtlhimdjkkiflhaaGreatDoorTie
import Derived.RowKit
import Derived.ChangeSlices
import Derived.Deep.Slices
import Derived.ProofKit
import Derived.SizedLaws
import Derived.Test.YtlhimdjkkiflhaaGreatDoorCut36
set_option maxHeartbeats 8000000
set_option maxRecDepth 100000
namespace Go.Ren
open Go.Proofs.Tryz
open Go Go.Conc Go.ConcX Go.RowKit Go.Proofs Go.Loop Go.Proofs.YtlhimdjkkiflhaaGreatDoor
abbrev a06 (cut:Int):Act:=⟨#[undef,.int .i64 cut,undef,undef,undef,undef,undef,undef,undef,undef,undef,undef,undef,undef,undef,undef,undef,undef,undef,undef,undef,undef,undef,undef,undef,undef,undef,undef,undef,undef,undef,undef,undef,undef,undef,undef,undef,undef,undef,undef,undef,undef,undef,undef,undef,undef,undef,undef,undef,undef,undef,undef,undef,undef,undef,undef,undef,undef,undef,undef,undef,undef,undef,undef,undef,undef,undef,undef,undef,undef,undef,undef,undef,undef,undef,undef,undef,undef,undef,undef,undef,undef,undef,undef,undef,undef,undef,undef,undef,undef,undef,undef,undef,undef,undef,undef,undef,undef,undef,undef,undef,undef,undef,undef,undef],[]⟩
theorem aaj {s:List UInt8}{q:Nat}:∃(A1:Nat) (E1:Int),(if s.getD q 0=35 then(q,(3:Int))else(q+1,4))=(A1,E1)∧(if s.getD q 0=35 then A1=q∧E1=3 else A1=q+1∧E1=4):=by
 by_cases h:s.getD q 0=35
 ·exact⟨q,3,by rw[if_pos h],by rw[if_pos h];exact⟨rfl,rfl⟩⟩
 ·exact⟨q+1,4,by rw[if_neg h],by rw[if_neg h];exact⟨rfl,rfl⟩⟩
theorem bg.cut {Ψ:bq}{w:World}{sa:Option Addr}{len cap:Nat}{zs:List Int}{cut:Int}(yC:len≤9223372036854775807)(hlen:zs.length=len)(hz:∀j,j<len→-9223372036854775808≤zs.getD j 0∧zs.getD j 0≤9223372036854775807)
 (hcell:∀j,j<len→∃b o,sa=some ⟨b,o,none⟩∧∀w',aI w w'→Iu Sz Ψ w' ⟨b,o+j,none⟩ (.int .i64 (zs.getD j 0)))(n1: -9223372036854775808≤cut)(n2:cut≤9223372036854775807)(hp:YtlhimdjkkiflhaaGreatDoor.Pow w)
 (h:∀w' eA eE eB a todo,a.defers=[]→a.tmps.getD 4 undef=.bool true→aI w w'→Ir prog Sz Ψ (base 6) (jq (.slice sa len cap) eA eE eB) a todo w'):
 bg prog Sz Ψ (base 6) (jq (.slice sa len cap) undef undef undef) (a06 cut) [.code (.seq (p6 Tryz.f6 0) (.seq (.region 1 (o6 Tryz.f6 1) false) (q6 Tryz.f6 2)))] w:=by
 have Ws:(gJ zs).length≤20:=by rw[xM];omega
 have hs:(ai (gJ zs)).length≤200:=by
  have:=nj (gJ zs);rw[jO];omega
 have hs0:0<(ai (gJ zs)).length:=by rw[jO];omega
 obtain⟨q,hq,eq⟩:∃q:Nat,q<(ai (gJ zs)).length∧j8 cut ((ai (gJ zs)).length :Nat)=q:=⟨(j8 cut ((ai (gJ zs)).length :Nat)).toNat,by have:=oF (c:=cut) (n:=((ai (gJ zs)).length :Nat));have:=xD (c:=cut) (n:=((ai (gJ zs)).length :Nat)) (by omega);omega,by have:=oF (c:=cut) (n:=((ai (gJ zs)).length :Nat));omega⟩;have aak:=RO (gJ zs) Ws (RP zs) (q+1) (by omega) (by omega);obtain⟨A1,E1,hA,hA'⟩:=aaj (s:=ai (gJ zs)) (q:=q);rw[show q+1-1=q by omega,hA]at aak;have hwh:=J4 (gJ zs) Ws;have DR:=J3 (t:=ai (gJ zs)) (by omega);have Ny:∀w,Calls prog 17 #[.int .i64 cut,.int .i64 ((ai (gJ zs)).length :Nat)] w λe w'=>e=.returned (.int .i64 (q:Nat))∧w'=w:=λw=>by rw[←eq];exact Dy _ _ w n1 n2 (by omega) (by omega)
 refine bg.ab2 hp λw1 hb1=>?_;refine bg.acg yC hlen hz hcell hb1 λw2 eA eE eB _ _ _ _ _ _ _ _ _ _ _ _ _ _ _ _ _ hb2=>?_;generalize ai (gJ zs)=s at *;refine bg.ach hs hq Ny hb2 λw3 hb3=>?_;refine bg.aci hs hq ⟨_,aak⟩ hb3 λw4 _ _ _ _ _ _ _ _ _ hb4=>?_;refine bg.acj hs hwh hb4 λw5 _ _ _ _ _ _ _ _ lC=>?_;refine bg.ack hs ⟨_,DR⟩ lC λw6 _ _ _ _ _ _ _ _ mL=>?_;exact bg.acm hs hq hA' mL λw' a todo=>h w' eA eE eB a todo
theorem NA (ρ:Rn)(cut:Int):∀v∈(a06 cut).tmps,rv ρ v=v:=by
 intro v hv;have hv:v∈(#[undef,.int .i64 cut]++Array.replicate (105-#[undef,Value.int .i64 cut].size) undef:Array Value):=by rw[t105];exact hv
 rcases Array.mem_append.1 hv with h|h
 ·simp only[zbb,zas,zbc,or_false]at h;rcases h with rfl|rfl
  ·exact dG
  ·simp[rv]
 ·rw[(Array.mem_replicate.1 h).2];exact dG
theorem Ka {w w':World}(h:YtlhimdjkkiflhaaGreatDoor.Pow w)(e:w'.heap[1]?=w.heap[1]?):YtlhimdjkkiflhaaGreatDoor.Pow w':=by
 have g:prog.globalNamed "internal/strconv.uint64pow10" =some 1:=by kernel_rfl
 unfold YtlhimdjkkiflhaaGreatDoor.Pow Lib.TabIs World.var? at h ⊢;rw[g]at h ⊢;simp only[zbk]at h ⊢;rw[e];exact h
theorem NB (a:Act)(ρ:Rn)(i:Nat):(a.rn ρ).tmps.getD i undef=rv ρ (a.tmps.getD i undef):=by
 simp only[Act.rn,zaL,zal];cases a.tmps[i]?<;>simp[dG]
theorem aal {W:World}{lo n0:Nat}{r0:Rn}{Post:Value→World→Prop}{b o:Nat}{v:Value}(hb:prog.globals.size≤W.heap.size)(hc:W.cell? ⟨b,o,none⟩=some v){ro:Nat→Prop}{l6:∀b,ro b→b<W.heap.size∧∀r,lo≤r→r<n0→b≠r0 r}(hro:4≤b→ro b):∀w',aI (Ll prog Sz W) w'→Iu Sz (ED prog W lo n0 r0 ro l6 Post) w' ⟨b,o,none⟩ v:=by
 intro w' hB;by_cases h4:4≤b
 ·exact .inl ⟨hro h4,hc⟩
 ·have hlt:b<prog.globals.size:=by rw[II];omega
  refine .inr ⟨zaj _,by show b<4;omega,?_⟩;have e:w'.heap[b]?=W.heap[b]?:=by
   rw[hB.2 b (by rw[wu];exact hlt),n9 hb (by show 0≤b;omega) hlt]
  rw[←hc];unfold World.cell?
  rw[e]
theorem NC {W:World}{sa:Option Addr}{len cap:Nat}{zs:List Int}{cut:Int}{Post:Value→World→Prop}(hb:prog.globals.size≤W.heap.size)(hl:∀r o,r<4→W.heap[r]?=some o→lO o∧∀ρ:Rn,ro ρ o=o)(hp:YtlhimdjkkiflhaaGreatDoor.Pow W)
 (yC:len≤9223372036854775807)(hlen:zs.length=len)(hz:∀j,j<len→-9223372036854775808≤zs.getD j 0∧zs.getD j 0≤9223372036854775807)(hcell:∀j,j<len→∃b o,sa=some ⟨b,o,none⟩∧W.cell? ⟨b,o+j,none⟩=some (.int .i64 (zs.getD j 0)))(n1: -9223372036854775808≤cut)(n2:cut≤9223372036854775807)
 (aam:∀W':World,W'.tape=W.tape→W'.os=W.os→W'.output=W.output→W.heap.size≤W'.heap.size→(∀b,b<W.heap.size→W'.heap[b]?=W.heap[b]?)→Post (.bool true) W'):
 ∃N last o w' t',runNT prog (N+1) (solo (G (Frame.enter prog 6 #[.slice sa len cap,.int .i64 cut] .normal) []) W) #[]=(.ended o w',t')∧runN prog N (solo (G (Frame.enter prog 6 #[.slice sa len cap,.int .i64 cut] .normal) []) W)=.next last∧step prog last=.ended o w'∧Conc.Good prog Post last o w' t':=by
 have OP:gp prog Sz (cL jD prog.globals.size W.heap.size) (Ll prog Sz W) W:=OQ (by rw[II];decide) (by rw[II];decide) hb λr o _ h2 ho=>hl r o (by rw[II]at h2;exact h2) ho;have hP0:YtlhimdjkkiflhaaGreatDoor.Pow (Ll prog Sz W):=Ka hp (n9 hb (by decide) (by rw[II];decide));have l6:∀b,(∃o,sa=some ⟨b,o,none⟩∧4≤b∧0<len)→b<W.heap.size∧∀r,Sz.d≤r→r<(Ll prog Sz W).heap.size→b≠cL jD prog.globals.size W.heap.size r:=by
  rintro b ⟨o,Bx,h4,h0⟩;obtain⟨b',o',aan,hc⟩:=hcell 0 h0;have e:b'=b:=by
   rw[Bx]at aan;cases aan;rfl
  subst e;refine⟨World.block_lt_of_cell? _ _ hc,λr _ hr=>?_⟩;rw[wu]at hr;rw[aR hr];rw[II]at hr;show b'≠r;omega
 have ha:pI prog Sz (Ll prog Sz W).heap.size (a06 cut):=λv hv=>NA _ cut v hv;have TQ:Frame.enter prog 6 #[.slice sa len cap,.int .i64 cut] .normal=(base 6).at (ew (jq (.slice sa len cap) undef undef undef) ((a06 cut).rn (cL jD prog.globals.size W.heap.size))) [.code (.seq (p6 Tryz.f6 0) (.seq (.region 1 (o6 Tryz.f6 1) false) (q6 Tryz.f6 2)))]:=by
  rw[Vp]
  congr 1
  have e:(a06 cut).rn (cL jD prog.globals.size W.heap.size)=a06 cut:=by
   unfold Act.rn;rw[bz.2 (NA _ cut)]
  rw[e];simp[ew,jq,Act.put]
 refine B0 (Post:=Post) (ro:=λb=>∃o,sa=some ⟨b,o,none⟩∧4≤b∧0<len) (l6:=l6) OP TQ ha ?_;refine bg.cut yC hlen hz (λj hj=>?_) n1 n2 hP0 λw' eA eE eB a todo hd h4 hB=>?_
 ·obtain⟨b,o,Bx,hc⟩:=hcell j hj;exact⟨b,o,Bx,aal hb hc λh4=>⟨o,Bx,h4,by omega⟩⟩
 ·exact Ir.last (v:= .bool true) rfl hd FU Z4 (λρ W'=>(results_tmp ab0 _ _ _).trans (by rw[Ai 4 _ _ (eZ (by rfl)),NB,h4];simp[rv])) (λρ W'=>by simp[results,go_sem]) λW' ρ hO hS ku=>aam W' hO.tape hO.os hO.output hO.size λb hb'=>OO OP hO hS ku (λr hr=>hB.2 r hr) hb'
end Go.Ren
namespace Go.Ren
open Go Go.Conc
variable {H:Type}{enc:TypeId×Value→H}
theorem xN {a:Assume}{C:Checked}{os:Os}{f:FuncId}{fn:Func}{s:ChangeSpec}{conds:List PathCond}{apart fresh handsOn again:Bool}{laid:List (String×DataW Unit)}
 (own:ownKnob C.prog.godebug=none)(started:os.Started)(hfn:C.prog.funcs[f]?=some fn)
 (witness:∃(w:World) (tape:Tape) (i:Input),w.os=os∧(w.forCall tape i).Shaped C.prog∧i.vars=[]∧Input.okWide C.prog (w.forCall tape i) .any w.heap.size f i∧
   (OpenSpec.ofChange s).preRow enc C.prog fn conds apart laid (w.forCall tape i).memory i.args∧a.holds C.prog (lone (Frame.enter C.prog f i.args .normal) [] (w.forCall tape i)))
 (runs:∀(W:World) (base:Nat) (args:Array Value) (ds gs:List (DataW H)) (before:List MemPlace),
   (∀(j:Nat) t v,fn.params[j]?=some t→args[j]?=some v→Value.okWide C.prog W .any base t v)→
   DataW.Whole enc C.prog fn.params.toList s.vars apart W args.toList ds gs before→
   (DataW.weightsEach C.prog (fn.params.toList++(OpenSpec.ofChange s).bare.plain.varTypes C.prog) (ds++gs)).all (·≤reachBytes)=true→
   laidMetH C.prog laid W→
   W.ShapedOpen C.prog→
   ∃M last o w' t',runNT C.prog (M+1) (solo (G (Frame.enter C.prog f args .normal) []) W) #[]=(.ended o w',t')∧runN C.prog M (solo (G (Frame.enter C.prog f args .normal) []) W)=.next last∧
    step C.prog last=.ended o w'∧Conc.Good C.prog (λv W'=>s.post enc C.prog fn apart fresh handsOn again W args v W') last o w' t'):
 ReturnsInLeavingWide a C os f .any ((OpenSpec.ofChange s).preRow enc C.prog fn conds apart laid) (s.post enc C.prog fn apart fresh handsOn again):=by
 refine returnsInLeavingWide_of_good own started witness ?_;intro w tape i _ AO _ cC acn aco;obtain⟨_,_,_,Zx,Tt,_,_,_,_,hval⟩:=cC;have e:Zx=fn:=Option.some.inj (Tt.symm.trans hfn);subst e;obtain⟨⟨hp,hl⟩,hz⟩:=acn;obtain⟨ds,gs,before,hw,hc,hk⟩:=OpenSpec.pre_parts hp;have hw':=DataW.Whole.of_heap (w':=w.forCall tape i) (by rfl) hw;obtain⟨M,last,o,w',t',h1,h2,h3,h4⟩:=runs (w.forCall tape i) w.heap.size i.args ds gs before hval hw' (hz.weights hw) (hl.of_heap (by rfl)) AO;exact⟨M,last,o,w',t',h1,h2,h3,h4.mono λv hp=>ChangeSpec.post_blind hp⟩
theorem Kb (Lk:Looks){p:Pinned}{s:OpenSpec}{c:OpenClaim}(kinds:List LaidKind)(tests:Bool)(Wj:Bool×String)(lk:Bool)
 (hc:c.holds p s)(hw:c.wfByText s=true)(acp:c.laidByTextAt Lk p kinds tests)
 (hst:c.start=.entering)(Tu:c.noBlocks=false∧c.again=false)(hm:p.checked.prog.mainIs=some (Wj.1,Wj.2.toList))(hn:(!Wj.1&&Wj.2.isEmpty&&!lk)=false)
 (hl:∀f fn,p.checked.prog.funcNamed c.func=some f→p.checked.prog.funcs[f]?=some fn→lk=p.checked.prog.looks []∧∀(j:Nat) t,fn.params[j]?=some t→p.checked.prog.wantsStandIn t=false)
 (hg:true=c.goesBy p.checked.prog):
 Claim7.holds p (.plain s) { stood:={ row:=c,standIns:=[],harness:=Wj,looks:=lk },kinds:=[],alts:=[],goes:=true,laidByText:=true,laidKinds:=kinds,laidTests:=tests,laidLooks:=Lk }:=by
 have h6:∀r:OpenClaim,Claim7.isSixth { stood:={ row:=r,standIns:=[],harness:=Wj,looks:=lk },kinds:=[] }=false:=λr=>by simpa[Claim7.isSixth]using hn
 exact⟨Claim7.tied_new_at Lk kinds tests (Claim7.new_of_sixth hc Wj lk hst Tu hm (h6 c) hl) hw,λD hD=>by(cases hD),acp,(λh=>by cases h),hg⟩
end Go.Ren
namespace Go.Proofs.YtlhimdjkkiflhaaGreatDoor
open Go.Proofs.Tryz
open Go.ChangeShapes Go.WideShapes Go.ChangeAt Go.RowKit Go.Loop Go.Ren
theorem aao:prog.globalNamed "internal/strconv.uint64pow10" =some 1:=by kernel_rfl
theorem g32:prog.globalNamed "math/bits.deBruijn32tab" =some 2:=by kernel_rfl
theorem g64:prog.globalNamed "math/bits.deBruijn64tab" =some 3:=by kernel_rfl
theorem ND:(prog.globals[1]?).map (·.type)=some 300:=by kernel_rfl
theorem R2:(prog.globals[2]?).map (·.type)=some 306:=by kernel_rfl
theorem R3:(prog.globals[3]?).map (·.type)=some 307:=by kernel_rfl
theorem NF:prog.cellsOf 300=20:=by kernel_rfl
theorem R4:prog.cellsOf 306=32:=by kernel_rfl
theorem R5:prog.cellsOf 307=64:=by kernel_rfl
theorem NG:prog.cellsOf 137=1:=by kernel_rfl
theorem Hu:prog.cellsOf 5=1:=by kernel_rfl
theorem own:ownKnob prog.godebug=none:=by kernel_rfl
def Hv:List Int:=[0,1,28,2,29,14,24,3,30,22,20,15,25,17,4,8,31,27,13,23,21,19,16,7,26,12,18,6,11,5,10,9]
def DL:List Int:=[0,1,56,2,57,49,28,3,61,58,42,50,38,29,17,4,62,47,59,36,45,43,51,22,53,39,33,30,24,18,12,5,63,55,48,27,60,41,37,16,46,35,44,21,52,32,23,11,54,26,40,15,34,20,31,10,25,14,19,9,13,8,7,6]
theorem Bj {W:World}(h:laidMetH prog Rows.cutRow.laid W):Pow W∧W.var? prog "math/bits.deBruijn32tab" =some (Hv.map (Value.int .u8)).toArray∧W.var? prog "math/bits.deBruijn64tab" =some (DL.map (Value.int .u8)).toArray:=by
 have h':laidMet prog Rows.cutRow.laid W:=h;obtain⟨ps,hl,_,_⟩:=h';obtain⟨g1,t1,cs1,acz,p1,q1,hg1,qy,aap,Fi,hl2,_⟩:=hl;obtain⟨g2,t2,cs2,acA,p2,q2,hg2,WJ,aaq,WK,hl3,_⟩:=hl2;obtain⟨g',t',cs,fuel,p,q,p5,ht',acr,hd,_,_⟩:=hl3;obtain rfl:=Option.some.inj (aao.symm.trans p5);obtain rfl:=Option.some.inj (ND.symm.trans ht');obtain rfl:=Option.some.inj (g32.symm.trans hg1);obtain rfl:=Option.some.inj (R2.symm.trans qy);obtain rfl:=Option.some.inj (g64.symm.trans hg2);obtain rfl:=Option.some.inj (R3.symm.trans WJ);refine⟨?_,?_,?_⟩
 ·show Lib.TabIs _ _ _ _ _;unfold Lib.TabIs;rw[acr,←Lib.cells_of_tab (k:= .u64) (zs:=Lib.pow10Tab) underlying300 underlying137 NG NF hd]
 ·rw[aap,←Lib.cells_of_tab (k:= .u8) (zs:=Hv) underlying306 underlying5 Hu R4 Fi]
 ·rw[aaq,←Lib.cells_of_tab (k:= .u8) (zs:=DL) underlying307 underlying5 Hu R5 WK]
theorem xO {W:World}{name:String}{g:Nat}{k:IntKind}{zs:List Int}{o:Obj}(hg:prog.globalNamed name=some g)(h:W.var? prog name=some (zs.map (Value.int k)).toArray)(ho:W.heap[g]?=some o):lO o∧∀ρ:Rn,ro ρ o=o:=by
 unfold World.var? at h;rw[hg]at h;simp only[zbk,ho]at h;cases o with
 |cells c t f=>
  simp only[zap]at h;subst h;refine⟨trivial,λρ=>?_⟩;show Obj.cells (Array.map (rv ρ) _) t f=_;rw[bz.2 λx hx=>?_];obtain⟨z,_,rfl⟩:=zaH.1 (zbb.1 hx);simp[rv]
 |_=>cases h
theorem NH {P:Program}{w:World}{r:Reach}{b:Nat}{t:TypeId}{v:Value}{k:IntKind}(ht:P.underlying t=some (.int k))(h:Cell.ok P w r b t v):∃n,v=.int k n:=by
 unfold Cell.ok at h;rw[ht]at h;cases v<;>first|exact h.elim|skip
 obtain⟨rfl,_⟩:=h;exact⟨_,rfl⟩
theorem ct3:prog.cellTypes prog.depth 3=some [3]:=by kernel_rfl
theorem acs:((begin prog (λ_ _=>0) default).world.heap[0]?).bind Obj.row? =some (#[.int .i64 0],3):=by kernel_rfl
theorem bd3:prog.buildable 3=true:=by kernel_rfl
theorem Kc {W:World}(h:W.ShapedOpen prog){o:Obj}(ho:W.heap[0]?=some o):lO o∧∀ρ:Rn,ro ρ o=o:=by
 obtain⟨cs,h1,_,h2⟩:=h.1 0 _ _ (by rw[II];decide) acs;obtain⟨ts,h3,_,h4⟩:=h2 bd3;rw[ct3]at h3;cases h3;rw[h1]at ho;cases ho;refine⟨trivial,λρ=>?_⟩;show Obj.cells (cs.map (rv ρ)) 3 _=_;rw[bz.2 λx hx=>?_];obtain⟨i,hi⟩:=Array.mem_iff_getElem?.1 hx;obtain⟨u,hu,hc⟩:=h4 i x hi;have hu3:u=3:=by
  have:([3]:List TypeId)[i%1]?=some u:=hu;rw[Nat.mod_one]at this;simpa using this.symm
 subst hu3;obtain⟨n,rfl⟩:=NH underlying3 hc;simp[rv]
theorem DM {W:World}(AO:W.ShapedOpen prog)(hp:Pow W)(h32:W.var? prog "math/bits.deBruijn32tab" =some (Hv.map (Value.int .u8)).toArray)(R6:W.var? prog "math/bits.deBruijn64tab" =some (DL.map (Value.int .u8)).toArray)(r:Nat)(o:Obj)(h4:r<4)(ho:W.heap[r]?=some o):lO o∧∀ρ:Rn,ro ρ o=o:=by
 have hr:r=0∨r=1∨r=2∨r=3:=by omega
 rcases hr with rfl|rfl|rfl|rfl
 ·exact Kc AO ho
 ·exact xO aao hp ho
 ·exact xO g32 h32 ho
 ·exact xO g64 R6 ho
theorem DN {W:World}(R6:W.var? prog "math/bits.deBruijn64tab" =some (DL.map (Value.int .u8)).toArray):prog.globals.size≤W.heap.size:=by
 rw[II];rcases zag 3 W.heap.size with h|h
 ·exact h
 ·unfold World.var? at R6;rw[g64]at R6;simp only[zbk,zaU h]at R6;cases R6
def putCells (cs:Array Value):Obj→Obj
 |.cells _ t frozen=> .cells cs t frozen
 |o=>o
def Wk (P:Program)(os:Os):World:={ World.holding P os ⟨#[],#[],[]⟩with heap:=(((World.holding P os ⟨#[],#[],[]⟩).heap.modify 1 (putCells (Lib.pow10Tab.map (Value.int .u64)).toArray)).modify 2 (putCells (Hv.map (Value.int .u8)).toArray)).modify 3 (putCells (DL.map (Value.int .u8)).toArray) }
theorem R7 (os:Os):laidMet prog Rows.cutRow.laid ((Wk prog os).forCall (λ_ _=>0) ⟨#[],#[.slice none 0 0,.int .i64 0],[]⟩).memory:=
 laidMet_of_run' 8 (by kernel_rfl) (by kernel_rfl)
theorem Kd (os:Os){H:Type}(enc:TypeId×Value→H):∃places,DataW.whole enc prog ((Wk prog os).forCall (λ_ _=>0) ⟨#[],#[.slice none 0 0,.int .i64 0],[]⟩).memory Tryz.f6.params.toList Rows.cutSpec.vars false #[Value.slice none 0 0,.int .i64 0].toList 8=some ([.nil,.lit (.int .i64 0)],[],places):=
 ⟨[],by kernel_rfl⟩
theorem wf_i64 {n:Int}(h:(Lit.int .i64 n).wf=true): -9223372036854775808≤n∧n≤9223372036854775807:=by
 have e:IntKind.i64.min=-9223372036854775808:=rfl;have h':=h;simp only[Lit.wf]at h';simpa[e]using h'
theorem laidOut:laidOutB prog=true:=by kernel_rfl
theorem NI:prog.cellsOf 3=1:=by kernel_rfl
theorem NJ {H:Type}{enc:TypeId×Value→H}{W:World}{base:Nat}{v:Value}{d:DataW H}{ps:List MemPlace}(hv:Value.okWide prog W .any base 43 v)(h:DataW.Trod enc prog W 0 (λ_=>true) true 43 v d ps):∃(sa:Option Addr) (len cap:Nat) (zs:List Int),v=.slice sa len cap∧len≤9223372036854775807∧zs.length=len∧(∀j,j<len→-9223372036854775808≤zs.getD j 0∧zs.getD j 0≤9223372036854775807)∧∀j,j<len→∃b o,sa=some ⟨b,o,none⟩∧W.cell? ⟨b,o+j,none⟩=some (.int .i64 (zs.getD j 0)):=by
 obtain⟨fuel,hf⟩:=h;obtain⟨a0,l0,c0,rfl⟩:=okWide_slice underlying43 hv;rcases open_ints underlying43 underlying3 NI hf with⟨hcs,_⟩|⟨a,len,cap,zs,hcs,_,hl,hm,hzl,_,hc,hwf⟩
 ·simp only[Value.cells,zbx,Value.slice.injEq,and_true]at hcs;obtain⟨rfl,rfl,rfl⟩:=hcs;exact⟨none,0,0,[],rfl,by omega,rfl,λj hj=>by omega,λj hj=>by omega⟩
 ·simp only[Value.cells,zbx,Value.slice.injEq,and_true]at hcs;obtain⟨rfl,rfl,rfl⟩:=hcs;simp only[if_true]at hzl;obtain⟨b,o,sp⟩:=a;have hsp:sp=none:=by
   simp only[Value.okWide,Cell.okWide,Cell.ok,underlying43]at hv;exact hv.2.2.2.1
  subst hsp;have PT:maxLen≤9223372036854775807:=by unfold maxLen;omega
  have KH:∀j,j<l0→(zs.take l0).getD j 0=zs.getD j 0:=λj hj=>by
   simp only[zbG,List.getElem?_take,if_pos hj]
  refine⟨some ⟨b,o,none⟩,l0,c0,zs.take l0,rfl,by omega,by rw[List.length_take];omega,λj hj=>?_,λj hj=>⟨b,o,rfl,?_⟩⟩
  ·rw[KH j hj];refine wf_i64 (hwf _ ?_);rw[zbG,zai (by omega)];exact zaN _
  ·rw[KH j hj];have:=hc j (by omega);rw[Addr.add_mid]at this;exact this
theorem Gb (os:Os)(started:os.Started)(H:Type)(enc:TypeId×Value→H):ReturnsInLeavingWide {} Tryz.checked os 6 .any ((OpenSpec.ofChange Rows.cutSpec).preRow enc prog Tryz.f6 Rows.cutRow.domain false Rows.cutRow.laid) (Rows.cutSpec.post enc prog Tryz.f6 false true false false):=by
 obtain⟨places,hx⟩:=Kd os enc;refine xN (C:=Tryz.checked) own started func6
  (witness_row_at (enc:=enc) (C:=Tryz.checked) false (Wk prog os) #[.slice none 0 0,.int .i64 0] rfl (by kernel_rfl) (by kernel_rfl) (by kernel_rfl)
    (OpenSpec.preRow_of_cond 8 hx (by kernel_rfl) (λk hk=>by cases hk) (by kernel_rfl) (R7 os))) ?_
 intro W base args ds gs before hval hW _ hL AO;have hval:∀(j:Nat) t v,Tryz.f6.params[j]?=some t→args[j]?=some v→Value.okWide prog W .any base t v:=hval;have hW':=hW;obtain⟨p,q,WC,hV,rfl,KJ,hnd⟩:=hW;have hA:DataW.TrodAll enc prog W 0 (λ_=>true) true Tryz.f6.params.toList args.toList ds p:=WC;rw[params6]at hA hval;obtain⟨v0,v1,d0,d1,p0,p1,rfl,rfl,rfl,h0,h1⟩:=trodAll_two hA;obtain⟨rfl,rfl⟩:=trodVars_none hV;have h0k:=h0;have hv0:=hval 0 43 v0 rfl rfl;obtain⟨n,rfl,rfl,rfl,w1⟩:=open_int underlying3 (hval 1 3 v1 rfl rfl) h1;simp only[List.append_nil]at hW';have hlt:∀x∈p0,x.block<W.heap.size:=λx hx=>by simpa using hW'.lt x (by simp[hx])
 obtain⟨n1,n2⟩:=wf_i64 w1;obtain⟨hp,h32,R6⟩:=Bj hL;have hgs:prog.globals.size≤W.heap.size:=DN R6;obtain⟨sa,len,cap,zs,rfl,yC,hlen,hz,hcell⟩:=NJ hv0 h0;refine NC hgs (DM AO hp h32 R6) hp yC hlen hz hcell n1 n2 λW' ht ho hu hsz hold=>?_;have hb:Below W.heap.size W W':=⟨ho,ht,hu,hsz,hold⟩;have rj:DataW.TrodAll enc prog W' 0 (λb=>decide (b<W.heap.size)) true [43,3] [.slice sa len cap,.int .i64 n] [d0,.lit (.int .i64 n)] p0:=by
  have:=trodAll_mk2 (Below.trod laidOut (by kernel_rfl) (of_decide_eq_true (by kernel_rfl)) h0k hb hlt) (shut_int underlying3 w1);rwa[List.append_nil]at this
 exact⟨_,_,_,[],p0,[],hW',trodAll_mk1 (shut_bool underlying4 _),rj,rfl,hb.frame _,λh=>by cases h⟩
theorem NK:Rows.CutSaid:=
 OpenClaim.holds_of_wide_leaving 6 Tryz.f6 rfl rfl rfl rfl rfl rfl rfl ⟨rfl,rfl,rfl,rfl,rfl⟩ rfl rfl rfl rfl rfl (by kernel_rfl) func6 (by kernel_rfl)
  (of_decide_eq_true (by kernel_rfl)) (by unfold Func.isWrapper;first|(rw[if_pos (by decide +kernel)];kernel_rfl)|(rw[if_neg (by decide +kernel)];exact⟨rfl,rfl⟩))
  (λos started H enc _=>by rw[OpenClaim.pre_eq_preRow];exact Gb os started H enc)
theorem Ke (f:FuncId)(fn:Func)(hf:Tryz.pinned.checked.prog.funcNamed Rows.cutRow.func=some f)(hfn:Tryz.pinned.checked.prog.funcs[f]?=some fn):true=Tryz.pinned.checked.prog.looks []∧∀(j:Nat) t,fn.params[j]?=some t→Tryz.pinned.checked.prog.wantsStandIn t=false:=by
 obtain rfl:f=6:=Option.some.inj ((show prog.funcNamed Rows.cutRow.func=some 6 by kernel_rfl).symm.trans hf) |>.symm
 obtain rfl:fn=Tryz.f6:=(Option.some.inj (func6.symm.trans hfn)).symm;refine⟨by kernel_rfl,λj t ht=>?_⟩;rw[params6]at ht;have hm:t∈[43,3]:=by simpa using zaT ht
 have hall:([43,3].all λu=>!prog.wantsStandIn u)=true:=by kernel_rfl
 exact(show prog.wantsStandIn t=false by simpa using zaE.1 hall t hm)
theorem cut_card:Rows.CutCardSaid:=
 Kb .later _ _ _ _ NK (by kernel_rfl) cut_row_tie rfl ⟨rfl,rfl⟩ (by kernel_rfl) rfl Ke (by kernel_rfl)
end Go.Proofs.YtlhimdjkkiflhaaGreatDoor
#print axioms Go.Proofs.YtlhimdjkkiflhaaGreatDoor.cut_card
