import Derived.Shelf.Strings.Builder1
import Derived.Shelf.Small.Strs
import Derived.Shelf.Strings.BuilderF
import Derived.Shelf.Strings.BuilderK
import Derived.Shelf.Strconv.Itoa0
import Derived.Shelf.Strconv.Itoa1
import Derived.Shelf.LaysM
import Derived.Shelf.Strconv.Itoa2
import Derived.Shelf.Strconv.Itoa3
import Derived.Shelf.Strconv.Clone
import Derived.Shelf.Strings.Search1
import Derived.Shelf.Strings.Search2
import Derived.Shelf.Strings.Cut
import Derived.Shelf.Strings.Shaped
import Derived.Shelf.Strings.Prefix
import Derived.Test.YtlhimdjkkiflhaaGreatDoorRows
import Derived.WalkKit
import Derived.WalkSpells
import Derived.WalkLawsBesides
import Derived.Deep.QuietTactic
import Derived.BigQuiet
import Derived.Test.YtlhimdjkkiflhaaGreatDoorCut15
set_option maxHeartbeats 8000000
set_option maxRecDepth 100000
set_option linter.unusedSectionVars false
namespace Go.Ren
open Go.Proofs.Tryz
open Go Go.Conc Go.ConcX Go.RowKit Go.Conc.Lib Go.ConcX.Gen Go.Proofs Go.Loop
theorem IX (Wg:Nat):Frame.enter prog 68 #[.pointer (some ⟨Wg,0,none⟩),.int .i64 1] .normal=(base cG.add).at ⟨#[.pointer (some ⟨Wg,0,none⟩),.int .i64 1,undef,undef,undef,undef,undef,undef,undef,undef,undef,undef,undef,undef,undef,undef,undef,undef,undef,undef,undef,undef,undef,undef,undef,undef,undef,undef,undef,undef,undef,undef,undef,undef,undef,undef,undef,undef,undef,undef,undef,undef,undef,undef,undef,undef,undef,undef,undef,undef,undef,undef,undef,undef,undef,undef,undef,undef,undef,undef,undef,undef,undef,undef,undef,undef,undef,undef,undef,undef,undef,undef,undef,undef,undef,undef,undef,undef,undef,undef,undef,undef,undef,undef,undef,undef,undef,undef,undef,undef,undef,undef,undef,undef,undef,undef,undef,undef,undef,undef,undef,undef,undef,undef,undef,undef,undef,undef,undef,undef,undef,undef,undef,undef,undef,undef,undef],[]⟩ [.code (body_add cG)]:=by
 rw[enter_at (P:=prog) (f:=68) (c:=body_add cG) #[.pointer (some ⟨Wg,0,none⟩),.int .i64 1] LB (by kernel_rfl)];have:(#[Value.pointer (some ⟨Wg,0,none⟩),.int .i64 1]++Array.replicate ((addFn cG).ntmps - (#[Value.pointer (some ⟨Wg,0,none⟩),.int .i64 1]:Array Value).size) undef)=#[.pointer (some ⟨Wg,0,none⟩),.int .i64 1,undef,undef,undef,undef,undef,undef,undef,undef,undef,undef,undef,undef,undef,undef,undef,undef,undef,undef,undef,undef,undef,undef,undef,undef,undef,undef,undef,undef,undef,undef,undef,undef,undef,undef,undef,undef,undef,undef,undef,undef,undef,undef,undef,undef,undef,undef,undef,undef,undef,undef,undef,undef,undef,undef,undef,undef,undef,undef,undef,undef,undef,undef,undef,undef,undef,undef,undef,undef,undef,undef,undef,undef,undef,undef,undef,undef,undef,undef,undef,undef,undef,undef,undef,undef,undef,undef,undef,undef,undef,undef,undef,undef,undef,undef,undef,undef,undef,undef,undef,undef,undef,undef,undef,undef,undef,undef,undef,undef,undef,undef,undef,undef,undef,undef,undef]:=by kernel_rfl
 rw[this]
variable {cs:List Frame}{N:Nat}
def AtGo (s:List UInt8)(w0:World)(cs:List Frame)(g:Goroutine)(w:World):Prop:=
 ∃a,GB a w0.heap.size∧a.eval (.tmp 9)=.func (.func 69) #[] #[.pointer (some ⟨w0.heap.size+3,0,none⟩),.pointer (some ⟨w0.heap.size,0,none⟩),.pointer (some ⟨w0.heap.size+2,0,none⟩)]∧
  g=G ((base 43).at a (.inRegion (g4 f43) [1]::.code (D5 f43)::[])) cs∧Laid s w0 w∧WgAt cG.tWg (w0.heap.size+3) w KK 0
theorem Aw {Wg C Low:Nat}(hW:Wg<Low)(hC:C<Low){Z:Loc→Prop}(hZ:∀a:Addr,a.block=C→¬Z (.cell a)){w w':World}{es:Array Event}(h:@DE (@EvS Wg C (l9 Wg C Low nD hW hC)) w w' es):∀e∈es,EvL Z Low e:=by
 intro e he;obtain⟨h1,h2,h3,h4,h5,h6⟩:=h e he;have h6':okR Wg C Low (MemAct.ofEvent e):=h6;refine⟨λx hx hz=>?_,?_,?_,h6'.2⟩
 ·obtain⟨a,ha,hb⟩:=h6'.1 x hx;rcases hb with hb|hb
  ·exact(h1 x hx).1 (.inl ⟨a,ha,hb⟩)
  ·rw[ha]at hz;exact absurd hz (hZ a hb)
 ·intro e';exact h4 (by obtain⟨loc,wr,sy⟩:=e;simp only at e';subst e';rfl)
 ·intro e';exact h5 (by obtain⟨loc,wr,sy⟩:=e;simp only at e';subst e';rfl)
theorem Laid.Yv {s:List UInt8}{w0 w:World}(h:Laid s w0 w)(v:Value):Laid s w0 (w.setCell (stA (w0.heap.size+3)) v):=by
 have hb:∀b,b≠w0.heap.size+3→(w.setCell (stA (w0.heap.size+3)) v).heap[b]?=w.heap[b]?:=λb hb=>Below.heap_setCell _ _ _ b hb;refine⟨?_,λb hlt=>(hb b (by omega)).trans (h.old b hlt),(hb _ (by omega)).trans h.txt,(hb _ (by omega)).trans h.chan,(hb _ (by omega)).trans h.box,h.tape,h.os,h.output⟩;show(Array.modify w.heap _ _).size=_;rw[Array.size_modify];exact h.size
theorem Laid.at {s:List UInt8}{w0 w:World}(h:Laid s w0 w)(d:Nat):Laid s w0 (w.at d):=⟨h.size,h.old,h.txt,h.chan,h.box,h.tape,h.os,h.output⟩
theorem GB.put {a:Act}{N:Nat}(h:GB a N){t:Tmp}{v:Value}(h1:t≠1)(h3:t≠3)(h4:t≠4):GB (a.put (some t) v) N:=
 ⟨size_put.trans h.size,(aO h1).trans h.s1,(aO h3).trans h.s3,(aO h4).trans h.s4,cM.trans h.defers⟩
theorem L9 (s:List UInt8)(w0:World)(g:Goroutine)(w:World)(h:SC s w0 cs g w)(hW:w0.heap.size+3<w0.heap.size+4)(hC:w0.heap.size<w0.heap.size+4):letI:=l9 (w0.heap.size+3) w0.heap.size (w0.heap.size+4) nD hW hC
 Goes prog true AtRel (DE (EvS (w0.heap.size+3) w0.heap.size)) (AtMkS prog .disable λa w=>∃n,Goes prog true AtRel (DE (EvS (w0.heap.size+3) w0.heap.size)) (AtMkS prog .enable λa w=>∃n,Goes prog true AtRel (DE (EvS (w0.heap.size+3) w0.heap.size)) (AtGo s w0 cs) n a w) n a w) 12 g w:=by
 letI:=l9 (w0.heap.size+3) w0.heap.size (w0.heap.size+4) nD hW hC
 obtain⟨a,hg,rfl,hl,En⟩:=h;rw[IX];refine addPos (L:=cG) (b₀:=base 43) (a₀:=a) (ops₀:=g3 f43) (i₀:=0) (rest₀:=[]) (k₀:=[.code (D4 f43)]) (mT:=4) wgz w En ?_;have hl':=hl.Yv (.int .u64 KK);have aa4:WgAt cG.tWg (w0.heap.size+3) (w.setCell (stA (w0.heap.size+3)) (.int .u64 KK)) KK 0:=En.setSt KK;generalize w.setCell (stA (w0.heap.size+3)) (.int .u64 KK)=w1 at *;change Goes _ _ _ _ _ _ (G ((base 43).at (a.put (some 8) (.tuple #[])) (.inRegion (g3 f43) []::.code (D4 f43)::[])) cs) _;have hg1:=hg.put (t:=8) (v:= .tuple #[]) (by decide) (by decide) (by decide);generalize a.put (some 8) (.tuple #[])=a1 at *;refine Goes.silent atRel_trans (λ_=>by intro e he;simp at he) rfl (λ_=>stepG_region_end) ?_;refine Goes.silent atRel_trans (λ_=>by intro e he;simp at he) rfl (λ_=>stepG_seq (x:= .region 4 (g4 f43) false) (y:=D5 f43)) ?_;refine Goes.silent atRel_trans (λ_=>by intro e he;simp at he) rfl (λ_=>stepG_region) ?_;refine Goes.silent (g':=G ((base 43).at (a1.put (some 9) (.func (.func 69) #[] #[.pointer (some ⟨w0.heap.size+3,0,none⟩),.pointer (some ⟨w0.heap.size,0,none⟩),.pointer (some ⟨w0.heap.size+2,0,none⟩)])) (.inRegion (g4 f43) [1]::.code (D5 f43)::[])) cs) atRel_trans (λ_=>by intro e he;simp at he) rfl (λw₁=>?_) ?_
 ·have hop:(g4 f43)[0].op=.makeFunc (.func 69) #[] #[.tmp 4,.tmp 1,.tmp 3]:=rfl;have hr:(execOp a1.eval (g4 f43)[0]).run prog w₁=.ok (.value (.func (.func 69) #[] #[.pointer (some ⟨w0.heap.size+3,0,none⟩),.pointer (some ⟨w0.heap.size,0,none⟩),.pointer (some ⟨w0.heap.size+2,0,none⟩)])) w₁:=by
   unfold execOp;simp[hop,Instr.makeFunc,hg1.s1,hg1.s3,hg1.s4]
  have he:(execOp a1.eval (g4 f43)[0]).events prog w₁ #[]=#[]:=by
   unfold execOp;simp[hop,Instr.makeFunc]
  have hq:=stepG_value (P:=prog) (main:=true) (b:=base 43) (k:=[.code (D5 f43)]) (cs:=cs) (ops:=g4 f43) (i:=0) (rest:=[1]) rfl rfl (by decide) hr;rw[listed_none he]at hq;exact hq
 ·refine Goes.stop λw₁ h₁=>?_;obtain⟨d,rfl⟩:=h₁;exact⟨_,hg1.put (by decide) (by decide) (by decide),bk (by rw[hg1.size];decide),rfl,hl'.at d,aa4⟩
def QG (N:Nat)(l:Loc):Prop:=l=.obj (N+1)∨∃a:Addr,l=.cell a∧a.block=N+3
def SD (N:Nat)(b:Nat):Prop:=b=N∨b=N+2
theorem Ma {a:Act}{N:Nat}(h9:a.eval (.tmp 9)=.func (.func 69) #[] #[.pointer (some ⟨N+3,0,none⟩),.pointer (some ⟨N,0,none⟩),.pointer (some ⟨N+2,0,none⟩)])(w:World):stepG prog true (G ((base 43).at a (.inRegion (g4 f43) [1]::.code (D5 f43)::[])) cs) w=.spawn (G ((base 43).at a (.inRegion (g4 f43) []::.code (D5 f43)::[])) cs) (born prog (sR (N+3) N (N+2))) w #[]:=by
 have hop:(g4 f43)[1].op=.go { callee:= .value (.tmp 9),args:=#[],argTypes:=#[] }:=rfl;have hr:(execOp a.eval (g4 f43)[1]).run prog w=.ok (.spawn (sR (N+3) N (N+2))) w:=by
  unfold execOp;simp[hop,resolve,h9,Deferred.ofValue,sR]
 have he:(execOp a.eval (g4 f43)[1]).events prog w #[]=#[]:=by
  unfold execOp;simp[hop,resolve,h9,Deferred.ofValue]
 have hq:=stepG_spawn (P:=prog) (main:=true) (b:=base 43) (k:=[.code (D5 f43)]) (cs:=cs) (ops:=g4 f43) (i:=1) (rest:=[]) rfl rfl (by decide) hr rfl;rw[listed_none he]at hq;exact hq
theorem Az {Low:Nat}{x y:sP (N+3) Low}(hx:x.C=N)(hy:y.C=N+2){a:Act}(hg:GB a N){ts:List Tok}(hts:ts.length≤1000000){W:World}(hb:prog.globals.size≤W.heap.size)(hsz:N+4≤W.heap.size)(aa5:W.heap[N+2]?=some (.cells #[.chan (some (N+1))] 132)):lA prog (SD N) (N+1) (cn sS) (LA prog cG.tWg x y (Av (SD N) x.C y.C (N+3) (N+1) ts cs)) (ts.map cn) (λ_=>False) (G ((base 43).at a (.inRegion (g4 f43) []::.code (D5 f43)::[])) cs) W:=by
 rw[cN];refine aj.silent rfl (λ_=>stepG_region_end) ?_;refine aj.silent rfl (λ_=>stepG_seq (x:= .region 5 (g5 f43) false) (y:=D6 f43)) ?_;refine aj.silent rfl (λ_=>stepG_region) ?_;refine aj.mv (ops:=g5 f43) (i:=0) (rest:=[]) rfl rfl (by decide) (dd:=some 5) rfl (.inr rfl) (v:= .slice none 0 0) rfl ?_;have hg1:=hg.put (t:=5) (v:= .slice none 0 0) (by decide) (by decide) (by decide);have k5:(a.put (some 5) (.slice none 0 0)).eval (.tmp 5)=.slice none 0 0:=bk (by rw[hg.size];decide);generalize a.put (some 5) (.slice none 0 0)=a1 at *;refine aj.silent rfl (λ_=>stepG_region_end) ?_;refine aj.silent rfl (λ_=>stepG_seq (x:=cJ (D6 f43)) (y:=D10 f43)) ?_;refine aj.silent rfl (λ_=>stepG_seq (x:= .region 6 (g6 f43) false) (y:= .block 0 (.loop (Lg f43)))) ?_;refine aj.silent rfl (λ_=>stepG_region) ?_;refine aj.Ah (ops:=g6 f43) (i:=0) (rest:=[]) rfl rfl (by decide) (dd:=some 10) rfl (e:=132) (x:= .tmp 3) rfl (ad:=⟨N+2,0,none⟩) hg1.s3 (.inr rfl) (v:= .chan (some (N+1))) (cell_of_one aa5) (λw h=>LZ (.inr rfl) w _ h) ?_;have hga:Yn (a1.put (some 10) (.chan (some (N+1)))) x.C y.C (N+3) (N+1):=⟨size_put.trans hg1.size,by rw[hx];exact(aO (by decide)).trans hg1.s1,by rw[hy];exact(aO (by decide)).trans hg1.s3,(aO (by decide)).trans hg1.s4,bk (by rw[hg1.size];decide),cM.trans hg1.defers⟩;have Yr:(a1.put (some 10) (.chan (some (N+1)))).eval (.tmp 5)=.slice none 0 0:=(aO (by decide)).trans k5;generalize a1.put (some 10) (.chan (some (N+1)))=a2 at *;refine aj.silent rfl (λ_=>stepG_region_end) ?_;refine aj.silent rfl (λ_=>stepG_block) ?_;refine aj.silent rfl (λ_=>stepG_loop) ?_;have hH:nC (SD N) (λ_=>False) W:=⟨λb hb=>by rcases hb with h|h|h<;>first|exact h.elim|omega,λ_ _ h=>h⟩;have hA:=At.empty (P:=prog) (S:=Sc) hH hb;have Wv:GR (SD N) x.C y.C (N+3) (N+1) [] (λ_=>False) a2 W:=⟨hga,_,_,.slice none 0 0,hA,by rw[Yr];simp[rv],by unfold Cl;simp[rv],World.ownsRow_nil _ _ _ _⟩;have:=IW (cs:=cs) (Fin:=LA prog cG.tWg x y (Av (SD N) x.C y.C (N+3) (N+1) ts cs)) ts [] (λ_=>False) a2 W Wv (by simpa using hts) (λown a W h=>ET (by simpa using h));rw[cN]at this;exact this
end Go.Ren
set_option linter.unusedSectionVars false
namespace Go.Ren
open Go.Proofs.Tryz
open Go Go.Conc Go.ConcX Go.RowKit Go.Conc.Lib Go.ConcX.Gen Go.Proofs Go.Loop
variable {c:Frame}{cs:List Frame}
theorem IY {Z:Loc→Prop}{B:Nat}{a:Act}(hd:a.defers=[])(hs:a.tmps.size=20){v:Value}(h5:a.eval (.tmp 5)=v)(w:World):Goes prog true AtRel (DZ Z B) (λg w'=>g=G (c.finish v) cs∧AtRel w w') 8 (zk f43 a (c::cs)) w:=by
 unfold zk;have Yh:(a.put (some 18) (.tuple #[])).eval (.tmp 5)=v:=(aO (by decide)).trans h5;have hs':(a.put (some 18) (.tuple #[])).tmps.size=20:=size_put.trans hs;have hd':(a.put (some 18) (.tuple #[])).defers=[]:=cM.trans hd;generalize a.put (some 18) (.tuple #[])=a1 at *;refine Goes.ctl rfl (λ_=>stepG_region_end) ?_;refine Goes.ctl rfl (λ_=>stepG_seq (x:= .region 11 (g11 f43) false) (y:= .ret)) ?_;refine Goes.ctl rfl (λ_=>stepG_region) ?_;refine Goes.BP (ops:=g11 f43) (i:=0) (rest:=[1]) rfl rfl (by decide) (dd:=some 19) rfl (v:=v) (nw:=λw=>w) (λd=>?_) (λd=>rfl) (λd=>?_)
 ·show(pure (.value (a1.eval (.tmp 5))):Sem Next).run prog _=_;rw[Yh];rfl
 have h19:(a1.put (some 19) v).eval (.tmp 19)=v:=bk (by rw[hs'];decide);have hs2:(a1.put (some 19) v).tmps.size=20:=size_put.trans hs';have WK:(a1.put (some 19) v).defers=[]:=cM.trans hd';generalize a1.put (some 19) v=a2 at *;refine Goes.BP (ops:=g11 f43) (i:=1) (rest:=[]) rfl rfl (by decide) (dd:=some 2) rfl (v:=v) (nw:=λw=>w) (λd=>?_) (λd=>rfl) (λd1=>?_)
 ·show(pure (.value (a2.eval (.tmp 19))):Sem Next).run prog _=_;rw[h19];rfl
 have h2:(a2.put (some 2) v).eval (.tmp 2)=v:=bk (by rw[hs2];decide);have hd3:(a2.put (some 2) v).defers=[]:=cM.trans WK;generalize a2.put (some 2) v=a3 at *;refine Goes.ctl rfl (λ_=>stepG_region_end) ?_;refine Goes.ctl rfl (λ_=>stepG_ret') ?_;refine Goes.ctl (g':=G (c.finish v) cs) rfl (λw₁=>?_) ?_
 ·refine stepG_leave (fn:=f43) rfl hd3 Ys ?_ ?_
  ·have jr:a3.tmps.getD 2 undef=v:=h2;unfold results;rw[show f43.results=#[.tmp 2] from rfl];simp[←jr,go_sem]
  ·unfold results;rw[show f43.results=#[.tmp 2] from rfl];simp[go_sem]
 ·refine Goes.stop λw₁ h₁=>⟨rfl,?_⟩;exact atRel_trans _ _ _ (atRel_trans _ _ _ ⟨d,rfl⟩ ⟨d1,rfl⟩) h₁
def Cr (Shun:Loc→Prop)(ts:List Tok)(c:Frame)(cs:List Frame)(n:Nat)(w0:World)(m:Machine)(t:Trace):Prop:=
 ∃(gs:Array Goroutine) (W:World) (sl:Option (Nat×Nat)) (q:Nat→Nat) (ρ:Rn) (w:World) (v:Value) (Shun':Loc→Prop),m=crowd gs W sl∧gs.size=n+1∧gs[0]?=some (G (c.finish (rv ρ v)) cs)∧Leavers prog t gs q∧Past Shun' W.heap.size t∧
  (∀l,Shun' l→l.low W.heap.size)∧(∀l,l.low w0.heap.size→Shun' l→Shun l)∧(∀l,jR (Touch Sc.d ρ w) l→¬Shun' l)∧
  gp prog Sc ρ w W∧Cl prog Sc w v∧w.ownsRow prog.globals.size 131 7 v ts.length (ts.flatMap λt=>(eH t).toList)∧(∀b,Touch Sc.d ρ w b→w0.heap.size≤b)∧
  w0.heap.size≤W.heap.size∧(∀b,b<w0.heap.size→W.heap[b]?=w0.heap[b]?)∧W.tape=w0.tape∧W.os=w0.os∧W.output=w0.output
theorem quiet_of {Shun Q:Loc→Prop}{B:Nat}{t:Trace}(h:Past Shun B t)(hQ:∀l,l.low B→¬Q l):∀i a,touchAt t i=some a→¬Q a.loc:=by
 intro i a ha;unfold touchAt at ha;obtain⟨act,h1,h2⟩:=zay.1 ha;unfold Trace.act? at h1;obtain⟨op,h3,rfl⟩:=zam.1 h1;exact hQ _ (yQ (h.seen op (zaT h3)) h2)
theorem tT:∀(n:Nat) (s:List UInt8) (a:Nat),(aQ n s a).length≤n
 |0,s,a=>zaa _
 |n+1,s,a=>by
  have:=tT n s (ax s a).dF;rw[aQ];split
  ·simp
  ·simp;exact this
def Ud (N Low:Nat)(s:List UInt8)(h:N+4≤Low):sP (N+3) Low:=⟨⟨9⟩,N,[.string ⟨⟨s⟩⟩],by omega,by omega,by omega⟩
def Ue (N Low:Nat)(h:N+4≤Low):sP (N+3) Low:=⟨⟨132⟩,N+2,[.chan (some (N+1))],by omega,by omega,by omega⟩
theorem Yw {Shun:Loc→Prop}{N n Low:Nat}(hn:n≠0)(aa6:Low=N+4)(hS:∀l,Shun l→l.low N):B7 (QG N) (λl=>Shun l∨QG N l) n (N+1) (N+3) Low (SD N) (λb=>b=N+1∨b=N+3):=by
 subst aa6;refine⟨⟨hn,λb hb=>by rcases hb with h|h<;>omega,by omega,λh=>by rcases h with h|h<;>omega,λl h=> .inr h,λl h=>?_,λl hl h=>?_,.inl rfl⟩,by omega,by omega,λa ha=> .inr ⟨a,rfl,ha⟩,.inr rfl⟩
 ·rcases h with h|rfl|⟨a,rfl,ha⟩
  ·exact Loc.low_mono (by omega) (hS l h)
  ·show N+1<N+4;omega
  ·show a.block<N+4;omega
 ·rcases h with h|rfl|⟨a,rfl,ha⟩
  ·have:=hS l h;cases l with
   |cell a=>have h2:a.block<N:=this;rcases hl with h|h<;>omega
   |obj r=>have h2:r<N:=this;rcases hl with h|h<;>omega
   |_=>exact hl
  ·rcases hl with h|h<;>omega
  ·rcases hl with h|h<;>omega
section
variable {s:List UInt8}
 (hN:∀(n:Nat) (w:World),n≤s.length→Calls prog 120 #[.string ⟨⟨s⟩⟩,.int .i64 n] w λe _=>∃v,e=.returned v∧v=cn (ax s n))
 (hL:∀(t:Tok) (w:World),Calls prog 121 #[cn t] w λe _=>∃v,e=.returned v∧v=.bool t.lastB)
include hN hL in
theorem AB {Shun:Loc→Prop}{gs:Array Goroutine}{w0:World}{sl:Option (Nat×Nat)}{t:Trace}{q:Nat→Nat}(hlen:s.length≤1000)(hb:prog.globals.size≤w0.heap.size)(h0:gs[0]?=some (G (Frame.enter prog 43 #[.string ⟨⟨s⟩⟩] .normal) (c::cs)))(hLv:Leavers prog t gs q)(hP:Past Shun w0.heap.size t)(hS:∀l,Shun l→l.low w0.heap.size):Reach prog (crowd gs w0 sl) t (Cr Shun (aQ (s.length+1) s 0) c cs gs.size w0):=by
 have KL:gs.size≠0:=by have:=(zae.1 h0).1;omega
 have hPQ:fS (QG w0.heap.size) Shun (w0.heap.size+4) 0 t:=fS.GX (hP.mono (by omega)) (quiet_of hP λl hl hq=>by
  rcases hq with rfl|⟨a,rfl,ha⟩
  ·have:w0.heap.size+1<w0.heap.size:=hl;omega
  ·have:a.block<w0.heap.size:=hl;omega)
 refine(jI (Q:=QG w0.heap.size) (Shun:=Shun) (B:=w0.heap.size+4) (D:=DZ (λl=>Shun l∨QG w0.heap.size l) (w0.heap.size+4)) (λ_ _ _ h=>h) 19 _ w0 (EU (cs:=c::cs) s w0 (λhz=>?_) (by omega)) gs sl t q rfl hLv h0 hPQ).bind ?_
 ·rcases hz with hz|hz|⟨a,ha,hab⟩
  ·have:w0.heap.size+2<w0.heap.size:=hS _ hz;omega
  ·cases hz
  ·cases ha;have:w0.heap.size+2=w0.heap.size+3:=hab;omega
 rintro m t1 ⟨gs1,a1,w1,sl1,q1,rfl,Uf,h01,aa7,aa8,hP1⟩;have hZ:∀a:Addr,a.block=w0.heap.size→¬(Shun (.cell a)∨QG w0.heap.size (.cell a)):=λa ha hz=>by
  rcases hz with hz|hz|⟨a',ha',hab⟩
  ·have:a.block<w0.heap.size:=hS _ hz;omega
  ·cases hz
  ·cases ha';omega
 have Mb:=L9 s w0 a1 w1 (aa7 w1 (atRel_refl w1)) (by omega) (by omega);refine(jI (Q:=QG w0.heap.size) (Shun:=Shun) (B:=w0.heap.size+4) (λw w' es h=>Aw _ _ hZ h) 12 _ w1 Mb gs1 sl1 t1 q1 Uf aa8 h01 hP1).bind ?_;rintro m t2 ⟨gs2,a2,w2,sl2,q2,rfl,Pe,h02,aa9,aba,hP2⟩;refine(tS (mk:= .disable) (by rfl) trivial Pe aba h02 hP2 aa9).bind ?_;rintro m t3 ⟨gs3,a3,w3,sl3,q3,rfl,hn3,h03,⟨n3,Yx⟩,abb,hP3⟩;refine(jI (Q:=QG w0.heap.size) (Shun:=Shun) (B:=w0.heap.size+4) (λw w' es h=>Aw _ _ hZ h) n3 _ w3 Yx gs3 sl3 t3 q3 hn3 abb h03 hP3).bind ?_;rintro m t4 ⟨gs4,a4,w4,sl4,q4,rfl,hn4,h04,abc,abd,LW⟩;refine(tS (mk:= .enable) (by rfl) trivial hn4 abd h04 LW abc).bind ?_;rintro m t5 ⟨gs5,a5,w5,sl5,q5,rfl,hn5,h05,⟨n5,hG5⟩,abe,WD⟩;refine(jI (Q:=QG w0.heap.size) (Shun:=Shun) (B:=w0.heap.size+4) (λw w' es h=>Aw _ _ hZ h) n5 _ w5 hG5 gs5 sl5 t5 q5 hn5 abe h05 WD).bind ?_;rintro m t6 ⟨gs6,a6,w6,sl6,q6,rfl,hn6,h06,abf,abg,Yj⟩;have Wy:deafBehind (deafBehind 0 #[Go.ConcX.mk .disable]) #[Go.ConcX.mk .enable]=0:=by rfl
 rw[Wy]at Yj;obtain⟨a,hg,h9,rfl,hl,En⟩:=abf w6 (atRel_refl w6);have hsz:w6.heap.size=w0.heap.size+4:=hl.size;rw[←hsz]at Yj;have EW:w0.heap.size+4≤w6.heap.size:=by omega
 have mL:prog.globals.size≤w6.heap.size:=by omega
 have Yy:=Pd (P:=prog) (ty:=cG.tWg) (Q:=QG w0.heap.size) (Shun:=Shun) (Shun':=λl=>Shun l∨QG w0.heap.size l) (ch:=w0.heap.size+1) (Wg:=w0.heap.size+3) (n:=gs.size) (ro:=SD w0.heap.size) (z:=cn sS) (w:=w6) (x:=Ud w0.heap.size w6.heap.size s EW) (y:=Ue w0.heap.size w6.heap.size EW)
  (After:=Av (SD w0.heap.size) w0.heap.size (w0.heap.size+2) (w0.heap.size+3) (w0.heap.size+1) (aQ (s.length+1) s 0) (c::cs)) (vs:=(aQ (s.length+1) s 0).map cn) (sl:=sl6)
  (Yw KL hsz hS) (λl h=> .inl h) (by show w0.heap.size≠w0.heap.size+2;omega) (λa ha=>hZ a ha) (λa ha hz=>?_) hn6 abg h06 Yj rfl (λw₁ _=>Ma h9 w₁) ⟨0,0,false,hl.chan⟩ En (λw₁ h₁=>?_) (λw₁ h₁=>?_)
 rotate_left
 ·have hab:a.block=w0.heap.size+2:=ha;rcases hz with hz|hz|⟨a',ha',acH⟩
  ·have:a.block<w0.heap.size:=hS _ hz;omega
  ·cases hz
  ·cases ha';omega
 ·obtain⟨d,rfl⟩:=h₁;exact Az (x:=Ud w0.heap.size w6.heap.size s EW) (y:=Ue w0.heap.size w6.heap.size EW) rfl rfl hg (by have:=tT (s.length+1) s 0;omega) mL EW hl.box
 ·obtain⟨d,rfl⟩:=h₁;exact EP (x:=Ud w0.heap.size w6.heap.size s EW) (y:=Ue w0.heap.size w6.heap.size EW) (by show w0.heap.size≠w0.heap.size+1;omega) (by show w0.heap.size+2≠w0.heap.size+1;omega) (.inl rfl) (.inr rfl) hN hL (w6.at d) ⟨λb hb=>by
   rcases hb with h|h|h
   ·exact h.elim
   ·show b<w6.heap.size;omega
   ·show b<w6.heap.size;omega,λ_ _ h=>h⟩ mL ⟨hl.txt,hl.box⟩ (cell_of_one (w:=w6.at d) hl.txt) (cell_of_one (w:=w6.at d) hl.box)
 refine Yy.bind ?_;rintro m t7 ⟨w₁,⟨d1,rfl⟩,gs7,w',w7,sl7,q7,a7,own,rfl,hn7,h07,acw,⟨a',⟨hga,ρ,w,v,hA,h5,eG,hrow⟩,rfl,IZ⟩,acI,abh,Yl,Yz,acx,Ug,ht7,abi,YA⟩;refine(jI (Q:=λ_=>False) (Shun:=λl=>Shun l∨QG w0.heap.size l) (B:=w7.heap.size) (D:=DZ (λl=>(Shun l∨QG w0.heap.size l)∨False) w7.heap.size) (λ_ _ _ h=>h) 8 _ w7 (IY (c:=c) (cs:=cs) hga.defers hga.size h5 w7) gs7 sl7 t7 q7 hn7 abh h07 (fS.GX Yl λ_ _ _ h=>h)).mono ?_;rintro m t8 ⟨gs8,a8,w8,sl8,q8,rfl,hn8,h08,abj,abk,hP8⟩;obtain⟨rfl,d8,e8⟩:=abj w8 (atRel_refl w8);have lY:w8.heap=w7.heap:=by rw[e8];rfl
 have acJ:w7.heap.size=w'.heap.size:=IZ.size;have AD:∀b,Touch Sc.d ρ w b→w0.heap.size+4≤b:=λb hb=>by have:=Yz b (hA.Sg b hb);omega
 have hblk:∀b,Touch Sc.d ρ w b→w8.heap[b]?=w'.heap[b]?:=λb hb=>by
  have:=AD b hb;rw[lY];exact IZ.block b (by omega) (by omega) (by omega)
 have WG:=hA.uu.grow (aF:=w8) (by rw[lY];omega) hblk;refine⟨gs8,w8,sl8,q8,_,w,v,λl=>Shun l∨QG w0.heap.size l,rfl,hn8,?_,abk,by rw[lY];exact hP8.past,λl hl'=>?_,λl fW hl'=>?_,λl hl'=>?_,WG,eG,hrow,λb hb=>?_,by rw[lY];omega,λb hb=>?_,?_,?_,?_⟩
 ·rw[h08];have:rv (cL ρ w.heap.size w8.heap.size) v=rv ρ v:=eG.agree (λr hr=>aR hr) (Aa hA.uu WG);rw[this]
 ·have:=(Yw (Low:=w6.heap.size) KL hsz hS).qZ l hl';exact Loc.low_mono (by rw[lY];omega) this
 ·rcases hl' with h|rfl|⟨a,rfl,ha⟩
  ·exact h
  ·have:w0.heap.size+1<w0.heap.size:=fW;omega
  ·have:a.block<w0.heap.size:=fW;omega
 ·rw[cv]at hl';rintro (h|rfl|⟨a,rfl,ha⟩)
  ·have Mc:=hS l h;cases l with
   |cell a=>have h1:=AD _ hl';have h2:a.block<w0.heap.size:=Mc;omega
   |obj r=>have h1:=AD _ hl';have h2:r<w0.heap.size:=Mc;omega
   |_=>exact hl'
  ·have h1:=AD _ hl';omega
  ·have h1:=AD _ hl';omega
 ·rw[cv]at hb;have:=AD b hb;omega
 ·rw[lY,IZ.block b (by omega) (by omega) (by omega),Ug b (by omega) (by omega) (by omega)];exact hl.old b hb
 ·rw[e8];exact(IZ.tape.trans ht7).trans hl.tape
 ·rw[e8];exact(IZ.os.trans abi).trans hl.os
 ·rw[e8];exact(IZ.output.trans YA).trans hl.output
end
end Go.Ren
namespace Go.Proofs
open Go.Proofs.Tryz
open Go.Shelf
def Tryz.Cs:Go.Shelf.Ren:=⟨λ|137=>127|217=>174|266=>202|n=>n,λ|9=>9|5=>5|3=>3|n=>n,λ|n=>n⟩
theorem Tryz.Pf:Go.Proofs.Lays.n137 prog Tryz.Cs:={
 mixed:=by kernel_rfl
 f137:=func127.trans (congrArg some (by kernel_rfl))
 f217:=func174.trans (congrArg some (by kernel_rfl))
 f266:=func202.trans (congrArg some (by kernel_rfl))
 t3:=underlying3
 a3:=Tryz.isAgg3
 z3:=Tryz.sizeOf3
 v3:=Tryz.zeroValue3
 t5:=underlying5
 a5:=Tryz.isAgg5
 z5:=Tryz.sizeOf5
 v5:=Tryz.zeroValue5
 t9:=underlying9
 a9:=Tryz.isAgg9
 z9:=Tryz.sizeOf9
 v9:=Tryz.zeroValue9 }
open Go.RowKit in
theorem Tryz.strings_IndexByte (s:ByteArray)(c:Int)(w:World):Calls prog 127 #[.string s,.int .u8 c] w λe w'=>e=.returned (.int .i64 (Lib.indexByte s.data.toList c.toNat.toUInt8))∧w'=w:=Any.strings_IndexByte Tryz.Pf s c w
def Tryz.AE:Go.Shelf.Ren:=⟨λ|171=>100|243=>155|246=>190|283=>216|284=>217|285=>218|286=>219|129=>239|317=>238|318=>240|319=>241|320=>242|337=>245|338=>246|n=>n,λ|3=>3|9=>9|2=>2|4=>4|171=>282|0=>0|53=>137|37=>80|5=>5|173=>285|212=>300|51=>140|20=>20|213=>301|46=>200|232=>306|233=>307|n=>n,λ|17=>1|18=>2|19=>3|n=>n⟩
theorem Tryz.Md:Go.Proofs.LaysM.n171 prog Tryz.AE:={
 mixed:=by kernel_rfl
 f129:=func239.trans (congrArg some (by kernel_rfl))
 f171:=func100.trans (congrArg some (by kernel_rfl))
 f243:=func155.trans (congrArg some (by kernel_rfl))
 f246:=func190.trans (congrArg some (by kernel_rfl))
 f283:=func216.trans (congrArg some (by kernel_rfl))
 f284:=func217.trans (congrArg some (by kernel_rfl))
 f285:=func218.trans (congrArg some (by kernel_rfl))
 f286:=func219.trans (congrArg some (by kernel_rfl))
 f317:=func238.trans (congrArg some (by kernel_rfl))
 f318:=func240.trans (congrArg some (by kernel_rfl))
 f319:=func241.trans (congrArg some (by kernel_rfl))
 f320:=func242.trans (congrArg some (by kernel_rfl))
 f337:=func245.trans (congrArg some (by kernel_rfl))
 f338:=func246.trans (congrArg some (by kernel_rfl))
 t0:=underlying0
 a0:=Tryz.isAgg0
 z0:=Tryz.sizeOf0
 v0:=Tryz.zeroValue0
 t2:=underlying2
 a2:=Tryz.isAgg2
 z2:=Tryz.sizeOf2
 v2:=Tryz.zeroValue2
 t3:=underlying3
 a3:=Tryz.isAgg3
 z3:=Tryz.sizeOf3
 v3:=Tryz.zeroValue3
 t4:=underlying4
 a4:=Tryz.isAgg4
 z4:=Tryz.sizeOf4
 v4:=Tryz.zeroValue4
 t5:=underlying5
 a5:=Tryz.isAgg5
 z5:=Tryz.sizeOf5
 v5:=Tryz.zeroValue5
 t9:=underlying9
 a9:=Tryz.isAgg9
 z9:=Tryz.sizeOf9
 v9:=Tryz.zeroValue9
 t20:=underlying20
 a20:=Tryz.isAgg20
 z20:=Tryz.sizeOf20
 v20:=Tryz.zeroValue20
 t37:=underlying80
 a37:=Tryz.isAgg80
 z37:=Tryz.sizeOf80
 v37:=Tryz.zeroValue80
 t46:=underlying200
 a46:=Tryz.isAgg200
 z46:=Tryz.sizeOf200
 v46:=Tryz.zeroValue200
 t51:=underlying140
 a51:=Tryz.isAgg140
 z51:=Tryz.sizeOf140
 v51:=Tryz.zeroValue140
 t53:=underlying137
 a53:=Tryz.isAgg137
 z53:=Tryz.sizeOf137
 v53:=Tryz.zeroValue137
 t171:=underlying282
 a171:=Tryz.isAgg282
 z171:=Tryz.sizeOf282
 v171:=Tryz.zeroValue282
 t173:=underlying285
 a173:=Tryz.isAgg285
 z173:=Tryz.sizeOf285
 v173:=Tryz.zeroValue285
 t212:=underlying300
 a212:=Tryz.isAgg300
 z212:=Tryz.sizeOf300
 v212:=Tryz.zeroValue300
 t213:=underlying301
 a213:=Tryz.isAgg301
 z213:=Tryz.sizeOf301
 t232:=underlying306
 a232:=Tryz.isAgg306
 z232:=Tryz.sizeOf306
 v232:=Tryz.zeroValue306
 t233:=underlying307
 a233:=Tryz.isAgg307
 z233:=Tryz.sizeOf307
 v233:=Tryz.zeroValue307
 g17:=by kernel_rfl
 g18:=by kernel_rfl
 g19:=by kernel_rfl
 i0:=by kernel_rfl
 i2:=by kernel_rfl
 i3:=by kernel_rfl
 i4:=by kernel_rfl
 i5:=by kernel_rfl
 i9:=by kernel_rfl
 i20:=by kernel_rfl
 i37:=by kernel_rfl
 i46:=by kernel_rfl
 i51:=by kernel_rfl
 i53:=by kernel_rfl
 i171:=by kernel_rfl
 i173:=by kernel_rfl
 i212:=by kernel_rfl
 i232:=by kernel_rfl
 i233:=by kernel_rfl
 m17:=by kernel_rfl
 m18:=by kernel_rfl
 m19:=by kernel_rfl }
open Go.RowKit Go.Sort Go.Lib in
theorem Tryz.strconv_Itoa (n:Int)(h0: -9223372036854775808≤n)(h1:n≤9223372036854775807)(w:World)(abl:Lib.TabIs prog w "internal/strconv.uint64pow10" .u64 Lib.pow10Tab):Calls prog 100 #[.int .i64 n] w λe w'=>e=.returned (.string ⟨(Lib.itoa n).toArray⟩)∧∃k os,w'=grow (w.drewN k) os:=Any.strconv_Itoa Tryz.Md n h0 h1 w abl
def Tryz.AG:Go.Shelf.Ren:=⟨λ|316=>130|n=>n,λ|9=>9|3=>3|4=>4|37=>80|0=>0|127=>190|5=>5|n=>n,λ|n=>n⟩
theorem Tryz.Me:Go.Proofs.LaysM.n316 prog Tryz.AG:={
 mixed:=by kernel_rfl
 f316:=func130.trans (congrArg some (by kernel_rfl))
 t0:=underlying0
 a0:=Tryz.isAgg0
 z0:=Tryz.sizeOf0
 v0:=Tryz.zeroValue0
 t3:=underlying3
 a3:=Tryz.isAgg3
 z3:=Tryz.sizeOf3
 v3:=Tryz.zeroValue3
 t4:=underlying4
 a4:=Tryz.isAgg4
 z4:=Tryz.sizeOf4
 v4:=Tryz.zeroValue4
 t9:=underlying9
 a9:=Tryz.isAgg9
 z9:=Tryz.sizeOf9
 v9:=Tryz.zeroValue9
 t37:=underlying80
 a37:=Tryz.isAgg80
 z37:=Tryz.sizeOf80
 v37:=Tryz.zeroValue80
 t127:=underlying190
 a127:=Tryz.isAgg190
 z127:=Tryz.sizeOf190
 v127:=Tryz.zeroValue190
 t5:=underlying5
 a5:=Tryz.isAgg5
 z5:=Tryz.sizeOf5
 v5:=Tryz.zeroValue5
 i0:=by kernel_rfl
 i3:=by kernel_rfl
 i4:=by kernel_rfl
 i5:=by kernel_rfl
 i9:=by kernel_rfl
 i37:=by kernel_rfl
 i127:=by kernel_rfl }
open Go.RowKit in
theorem Tryz.stringslite_Clone (s:ByteArray)(w:World)(Uh:s.size≤281474976710656):Calls prog 130 #[.string s] w λe w'=>e=.returned (.string s)∧Below w.heap.size w w':=Any.stringslite_Clone Tryz.Me s w Uh
def Tryz.Ct:Go.Shelf.Ren:=⟨λ|219=>247|217=>174|225=>248|224=>249|267=>250|266=>202|314=>251|n=>n,λ|9=>9|3=>3|4=>4|5=>5|46=>200|146=>308|51=>140|n=>n,λ|1=>0|n=>n⟩
theorem Tryz.Pg:Go.Proofs.Lays.n219 prog Tryz.Ct:={
 mixed:=by kernel_rfl
 f217:=func174.trans (congrArg some (by kernel_rfl))
 f219:=func247.trans (congrArg some (by kernel_rfl))
 f224:=func249.trans (congrArg some (by kernel_rfl))
 f225:=func248.trans (congrArg some (by kernel_rfl))
 f266:=func202.trans (congrArg some (by kernel_rfl))
 f267:=func250.trans (congrArg some (by kernel_rfl))
 f314:=func251.trans (congrArg some (by kernel_rfl))
 t3:=underlying3
 a3:=Tryz.isAgg3
 z3:=Tryz.sizeOf3
 v3:=Tryz.zeroValue3
 t4:=underlying4
 a4:=Tryz.isAgg4
 z4:=Tryz.sizeOf4
 v4:=Tryz.zeroValue4
 t5:=underlying5
 a5:=Tryz.isAgg5
 z5:=Tryz.sizeOf5
 v5:=Tryz.zeroValue5
 t9:=underlying9
 a9:=Tryz.isAgg9
 z9:=Tryz.sizeOf9
 v9:=Tryz.zeroValue9
 t46:=underlying200
 a46:=Tryz.isAgg200
 z46:=Tryz.sizeOf200
 v46:=Tryz.zeroValue200
 t51:=underlying140
 a51:=Tryz.isAgg140
 z51:=Tryz.sizeOf140
 v51:=Tryz.zeroValue140
 t146:=underlying308
 a146:=Tryz.isAgg308
 z146:=Tryz.sizeOf308
 v146:=Tryz.zeroValue308
 g1:=by kernel_rfl }
open Go.RowKit Go.Lib in
theorem Tryz.stringslite_Index_one (s:ByteArray)(c:UInt8)(w:World):Calls prog 247 #[.string s,.string ⟨#[c]⟩] w λe w'=>e=.returned (.int .i64 (Lib.indexByte s.data.toList c))∧w'=w:=Any.stringslite_Index_one Tryz.Pg s c w
def Tryz.EX:Go.Shelf.Ren:=⟨λ|99=>75|206=>128|n=>n,λ|9=>9|4=>4|3=>3|n=>n,λ|n=>n⟩
theorem Tryz.Ui:Go.Proofs.Lays.n99 prog Tryz.EX:={
 mixed:=by kernel_rfl
 f99:=func75.trans (congrArg some (by kernel_rfl))
 f206:=func128.trans (congrArg some (by kernel_rfl))
 t3:=underlying3
 a3:=Tryz.isAgg3
 z3:=Tryz.sizeOf3
 v3:=Tryz.zeroValue3
 t4:=underlying4
 a4:=Tryz.isAgg4
 z4:=Tryz.sizeOf4
 v4:=Tryz.zeroValue4
 t9:=underlying9
 a9:=Tryz.isAgg9
 z9:=Tryz.sizeOf9
 v9:=Tryz.zeroValue9 }
open Go.RowKit Go.Lib in
theorem Tryz.strings_HasPrefix (s p:ByteArray)(w:World):Calls prog 75 #[.string s,.string p] w λe w'=>e=.returned (.bool (Lib.hasPrefix s.data.toList p.data.toList))∧w'=w:=Any.strings_HasPrefix Tryz.Ui s p w
end Go.Proofs
namespace Go.Proofs.YtlhimdjkkiflhaaGreatDoor
open Go.Proofs.Tryz
open Go.RowKit Go.Loop
theorem gI {k:IntKind}{a b:Int}(h:a=b):Ending.returned (.int k a)=.returned (.int k b):=by rw[h]
theorem aK {a b:Bool}(h:a=b):Ending.returned (.bool a)=.returned (.bool b):=by rw[h]
theorem dZ (c:Int)(w:World):Calls prog 186 #[.int .u8 c] w λe w'=>e=.returned (.bool (cT c))∧w'=w:=by
 go_enter func186,ntmps186
 go_wp2
 all_goals
  go_ret;exact⟨aK (by simp[cT];try omega),rfl⟩
theorem iO (c:Int)(w:World):Calls prog 187 #[.int .u8 c] w λe w'=>e=.returned (.bool (gw c))∧w'=w:=by
 go_enter func187,ntmps187
 go_wp2
 all_goals
  go_ret;refine⟨aK ?_,rfl⟩;rw[zaz];simp[gw];omega
theorem Mf:∀n:Nat,n<256→kJ n=decide (0≤Lib.indexByte [43,45,42,47,60,62,61,63,33,46,95] n.toUInt8):=by decide +kernel
theorem iP (c:Int)(w:World)(h0:0≤c)(h1:c≤255):Calls prog 149 #[.int .u8 c] w λe w'=>e=.returned (.bool (bt c))∧w'=w:=by
 have hs:=Mf c.toNat (by omega);rw[Int.toNat_of_nonneg h0]at hs;cases hl:gw c
 ·cases hd:cT c
  ·go_enter func149,ntmps149;go_wp2_with (first|(go_at_call 187;refine(iO _ _).mono ?_;rw[hl];rintro e w' ⟨rfl,rfl⟩)|(go_at_call 186;refine(dZ _ _).mono ?_;rw[hd];rintro e w' ⟨rfl,rfl⟩)|(go_at_call 127;refine(Tryz.strings_IndexByte _ _ _).mono ?_;rintro e w' ⟨rfl,rfl⟩));all_goals
    go_ret;refine⟨aK ?_,rfl⟩;simp[bt,hl,hd,hs]
  ·go_enter func149,ntmps149;go_wp2_with (first|(go_at_call 187;refine(iO _ _).mono ?_;rw[hl];rintro e w' ⟨rfl,rfl⟩)|(go_at_call 186;refine(dZ _ _).mono ?_;rw[hd];rintro e w' ⟨rfl,rfl⟩)|(go_at_call 127;refine(Tryz.strings_IndexByte _ _ _).mono ?_;rintro e w' ⟨rfl,rfl⟩));all_goals
    go_ret;refine⟨aK ?_,rfl⟩;simp[bt,hl,hd]
 ·go_enter func149,ntmps149;go_wp2_with (first|(go_at_call 187;refine(iO _ _).mono ?_;rw[hl];rintro e w' ⟨rfl,rfl⟩)|(go_at_call 186;refine(dZ _ _).mono ?_;rintro e w' ⟨rfl,rfl⟩));all_goals
   go_ret;refine⟨aK ?_,rfl⟩;simp[bt,hl]
theorem I0 (s:ByteArray)(k:Nat)(h:k<s.size):s.data.toList.take (k+1)=s.data.toList.take k++[s[k]]:=by
 rw[zbA (by simpa using h)];rfl
theorem Mh (s:ByteArray)(k:Nat)(h:s.size≤k):s.data.toList.take k=s.data.toList:=zaI (by simpa using h)
theorem uW (c:UInt8)(r:List UInt8)(h:0<(ByteArray.mk (Array.mk (c::r))).size):(ByteArray.mk (Array.mk (c::r)))[0]'h=c:=rfl
theorem rG (c:UInt8)(r:List UInt8):(ByteArray.mk (Array.mk (c::r))).extract 1 (r.length+1)=⟨⟨r⟩⟩:=by
 apply ByteArray.ext;simp
theorem uX (c d:UInt8)(r:List UInt8):(ByteArray.mk (Array.mk (c::d::r))).extract 1 (r.length+1+1)=⟨⟨d::r⟩⟩:=rG c (d::r)
theorem mb (r:List UInt8):(ByteArray.mk (Array.mk r)).toList=r:=by simp
section
attribute [local go_sem] uW rG uX mb
theorem ji (c:UInt8)(r:List UInt8)(w:World)(hs:(c::r).length≤maxLen):Calls prog 147 #[.string ⟨⟨c::r⟩⟩] w λe w'=>e=.returned (.bool (dn (c::r)))∧w'=w:=by
 unfold maxLen at hs;simp at hs;cases hp:((c.toNat:Int)==43)
 ·cases hm:((c.toNat:Int)==45)
  ·have H:Hid (dn (c::r)=cT (c.toNat:Int)):=by
    simp at hp hm;exact yg c r hp hm
   go_enter func147,ntmps147;go_wp2_with (go_at_call 186;refine(dZ _ _).mono ?_;rintro e w' ⟨rfl,rfl⟩);go_ret;exact⟨aK H.out.symm,rfl⟩
  ·cases r with
   |nil=>
    have H:Hid (dn [c]=false):=by simp at hm;exact pJ c (Or.inr hm)
    go_enter func147,ntmps147;go_wp2_with (go_at_call 186;refine(dZ _ _).mono ?_;rintro e w' ⟨rfl,rfl⟩);go_ret;exact⟨aK H.out.symm,rfl⟩
   |cons d r=>
    have H:Hid (dn (c::d::r)=cT (d.toNat:Int)):=by
     simp at hm;exact pK c d r (Or.inr hm)
    simp at hs;go_enter func147,ntmps147;go_wp2_with (go_at_call 186;refine(dZ _ _).mono ?_;rintro e w' ⟨rfl,rfl⟩);go_ret;exact⟨aK H.out.symm,rfl⟩
 ·cases r with
   |nil=>
    have H:Hid (dn [c]=false):=by simp at hp;exact pJ c (Or.inl hp)
    go_enter func147,ntmps147;go_wp2_with (go_at_call 186;refine(dZ _ _).mono ?_;rintro e w' ⟨rfl,rfl⟩);go_ret;exact⟨aK H.out.symm,rfl⟩
   |cons d r=>
    have H:Hid (dn (c::d::r)=cT (d.toNat:Int)):=by
     simp at hp;exact pK c d r (Or.inl hp)
    simp at hs;go_enter func147,ntmps147;go_wp2_with (go_at_call 186;refine(dZ _ _).mono ?_;rintro e w' ⟨rfl,rfl⟩);go_ret;exact⟨aK H.out.symm,rfl⟩
end
theorem ea (s:ByteArray)(Cu:Int)(w:World)(hs:s.size≤maxLen)(h0:0≤Cu)(h1:Cu≤s.size):Calls prog 148 #[.string s,.int .i64 Cu,.func (.func 149) #[] #[]] w λe w'=>e=.returned (.int .i64 (Cu+br bt (s.data.toList.drop Cu.toNat)))∧w'=w:=by
 unfold maxLen at hs;obtain⟨a,rfl⟩:=zbl h0;rw[zaB];go_enter func148,ntmps148;go_wp2_with fail;go_loop [1] (λi=>∃k:Nat,a≤k∧k≤s.size∧i=.int .i64 k∧Hid ((a:Int)+br bt (s.data.toList.drop a)=(k:Int)+br bt (s.data.toList.drop k))) (λi=>s.size-(intOf i).toNat)
 case atStart=>exact⟨a,zaa _,by omega,rfl,rfl⟩
 case round=>
  obtain⟨k,I1,hk,rfl,hr⟩:=hrel;by_cases hlt:k<s.size
  ·have hd:Hid (s.data.toList.drop k=s[k]::s.data.toList.drop (k+1)):=by show _=_;rw[zbB (by simpa using hlt)];rfl
   cases hp:bt (s[k].toNat :Int)
   ·have H:Hid (br bt (s.data.toList.drop k)=0):=by show _=_;rw[hd.out];simp[br,hp]
    go_wp2_with fail;refine(iP _ _ (by omega) (by have:=s[k].toNat_lt;omega)).mono ?_;rw[hp];rintro e w' ⟨rfl,rfl⟩;go_wp2_with fail;go_ret;refine⟨gI ?_,rfl⟩;rw[hr.out,H.out];simp
   ·have H:Hid (br bt (s.data.toList.drop k)=br bt (s.data.toList.drop (k+1))+1):=by show _=_;rw[hd.out];simp[br,hp]
    go_wp2_with fail;refine(iP _ _ (by omega) (by have:=s[k].toNat_lt;omega)).mono ?_;rw[hp];rintro e w' ⟨rfl,rfl⟩;go_wp2_with fail
    go_round
    case rel=>exact⟨k+1,by omega,by omega,by go_num,by show _=_;rw[hr.out,H.out];omega⟩
    case measure=>simp[intOf];omega
  ·have H:Hid (br bt (s.data.toList.drop k)=0):=by show _=_;rw[zbf (by simp;omega)];rfl
   go_wp2_with fail;go_ret;refine⟨gI ?_,rfl⟩;rw[hr.out,H.out];simp
theorem Cv (a b:Int):Int.gcd b (a.tmod b)=Int.gcd a b:=by
 have h:(a.tmod b)=a-b*(a.tdiv b):=by have:=Int.mul_tdiv_add_tmod a b;omega
 rw[h,Int.gcd_sub_mul_left_right,Int.gcd_comm]
theorem GY (a b:Int)(hb:b≠0):(a.tmod b).natAbs <b.natAbs:=by
 rw[Int.natAbs_tmod];exact Nat.mod_lt _ (by omega)
theorem Mi (t:Int)(b:Int)(h:t.natAbs<b.natAbs)(hb1: -4611686018427387904≤b)(hb2:b≤4611686018427387904): -4611686018427387904≤t∧t≤4611686018427387904:=by omega
theorem rH (a:Int):((Int.gcd a 0:Nat):Int)=max a (-a):=by
 rw[Int.gcd_zero_right];omega
theorem Cw (n d:Int)(w:World)(h1: -4611686018427387904≤n)(h2:n≤4611686018427387904)(h3: -4611686018427387904≤d)(h4:d≤4611686018427387904):Calls prog 214 #[.int .i64 n,.int .i64 d] w λe w'=>e=.returned (.int .i64 (Int.gcd n d))∧∃m,w'=w.drewN m:=by
 go_enter func214,ntmps214
 go_wp2
 go_loopw [0,1] (λx y wr=>∃a b:Int,x=.int .i64 a∧y=.int .i64 b∧-4611686018427387904≤a∧a≤4611686018427387904∧-4611686018427387904≤b∧b≤4611686018427387904∧Hid (Int.gcd a b=Int.gcd n d)∧∃m,wr=w.drewN m) (λ_ y _=>(intOf y).natAbs)
 case atStart=>exact⟨n,d,rfl,rfl,h1,h2,h3,h4,rfl,0,rfl⟩
 case round=>
  obtain⟨a,b,rfl,rfl,ha1,ha2,hb1,hb2,hg,m,rfl⟩:=hrel;by_cases hb:b=0
  ·subst hb
   go_wp2
   go_ret;exact⟨gI (by rw[←hg.out,rH]),_,rfl⟩
  ·have Kk:(b != 0)=true:=by simpa using hb
   have HT:Hid ((a.tmod b).natAbs <b.natAbs):=GY a b hb;obtain⟨t1,t2⟩:=Mi _ _ HT.out hb1 hb2
   go_wp2
   go_quiet (fail)
   go_wp2
   go_roundw
   case rel=>exact⟨b,a.tmod b,rfl,rfl,hb1,hb2,t1,t2,(Cv a b).trans hg.out,_,World.drewN_drewN _ _ _⟩
   case measure=>exact HT.out
theorem EY (n d:Int)(w:World)(h1: -4611686018427387904≤n)(h2:n≤4611686018427387904)(h3:1≤d)(h4:d≤4611686018427387904):Calls prog 188 #[.int .i64 n,.int .i64 d] w λe w'=>e=.returned (.tuple #[.int .i64 (n.tdiv (Int.gcd n d)),.int .i64 (d/(Int.gcd n d))])∧∃m,w'=w.drewN m:=by
 have hg:1≤((Int.gcd n d:Nat):Int):=by
  have:0<Int.gcd n d:=zbJ _ (by omega);omega
 go_enter func188,ntmps188;go_wp2_with (go_at_call 214;refine(Cw _ _ _ (by omega) (by omega) (by omega) (by omega)).mono ?_;rintro e w' ⟨rfl,m,rfl⟩)
 go_quiet (fail)
 go_wp2
 go_ret2;exact⟨rfl,_,World.drewN_drewN _ _ _⟩
theorem Ph (n g:Int)(h1: -4611686018427387904≤n)(h2:n≤4611686018427387904)(_hg:1≤g): -4611686018427387904≤n.tdiv g∧n.tdiv g≤4611686018427387904:=by
 have:(n.tdiv g).natAbs≤n.natAbs:=by rw[Int.natAbs_tdiv];exact Nat.div_le_self _ _
 omega
theorem Uj (n g:Int)(h1:1≤n)(h2:n≤4611686018427387904)(hg:1≤g):0≤n/g∧n/g≤4611686018427387904:=by
 have h3:=Int.ediv_le_self (a:=n) g (by omega);have h4:=Int.ediv_nonneg (a:=n) (b:=g) (by omega) (by omega);omega
theorem dO (n d:Int)(w:World)(h1: -4611686018427387904≤n)(h2:n≤4611686018427387904)(h3:1≤d)(h4:d≤4611686018427387904):Calls prog 150 #[.int .i64 n,.int .i64 d] w λe w'=>e=.returned (.tuple #[.int .i64 (n.tdiv (Int.gcd n d)),.int .i64 (d/(Int.gcd n d))])∧∃m,w'=w.drewN m:=by
 have hg:1≤((Int.gcd n d:Nat):Int):=by
  have:0<Int.gcd n d:=zbJ _ (by omega);omega
 obtain⟨t1,t2⟩:=Ph n _ h1 h2 hg;obtain⟨t3,t4⟩:=Uj d _ h3 h4 hg;go_enter func150,ntmps150;go_wp2_with (go_at_call 188;refine(EY _ _ _ (by omega) (by omega) (by omega) (by omega)).mono ?_;rintro e w' ⟨rfl,m,rfl⟩);generalize n.tdiv (Int.gcd n d)=u at *;generalize d/(Int.gcd n d)=v at *
 go_wp2
 go_ret2;exact⟨rfl,_,rfl⟩
theorem NY (n d:Int)(w:World)(h1: -4611686018427387904≤n)(h2:n≤4611686018427387904)(h3:1≤d)(h4:d≤4611686018427387904):Calls prog 182 #[.int .i64 n,.int .i64 d] w λe w'=>e=.returned (.tuple #[.int .i64 (n.tdiv (Int.gcd n d)),.int .i64 (d/(Int.gcd n d))])∧∃m,w'=w.drewN m:=by
 have hg:1≤((Int.gcd n d:Nat):Int):=by
  have:0<Int.gcd n d:=zbJ _ (by omega);omega
 go_enter func182,ntmps182
 go_wp2
 go_loop [6,7] (λx y=>∃a b:Int,x=.int .i64 a∧y=.int .i64 b∧-4611686018427387904≤a∧a≤4611686018427387904∧-4611686018427387904≤b∧b≤4611686018427387904∧Hid (Int.gcd a b=Int.gcd n d)) (λ_ y=>(intOf y).natAbs)
 case atStart=>exact⟨n,d,rfl,rfl,h1,h2,by omega,h4,rfl⟩
 case round=>
  obtain⟨a,b,rfl,rfl,ha1,ha2,hb1,hb2,p5⟩:=hrel;by_cases hb:b=0
  ·subst hb;have HM:Hid (((Int.gcd n d:Nat):Int)=max a (-a)):=by show _=_;rw[←p5.out,rH]
   by_cases ha:a<0
   ·obtain⟨g,rfl⟩:∃g,a=-g:=⟨-a,by omega⟩;have HA:Hid (((Int.gcd n d:Nat):Int)=g):=by show _=_;rw[HM.out];omega
    have hg1:1≤g:=by rw[←HA.out];exact hg
    go_wp2
    go_quiet (fail)
    go_wp2
    go_ret2;refine⟨?_,_,rfl⟩;rw[HA.out];rfl
   ·have HA:Hid (((Int.gcd n d:Nat):Int)=a):=by show _=_;rw[HM.out];omega
    have ha1:1≤a:=by rw[←HA.out];exact hg
    go_wp2
    go_quiet (fail)
    go_wp2
    go_ret2;refine⟨?_,_,rfl⟩;rw[HA.out];rfl
  ·have Kk:(b != 0)=true:=by simpa using hb
   have HT:Hid ((a.tmod b).natAbs <b.natAbs):=GY a b hb;obtain⟨t1,t2⟩:=Mi _ _ HT.out hb1 hb2
   go_wp2
   go_round
   case rel=>exact⟨b,a.tmod b,rfl,rfl,hb1,hb2,t1,t2,(Cv a b).trans p5.out⟩
   case measure=>exact HT.out
theorem jV (n d:Int)(w:World):Calls prog 97 #[.int .i64 n,.int .i64 d] w λe w'=>e=.returned (.bool (Ar n d))∧∃m,w'=w.drewN m:=by
 by_cases hb:1≤d∧d≤1000000∧-1000000≤n∧n≤1000000
 ·obtain⟨b1,b2,b3,b4⟩:=hb;have H:Hid ((d/((Int.gcd n d:Nat):Int)==d)=Ar n d):=by
   show _=_;rw[Ch n d b1];simp[Ar,b1,b2,b3,b4]
  go_enter func97,ntmps97;go_wp2_with (go_at_call 150;refine(dO _ _ _ (by omega) (by omega) (by omega) (by omega)).mono ?_;rintro e w' ⟨rfl,m,rfl⟩);go_ret;exact⟨aK H.out,_,rfl⟩
 ·have H:Hid (Ar n d=false):=by show _=_;simp[Ar];omega
  go_enter func97,ntmps97;go_wp2_with fail;all_goals first
   |(exfalso;omega)
   |(go_ret;exact⟨aK H.out.symm,0,rfl⟩)
theorem wS (l:List UInt8)(k:Nat)(h:k<(ByteArray.mk (Array.mk l)).size):(ByteArray.mk (Array.mk l))[k]'h=l[k]'h:=rfl
section
attribute [local go_sem] uW wS rG uX mb
theorem Mj (l:List UInt8)(h1:l.isEmpty=false)(h2:(l==[46])=false)(h3:dn l=false):((br bt l:Nat)==l.length)=rA l:=by
 unfold rA;rw[h1,h2,h3];simp only[Bool.not_false,zaW];rw[show(l.all LO)=l.all (λc=>bt (c.toNat:Int)) from rfl,←Ci,zaz];simp
theorem AH (l:List UInt8)(w:World)(hs:l.length≤maxLen):Calls prog 96 #[.string ⟨⟨l⟩⟩] w λe w'=>e=.returned (.bool (rA l))∧w'=w:=by
 cases l with
 |nil=>
  go_enter func96,ntmps96;go_wp2_with fail;go_ret;exact⟨rfl,rfl⟩
 |cons c r=>
 cases h2:((c::r)==[46])
 ·have H2:Hid (((c::r)==[46])=false):=h2;have jr:¬(c::r)=[46]:=by simpa using h2
  have hsz:(ByteArray.mk (Array.mk (c::r))).size≤maxLen:=hs;cases h3:dn (c::r)
  ·have H3:=Mj (c::r) rfl h2 h3;have H:Hid ((((br bt (c::r):Nat):Int)==(r.length:Int)+1)=rA (c::r)):=by
    show _=_;rw[←H3,zaz];simp;omega
   clear H3;go_enter func96,ntmps96;go_wp2_with fail;refine(ji _ _ _ hs).mono ?_;rw[h3];rintro e w' ⟨rfl,rfl⟩;go_wp2_with fail;refine(ea _ _ _ hsz (by omega) (by omega)).mono ?_;rintro e w' ⟨rfl,rfl⟩;simp only[Int.toNat_zero,zaJ,Int.zero_add];go_wp2_with fail;go_ret;exact⟨aK H.out,rfl⟩
  ·have H:Hid (rA (c::r)=false):=by show _=_;simp[rA,h3]
   go_enter func96,ntmps96;go_wp2_with fail;refine(ji _ _ _ hs).mono ?_;rw[h3];rintro e w' ⟨rfl,rfl⟩;go_wp2_with fail;go_ret;exact⟨aK H.out.symm,rfl⟩
 ·have jr:(c::r)=[46]:=by simpa using h2
  rw[jr];go_enter func96,ntmps96;go_wp2_with fail;go_ret;exact⟨rfl,rfl⟩
theorem ig (n:Int)(w:World):Calls prog 151 #[.int .i64 n] w λe w'=>e=.returned (.tuple #[.string ⟨⟨nameOf n⟩⟩,.bool (hasName n)])∧w'=w:=by
 go_enter func151,ntmps151;go_wp2_with fail;all_goals
  go_ret2;refine⟨?_,rfl⟩;simp_all [nameOf,hasName]
theorem lD (n:Int)(w:World):Calls prog 152 #[.int .i64 n] w λe w'=>e=.returned (.bool (decide (33≤n∧n≤126)))∧w'=w:=by
 go_enter func152,ntmps152;go_wp2_with fail;all_goals
  go_ret;exact⟨aK (by simp;try omega),rfl⟩
theorem qc (n:Int)(w:World):Calls prog 98 #[.int .i64 n] w λe w'=>e=.returned (.bool (rB n))∧w'=w:=by
 cases h:hasName n
 ·go_enter func98,ntmps98;go_wp2_with fail;refine(ig _ _).mono ?_;rw[h];rintro e w' ⟨rfl,rfl⟩;go_wp2_with fail;refine(lD _ _).mono ?_;rintro e w' ⟨rfl,rfl⟩;go_wp2_with fail;go_ret;exact⟨aK (by simp[rB,h]),rfl⟩
 ·go_enter func98,ntmps98;go_wp2_with fail;refine(ig _ _).mono ?_;rw[h];rintro e w' ⟨rfl,rfl⟩;go_wp2_with fail;go_ret;exact⟨aK (by simp[rB,h]),rfl⟩
theorem Cx (l:List UInt8)(n d:Int)(a:Option Addr)(len cap:Nat)(w:World):Calls prog 95 #[.string ⟨⟨l⟩⟩,.int .i64 n,.int .i64 d,.slice a len cap] w λe w'=>e=.returned (.bool (decide (l=[]∧n=0∧d=0∧len=0)))∧w'=w:=by
 go_enter func95,ntmps95;go_wp2_with fail;all_goals
  go_ret;refine⟨aK ?_,rfl⟩;first|(simp_all;done)|(simp_all;rw[zaz];simp)
theorem fe {a b:List UInt8}(h:a=b):Ending.returned (.string ⟨⟨a⟩⟩)=.returned (.string ⟨⟨b⟩⟩):=by rw[h]
end
end Go.Proofs.YtlhimdjkkiflhaaGreatDoor
