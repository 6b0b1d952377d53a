import Derived.Shelf.Strings.Builder1
import Derived.Shelf.Small.Strs
import Derived.Shelf.Strings.BuilderF
import Derived.Shelf.Strings.BuilderK
import Derived.Shelf.Strconv.Itoa0
import Derived.Shelf.Strconv.Itoa1
import Derived.Shelf.LaysM
import Derived.Shelf.Strconv.Itoa2
import Derived.Shelf.Strconv.Itoa3
import Derived.Shelf.Strconv.Clone
import Derived.Shelf.Strings.Search1
import Derived.Shelf.Strings.Search2
import Derived.Shelf.Strings.Cut
import Derived.Shelf.Strings.Shaped
import Derived.Shelf.Strings.Prefix
import Derived.Test.YtlhimdjkkiflhaaGreatDoorRows
import Derived.WalkKit
import Derived.WalkSpells
import Derived.WalkLawsBesides
import Derived.Deep.QuietTactic
import Derived.BigQuiet
import Derived.Test.YtlhimdjkkiflhaaGreatDoorDeep17
set_option linter.unusedSectionVars false
namespace Go.Ren
open Go Go.Conc Go.ConcX Go.RowKit Go.Conc.Lib Go.ConcX.Gen Go.Proofs Go.Loop
theorem add_enter (Wg:Nat):Frame.enter Tryz.prog 68 #[.pointer (some ⟨Wg,0,none⟩),.int .i64 1] .normal=(base linkz.add).at ⟨#[.pointer (some ⟨Wg,0,none⟩),.int .i64 1,undef,undef,undef,undef,undef,undef,undef,undef,undef,undef,undef,undef,undef,undef,undef,undef,undef,undef,undef,undef,undef,undef,undef,undef,undef,undef,undef,undef,undef,undef,undef,undef,undef,undef,undef,undef,undef,undef,undef,undef,undef,undef,undef,undef,undef,undef,undef,undef,undef,undef,undef,undef,undef,undef,undef,undef,undef,undef,undef,undef,undef,undef,undef,undef,undef,undef,undef,undef,undef,undef,undef,undef,undef,undef,undef,undef,undef,undef,undef,undef,undef,undef,undef,undef,undef,undef,undef,undef,undef,undef,undef,undef,undef,undef,undef,undef,undef,undef,undef,undef,undef,undef,undef,undef,undef,undef,undef,undef,undef,undef,undef,undef,undef,undef,undef],[]⟩ [.code (body_add linkz)]:=by
 rw[enter_at (P:=Tryz.prog) (f:=68) (c:=body_add linkz) #[.pointer (some ⟨Wg,0,none⟩),.int .i64 1] wz_add (by kernel_rfl)]
 have:(#[Value.pointer (some ⟨Wg,0,none⟩),.int .i64 1]++Array.replicate ((addFn linkz).ntmps - (#[Value.pointer (some ⟨Wg,0,none⟩),.int .i64 1]:Array Value).size) undef)=#[.pointer (some ⟨Wg,0,none⟩),.int .i64 1,undef,undef,undef,undef,undef,undef,undef,undef,undef,undef,undef,undef,undef,undef,undef,undef,undef,undef,undef,undef,undef,undef,undef,undef,undef,undef,undef,undef,undef,undef,undef,undef,undef,undef,undef,undef,undef,undef,undef,undef,undef,undef,undef,undef,undef,undef,undef,undef,undef,undef,undef,undef,undef,undef,undef,undef,undef,undef,undef,undef,undef,undef,undef,undef,undef,undef,undef,undef,undef,undef,undef,undef,undef,undef,undef,undef,undef,undef,undef,undef,undef,undef,undef,undef,undef,undef,undef,undef,undef,undef,undef,undef,undef,undef,undef,undef,undef,undef,undef,undef,undef,undef,undef,undef,undef,undef,undef,undef,undef,undef,undef,undef,undef,undef,undef]:=by kernel_rfl
 rw[this]
variable {cs:List Frame} {N:Nat}
def AtGo (s:List UInt8)(w0:World)(cs:List Frame)(g:Goroutine)(w:World):Prop:=
 ∃ a,GB a w0.heap.size∧a.eval (.tmp 9)= .func (.func 69) #[] #[.pointer (some ⟨w0.heap.size+3,0,none⟩),.pointer (some ⟨w0.heap.size,0,none⟩),.pointer (some ⟨w0.heap.size+2,0,none⟩)]∧
   g=G ((base 43).at a (.inRegion (g4 Tryz.f43) [1]:: .code (D5 Tryz.f43)::[])) cs∧Laid s w0 w∧WgAt linkz.tWg (w0.heap.size+3) w KK 0
theorem evS_evL {Wg C Low:Nat}(hW:Wg<Low)(hC:C<Low){Z:Loc→Prop}(hZ:∀ a:Addr,a.block=C→¬ Z (.cell a)){w w':World}{es:Array Event}(h:@DE (@EvS Wg C (shyR Wg C Low noSt hW hC)) w w' es):∀ e∈es,EvL Z Low e:=by
 intro e he
 obtain⟨h1,h2,h3,h4,h5,h6⟩:=h e he
 have h6':okR Wg C Low (MemAct.ofEvent e):=h6
 refine⟨fun x hx hz=>?_,?_,?_,h6'.2⟩
 ·obtain⟨a,ha,hb⟩:=h6'.1 x hx
  rcases hb with hb|hb
  ·exact(h1 x hx).1 (.inl ⟨a,ha,hb⟩)
  ·rw[ha] at hz;exact absurd hz (hZ a hb)
 ·intro e';exact h4 (by obtain⟨loc,wr,sy⟩:=e;simp only at e';subst e';rfl)
 ·intro e';exact h5 (by obtain⟨loc,wr,sy⟩:=e;simp only at e';subst e';rfl)
theorem Laid.setWg {s:List UInt8}{w0 w:World}(h:Laid s w0 w)(v:Value):Laid s w0 (w.setCell (stA (w0.heap.size+3)) v):=by
 have hb:∀ b,b≠w0.heap.size+3→(w.setCell (stA (w0.heap.size+3)) v).heap[b]? =w.heap[b]?:=fun b hb=>Below.heap_setCell _ _ _ b hb
 refine⟨?_,fun b hlt=>(hb b (by omega)).trans (h.old b hlt),(hb _ (by omega)).trans h.txt,(hb _ (by omega)).trans h.chan,(hb _ (by omega)).trans h.box,h.tape,h.os,h.output⟩
 show(Array.modify w.heap _ _).size=_
 rw[Array.size_modify];exact h.size
theorem Laid.at {s:List UInt8}{w0 w:World}(h:Laid s w0 w)(d:Nat):Laid s w0 (w.at d):=⟨h.size,h.old,h.txt,h.chan,h.box,h.tape,h.os,h.output⟩
theorem GB.put {a:Act}{N:Nat}(h:GB a N){t:Tmp}{v:Value}(h1:t≠1)(h3:t≠3)(h4:t≠4):GB (a.put (some t) v) N:=
 ⟨size_put.trans h.size,(ev_put_ne h1).trans h.s1,(ev_put_ne h3).trans h.s3,(ev_put_ne h4).trans h.s4,defers_put.trans h.defers⟩
set_option maxRecDepth 100000 in
theorem add_goes (s:List UInt8)(w0:World)(g:Goroutine)(w:World)(h:AtAdd s w0 cs g w)(hW:w0.heap.size+3<w0.heap.size+4)(hC:w0.heap.size<w0.heap.size+4):
 letI:=shyR (w0.heap.size+3) w0.heap.size (w0.heap.size+4) noSt hW hC
 Goes Tryz.prog true AtRel (DE (EvS (w0.heap.size+3) w0.heap.size)) (AtMkS Tryz.prog .disable fun a w=>∃ n,Goes Tryz.prog true AtRel (DE (EvS (w0.heap.size+3) w0.heap.size)) (AtMkS Tryz.prog .enable fun a w=>∃ n,Goes Tryz.prog true AtRel (DE (EvS (w0.heap.size+3) w0.heap.size)) (AtGo s w0 cs) n a w) n a w) 12 g w:=by
 letI:=shyR (w0.heap.size+3) w0.heap.size (w0.heap.size+4) noSt hW hC
 obtain⟨a,hg,rfl,hl,hwg⟩:=h
 rw[add_enter]
 refine addPos (L:=linkz) (b₀:=base 43) (a₀:=a) (ops₀:=g3 Tryz.f43) (i₀:=0) (rest₀:=[]) (k₀:=[.code (D4 Tryz.f43)]) (mT:=4) wgz w hwg ?_
 have hl':=hl.setWg (.int .u64 KK)
 have hwg':WgAt linkz.tWg (w0.heap.size+3) (w.setCell (stA (w0.heap.size+3)) (.int .u64 KK)) KK 0:=hwg.setSt KK
 generalize w.setCell (stA (w0.heap.size+3)) (.int .u64 KK)=w1 at *
 change Goes _ _ _ _ _ _ (G ((base 43).at (a.put (some 8) (.tuple #[])) (.inRegion (g3 Tryz.f43) []:: .code (D4 Tryz.f43)::[])) cs) _
 have hg1:=hg.put (t:=8) (v:= .tuple #[]) (by decide) (by decide) (by decide)
 generalize a.put (some 8) (.tuple #[])=a1 at *
 refine Goes.silent atRel_trans (fun _=>by intro e he;simp at he) rfl (fun _=>stepG_region_end) ?_
 refine Goes.silent atRel_trans (fun _=>by intro e he;simp at he) rfl (fun _=>stepG_seq (x:= .region 4 (g4 Tryz.f43) false) (y:=D5 Tryz.f43)) ?_
 refine Goes.silent atRel_trans (fun _=>by intro e he;simp at he) rfl (fun _=>stepG_region) ?_
 refine Goes.silent (g':=G ((base 43).at (a1.put (some 9) (.func (.func 69) #[] #[.pointer (some ⟨w0.heap.size+3,0,none⟩),.pointer (some ⟨w0.heap.size,0,none⟩),.pointer (some ⟨w0.heap.size+2,0,none⟩)])) (.inRegion (g4 Tryz.f43) [1]:: .code (D5 Tryz.f43)::[])) cs) atRel_trans (fun _=>by intro e he;simp at he) rfl (fun w₁=>?_) ?_
 ·have hop:(g4 Tryz.f43)[0].op= .makeFunc (.func 69) #[] #[.tmp 4,.tmp 1,.tmp 3]:=rfl
  have hr:(execOp a1.eval (g4 Tryz.f43)[0]).run Tryz.prog w₁= .ok (.value (.func (.func 69) #[] #[.pointer (some ⟨w0.heap.size+3,0,none⟩),.pointer (some ⟨w0.heap.size,0,none⟩),.pointer (some ⟨w0.heap.size+2,0,none⟩)])) w₁:=by
   unfold execOp
   simp[hop,Instr.makeFunc,hg1.s1,hg1.s3,hg1.s4]
  have he:(execOp a1.eval (g4 Tryz.f43)[0]).events Tryz.prog w₁ #[]=#[]:=by
   unfold execOp
   simp[hop,Instr.makeFunc]
  have hq:=stepG_value (P:=Tryz.prog) (main:=true) (b:=base 43) (k:=[.code (D5 Tryz.f43)]) (cs:=cs) (ops:=g4 Tryz.f43) (i:=0) (rest:=[1]) rfl rfl (by decide) hr
  rw[listed_none he] at hq
  exact hq
 ·refine Goes.stop fun w₁ h₁=>?_
  obtain⟨d,rfl⟩:=h₁
  exact⟨_,hg1.put (by decide) (by decide) (by decide),ev_put_eq (by rw[hg1.size];decide),rfl,hl'.at d,hwg'⟩
def QG (N:Nat)(l:Loc):Prop:=l= .obj (N+1)∨∃ a:Addr,l= .cell a∧a.block=N+3
def roG (N:Nat)(b:Nat):Prop:=b=N∨b=N+2
theorem spawn_go {a:Act}{N:Nat}(h9:a.eval (.tmp 9)= .func (.func 69) #[] #[.pointer (some ⟨N+3,0,none⟩),.pointer (some ⟨N,0,none⟩),.pointer (some ⟨N+2,0,none⟩)])(w:World):
 stepG Tryz.prog true (G ((base 43).at a (.inRegion (g4 Tryz.f43) [1]:: .code (D5 Tryz.f43)::[])) cs) w= .spawn (G ((base 43).at a (.inRegion (g4 Tryz.f43) []:: .code (D5 Tryz.f43)::[])) cs) (born Tryz.prog (dchild (N+3) N (N+2))) w #[]:=by
 have hop:(g4 Tryz.f43)[1].op= .go { callee:= .value (.tmp 9),args:=#[],argTypes:=#[] }:=rfl
 have hr:(execOp a.eval (g4 Tryz.f43)[1]).run Tryz.prog w= .ok (.spawn (dchild (N+3) N (N+2))) w:=by
  unfold execOp
  simp[hop,resolve,h9,Deferred.ofValue,dchild]
 have he:(execOp a.eval (g4 Tryz.f43)[1]).events Tryz.prog w #[]=#[]:=by
  unfold execOp
  simp[hop,resolve,h9,Deferred.ofValue]
 have hq:=stepG_spawn (P:=Tryz.prog) (main:=true) (b:=base 43) (k:=[.code (D5 Tryz.f43)]) (cs:=cs) (ops:=g4 Tryz.f43) (i:=1) (rest:=[]) rfl rfl (by decide) hr rfl
 rw[listed_none he] at hq
 exact hq
set_option maxRecDepth 10000 in
theorem gather_recvs {Low:Nat}{x y:Pay (N+3) Low}(hx:x.C=N)(hy:y.C=N+2){a:Act}(hg:GB a N){ts:List Tok}(hts:ts.length≤1000000){W:World}(hb:Tryz.prog.globals.size≤W.heap.size)(hsz:N+4≤W.heap.size)(hbox:W.heap[N+2]? =some (.cells #[.chan (some (N+1))] 132)):
 RecvsW Tryz.prog (roG N) (N+1) (tokV zTok) (FinM Tryz.prog linkz.tWg x y (AfterG (roG N) x.C y.C (N+3) (N+1) ts cs)) (ts.map tokV) (fun _=>False) (G ((base 43).at a (.inRegion (g4 Tryz.f43) []:: .code (D5 Tryz.f43)::[])) cs) W:=by
 rw[recvsW_iff]
 refine Walks.silent rfl (fun _=>stepG_region_end) ?_
 refine Walks.silent rfl (fun _=>stepG_seq (x:= .region 5 (g5 Tryz.f43) false) (y:=D6 Tryz.f43)) ?_
 refine Walks.silent rfl (fun _=>stepG_region) ?_
 refine Walks.mv (ops:=g5 Tryz.f43) (i:=0) (rest:=[]) rfl rfl (by decide) (dd:=some 5) rfl (.inr rfl) (v:= .slice none 0 0) rfl ?_
 have hg1:=hg.put (t:=5) (v:= .slice none 0 0) (by decide) (by decide) (by decide)
 have k5:(a.put (some 5) (.slice none 0 0)).eval (.tmp 5)= .slice none 0 0:=ev_put_eq (by rw[hg.size];decide)
 generalize a.put (some 5) (.slice none 0 0)=a1 at *
 refine Walks.silent rfl (fun _=>stepG_region_end) ?_
 refine Walks.silent rfl (fun _=>stepG_seq (x:=fstC (D6 Tryz.f43)) (y:=D10 Tryz.f43)) ?_
 refine Walks.silent rfl (fun _=>stepG_seq (x:= .region 6 (g6 Tryz.f43) false) (y:= .block 0 (.loop (Lg Tryz.f43)))) ?_
 refine Walks.silent rfl (fun _=>stepG_region) ?_
 refine Walks.loadRo (ops:=g6 Tryz.f43) (i:=0) (rest:=[]) rfl rfl (by decide) (dd:=some 10) rfl (e:=132) (x:= .tmp 3) rfl (ad:=⟨N+2,0,none⟩) hg1.s3 (.inr rfl) (v:= .chan (some (N+1))) (cell_of_one hbox) (fun w h=>loadz (.inr rfl) w _ h) ?_
 have hga:GtA (a1.put (some 10) (.chan (some (N+1)))) x.C y.C (N+3) (N+1):=⟨size_put.trans hg1.size,by rw[hx];exact(ev_put_ne (by decide)).trans hg1.s1,by rw[hy];exact(ev_put_ne (by decide)).trans hg1.s3,(ev_put_ne (by decide)).trans hg1.s4,ev_put_eq (by rw[hg1.size];decide),defers_put.trans hg1.defers⟩
 have k5':(a1.put (some 10) (.chan (some (N+1)))).eval (.tmp 5)= .slice none 0 0:=(ev_put_ne (by decide)).trans k5
 generalize a1.put (some 10) (.chan (some (N+1)))=a2 at *
 refine Walks.silent rfl (fun _=>stepG_region_end) ?_
 refine Walks.silent rfl (fun _=>stepG_block) ?_
 refine Walks.silent rfl (fun _=>stepG_loop) ?_
 have hH:Hold (roG N) (fun _=>False) W:=⟨fun b hb=>by rcases hb with h|h|h<;>first|exact h.elim|omega,fun _ _ h=>h⟩
 have hA:=At.empty (P:=Tryz.prog) (S:=Sc) hH hb
 have hGR:GR (roG N) x.C y.C (N+3) (N+1) [] (fun _=>False) a2 W:=⟨hga,_,_,.slice none 0 0,hA,by rw[k5'];simp[rv],by unfold Cl;simp[rv],World.ownsRow_nil _ _ _ _⟩
 have:=recv_loop (cs:=cs) (Fin:=FinM Tryz.prog linkz.tWg x y (AfterG (roG N) x.C y.C (N+3) (N+1) ts cs)) ts [] (fun _=>False) a2 W hGR (by simpa using hts) (fun own a W h=>gather_fin (by simpa using h))
 rw[recvsW_iff] at this
 exact this
end Go.Ren
set_option linter.unusedSectionVars false
namespace Go.Ren
open Go Go.Conc Go.ConcX Go.RowKit Go.Conc.Lib Go.ConcX.Gen Go.Proofs Go.Loop
variable {c:Frame} {cs:List Frame}
set_option maxRecDepth 10000 in
theorem gone_goes {Z:Loc→Prop}{B:Nat}{a:Act}(hd:a.defers=[])(hs:a.tmps.size=20){v:Value}(h5:a.eval (.tmp 5)=v)(w:World):
 Goes Tryz.prog true AtRel (DZ Z B) (fun g w'=>g=G (c.finish v) cs∧AtRel w w') 8 (goneG Tryz.f43 a (c::cs)) w:=by
 unfold goneG
 have h5':(a.put (some 18) (.tuple #[])).eval (.tmp 5)=v:=(ev_put_ne (by decide)).trans h5
 have hs':(a.put (some 18) (.tuple #[])).tmps.size=20:=size_put.trans hs
 have hd':(a.put (some 18) (.tuple #[])).defers=[]:=defers_put.trans hd
 generalize a.put (some 18) (.tuple #[])=a1 at *
 refine Goes.ctl rfl (fun _=>stepG_region_end) ?_
 refine Goes.ctl rfl (fun _=>stepG_seq (x:= .region 11 (g11 Tryz.f43) false) (y:= .ret)) ?_
 refine Goes.ctl rfl (fun _=>stepG_region) ?_
 refine Goes.opv (ops:=g11 Tryz.f43) (i:=0) (rest:=[1]) rfl rfl (by decide) (dd:=some 19) rfl (v:=v) (nw:=fun w=>w) (fun d=>?_) (fun d=>rfl) (fun d=>?_)
 ·show(pure (.value (a1.eval (.tmp 5))):Sem Next).run Tryz.prog _=_
  rw[h5'];rfl
 have h19:(a1.put (some 19) v).eval (.tmp 19)=v:=ev_put_eq (by rw[hs'];decide)
 have hs2:(a1.put (some 19) v).tmps.size=20:=size_put.trans hs'
 have hd2:(a1.put (some 19) v).defers=[]:=defers_put.trans hd'
 generalize a1.put (some 19) v=a2 at *
 refine Goes.opv (ops:=g11 Tryz.f43) (i:=1) (rest:=[]) rfl rfl (by decide) (dd:=some 2) rfl (v:=v) (nw:=fun w=>w) (fun d=>?_) (fun d=>rfl) (fun d1=>?_)
 ·show(pure (.value (a2.eval (.tmp 19))):Sem Next).run Tryz.prog _=_
  rw[h19];rfl
 have h2:(a2.put (some 2) v).eval (.tmp 2)=v:=ev_put_eq (by rw[hs2];decide)
 have hd3:(a2.put (some 2) v).defers=[]:=defers_put.trans hd2
 generalize a2.put (some 2) v=a3 at *
 refine Goes.ctl rfl (fun _=>stepG_region_end) ?_
 refine Goes.ctl rfl (fun _=>stepG_ret') ?_
 refine Goes.ctl (g':=G (c.finish v) cs) rfl (fun w₁=>?_) ?_
 ·refine stepG_leave (fn:=Tryz.f43) rfl hd3 fz13 ?_ ?_
  ·have h2':a3.tmps.getD 2 undef=v:=h2
   unfold results
   rw[show Tryz.f43.results=#[.tmp 2] from rfl]
   simp[←h2',go_sem]
  ·unfold results
   rw[show Tryz.f43.results=#[.tmp 2] from rfl]
   simp[go_sem]
 ·refine Goes.stop fun w₁ h₁=>⟨rfl,?_⟩
  exact atRel_trans _ _ _ (atRel_trans _ _ _ ⟨d,rfl⟩ ⟨d1,rfl⟩) h₁
def Gathered (Shun:Loc→Prop)(ts:List Tok)(c:Frame)(cs:List Frame)(n:Nat)(w0:World)(m:Machine)(t:Trace):Prop:=
 ∃ (gs:Array Goroutine) (W:World) (sl:Option (Nat×Nat)) (q:Nat→Nat) (ρ:Rn) (w:World) (v:Value) (Shun':Loc→Prop),m=crowd gs W sl∧gs.size=n+1∧gs[0]? =some (G (c.finish (rv ρ v)) cs)∧Leavers Tryz.prog t gs q∧Past Shun' W.heap.size t∧
   (∀ l,Shun' l→l.low W.heap.size)∧(∀ l,l.low w0.heap.size→Shun' l→Shun l)∧(∀ l,InB (Touch Sc.d ρ w) l→¬ Shun' l)∧
   Sim Tryz.prog Sc ρ w W∧Cl Tryz.prog Sc w v∧w.ownsRow Tryz.prog.globals.size 131 7 v ts.length (ts.flatMap fun t=>(tokC t).toList)∧(∀ b,Touch Sc.d ρ w b→w0.heap.size≤b)∧
   w0.heap.size≤W.heap.size∧(∀ b,b<w0.heap.size→W.heap[b]? =w0.heap[b]?)∧W.tape=w0.tape∧W.os=w0.os∧W.output=w0.output
theorem quiet_of {Shun Q:Loc→Prop}{B:Nat}{t:Trace}(h:Past Shun B t)(hQ:∀ l,l.low B→¬ Q l):∀ i a,touchAt t i=some a→¬ Q a.loc:=by
 intro i a ha
 unfold touchAt at ha
 obtain⟨act,h1,h2⟩:=Option.bind_eq_some_iff.1 ha
 unfold Trace.act? at h1
 obtain⟨op,h3,rfl⟩:=Option.map_eq_some_iff.1 h1
 exact hQ _ (touch_low (h.seen op (Array.mem_of_getElem? h3)) h2)
theorem gatherP_len:∀ (n:Nat) (s:List UInt8) (a:Nat),(gatherP n s a).length≤n
 |0,s,a=>Nat.le_refl _
 |n+1,s,a=>by
  have:=gatherP_len n s (nextP s a).to_
  rw[gatherP]
  split
  ·simp
  ·simp;exact this
def payX (N Low:Nat)(s:List UInt8)(h:N+4≤Low):Pay (N+3) Low:=⟨⟨9⟩,N,[.string ⟨⟨s⟩⟩],by omega,by omega,by omega⟩
def payY (N Low:Nat)(h:N+4≤Low):Pay (N+3) Low:=⟨⟨132⟩,N+2,[.chan (some (N+1))],by omega,by omega,by omega⟩
theorem layG {Shun:Loc→Prop}{N n Low:Nat}(hn:n≠0)(hLow:Low=N+4)(hS:∀ l,Shun l→l.low N):LayW (QG N) (fun l=>Shun l∨QG N l) n (N+1) (N+3) Low (roG N) (fun b=>b=N+1∨b=N+3):=by
 subst hLow
 refine⟨⟨hn,fun b hb=>by rcases hb with h|h<;>omega,by omega,fun h=>by rcases h with h|h<;>omega,fun l h=> .inr h,fun l h=>?_,fun l hl h=>?_,.inl rfl⟩,by omega,by omega,fun a ha=> .inr ⟨a,rfl,ha⟩,.inr rfl⟩
 ·rcases h with h|rfl|⟨a,rfl,ha⟩
  ·exact Loc.low_mono (by omega) (hS l h)
  ·show N+1<N+4;omega
  ·show a.block<N+4;omega
 ·rcases h with h|rfl|⟨a,rfl,ha⟩
  ·have:=hS l h
   cases l with
   |cell a=>have h2:a.block<N:=this;rcases hl with h|h<;>omega
   |obj r=>have h2:r<N:=this;rcases hl with h|h<;>omega
   |_=>exact hl
  ·rcases hl with h|h<;>omega
  ·rcases hl with h|h<;>omega
section
variable {s:List UInt8}
 (hN:∀ (n:Nat) (w:World),n≤s.length→Calls Tryz.prog 120 #[.string ⟨⟨s⟩⟩,.int .i64 n] w fun e _=>∃ v,e= .returned v∧v=tokV (nextP s n))
 (hL:∀ (t:Tok) (w:World),Calls Tryz.prog 121 #[tokV t] w fun e _=>∃ v,e= .returned v∧v= .bool t.lastB)
include hN hL in
theorem gather_reach {Shun:Loc→Prop}{gs:Array Goroutine}{w0:World}{sl:Option (Nat×Nat)}{t:Trace}{q:Nat→Nat}(hlen:s.length≤1000)(hb:Tryz.prog.globals.size≤w0.heap.size)(h0:gs[0]? =some (G (Frame.enter Tryz.prog 43 #[.string ⟨⟨s⟩⟩] .normal) (c::cs)))(hLv:Leavers Tryz.prog t gs q)(hP:Past Shun w0.heap.size t)(hS:∀ l,Shun l→l.low w0.heap.size):
 Reach Tryz.prog (crowd gs w0 sl) t (Gathered Shun (gatherP (s.length+1) s 0) c cs gs.size w0):=by
 have hn0:gs.size≠0:=by have:=(Array.getElem?_eq_some_iff.1 h0).1;omega
 have hPQ:PastQ (QG w0.heap.size) Shun (w0.heap.size+4) 0 t:=PastQ.of_past (hP.mono (by omega)) (quiet_of hP fun l hl hq=>by
  rcases hq with rfl|⟨a,rfl,ha⟩
  ·have:w0.heap.size+1<w0.heap.size:=hl;omega
  ·have:a.block<w0.heap.size:=hl;omega)
 refine(goes_beside (Q:=QG w0.heap.size) (Shun:=Shun) (B:=w0.heap.size+4) (D:=DZ (fun l=>Shun l∨QG w0.heap.size l) (w0.heap.size+4)) (fun _ _ _ h=>h) 19 _ w0 (ahead_goes (cs:=c::cs) s w0 (fun hz=>?_) (by omega)) gs sl t q rfl hLv h0 hPQ).bind ?_
 ·rcases hz with hz|hz|⟨a,ha,hab⟩
  ·have:w0.heap.size+2<w0.heap.size:=hS _ hz;omega
  ·cases hz
  ·cases ha;have:w0.heap.size+2=w0.heap.size+3:=hab;omega
 rintro m t1 ⟨gs1,a1,w1,sl1,q1,rfl,hn1,h01,hst1,hLv1,hP1⟩
 have hZ:∀ a:Addr,a.block=w0.heap.size→¬ (Shun (.cell a)∨QG w0.heap.size (.cell a)):=fun a ha hz=>by
  rcases hz with hz|hz|⟨a',ha',hab⟩
  ·have:a.block<w0.heap.size:=hS _ hz;omega
  ·cases hz
  ·cases ha';omega
 have hadd:=add_goes s w0 a1 w1 (hst1 w1 (atRel_refl w1)) (by omega) (by omega)
 refine(goes_beside (Q:=QG w0.heap.size) (Shun:=Shun) (B:=w0.heap.size+4) (fun w w' es h=>evS_evL _ _ hZ h) 12 _ w1 hadd gs1 sl1 t1 q1 hn1 hLv1 h01 hP1).bind ?_
 rintro m t2 ⟨gs2,a2,w2,sl2,q2,rfl,hn2,h02,hst2,hLv2,hP2⟩
 refine(mark_beside (mk:= .disable) (by rfl) trivial hn2 hLv2 h02 hP2 hst2).bind ?_
 rintro m t3 ⟨gs3,a3,w3,sl3,q3,rfl,hn3,h03,⟨n3,hG3⟩,hLv3,hP3⟩
 refine(goes_beside (Q:=QG w0.heap.size) (Shun:=Shun) (B:=w0.heap.size+4) (fun w w' es h=>evS_evL _ _ hZ h) n3 _ w3 hG3 gs3 sl3 t3 q3 hn3 hLv3 h03 hP3).bind ?_
 rintro m t4 ⟨gs4,a4,w4,sl4,q4,rfl,hn4,h04,hst4,hLv4,hP4⟩
 refine(mark_beside (mk:= .enable) (by rfl) trivial hn4 hLv4 h04 hP4 hst4).bind ?_
 rintro m t5 ⟨gs5,a5,w5,sl5,q5,rfl,hn5,h05,⟨n5,hG5⟩,hLv5,hP5⟩
 refine(goes_beside (Q:=QG w0.heap.size) (Shun:=Shun) (B:=w0.heap.size+4) (fun w w' es h=>evS_evL _ _ hZ h) n5 _ w5 hG5 gs5 sl5 t5 q5 hn5 hLv5 h05 hP5).bind ?_
 rintro m t6 ⟨gs6,a6,w6,sl6,q6,rfl,hn6,h06,hst6,hLv6,hP6⟩
 have hd0:deafBehind (deafBehind 0 #[Go.ConcX.mk .disable]) #[Go.ConcX.mk .enable]=0:=by rfl
 rw[hd0] at hP6
 obtain⟨a,hg,h9,rfl,hl,hwg⟩:=hst6 w6 (atRel_refl w6)
 have hsz:w6.heap.size=w0.heap.size+4:=hl.size
 rw[←hsz] at hP6
 have hle4:w0.heap.size+4≤w6.heap.size:=by omega
 have hb6:Tryz.prog.globals.size≤w6.heap.size:=by omega
 have hjoin:=go_join (P:=Tryz.prog) (ty:=linkz.tWg) (Q:=QG w0.heap.size) (Shun:=Shun) (Shun':=fun l=>Shun l∨QG w0.heap.size l) (ch:=w0.heap.size+1) (Wg:=w0.heap.size+3) (n:=gs.size) (ro:=roG w0.heap.size) (z:=tokV zTok) (w:=w6) (x:=payX w0.heap.size w6.heap.size s hle4) (y:=payY w0.heap.size w6.heap.size hle4)
  (After:=AfterG (roG w0.heap.size) w0.heap.size (w0.heap.size+2) (w0.heap.size+3) (w0.heap.size+1) (gatherP (s.length+1) s 0) (c::cs)) (vs:=(gatherP (s.length+1) s 0).map tokV) (sl:=sl6)
  (layG hn0 hsz hS) (fun l h=> .inl h) (by show w0.heap.size≠w0.heap.size+2;omega) (fun a ha=>hZ a ha) (fun a ha hz=>?_) hn6 hLv6 h06 hP6 rfl (fun w₁ _=>spawn_go h9 w₁) ⟨0,0,false,hl.chan⟩ hwg (fun w₁ h₁=>?_) (fun w₁ h₁=>?_)
 rotate_left
 ·have hab:a.block=w0.heap.size+2:=ha
  rcases hz with hz|hz|⟨a',ha',hab'⟩
  ·have:a.block<w0.heap.size:=hS _ hz;omega
  ·cases hz
  ·cases ha';omega
 ·obtain⟨d,rfl⟩:=h₁
  exact gather_recvs (x:=payX w0.heap.size w6.heap.size s hle4) (y:=payY w0.heap.size w6.heap.size hle4) rfl rfl hg (by have:=gatherP_len (s.length+1) s 0;omega) hb6 hle4 hl.box
 ·obtain⟨d,rfl⟩:=h₁
  exact born_sends (x:=payX w0.heap.size w6.heap.size s hle4) (y:=payY w0.heap.size w6.heap.size hle4) (by show w0.heap.size≠w0.heap.size+1;omega) (by show w0.heap.size+2≠w0.heap.size+1;omega) (.inl rfl) (.inr rfl) hN hL (w6.at d) ⟨fun b hb=>by
   rcases hb with h|h|h
   ·exact h.elim
   ·show b<w6.heap.size;omega
   ·show b<w6.heap.size;omega,fun _ _ h=>h⟩ hb6 ⟨hl.txt,hl.box⟩ (cell_of_one (w:=w6.at d) hl.txt) (cell_of_one (w:=w6.at d) hl.box)
 refine hjoin.bind ?_
 rintro m t7 ⟨w₁,⟨d1,rfl⟩,gs7,w',w7,sl7,q7,a7,own,rfl,hn7,h07,hrun7,⟨a',⟨hga,ρ,w,v,hA,h5,hcl,hrow⟩,rfl,hOff⟩,hle7,hLv7,hP7,hown7,hLow7,hkeep7,ht7,hos7,hout7⟩
 refine(goes_beside (Q:=fun _=>False) (Shun:=fun l=>Shun l∨QG w0.heap.size l) (B:=w7.heap.size) (D:=DZ (fun l=>(Shun l∨QG w0.heap.size l)∨False) w7.heap.size) (fun _ _ _ h=>h) 8 _ w7 (gone_goes (c:=c) (cs:=cs) hga.defers hga.size h5 w7) gs7 sl7 t7 q7 hn7 hLv7 h07 (PastQ.of_past hP7 fun _ _ _ h=>h)).mono ?_
 rintro m t8 ⟨gs8,a8,w8,sl8,q8,rfl,hn8,h08,hst8,hLv8,hP8⟩
 obtain⟨rfl,d8,e8⟩:=hst8 w8 (atRel_refl w8)
 have hheap:w8.heap=w7.heap:=by rw[e8];rfl
 have hsz7:w7.heap.size=w'.heap.size:=hOff.size
 have htou:∀ b,Touch Sc.d ρ w b→w0.heap.size+4≤b:=fun b hb=>by have:=hown7 b (hA.tou b hb);omega
 have hblk:∀ b,Touch Sc.d ρ w b→w8.heap[b]? =w'.heap[b]?:=fun b hb=>by
  have:=htou b hb
  rw[hheap]
  exact hOff.block b (by omega) (by omega) (by omega)
 have hS8:=hA.sim.grow (W₁:=w8) (by rw[hheap];omega) hblk
 refine⟨gs8,w8,sl8,q8,_,w,v,fun l=>Shun l∨QG w0.heap.size l,rfl,hn8,?_,hLv8,by rw[hheap];exact hP8.past,fun l hl'=>?_,fun l hlow hl'=>?_,fun l hl'=>?_,hS8,hcl,hrow,fun b hb=>?_,by rw[hheap];omega,fun b hb=>?_,?_,?_,?_⟩
 ·rw[h08]
  have:rv (extR ρ w.heap.size w8.heap.size) v=rv ρ v:=hcl.agree (fun r hr=>extR_lt hr) (rv_f hA.sim hS8)
  rw[this]
 ·have:=(layG (Low:=w6.heap.size) hn0 hsz hS).shun l hl'
  exact Loc.low_mono (by rw[hheap];omega) this
 ·rcases hl' with h|rfl|⟨a,rfl,ha⟩
  ·exact h
  ·have:w0.heap.size+1<w0.heap.size:=hlow;omega
  ·have:a.block<w0.heap.size:=hlow;omega
 ·rw[touch_ext] at hl'
  rintro (h|rfl|⟨a,rfl,ha⟩)
  ·have hlo:=hS l h
   cases l with
   |cell a=>have h1:=htou _ hl';have h2:a.block<w0.heap.size:=hlo;omega
   |obj r=>have h1:=htou _ hl';have h2:r<w0.heap.size:=hlo;omega
   |_=>exact hl'
  ·have h1:=htou _ hl';omega
  ·have h1:=htou _ hl';omega
 ·rw[touch_ext] at hb;have:=htou b hb;omega
 ·rw[hheap,hOff.block b (by omega) (by omega) (by omega),hkeep7 b (by omega) (by omega) (by omega)]
  exact hl.old b hb
 ·rw[e8];exact(hOff.tape.trans ht7).trans hl.tape
 ·rw[e8];exact(hOff.os.trans hos7).trans hl.os
 ·rw[e8];exact(hOff.output.trans hout7).trans hl.output
end
end Go.Ren
namespace Go.Proofs
open Go.Shelf
def Tryz.lays137_ren:Go.Shelf.Ren:=⟨fun|137=>127|217=>174|266=>202|n=>n,fun|9=>9|5=>5|3=>3|n=>n,fun|n=>n⟩
theorem Tryz.lays137:Go.Proofs.Lays.n137 Tryz.prog Tryz.lays137_ren:={
 mixed:=by kernel_rfl
 f137:=Tryz.func127.trans (congrArg some (by kernel_rfl))
 f217:=Tryz.func174.trans (congrArg some (by kernel_rfl))
 f266:=Tryz.func202.trans (congrArg some (by kernel_rfl))
 t3:=Tryz.underlying3
 a3:=Tryz.isAgg3
 z3:=Tryz.sizeOf3
 v3:=Tryz.zeroValue3
 t5:=Tryz.underlying5
 a5:=Tryz.isAgg5
 z5:=Tryz.sizeOf5
 v5:=Tryz.zeroValue5
 t9:=Tryz.underlying9
 a9:=Tryz.isAgg9
 z9:=Tryz.sizeOf9
 v9:=Tryz.zeroValue9 }
open Go.RowKit in
theorem Tryz.strings_IndexByte (s:ByteArray)(c:Int)(w:World):
 Calls Tryz.prog 127 #[.string s,.int .u8 c] w fun e w'=>e= .returned (.int .i64 (Lib.indexByte s.data.toList c.toNat.toUInt8))∧w'=w:=Any.strings_IndexByte Tryz.lays137 s c w
def Tryz.laysM171_ren:Go.Shelf.Ren:=⟨fun|171=>100|243=>155|246=>190|283=>216|284=>217|285=>218|286=>219|129=>239|317=>238|318=>240|319=>241|320=>242|337=>245|338=>246|n=>n,fun|3=>3|9=>9|2=>2|4=>4|171=>282|0=>0|53=>137|37=>80|5=>5|173=>285|212=>300|51=>140|20=>20|213=>301|46=>200|232=>306|233=>307|n=>n,fun|17=>1|18=>2|19=>3|n=>n⟩
theorem Tryz.laysM171:Go.Proofs.LaysM.n171 Tryz.prog Tryz.laysM171_ren:={
 mixed:=by kernel_rfl
 f129:=Tryz.func239.trans (congrArg some (by kernel_rfl))
 f171:=Tryz.func100.trans (congrArg some (by kernel_rfl))
 f243:=Tryz.func155.trans (congrArg some (by kernel_rfl))
 f246:=Tryz.func190.trans (congrArg some (by kernel_rfl))
 f283:=Tryz.func216.trans (congrArg some (by kernel_rfl))
 f284:=Tryz.func217.trans (congrArg some (by kernel_rfl))
 f285:=Tryz.func218.trans (congrArg some (by kernel_rfl))
 f286:=Tryz.func219.trans (congrArg some (by kernel_rfl))
 f317:=Tryz.func238.trans (congrArg some (by kernel_rfl))
 f318:=Tryz.func240.trans (congrArg some (by kernel_rfl))
 f319:=Tryz.func241.trans (congrArg some (by kernel_rfl))
 f320:=Tryz.func242.trans (congrArg some (by kernel_rfl))
 f337:=Tryz.func245.trans (congrArg some (by kernel_rfl))
 f338:=Tryz.func246.trans (congrArg some (by kernel_rfl))
 t0:=Tryz.underlying0
 a0:=Tryz.isAgg0
 z0:=Tryz.sizeOf0
 v0:=Tryz.zeroValue0
 t2:=Tryz.underlying2
 a2:=Tryz.isAgg2
 z2:=Tryz.sizeOf2
 v2:=Tryz.zeroValue2
 t3:=Tryz.underlying3
 a3:=Tryz.isAgg3
 z3:=Tryz.sizeOf3
 v3:=Tryz.zeroValue3
 t4:=Tryz.underlying4
 a4:=Tryz.isAgg4
 z4:=Tryz.sizeOf4
 v4:=Tryz.zeroValue4
 t5:=Tryz.underlying5
 a5:=Tryz.isAgg5
 z5:=Tryz.sizeOf5
 v5:=Tryz.zeroValue5
 t9:=Tryz.underlying9
 a9:=Tryz.isAgg9
 z9:=Tryz.sizeOf9
 v9:=Tryz.zeroValue9
 t20:=Tryz.underlying20
 a20:=Tryz.isAgg20
 z20:=Tryz.sizeOf20
 v20:=Tryz.zeroValue20
 t37:=Tryz.underlying80
 a37:=Tryz.isAgg80
 z37:=Tryz.sizeOf80
 v37:=Tryz.zeroValue80
 t46:=Tryz.underlying200
 a46:=Tryz.isAgg200
 z46:=Tryz.sizeOf200
 v46:=Tryz.zeroValue200
 t51:=Tryz.underlying140
 a51:=Tryz.isAgg140
 z51:=Tryz.sizeOf140
 v51:=Tryz.zeroValue140
 t53:=Tryz.underlying137
 a53:=Tryz.isAgg137
 z53:=Tryz.sizeOf137
 v53:=Tryz.zeroValue137
 t171:=Tryz.underlying282
 a171:=Tryz.isAgg282
 z171:=Tryz.sizeOf282
 v171:=Tryz.zeroValue282
 t173:=Tryz.underlying285
 a173:=Tryz.isAgg285
 z173:=Tryz.sizeOf285
 v173:=Tryz.zeroValue285
 t212:=Tryz.underlying300
 a212:=Tryz.isAgg300
 z212:=Tryz.sizeOf300
 v212:=Tryz.zeroValue300
 t213:=Tryz.underlying301
 a213:=Tryz.isAgg301
 z213:=Tryz.sizeOf301
 t232:=Tryz.underlying306
 a232:=Tryz.isAgg306
 z232:=Tryz.sizeOf306
 v232:=Tryz.zeroValue306
 t233:=Tryz.underlying307
 a233:=Tryz.isAgg307
 z233:=Tryz.sizeOf307
 v233:=Tryz.zeroValue307
 g17:=by kernel_rfl
 g18:=by kernel_rfl
 g19:=by kernel_rfl
 i0:=by kernel_rfl
 i2:=by kernel_rfl
 i3:=by kernel_rfl
 i4:=by kernel_rfl
 i5:=by kernel_rfl
 i9:=by kernel_rfl
 i20:=by kernel_rfl
 i37:=by kernel_rfl
 i46:=by kernel_rfl
 i51:=by kernel_rfl
 i53:=by kernel_rfl
 i171:=by kernel_rfl
 i173:=by kernel_rfl
 i212:=by kernel_rfl
 i232:=by kernel_rfl
 i233:=by kernel_rfl
 m17:=by kernel_rfl
 m18:=by kernel_rfl
 m19:=by kernel_rfl }
open Go.RowKit Go.Sort Go.Lib in
theorem Tryz.strconv_Itoa (n:Int)(h0: -9223372036854775808≤n)(h1:n≤9223372036854775807)(w:World)(htab:Lib.TabIs Tryz.prog w "internal/strconv.uint64pow10" .u64 Lib.pow10Tab):
 Calls Tryz.prog 100 #[.int .i64 n] w fun e w'=>e= .returned (.string ⟨(Lib.itoa n).toArray⟩)∧∃ k os,w'=grow (w.drewN k) os:=Any.strconv_Itoa Tryz.laysM171 n h0 h1 w htab
def Tryz.laysM316_ren:Go.Shelf.Ren:=⟨fun|316=>130|n=>n,fun|9=>9|3=>3|4=>4|37=>80|0=>0|127=>190|5=>5|n=>n,fun|n=>n⟩
theorem Tryz.laysM316:Go.Proofs.LaysM.n316 Tryz.prog Tryz.laysM316_ren:={
 mixed:=by kernel_rfl
 f316:=Tryz.func130.trans (congrArg some (by kernel_rfl))
 t0:=Tryz.underlying0
 a0:=Tryz.isAgg0
 z0:=Tryz.sizeOf0
 v0:=Tryz.zeroValue0
 t3:=Tryz.underlying3
 a3:=Tryz.isAgg3
 z3:=Tryz.sizeOf3
 v3:=Tryz.zeroValue3
 t4:=Tryz.underlying4
 a4:=Tryz.isAgg4
 z4:=Tryz.sizeOf4
 v4:=Tryz.zeroValue4
 t9:=Tryz.underlying9
 a9:=Tryz.isAgg9
 z9:=Tryz.sizeOf9
 v9:=Tryz.zeroValue9
 t37:=Tryz.underlying80
 a37:=Tryz.isAgg80
 z37:=Tryz.sizeOf80
 v37:=Tryz.zeroValue80
 t127:=Tryz.underlying190
 a127:=Tryz.isAgg190
 z127:=Tryz.sizeOf190
 v127:=Tryz.zeroValue190
 t5:=Tryz.underlying5
 a5:=Tryz.isAgg5
 z5:=Tryz.sizeOf5
 v5:=Tryz.zeroValue5
 i0:=by kernel_rfl
 i3:=by kernel_rfl
 i4:=by kernel_rfl
 i5:=by kernel_rfl
 i9:=by kernel_rfl
 i37:=by kernel_rfl
 i127:=by kernel_rfl }
open Go.RowKit in
theorem Tryz.stringslite_Clone (s:ByteArray)(w:World)(hlim:s.size≤281474976710656):
 Calls Tryz.prog 130 #[.string s] w fun e w'=>e= .returned (.string s)∧Below w.heap.size w w':=Any.stringslite_Clone Tryz.laysM316 s w hlim
def Tryz.lays219_ren:Go.Shelf.Ren:=⟨fun|219=>247|217=>174|225=>248|224=>249|267=>250|266=>202|314=>251|n=>n,fun|9=>9|3=>3|4=>4|5=>5|46=>200|146=>308|51=>140|n=>n,fun|1=>0|n=>n⟩
theorem Tryz.lays219:Go.Proofs.Lays.n219 Tryz.prog Tryz.lays219_ren:={
 mixed:=by kernel_rfl
 f217:=Tryz.func174.trans (congrArg some (by kernel_rfl))
 f219:=Tryz.func247.trans (congrArg some (by kernel_rfl))
 f224:=Tryz.func249.trans (congrArg some (by kernel_rfl))
 f225:=Tryz.func248.trans (congrArg some (by kernel_rfl))
 f266:=Tryz.func202.trans (congrArg some (by kernel_rfl))
 f267:=Tryz.func250.trans (congrArg some (by kernel_rfl))
 f314:=Tryz.func251.trans (congrArg some (by kernel_rfl))
 t3:=Tryz.underlying3
 a3:=Tryz.isAgg3
 z3:=Tryz.sizeOf3
 v3:=Tryz.zeroValue3
 t4:=Tryz.underlying4
 a4:=Tryz.isAgg4
 z4:=Tryz.sizeOf4
 v4:=Tryz.zeroValue4
 t5:=Tryz.underlying5
 a5:=Tryz.isAgg5
 z5:=Tryz.sizeOf5
 v5:=Tryz.zeroValue5
 t9:=Tryz.underlying9
 a9:=Tryz.isAgg9
 z9:=Tryz.sizeOf9
 v9:=Tryz.zeroValue9
 t46:=Tryz.underlying200
 a46:=Tryz.isAgg200
 z46:=Tryz.sizeOf200
 v46:=Tryz.zeroValue200
 t51:=Tryz.underlying140
 a51:=Tryz.isAgg140
 z51:=Tryz.sizeOf140
 v51:=Tryz.zeroValue140
 t146:=Tryz.underlying308
 a146:=Tryz.isAgg308
 z146:=Tryz.sizeOf308
 v146:=Tryz.zeroValue308
 g1:=by kernel_rfl }
open Go.RowKit Go.Lib in
theorem Tryz.stringslite_Index_one (s:ByteArray)(c:UInt8)(w:World):
 Calls Tryz.prog 247 #[.string s,.string ⟨#[c]⟩] w fun e w'=>e= .returned (.int .i64 (Lib.indexByte s.data.toList c))∧w'=w:=Any.stringslite_Index_one Tryz.lays219 s c w
def Tryz.lays99_ren:Go.Shelf.Ren:=⟨fun|99=>75|206=>128|n=>n,fun|9=>9|4=>4|3=>3|n=>n,fun|n=>n⟩
theorem Tryz.lays99:Go.Proofs.Lays.n99 Tryz.prog Tryz.lays99_ren:={
 mixed:=by kernel_rfl
 f99:=Tryz.func75.trans (congrArg some (by kernel_rfl))
 f206:=Tryz.func128.trans (congrArg some (by kernel_rfl))
 t3:=Tryz.underlying3
 a3:=Tryz.isAgg3
 z3:=Tryz.sizeOf3
 v3:=Tryz.zeroValue3
 t4:=Tryz.underlying4
 a4:=Tryz.isAgg4
 z4:=Tryz.sizeOf4
 v4:=Tryz.zeroValue4
 t9:=Tryz.underlying9
 a9:=Tryz.isAgg9
 z9:=Tryz.sizeOf9
 v9:=Tryz.zeroValue9 }
open Go.RowKit Go.Lib in
theorem Tryz.strings_HasPrefix (s p:ByteArray)(w:World):
 Calls Tryz.prog 75 #[.string s,.string p] w fun e w'=>e= .returned (.bool (Lib.hasPrefix s.data.toList p.data.toList))∧w'=w:=Any.strings_HasPrefix Tryz.lays99 s p w
end Go.Proofs
namespace Go.Proofs.YtlhimdjkkiflhaaGreatDoor
open Go.RowKit Go.Loop
theorem ret_int {k:IntKind}{a b:Int}(h:a=b):Ending.returned (.int k a)= .returned (.int k b):=by rw[h]
theorem ret_bool {a b:Bool}(h:a=b):Ending.returned (.bool a)= .returned (.bool b):=by rw[h]
set_option maxHeartbeats 400000 in
theorem isDigit_any (c:Int)(w:World):
 Calls Tryz.prog 186 #[.int .u8 c] w fun e w'=>e= .returned (.bool (digB c))∧w'=w:=by
 go_enter Tryz.func186,Tryz.ntmps186
 go_wp2
 all_goals
  go_ret
  exact⟨ret_bool (by simp[digB];try omega),rfl⟩
set_option maxHeartbeats 400000 in
theorem isLetter_any (c:Int)(w:World):
 Calls Tryz.prog 187 #[.int .u8 c] w fun e w'=>e= .returned (.bool (letB c))∧w'=w:=by
 go_enter Tryz.func187,Tryz.ntmps187
 go_wp2
 all_goals
  go_ret
  refine⟨ret_bool ?_,rfl⟩
  rw[Bool.eq_iff_iff];simp[letB];omega
theorem sign_idx:∀ n:Nat,n<256→signB n=decide (0≤Lib.indexByte [43,45,42,47,60,62,61,63,33,46,95] n.toUInt8):=by decide +kernel
set_option maxHeartbeats 400000 in
theorem isWordByte_any (c:Int)(w:World)(h0:0≤c)(h1:c≤255):
 Calls Tryz.prog 149 #[.int .u8 c] w fun e w'=>e= .returned (.bool (wordB c))∧w'=w:=by
 have hs:=sign_idx c.toNat (by omega)
 rw[Int.toNat_of_nonneg h0] at hs
 cases hl:letB c
 ·cases hd:digB c
  ·go_enter Tryz.func149,Tryz.ntmps149
   go_wp2_with (first|(go_at_call 187;refine(isLetter_any _ _).mono ?_;rw[hl];rintro e w' ⟨rfl,rfl⟩)|(go_at_call 186;refine(isDigit_any _ _).mono ?_;rw[hd];rintro e w' ⟨rfl,rfl⟩)|(go_at_call 127;refine(Tryz.strings_IndexByte _ _ _).mono ?_;rintro e w' ⟨rfl,rfl⟩))
   all_goals
    go_ret
    refine⟨ret_bool ?_,rfl⟩
    simp[wordB,hl,hd,hs]
  ·go_enter Tryz.func149,Tryz.ntmps149
   go_wp2_with (first|(go_at_call 187;refine(isLetter_any _ _).mono ?_;rw[hl];rintro e w' ⟨rfl,rfl⟩)|(go_at_call 186;refine(isDigit_any _ _).mono ?_;rw[hd];rintro e w' ⟨rfl,rfl⟩)|(go_at_call 127;refine(Tryz.strings_IndexByte _ _ _).mono ?_;rintro e w' ⟨rfl,rfl⟩))
   all_goals
    go_ret
    refine⟨ret_bool ?_,rfl⟩
    simp[wordB,hl,hd]
 ·go_enter Tryz.func149,Tryz.ntmps149
  go_wp2_with (first|(go_at_call 187;refine(isLetter_any _ _).mono ?_;rw[hl];rintro e w' ⟨rfl,rfl⟩)|(go_at_call 186;refine(isDigit_any _ _).mono ?_;rintro e w' ⟨rfl,rfl⟩))
  all_goals
   go_ret
   refine⟨ret_bool ?_,rfl⟩
   simp[wordB,hl]
theorem take_snoc (s:ByteArray)(k:Nat)(h:k<s.size):s.data.toList.take (k+1)=s.data.toList.take k++[s[k]]:=by
 rw[List.take_succ_eq_append_getElem (by simpa using h)];rfl
theorem take_all (s:ByteArray)(k:Nat)(h:s.size≤k):s.data.toList.take k=s.data.toList:=List.take_of_length_le (by simpa using h)
theorem ba_get0 (c:UInt8)(r:List UInt8)(h:0<(ByteArray.mk (Array.mk (c::r))).size):(ByteArray.mk (Array.mk (c::r)))[0]'h=c:=rfl
theorem ba_ext1 (c:UInt8)(r:List UInt8):(ByteArray.mk (Array.mk (c::r))).extract 1 (r.length+1)=⟨⟨r⟩⟩:=by
 apply ByteArray.ext;simp
theorem ba_ext2 (c d:UInt8)(r:List UInt8):(ByteArray.mk (Array.mk (c::d::r))).extract 1 (r.length+1+1)=⟨⟨d::r⟩⟩:=ba_ext1 c (d::r)
theorem ba_toList (r:List UInt8):(ByteArray.mk (Array.mk r)).toList=r:=by simp
section
attribute [local go_sem] ba_get0 ba_ext1 ba_ext2 ba_toList
set_option maxHeartbeats 400000 in
theorem mustBeNumber_any (c:UInt8)(r:List UInt8)(w:World)(hs:(c::r).length≤maxLen):
 Calls Tryz.prog 147 #[.string ⟨⟨c::r⟩⟩] w fun e w'=>e= .returned (.bool (mustNum (c::r)))∧w'=w:=by
 unfold maxLen at hs
 simp at hs
 cases hp:((c.toNat:Int)==43)
 ·cases hm:((c.toNat:Int)==45)
  ·have H:Hid (mustNum (c::r)=digB (c.toNat:Int)):=by
    simp at hp hm;exact mustNum_plain c r hp hm
   go_enter Tryz.func147,Tryz.ntmps147
   go_wp2_with (go_at_call 186;refine(isDigit_any _ _).mono ?_;rintro e w' ⟨rfl,rfl⟩)
   go_ret
   exact⟨ret_bool H.out.symm,rfl⟩
  ·cases r with
   |nil=>
    have H:Hid (mustNum [c]=false):=by simp at hm;exact mustNum_sign0 c (Or.inr hm)
    go_enter Tryz.func147,Tryz.ntmps147
    go_wp2_with (go_at_call 186;refine(isDigit_any _ _).mono ?_;rintro e w' ⟨rfl,rfl⟩)
    go_ret
    exact⟨ret_bool H.out.symm,rfl⟩
   |cons d r=>
    have H:Hid (mustNum (c::d::r)=digB (d.toNat:Int)):=by
     simp at hm;exact mustNum_sign1 c d r (Or.inr hm)
    simp at hs
    go_enter Tryz.func147,Tryz.ntmps147
    go_wp2_with (go_at_call 186;refine(isDigit_any _ _).mono ?_;rintro e w' ⟨rfl,rfl⟩)
    go_ret
    exact⟨ret_bool H.out.symm,rfl⟩
 ·cases r with
   |nil=>
    have H:Hid (mustNum [c]=false):=by simp at hp;exact mustNum_sign0 c (Or.inl hp)
    go_enter Tryz.func147,Tryz.ntmps147
    go_wp2_with (go_at_call 186;refine(isDigit_any _ _).mono ?_;rintro e w' ⟨rfl,rfl⟩)
    go_ret
    exact⟨ret_bool H.out.symm,rfl⟩
   |cons d r=>
    have H:Hid (mustNum (c::d::r)=digB (d.toNat:Int)):=by
     simp at hp;exact mustNum_sign1 c d r (Or.inl hp)
    simp at hs
    go_enter Tryz.func147,Tryz.ntmps147
    go_wp2_with (go_at_call 186;refine(isDigit_any _ _).mono ?_;rintro e w' ⟨rfl,rfl⟩)
    go_ret
    exact⟨ret_bool H.out.symm,rfl⟩
end
set_option maxHeartbeats 400000 in
theorem runEnd_word (s:ByteArray)(at0:Int)(w:World)(hs:s.size≤maxLen)(h0:0≤at0)(h1:at0≤s.size):
 Calls Tryz.prog 148 #[.string s,.int .i64 at0,.func (.func 149) #[] #[]] w fun e w'=>e= .returned (.int .i64 (at0+runL wordB (s.data.toList.drop at0.toNat)))∧w'=w:=by
 unfold maxLen at hs
 obtain⟨a,rfl⟩:=Int.eq_ofNat_of_zero_le h0
 rw[Int.toNat_natCast]
 go_enter Tryz.func148,Tryz.ntmps148
 go_wp2_with fail
 go_loop [1] (fun i=>∃ k:Nat,a≤k∧k≤s.size∧i= .int .i64 k∧Hid ((a:Int)+runL wordB (s.data.toList.drop a)=(k:Int)+runL wordB (s.data.toList.drop k))) (fun i=>s.size-(intOf i).toNat)
 case atStart=>exact⟨a,Nat.le_refl _,by omega,rfl,rfl⟩
 case round=>
  obtain⟨k,hk0,hk,rfl,hr⟩:=hrel
  by_cases hlt:k<s.size
  ·have hd:Hid (s.data.toList.drop k=s[k]::s.data.toList.drop (k+1)):=by show _=_;rw[List.drop_eq_getElem_cons (by simpa using hlt)];rfl
   cases hp:wordB (s[k].toNat :Int)
   ·have H:Hid (runL wordB (s.data.toList.drop k)=0):=by show _=_;rw[hd.out];simp[runL,hp]
    go_wp2_with fail
    refine(isWordByte_any _ _ (by omega) (by have:=s[k].toNat_lt;omega)).mono ?_
    rw[hp];rintro e w' ⟨rfl,rfl⟩
    go_wp2_with fail
    go_ret
    refine⟨ret_int ?_,rfl⟩
    rw[hr.out,H.out];simp
   ·have H:Hid (runL wordB (s.data.toList.drop k)=runL wordB (s.data.toList.drop (k+1))+1):=by show _=_;rw[hd.out];simp[runL,hp]
    go_wp2_with fail
    refine(isWordByte_any _ _ (by omega) (by have:=s[k].toNat_lt;omega)).mono ?_
    rw[hp];rintro e w' ⟨rfl,rfl⟩
    go_wp2_with fail
    go_round
    case rel=>exact⟨k+1,by omega,by omega,by go_num,by show _=_;rw[hr.out,H.out];omega⟩
    case measure=>simp[intOf];omega
  ·have H:Hid (runL wordB (s.data.toList.drop k)=0):=by show _=_;rw[List.drop_of_length_le (by simp;omega)];rfl
   go_wp2_with fail
   go_ret
   refine⟨ret_int ?_,rfl⟩
   rw[hr.out,H.out];simp
theorem gcd_tmod (a b:Int):Int.gcd b (a.tmod b)=Int.gcd a b:=by
 have h:(a.tmod b)=a-b*(a.tdiv b):=by have:=Int.mul_tdiv_add_tmod a b;omega
 rw[h,Int.gcd_sub_mul_left_right,Int.gcd_comm]
theorem tmod_lt (a b:Int)(hb:b≠0):(a.tmod b).natAbs <b.natAbs:=by
 rw[Int.natAbs_tmod];exact Nat.mod_lt _ (by omega)
theorem abs_bd (t:Int)(b:Int)(h:t.natAbs<b.natAbs)(hb1: -4611686018427387904≤b)(hb2:b≤4611686018427387904): -4611686018427387904≤t∧t≤4611686018427387904:=by omega
theorem gcd_zero_max (a:Int):((Int.gcd a 0:Nat):Int)=max a (-a):=by
 rw[Int.gcd_zero_right];omega
set_option maxHeartbeats 400000 in
theorem divisor_any (n d:Int)(w:World)(h1: -4611686018427387904≤n)(h2:n≤4611686018427387904)(h3: -4611686018427387904≤d)(h4:d≤4611686018427387904):
 Calls Tryz.prog 214 #[.int .i64 n,.int .i64 d] w fun e w'=>e= .returned (.int .i64 (Int.gcd n d))∧∃ m,w'=w.drewN m:=by
 go_enter Tryz.func214,Tryz.ntmps214
 go_wp2
 go_loopw [0,1] (fun x y wr=>∃ a b:Int,x= .int .i64 a∧y= .int .i64 b∧-4611686018427387904≤a∧a≤4611686018427387904∧-4611686018427387904≤b∧b≤4611686018427387904∧Hid (Int.gcd a b=Int.gcd n d)∧∃ m,wr=w.drewN m) (fun _ y _=>(intOf y).natAbs)
 case atStart=>exact⟨n,d,rfl,rfl,h1,h2,h3,h4,rfl,0,rfl⟩
 case round=>
  obtain⟨a,b,rfl,rfl,ha1,ha2,hb1,hb2,hg,m,rfl⟩:=hrel
  by_cases hb:b=0
  ·subst hb
   go_wp2
   go_ret
   exact⟨ret_int (by rw[←hg.out,gcd_zero_max]),_,rfl⟩
  ·have hbb:(b != 0)=true:=by simpa using hb
   have HT:Hid ((a.tmod b).natAbs <b.natAbs):=tmod_lt a b hb
   obtain⟨t1,t2⟩:=abs_bd _ _ HT.out hb1 hb2
   go_wp2
   go_quiet (fail)
   go_wp2
   go_roundw
   case rel=>exact⟨b,a.tmod b,rfl,rfl,hb1,hb2,t1,t2,(gcd_tmod a b).trans hg.out,_,World.drewN_drewN _ _ _⟩
   case measure=>exact HT.out
set_option maxHeartbeats 400000 in
theorem lowest_any (n d:Int)(w:World)(h1: -4611686018427387904≤n)(h2:n≤4611686018427387904)(h3:1≤d)(h4:d≤4611686018427387904):
 Calls Tryz.prog 188 #[.int .i64 n,.int .i64 d] w fun e w'=>e= .returned (.tuple #[.int .i64 (n.tdiv (Int.gcd n d)),.int .i64 (d/(Int.gcd n d))])∧∃ m,w'=w.drewN m:=by
 have hg:1≤((Int.gcd n d:Nat):Int):=by
  have:0<Int.gcd n d:=Int.gcd_pos_of_ne_zero_right _ (by omega)
  omega
 go_enter Tryz.func188,Tryz.ntmps188
 go_wp2_with (go_at_call 214;refine(divisor_any _ _ _ (by omega) (by omega) (by omega) (by omega)).mono ?_;rintro e w' ⟨rfl,m,rfl⟩)
 go_quiet (fail)
 go_wp2
 go_ret2
 exact⟨rfl,_,World.drewN_drewN _ _ _⟩
theorem tdiv_bd (n g:Int)(h1: -4611686018427387904≤n)(h2:n≤4611686018427387904)(_hg:1≤g): -4611686018427387904≤n.tdiv g∧n.tdiv g≤4611686018427387904:=by
 have:(n.tdiv g).natAbs≤n.natAbs:=by rw[Int.natAbs_tdiv];exact Nat.div_le_self _ _
 omega
theorem div_bd (n g:Int)(h1:1≤n)(h2:n≤4611686018427387904)(hg:1≤g):0≤n/g∧n/g≤4611686018427387904:=by
 have h3:=Int.ediv_le_self (a:=n) g (by omega)
 have h4:=Int.ediv_nonneg (a:=n) (b:=g) (by omega) (by omega)
 omega
set_option maxHeartbeats 400000 in
theorem ratioLowest_any (n d:Int)(w:World)(h1: -4611686018427387904≤n)(h2:n≤4611686018427387904)(h3:1≤d)(h4:d≤4611686018427387904):
 Calls Tryz.prog 150 #[.int .i64 n,.int .i64 d] w fun e w'=>e= .returned (.tuple #[.int .i64 (n.tdiv (Int.gcd n d)),.int .i64 (d/(Int.gcd n d))])∧∃ m,w'=w.drewN m:=by
 have hg:1≤((Int.gcd n d:Nat):Int):=by
  have:0<Int.gcd n d:=Int.gcd_pos_of_ne_zero_right _ (by omega)
  omega
 obtain⟨t1,t2⟩:=tdiv_bd n _ h1 h2 hg
 obtain⟨t3,t4⟩:=div_bd d _ h3 h4 hg
 go_enter Tryz.func150,Tryz.ntmps150
 go_wp2_with (go_at_call 188;refine(lowest_any _ _ _ (by omega) (by omega) (by omega) (by omega)).mono ?_;rintro e w' ⟨rfl,m,rfl⟩)
 generalize n.tdiv (Int.gcd n d)=u at *
 generalize d/(Int.gcd n d)=v at *
 go_wp2
 go_ret2
 exact⟨rfl,_,rfl⟩
set_option maxHeartbeats 400000 in
theorem refLowest_any (n d:Int)(w:World)(h1: -4611686018427387904≤n)(h2:n≤4611686018427387904)(h3:1≤d)(h4:d≤4611686018427387904):
 Calls Tryz.prog 182 #[.int .i64 n,.int .i64 d] w fun e w'=>e= .returned (.tuple #[.int .i64 (n.tdiv (Int.gcd n d)),.int .i64 (d/(Int.gcd n d))])∧∃ m,w'=w.drewN m:=by
 have hg:1≤((Int.gcd n d:Nat):Int):=by
  have:0<Int.gcd n d:=Int.gcd_pos_of_ne_zero_right _ (by omega)
  omega
 go_enter Tryz.func182,Tryz.ntmps182
 go_wp2
 go_loop [6,7] (fun x y=>∃ a b:Int,x= .int .i64 a∧y= .int .i64 b∧-4611686018427387904≤a∧a≤4611686018427387904∧-4611686018427387904≤b∧b≤4611686018427387904∧Hid (Int.gcd a b=Int.gcd n d)) (fun _ y=>(intOf y).natAbs)
 case atStart=>exact⟨n,d,rfl,rfl,h1,h2,by omega,h4,rfl⟩
 case round=>
  obtain⟨a,b,rfl,rfl,ha1,ha2,hb1,hb2,hg'⟩:=hrel
  by_cases hb:b=0
  ·subst hb
   have HM:Hid (((Int.gcd n d:Nat):Int)=max a (-a)):=by show _=_;rw[←hg'.out,gcd_zero_max]
   by_cases ha:a<0
   ·obtain⟨g,rfl⟩:∃ g,a=-g:=⟨-a,by omega⟩
    have HA:Hid (((Int.gcd n d:Nat):Int)=g):=by show _=_;rw[HM.out];omega
    have hg1:1≤g:=by rw[←HA.out];exact hg
    go_wp2
    go_quiet (fail)
    go_wp2
    go_ret2
    refine⟨?_,_,rfl⟩
    rw[HA.out];rfl
   ·have HA:Hid (((Int.gcd n d:Nat):Int)=a):=by show _=_;rw[HM.out];omega
    have ha1:1≤a:=by rw[←HA.out];exact hg
    go_wp2
    go_quiet (fail)
    go_wp2
    go_ret2
    refine⟨?_,_,rfl⟩
    rw[HA.out];rfl
  ·have hbb:(b != 0)=true:=by simpa using hb
   have HT:Hid ((a.tmod b).natAbs <b.natAbs):=tmod_lt a b hb
   obtain⟨t1,t2⟩:=abs_bd _ _ HT.out hb1 hb2
   go_wp2
   go_round
   case rel=>exact⟨b,a.tmod b,rfl,rfl,hb1,hb2,t1,t2,(gcd_tmod a b).trans hg'.out⟩
   case measure=>exact HT.out
set_option maxHeartbeats 400000 in
theorem rightNumber_any (n d:Int)(w:World):
 Calls Tryz.prog 97 #[.int .i64 n,.int .i64 d] w fun e w'=>e= .returned (.bool (numB n d))∧∃ m,w'=w.drewN m:=by
 by_cases hb:1≤d∧d≤1000000∧-1000000≤n∧n≤1000000
 ·obtain⟨b1,b2,b3,b4⟩:=hb
  have H:Hid ((d/((Int.gcd n d:Nat):Int)==d)=numB n d):=by
   show _=_;rw[lowest_same n d b1];simp[numB,b1,b2,b3,b4]
  go_enter Tryz.func97,Tryz.ntmps97
  go_wp2_with (go_at_call 150;refine(ratioLowest_any _ _ _ (by omega) (by omega) (by omega) (by omega)).mono ?_;rintro e w' ⟨rfl,m,rfl⟩)
  go_ret
  exact⟨ret_bool H.out,_,rfl⟩
 ·have H:Hid (numB n d=false):=by show _=_;simp[numB];omega
  go_enter Tryz.func97,Tryz.ntmps97
  go_wp2_with fail
  all_goals first
   |(exfalso;omega)
   |(go_ret;exact⟨ret_bool H.out.symm,0,rfl⟩)
end Go.Proofs.YtlhimdjkkiflhaaGreatDoor
