import Derived.OneCell
import Derived.Test.YtlhimdjkkiflhaaGreatDoorKnown13
set_option maxHeartbeats 8000000
set_option maxRecDepth 100000
set_option linter.unusedSectionVars false
namespace Go.Ren
open Go.Proofs.Tryz
open Go Go.Conc Go.ConcX Go.RowKit Go.Conc.Lib Go.ConcX.Gen Go.Proofs Go.Loop
theorem Nw:(prog.info? 132).map (λi=>(i.size,i.zero))=some (1,some (.chan none)):=by kernel_rfl
theorem UH:(prog.info? 142).map (λi=>i.zero.map λz=>Obj.cells z.cells 142)=some (some (wgBlock cg.tWg 0 0)):=by kernel_rfl
theorem bx (s:ByteArray)(w:World):(Instr.box 9 (.string s)).run prog w=.ok (.pointer (some ⟨w.heap.size,0,none⟩)) (w.alloc (.cells #[.string s] 9))∧(Instr.box 9 (.string s)).events prog w #[]=#[]:=by
 constructor
 ·simp[Instr.box,newVar,newRow,go_sem,Value.cells]
 ·simp[Instr.box,newVar,newRow,go_sem,Value.cells]
theorem mkc (w:World):(Instr.makeChan 132 (.int .i64 0)).run prog w=.ok (.chan (some w.heap.size)) (w.alloc (.chan 0 #[] false 0 0 false))∧(Instr.makeChan 132 (.int .i64 0)).events prog w #[]=#[]:=by
 obtain⟨i,hi,he⟩:=zai.1 pV;obtain⟨dir,hu⟩:∃dir,prog.underlying 132=some (.chan dir 131):=⟨_,underlying132⟩;have h1:¬(IntKind.i64.max<0):=by decide
 constructor
 ·simp[Instr.makeChan,run_underlying hu,asInt,asIntOf,typeInfo,hi]
 ·simp[Instr.makeChan,run_underlying hu,asInt,asIntOf,typeInfo,hi]
theorem WW {e:TypeId}{i:TypeInfo}{z:Value}(hi:prog.info? e=some i)(hz:i.zero=some z)(w:World):(Instr.alloc e true (.tuple #[])).run prog w=.ok (.pointer (some ⟨w.heap.size,0,none⟩)) (w.alloc (.cells z.cells e))∧(Instr.alloc e true (.tuple #[])).events prog w #[]=#[]:=by
 constructor
 ·simp[Instr.alloc,zeroValue,typeInfo,hi,hz,newVar,newRow]
 ·simp[Instr.alloc,zeroValue,typeInfo,hi,hz,newVar,newRow]
theorem stz {w:World}{r c:Nat}(h:w.heap[r]?=some (.cells #[.chan none] 132)):(Instr.storeAt 132 (.pointer (some ⟨r,0,none⟩)) (.chan (some c))).run prog w=.ok () (w.setCell ⟨r,0,none⟩ (.chan (some c)))∧(Instr.storeAt 132 (.pointer (some ⟨r,0,none⟩)) (.chan (some c))).events prog w #[]=#[⟨.cell ⟨r,0,none⟩,true,false⟩]:=by
 obtain⟨i,hi,he⟩:=zai.1 Nw;simp only[zab]at he;have hc:w.cell? ⟨r,0,none⟩=some (.chan none):=by simp[World.cell?,h]
 have hf:w.frozen? ⟨r,0,none⟩=false:=by simp[World.frozen?,h]
 constructor
 ·simp[Instr.storeAt,Instr.sureAddr,storeVar,sizeOf,typeInfo,hi,he.1,Value.cells,storeCells,go_sem,hc,hf,Addr.add]
 ·simp[Instr.storeAt,Instr.sureAddr,storeVar,sizeOf,typeInfo,hi,he.1,Value.cells,storeCells,go_sem,hc,hf,Addr.add]
section
variable {P:Program}{Stop:Goroutine→World→Prop}{Z:Loc→Prop}{B n:Nat}{w:World}{b:Frame}{a:Act}{ops:Array Oper}{i:Nat}{rest:List Nat}{o:Oper}{kk:List Item}{cs:List Frame}
def DZ (Z:Loc→Prop)(B:Nat)(_ _:World)(es:Array Event):Prop:=∀e∈es,EvL Z B e
theorem Goes.ctl {g g':Goroutine}(hs:g.status=.running)(h:∀w₁,stepG P true g w₁=.go g' w₁ #[])(k:Goes P true AtRel (DZ Z B) Stop n g' w):Goes P true AtRel (DZ Z B) Stop (n+1) g w:=
 Goes.silent atRel_trans (λ_=>by intro e he;simp at he) hs h k
theorem Goes.Hn (ho:ops[i]?=some o)(hw:Region.wanted o (yielded ops a.tmps)=true)(hk:b.kind≠.early){dd:Option Tmp}(hdd:o.dst=dd){v:Value}{nw:World→World}(hr:∀d,(execOp a.eval o).run P (w.at d)=.ok (.value v) (nw (w.at d)))(he:∀d,(execOp a.eval o).events P (w.at d) #[]=#[])
 (k:∀d,Goes P true AtRel (DZ Z B) Stop n (G (b.at (a.put dd v) (.inRegion ops rest::kk)) cs) (nw (w.at d))):Goes P true AtRel (DZ Z B) Stop (n+1) (G (b.at a (.inRegion ops (i::rest)::kk)) cs) w:=by
 subst hdd;refine Goes.step rfl λw₁ h₁=>?_;obtain⟨d,rfl⟩:=h₁;rw[stepG_value ho hw hk (hr d),listed_none (he d)];exact⟨λe he=>by simp at he,k d⟩
theorem Goes.opn (ho:ops[i]?=some o)(hw:Region.wanted o (yielded ops a.tmps)=true)(hk:b.kind≠.early){dd:Option Tmp}(hdd:o.dst=dd){nw:World→World}{es:Array Event}(hr:∀d,(execOp a.eval o).run P (w.at d)=.ok .skip (nw (w.at d)))(he:∀d,(execOp a.eval o).events P (w.at d) #[]=es)(hes:∀e∈es,EvL Z B e)
 (k:∀d,Goes P true AtRel (DZ Z B) Stop n (G (b.at (a.put dd undef) (.inRegion ops rest::kk)) cs) (nw (w.at d))):Goes P true AtRel (DZ Z B) Stop (n+1) (G (b.at a (.inRegion ops (i::rest)::kk)) cs) w:=by
 subst hdd;refine Goes.step rfl λw₁ h₁=>?_;obtain⟨d,rfl⟩:=h₁;rw[stepG_none ho hw hk (hr d)];refine⟨λe hm=>hes e ?_,k d⟩;unfold listed at hm;rw[he d]at hm;exact mem_seen hm
end
structure Laid (s:List UInt8) (w0 w:World):Prop where
 size:w.heap.size=w0.heap.size+4
 old:∀b,b<w0.heap.size→w.heap[b]?=w0.heap[b]?
 txt:w.heap[w0.heap.size]?=some (.cells #[.string ⟨⟨s⟩⟩] 9)
 chan:w.heap[w0.heap.size+1]?=some (.chan 0 #[] false 0 0 false)
 box:w.heap[w0.heap.size+2]?=some (.cells #[.chan (some (w0.heap.size+1))] 132)
 tape:w.tape=w0.tape
 os:w.os=w0.os
 output:w.output=w0.output
structure GB (a:Act) (N:Nat):Prop where
 size:a.tmps.size=20
 s1:a.eval (.tmp 1)=.pointer (some ⟨N,0,none⟩)
 s3:a.eval (.tmp 3)=.pointer (some ⟨N+2,0,none⟩)
 s4:a.eval (.tmp 4)=.pointer (some ⟨N+3,0,none⟩)
 defers:a.defers=[]
def D1 (f:Func):Code:=dC 1 (yu f)
def D2 (f:Func):Code:=dC 2 (yu f)
def D3 (f:Func):Code:=dC 3 (yu f)
def D4 (f:Func):Code:=dC 4 (yu f)
def g0 (f:Func):Array Oper:=cC (aC (yu f))
def g1 (f:Func):Array Oper:=cC (aC (D1 f))
def g2 (f:Func):Array Oper:=cC (aC (D2 f))
def g3 (f:Func):Array Oper:=cC (aC (D3 f))
def g4 (f:Func):Array Oper:=cC (aC (D4 f))
def UI (f:Func)(a:Act):Frame:=(base 43).at a (.inRegion (g3 f) [0]::.code (D4 f)::[])
def Te (s:List UInt8)(w0:World)(cs:List Frame)(g:Goroutine)(w:World):Prop:=
 ∃a,GB a w0.heap.size∧g=G (Frame.enter prog 68 #[.pointer (some ⟨w0.heap.size+3,0,none⟩),.int .i64 1] .normal) (UI f43 a::cs)∧Laid s w0 w∧WgAt cg.tWg (w0.heap.size+3) w 0 0
theorem YR:prog.funcs[43]?=some f43:=by kernel_rfl
def UJ (s:List UInt8):Act:=⟨#[.string ⟨⟨s⟩⟩]++Array.replicate 19 undef,[]⟩
theorem gg {H:Array Obj}{o:Obj}{b:Nat}(h:b<H.size):(H.push o)[b]?=H[b]?:=by rw[zbe,if_neg (by omega)]
theorem rp {H:Array Obj}{o:Obj}{b:Nat}(h:b=H.size):(H.push o)[b]?=some o:=by subst h;simp
variable {cs:List Frame}
theorem FP {Z:Loc→Prop}{B:Nat}(s:List UInt8)(w0:World)(hZ:¬Z (.cell ⟨w0.heap.size+2,0,none⟩))(hB:w0.heap.size+2<B):Goes prog true AtRel (DZ Z B) (Te s w0 cs) 19 (G (Frame.enter prog 43 #[.string ⟨⟨s⟩⟩] .normal) cs) w0:=by
 rw[enter_at (P:=prog) (f:=43) (c:=yu f43) #[.string ⟨⟨s⟩⟩] YR rfl];change Goes _ _ _ _ _ _ (G ((base 43).at (UJ s) [.code (yu f43)]) cs) _;have q0:(UJ s).eval (.tmp 0)=.string ⟨⟨s⟩⟩:=by simp[UJ,Act.eval]
 have qs:(UJ s).tmps.size=20:=by simp[UJ]
 have qd:(UJ s).defers=[]:=rfl;generalize UJ s=a at *;refine Goes.ctl rfl (λ_=>stepG_seq (x:= .region 0 (g0 f43) false) (y:=D1 f43)) ?_;refine Goes.ctl rfl (λ_=>stepG_region) ?_;refine Goes.Hn (ops:=g0 f43) (i:=0) (rest:=[1]) rfl rfl (by decide) (dd:=some 1) rfl (v:= .pointer (some ⟨w0.heap.size,0,none⟩)) (nw:=λw=>w.alloc (.cells #[.string ⟨⟨s⟩⟩] 9)) (λd=>?_) (λd=>?_) (λd=>?_)
 ·have hop:(g0 f43)[0].op=.box 9 (.tmp 0):=rfl;unfold execOp;simp only[hop,q0,Sem.run_bind,(bx _ _).1,Result.andThen_ok,Sem.run_pure];rfl
 ·have hop:(g0 f43)[0].op=.box 9 (.tmp 0):=rfl;unfold execOp;simp only[hop,q0,Sem.events_bind,(bx _ _).1,(bx _ _).2,Result.evThen_ok,Sem.events_pure]
 have hs1:((w0.at d).alloc (.cells #[.string ⟨⟨s⟩⟩] 9)).heap.size=w0.heap.size+1:=bD _ _;have WM:∀b,b<w0.heap.size→((w0.at d).alloc (.cells #[.string ⟨⟨s⟩⟩] 9)).heap[b]?=w0.heap[b]?:=λb h=>gg (H:=w0.heap) h;have hx1:((w0.at d).alloc (.cells #[.string ⟨⟨s⟩⟩] 9)).heap[w0.heap.size]?=some (.cells #[.string ⟨⟨s⟩⟩] 9):=rp (H:=w0.heap) rfl;have mn:((w0.at d).alloc (.cells #[.string ⟨⟨s⟩⟩] 9)).tape=w0.tape∧((w0.at d).alloc (.cells #[.string ⟨⟨s⟩⟩] 9)).os=w0.os∧((w0.at d).alloc (.cells #[.string ⟨⟨s⟩⟩] 9)).output=w0.output:=⟨rfl,rfl,rfl⟩;generalize (w0.at d).alloc (.cells #[.string ⟨⟨s⟩⟩] 9)=w1 at *;have p1:(a.put (some 1) (.pointer (some ⟨w0.heap.size,0,none⟩))).eval (.tmp 1)=.pointer (some ⟨w0.heap.size,0,none⟩):=aW (by rw[qs];decide);have qs1:(a.put (some 1) (.pointer (some ⟨w0.heap.size,0,none⟩))).tmps.size=20:=size_put.trans qs;have qd1:(a.put (some 1) (.pointer (some ⟨w0.heap.size,0,none⟩))).defers=[]:=ct.trans qd;generalize a.put (some 1) (.pointer (some ⟨w0.heap.size,0,none⟩))=a1 at *;refine Goes.Hn (ops:=g0 f43) (i:=1) (rest:=[]) rfl rfl (by decide) (dd:=some 2) rfl (v:= .slice none 0 0) (nw:=λw=>w) (λd=>rfl) (λd=>rfl) (λd1=>?_);have p1':(a1.put (some 2) (.slice none 0 0)).eval (.tmp 1)=.pointer (some ⟨w0.heap.size,0,none⟩):=(aD (by decide)).trans p1;have qs2:(a1.put (some 2) (.slice none 0 0)).tmps.size=20:=size_put.trans qs1;have qd2:(a1.put (some 2) (.slice none 0 0)).defers=[]:=ct.trans qd1;generalize a1.put (some 2) (.slice none 0 0)=a2 at *;replace hs1:(w1.at d1).heap.size=w0.heap.size+1:=hs1;replace WM:∀b,b<w0.heap.size→(w1.at d1).heap[b]?=w0.heap[b]?:=WM;replace hx1:(w1.at d1).heap[w0.heap.size]?=some (.cells #[.string ⟨⟨s⟩⟩] 9):=hx1;replace mn:(w1.at d1).tape=w0.tape∧(w1.at d1).os=w0.os∧(w1.at d1).output=w0.output:=mn;generalize w1.at d1=w2 at *;refine Goes.ctl rfl (λ_=>stepG_region_end) ?_;refine Goes.ctl rfl (λ_=>stepG_seq (x:= .region 1 (g1 f43) false) (y:=D2 f43)) ?_;refine Goes.ctl rfl (λ_=>stepG_region) ?_;refine Goes.Hn (ops:=g1 f43) (i:=0) (rest:=[1,2]) rfl rfl (by decide) (dd:=some 7) rfl (v:= .chan (some w2.heap.size)) (nw:=λw=>w.alloc (.chan 0 #[] false 0 0 false)) (λd=>?_) (λd=>?_) (λd2=>?_)
 ·have hop:(g1 f43)[0].op=.makeChan 132 (.const (.int .i64 0)):=rfl;unfold execOp;simp only[hop,Act.eval,Sem.run_bind,(mkc _).1,Result.andThen_ok,Sem.run_pure];rfl
 ·have hop:(g1 f43)[0].op=.makeChan 132 (.const (.int .i64 0)):=rfl;unfold execOp;simp only[hop,Act.eval,Sem.events_bind,(mkc _).1,(mkc _).2,Result.evThen_ok,Sem.events_pure]
 rw[hs1];have p7:(a2.put (some 7) (.chan (some (w0.heap.size+1)))).eval (.tmp 7)=.chan (some (w0.heap.size+1)):=aW (by rw[qs2];decide);have p1a:(a2.put (some 7) (.chan (some (w0.heap.size+1)))).eval (.tmp 1)=.pointer (some ⟨w0.heap.size,0,none⟩):=(aD (by decide)).trans p1';have qs3:(a2.put (some 7) (.chan (some (w0.heap.size+1)))).tmps.size=20:=size_put.trans qs2;have qd3:(a2.put (some 7) (.chan (some (w0.heap.size+1)))).defers=[]:=ct.trans qd2;generalize a2.put (some 7) (.chan (some (w0.heap.size+1)))=a3 at *;have hs2:((w2.at d2).alloc (.chan 0 #[] false 0 0 false)).heap.size=w0.heap.size+2:=(bD _ _).trans (congrArg (· + 1) hs1);have ho2:∀b,b<w0.heap.size→((w2.at d2).alloc (.chan 0 #[] false 0 0 false)).heap[b]?=w0.heap[b]?:=λb h=>(gg (H:=w2.heap) (by omega)).trans (WM b h);have hx2:((w2.at d2).alloc (.chan 0 #[] false 0 0 false)).heap[w0.heap.size]?=some (.cells #[.string ⟨⟨s⟩⟩] 9):=(gg (H:=w2.heap) (by omega)).trans hx1;have hc2:((w2.at d2).alloc (.chan 0 #[] false 0 0 false)).heap[w0.heap.size+1]?=some (.chan 0 #[] false 0 0 false):=rp (H:=w2.heap) hs1.symm;have Q8:((w2.at d2).alloc (.chan 0 #[] false 0 0 false)).tape=w0.tape∧((w2.at d2).alloc (.chan 0 #[] false 0 0 false)).os=w0.os∧((w2.at d2).alloc (.chan 0 #[] false 0 0 false)).output=w0.output:=mn;generalize (w2.at d2).alloc (.chan 0 #[] false 0 0 false)=w3 at *;obtain⟨i77,UK,Q9⟩:=zai.1 Nw;simp only[zab]at Q9;refine Goes.Hn (ops:=g1 f43) (i:=1) (rest:=[2]) rfl rfl (by decide) (dd:=some 3) rfl (v:= .pointer (some ⟨w3.heap.size,0,none⟩)) (nw:=λw=>w.alloc (.cells #[.chan none] 132)) (λd=>?_) (λd=>?_) (λd3=>?_)
 ·have hop:(g1 f43)[1].op=.alloc 132:=rfl;unfold execOp;simp only[hop,Sem.run_bind,(WW UK Q9.2 _).1,Result.andThen_ok,Sem.run_pure];rfl
 ·have hop:(g1 f43)[1].op=.alloc 132:=rfl;unfold execOp;simp only[hop,Sem.events_bind,(WW UK Q9.2 _).1,(WW UK Q9.2 _).2,Result.evThen_ok,Sem.events_pure]
 rw[hs2];have p3:(a3.put (some 3) (.pointer (some ⟨w0.heap.size+2,0,none⟩))).eval (.tmp 3)=.pointer (some ⟨w0.heap.size+2,0,none⟩):=aW (by rw[qs3];decide);have p7b:(a3.put (some 3) (.pointer (some ⟨w0.heap.size+2,0,none⟩))).eval (.tmp 7)=.chan (some (w0.heap.size+1)):=(aD (by decide)).trans p7;have p1b:(a3.put (some 3) (.pointer (some ⟨w0.heap.size+2,0,none⟩))).eval (.tmp 1)=.pointer (some ⟨w0.heap.size,0,none⟩):=(aD (by decide)).trans p1a;have qs4:(a3.put (some 3) (.pointer (some ⟨w0.heap.size+2,0,none⟩))).tmps.size=20:=size_put.trans qs3;have qd4:(a3.put (some 3) (.pointer (some ⟨w0.heap.size+2,0,none⟩))).defers=[]:=ct.trans qd3;generalize a3.put (some 3) (.pointer (some ⟨w0.heap.size+2,0,none⟩))=a4 at *;have hs3:((w3.at d3).alloc (.cells #[.chan none] 132)).heap.size=w0.heap.size+3:=(bD _ _).trans (congrArg (· + 1) hs2);have ho3:∀b,b<w0.heap.size→((w3.at d3).alloc (.cells #[.chan none] 132)).heap[b]?=w0.heap[b]?:=λb h=>(gg (H:=w3.heap) (by omega)).trans (ho2 b h);have hx3:((w3.at d3).alloc (.cells #[.chan none] 132)).heap[w0.heap.size]?=some (.cells #[.string ⟨⟨s⟩⟩] 9):=(gg (H:=w3.heap) (by omega)).trans hx2;have hc3:((w3.at d3).alloc (.cells #[.chan none] 132)).heap[w0.heap.size+1]?=some (.chan 0 #[] false 0 0 false):=(gg (H:=w3.heap) (by omega)).trans hc2;have hy3:((w3.at d3).alloc (.cells #[.chan none] 132)).heap[w0.heap.size+2]?=some (.cells #[.chan none] 132):=rp (H:=w3.heap) hs2.symm;have ht3:((w3.at d3).alloc (.cells #[.chan none] 132)).tape=w0.tape∧((w3.at d3).alloc (.cells #[.chan none] 132)).os=w0.os∧((w3.at d3).alloc (.cells #[.chan none] 132)).output=w0.output:=Q8;generalize (w3.at d3).alloc (.cells #[.chan none] 132)=w4 at *;refine Goes.opn (ops:=g1 f43) (i:=2) (rest:=[]) rfl rfl (by decide) (dd:=none) rfl (nw:=λw=>w.setCell ⟨w0.heap.size+2,0,none⟩ (.chan (some (w0.heap.size+1)))) (es:=#[⟨.cell ⟨w0.heap.size+2,0,none⟩,true,false⟩]) (λd=>?_) (λd=>?_) (λe he=>?_) (λd4=>?_)
 ·have hop:(g1 f43)[2].op=.store 132 (.tmp 3) (.tmp 7):=rfl;have hq:(w4.at d).heap[w0.heap.size+2]?=some (.cells #[.chan none] 132):=hy3;unfold execOp;simp only[hop,p3,p7b,Sem.run_bind,(stz hq).1,Result.andThen_ok,Sem.run_pure]
 ·have hop:(g1 f43)[2].op=.store 132 (.tmp 3) (.tmp 7):=rfl;have hq:(w4.at d).heap[w0.heap.size+2]?=some (.cells #[.chan none] 132):=hy3;unfold execOp;simp only[hop,p3,p7b,Sem.events_bind,(stz hq).1,(stz hq).2,Result.evThen_ok,Sem.events_pure]
 ·simp only[zbf,zao,zbg,or_false]at he;subst he;refine⟨λx hx hz=>?_,by simp,by simp,?_⟩
  ·simp only[MemAct.ofEvent,MemAct.touch?]at hx;cases hx;exact absurd hz hZ
  ·exact hB
 rw[vZ];have LK:((w4.at d4).setCell ⟨w0.heap.size+2,0,none⟩ (.chan (some (w0.heap.size+1)))).heap.size=w0.heap.size+3:=by
  show(Array.modify w4.heap _ _).size=_;rw[Array.size_modify];exact hs3
 have ho4:∀b,b<w0.heap.size→((w4.at d4).setCell ⟨w0.heap.size+2,0,none⟩ (.chan (some (w0.heap.size+1)))).heap[b]?=w0.heap[b]?:=λb h=>(Below.heap_setCell _ _ _ b (by show b≠w0.heap.size+2;omega)).trans (ho3 b h);have hx4:((w4.at d4).setCell ⟨w0.heap.size+2,0,none⟩ (.chan (some (w0.heap.size+1)))).heap[w0.heap.size]?=some (.cells #[.string ⟨⟨s⟩⟩] 9):=(Below.heap_setCell _ _ _ _ (by show w0.heap.size≠w0.heap.size+2;omega)).trans hx3;have hc4:((w4.at d4).setCell ⟨w0.heap.size+2,0,none⟩ (.chan (some (w0.heap.size+1)))).heap[w0.heap.size+1]?=some (.chan 0 #[] false 0 0 false):=(Below.heap_setCell _ _ _ _ (by show w0.heap.size+1≠w0.heap.size+2;omega)).trans hc3;have hy4:((w4.at d4).setCell ⟨w0.heap.size+2,0,none⟩ (.chan (some (w0.heap.size+1)))).heap[w0.heap.size+2]?=some (.cells #[.chan (some (w0.heap.size+1))] 132):=one_setCell (w:=w4.at d4) hy3;have ht4:((w4.at d4).setCell ⟨w0.heap.size+2,0,none⟩ (.chan (some (w0.heap.size+1)))).tape=w0.tape∧((w4.at d4).setCell ⟨w0.heap.size+2,0,none⟩ (.chan (some (w0.heap.size+1)))).os=w0.os∧((w4.at d4).setCell ⟨w0.heap.size+2,0,none⟩ (.chan (some (w0.heap.size+1)))).output=w0.output:=ht3;generalize (w4.at d4).setCell ⟨w0.heap.size+2,0,none⟩ (.chan (some (w0.heap.size+1)))=w5 at *;refine Goes.ctl rfl (λ_=>stepG_region_end) ?_;refine Goes.ctl rfl (λ_=>stepG_seq (x:= .region 2 (g2 f43) false) (y:=D3 f43)) ?_;refine Goes.ctl rfl (λ_=>stepG_region) ?_;obtain⟨i87,UL,acV⟩:=zai.1 UH;obtain⟨z87,UM,YS⟩:=zai.1 acV;refine Goes.Hn (ops:=g2 f43) (i:=0) (rest:=[]) rfl rfl (by decide) (dd:=some 4) rfl (v:= .pointer (some ⟨w5.heap.size,0,none⟩)) (nw:=λw=>w.alloc (wgBlock cg.tWg 0 0)) (λd=>?_) (λd=>?_) (λd5=>?_)
 ·have hop:(g2 f43)[0].op=.alloc 142:=rfl;unfold execOp;simp only[hop,Sem.run_bind,(WW UL UM _).1,Result.andThen_ok,Sem.run_pure,YS];rfl
 ·have hop:(g2 f43)[0].op=.alloc 142:=rfl;unfold execOp;simp only[hop,Sem.events_bind,(WW UL UM _).1,(WW UL UM _).2,Result.evThen_ok,Sem.events_pure]
 rw[LK];have gb:GB (a4.put (some 4) (.pointer (some ⟨w0.heap.size+3,0,none⟩))) w0.heap.size:=⟨size_put.trans qs4,(aD (by decide)).trans p1b,(aD (by decide)).trans p3,aW (by rw[qs4];decide),ct.trans qd4⟩;generalize a4.put (some 4) (.pointer (some ⟨w0.heap.size+3,0,none⟩))=a5 at *;have hl:Laid s w0 ((w5.at d5).alloc (wgBlock cg.tWg 0 0)):=⟨(bD _ _).trans (congrArg (· + 1) LK),λb h=>(gg (H:=w5.heap) (by omega)).trans (ho4 b h),(gg (H:=w5.heap) (by omega)).trans hx4,(gg (H:=w5.heap) (by omega)).trans hc4,(gg (H:=w5.heap) (by omega)).trans hy4,ht4.1,ht4.2.1,ht4.2.2⟩;have Fi:WgAt cg.tWg (w0.heap.size+3) ((w5.at d5).alloc (wgBlock cg.tWg 0 0)) 0 0:=rp (H:=w5.heap) LK.symm;generalize (w5.at d5).alloc (wgBlock cg.tWg 0 0)=w6 at *;refine Goes.ctl rfl (λ_=>stepG_region_end) ?_;refine Goes.ctl rfl (λ_=>stepG_seq (x:= .region 3 (g3 f43) false) (y:=D4 f43)) ?_;refine Goes.ctl rfl (λ_=>stepG_region) ?_;refine Goes.ctl rfl (λ_=>jd (ops:=g3 f43) (i:=0) (rest:=[]) (f:=68) (args:=#[.pointer (some ⟨w0.heap.size+3,0,none⟩),.int .i64 1]) rfl rfl (by decide) rfl (by have h4:=gb.s4;simp only[zaZ,zan,zaO,h4];rfl)) ?_;refine Goes.stop λw₁ h₁=>?_;obtain⟨d6,rfl⟩:=h₁;exact⟨a5,gb,rfl,⟨hl.size,hl.old,hl.txt,hl.chan,hl.box,hl.tape,hl.os,hl.output⟩,Fi⟩
end Go.Ren
namespace Go.Ren
open Go Go.Conc
open Go.ConcN (sumTo upd sumTo_upd upd_ne upd_same)
structure fj (Q Shun:Loc→Prop) (B d:Nat) (t:Trace):Prop where
 clean:∀said,¬Race said t
 known:∀i a,touchAt t i=some a→a.loc.isMemory=true→Knows t 0 i∨(Shun a.loc∧a.kind=.atomic)
 over:t.HandedOver
 deaf:Deaf t 0=d
 seen:∀op∈t,op.act.low B
 quiet:∀i a,touchAt t i=some a→Q a.loc→a.kind≠.plain∧(a.kind=.said→t.g? i=some 0)
section
variable {Q Shun:Loc→Prop}{B d d':Nat}{t u:Trace}
theorem fj.past (h:fj Q Shun B 0 t):Past Shun B t:=⟨h.clean,h.known,h.over,h.deaf,h.seen⟩
theorem fj.Ig (h:Past Shun B t)(hq:∀i a,touchAt t i=some a→¬Q a.loc):fj Q Shun B 0 t:=⟨h.clean,h.known,h.over,h.hears,h.seen,λi a ha hl=>absurd hl (hq i a ha)⟩
theorem fj.app0 (h:fj Q Shun B d t)(hu:∀op∈u,op.g=0)(hs:∀op∈u,∀b,op.act.touch? =some b→(Shun b.loc∨Q b.loc)→b.kind≠.plain)(hd:Deaf (t++u) 0=d')(hl:∀op∈u,op.act.low B):fj Q Shun B d' (t++u):=by
 refine⟨λsaid=>noRace_append (h.clean said) hu λi a ha op hop b hb hc=>?_,λi a ha hm=>?_,handedOver_app h.over λop hop=> .inl (hu op hop),hd,seen_app h.seen hl,λi a ha hq=>?_⟩
 ·rcases h.known i a ha hc.2.1 with hk|⟨LD,hka⟩
  ·exact hk
  ·have hkb:=hs op hop b hb (.inl (hc.1▸LD));obtain⟨_,_,_,Hz⟩:=hc;rw[hka]at Hz;rcases Hz with x|x|⟨_,x,_⟩
   ·cases x
   ·exact absurd x hkb
   ·cases x
 ·rcases bB ha with⟨_,ha'⟩|⟨_,op,hop,hx,_⟩
  ·exact(h.known i a ha' hm).imp (·.app u) id
  ·have:=knows_own hx;rw[hu op hop]at this;exact .inl this
 ·rcases bB ha with⟨hi,ha'⟩|⟨_,op,hop,hx,hb⟩
  ·rw[g?_old hi];exact h.quiet i a ha' hq
  ·exact⟨hs op hop a hb (.inr hq),λ_=>by simp[Trace.g?,hx,hu op hop]⟩
theorem fj.appMute {g:Nat}(h:fj Q Shun B d t)(hg:g≠0)(hu:∀op∈u,op.g=g)(hn:∀op∈u,op.act.touch? =none)(hl:∀op∈u,op.act.low B):fj Q Shun B d (t++u):=by
 have old:∀{i a},touchAt (t++u) i=some a→i<t.size∧touchAt t i=some a:=λha=>by
  rcases bB ha with h|⟨_,op,hop,_,hx⟩
  ·exact h
  ·rw[hn op hop]at hx;cases hx
 refine⟨λsaid=>noRace_append (h.clean said) hu λi a _ op hop b hb _=>(by rw[hn op hop]at hb;cases hb),λi a ha hm=>?_,handedOver_app h.over λop hop=> .inr (hn op hop),(Deaf_other t hg u hu).trans h.deaf,seen_app h.seen hl,λi a ha hq=>?_⟩
 ·exact(h.known i a (old ha).2 hm).imp (·.app u) id
 ·rw[g?_old (old ha).1];exact h.quiet i a (old ha).2 hq
end
section
variable {P:Program}{Q Shun:Loc→Prop}{B d:Nat}{K:Machine→Trace→Prop}{a:Goroutine}
theorem nQ {J:World→Trace→Prop}{n:Nat}(ha:a.status=.running)
 (hJ:∀w t d ops,J w t→(∃g,g≠0∧∀op∈ops,op.g=g)→(∀op∈ops,op.act.touch? =none∧∀a,op.act≠.mark (.release a))→(∀B,∀op∈ops,op.act.low B)→J (w.at d) (t++ops))
 (H:∀gs w sl t q,gs.size=n→Leavers P t gs q→gs[0]?=some a→J w t→∃m' ops,runT P (crowd gs w sl) 0=(.next m',ops)∧Reach P m' (t++ops) K):
 ∀gs w sl t q,gs.size=n→Leavers P t gs q→gs[0]?=some a→J w t→Reach P (crowd gs w sl) t K:=by
 intro gs w sl t q hn hL h0 hj;generalize hM:sumTo n q=M
 induction M using Nat.strongRecOn generalizing gs w sl t q with
 |_ M ih=>
 have Ul:∀g∈gs,awake g:=by
  intro g hg;obtain⟨i,hi,rfl⟩:=zbn.1 hg;rcases zbA i with rfl|iP
  ·have:gs[0]=a:=by simpa[Array.getElem?_eq_getElem hi]using h0
   rw[this];exact awake_of (.inl ha)
  ·exact awake_of ((hL.old i _ iP (zaq hi)).status.elim .inl λx=> .inr (.inr x))
 obtain⟨i,g,dd,sl',hi,hg,hst⟩:=crowd_pick (P:=P) (w:=w) (sl:=sl) Ul ⟨0,a,h0,ha⟩;have hjd:J (w.at dd) t:=by
  have:=hJ w t dd #[] hj ⟨1,by decide,by simp⟩ (by simp) (by simp);simpa using this
 rcases zbA i with rfl|iP
 ·obtain⟨m',ops,e,hR⟩:=H gs (w.at dd) sl' t q hn hL h0 hjd;exact Reach.step (hst.trans e) hR
 ·have hq:=hL.old i g iP hi;have PE:(i==0)=false:=by simp;omega
  have hlt:i<gs.size:=(zac.1 hi).1;cases Fl:q i with
  |zero=>rw[Fl]at hq;rw[hq.1]at hg;cases hg
  |succ k=>
   rw[Fl]at hq;rcases hq with⟨hf,_⟩|⟨_,g',es,hm,Fo,hq'⟩
   ·rw[hf]at hg;cases hg
   have qO:=runT_crowd_go (P:=P) (sl:=sl') (i:=i) hi (by rw[PE];exact Fo (w.at dd));have Um:sumTo n (upd q i k)+(k+1)=sumTo n q+k:=by
    have:=sumTo_upd q k id (hn▸hlt);simpa[Fl]using this
   refine Reach.step (hst.trans qO) (ih (sumTo n (upd q i k)) (by omega) _ (w.at dd) sl' _ (upd q i k) (by simp[hn]) ⟨λj x hj hx=>?_,λj hj=>?_⟩ ?_ (hJ w t dd _ hj ⟨i,by omega,ofEvents_g⟩ (λop hop=>?_) (λB op hop=>?_)) rfl)
   ·by_cases uz:i=j
    ·subst uz;rw[zaJ (by simpa using hlt)]at hx;obtain rfl:=Option.some.inj hx;rw[upd_same,Deaf_own];exact hq'
    ·rw[zak uz,zal]at hx;obtain⟨y,hy,rfl⟩:=zai.1 hx;have MA:=hL.old j y hj hy;rw[woken_quitsD MA,upd_ne q k (Ne.symm uz),Deaf_other t uz _ ofEvents_g];exact MA
   ·rw[Deaf_other t (g':=i) (by simp at hj;omega) _ ofEvents_g];exact hL.above j (by simpa using hj)
   ·rw[zak (by omega),zal,h0];simp[woken_run ha]
   ·obtain⟨e,he,rfl⟩:=Conc.mem_ofEvents hop;exact⟨touch_mute (hm e he),λa=>pQ (hm e he) a⟩
   ·obtain⟨e,he,rfl⟩:=Conc.mem_ofEvents hop;exact low_mute (hm e he) B
theorem wL {t:Trace}{gs:Array Goroutine}{q:Nat→Nat}{a':Goroutine}{w w':World}{sl:Option (Nat×Nat)}{es:Array Event}(hL:Leavers P t gs q)(h0:gs[0]?=some a)(hs:stepG P true a w=.go a' w' es):∃gs',runT P (crowd gs w sl) 0=(.next (crowd gs' w' sl),MemOp.ofEvents 0 a.frame.fn a.frame.place es)∧gs'.size=gs.size∧Leavers P (t++MemOp.ofEvents 0 a.frame.fn a.frame.place es) gs' q∧gs'[0]?=some a':=by
 have hlt:0<gs.size:=(zac.1 h0).1;refine⟨_,runT_crowd_go (P:=P) (sl:=sl) (i:=0) h0 (show stepG P (0==0) a w=_ from hs),by simp,⟨λj x hj hx=>?_,λj hj=>?_⟩,by simp[hlt]⟩
 ·rw[zak (by omega),zal]at hx;obtain⟨y,hy,rfl⟩:=zai.1 hx;have hq:=hL.old j y hj hy;rw[woken_quitsD hq,Deaf_other t (by omega) _ ofEvents_g];exact hq
 ·rw[Deaf_other t (g':=0) (by simp at hj;omega) _ ofEvents_g];exact hL.above j (by simpa using hj)
def At0 (P:Program)(Q Shun:Loc→Prop)(B d n:Nat)(Stop:Goroutine→World→Prop)(m:Machine)(t:Trace):Prop:=
 ∃gs a w sl q,m=crowd gs w sl∧gs.size=n∧gs[0]?=some a∧(∀w₁,AtRel w w₁→Stop a w₁)∧Leavers P t gs q∧fj Q Shun B d t
theorem je {D:World→World→Array Event→Prop}{Stop:Goroutine→World→Prop}(hD:∀w w' es,D w w' es→∀e∈es,EvL (λl=>Shun l∨Q l) B e){n:Nat}:∀(N:Nat) (a:Goroutine) (w:World),Goes P true AtRel D Stop N a w→∀gs sl t q,gs.size=n→Leavers P t gs q→gs[0]?=some a→fj Q Shun B d t→Reach P (crowd gs w sl) t (At0 P Q Shun B d n Stop):=by
 intro N
 induction N with
 |zero=>intro a w hG gs sl t q hn hL h0 hP;exact .here ⟨gs,a,w,sl,q,rfl,hn,h0,hG,hL,hP⟩
 |succ N ih=>
  intro a w hG gs sl t q hn hL h0 hP;rcases hG with YT|⟨hrun,hstep⟩
  ·exact .here ⟨gs,a,w,sl,q,rfl,hn,h0,YT,hL,hP⟩
  refine nQ (J:=λw₁ t=>AtRel w w₁∧fj Q Shun B d t) hrun (λw₁ t dd ops hj ⟨g,hg,hgo⟩ h1 h2=>⟨atRel_trans _ _ _ hj.1 ⟨dd,rfl⟩,hj.2.appMute hg hgo (λop hop=>(h1 op hop).1) (h2 B)⟩) (λgs w₁ sl t q hn hL h0 hj=>?_) gs w sl t q hn hL h0 ⟨atRel_refl w,hP⟩;obtain⟨a',w',es,hgo,hd,hG'⟩:=goes_elim (hstep w₁ hj.1);obtain⟨gs',e1,e2,e3,e4⟩:=wL (sl:=sl) hL h0 hgo;have ic:=hD _ _ _ hd;refine⟨_,_,e1,ih a' w' hG' gs' sl _ q (e2.trans hn) e3 e4 (hj.2.app0 ofEvents_g (λop hop b hb hs=>?_) ?_ (λop hop=>?_))⟩
  ·obtain⟨e,he,rfl⟩:=Conc.mem_ofEvents hop;exact(ic e he).1 b hb hs
  ·rw[Deaf_own,deafBehind_still (λe he=>⟨(ic e he).2.1,(ic e he).2.2.1⟩)];exact hj.2.deaf
  ·obtain⟨e,he,rfl⟩:=Conc.mem_ofEvents hop;exact(ic e he).2.2.2
theorem ub {mk:Mark}{Next:Goroutine→World→Prop}{n:Nat}(hm:(MemAct.mark mk).touch? =none)(hl:(MemAct.mark mk).low B){gs:Array Goroutine}{a:Goroutine}{w:World}{sl:Option (Nat×Nat)}{t:Trace}{q:Nat→Nat}(hn:gs.size=n)(hL:Leavers P t gs q)(h0:gs[0]?=some a)(hP:fj Q Shun B d t)
 (hS:∀w₁,AtRel w w₁→Go.ConcX.AtMkS P mk Next a w₁):Reach P (crowd gs w sl) t λm t=>∃gs a w sl q,m=crowd gs w sl∧gs.size=n∧gs[0]?=some a∧Next a w∧Leavers P t gs q∧fj Q Shun B (deafBehind d #[Go.ConcX.mk mk]) t:=by
 refine nQ (J:=λw₁ t=>AtRel w w₁∧fj Q Shun B d t) (hS w (atRel_refl w)).1 (λw₁ t dd ops hj ⟨g,hg,hgo⟩ h1 h2=>⟨atRel_trans _ _ _ hj.1 ⟨dd,rfl⟩,hj.2.appMute hg hgo (λop hop=>(h1 op hop).1) (h2 B)⟩) (λgs w₁ sl t q hn hL h0 hj=>?_) gs w sl t q hn hL h0 ⟨atRel_refl w,hP⟩;obtain⟨_,a',hgo,qT⟩:=hS w₁ hj.1;obtain⟨gs',e1,e2,e3,e4⟩:=wL (sl:=sl) hL h0 hgo;refine⟨_,_,e1,.here ⟨gs',a',w₁,sl,q,rfl,e2.trans hn,e4,qT,e3,hj.2.app0 ofEvents_g (λop hop b hb hs=>?_) ?_ (λop hop=>?_)⟩⟩
 ·obtain⟨e,he,rfl⟩:=Conc.mem_ofEvents hop;simp at he;subst he;rw[show(MemAct.ofEvent (Go.ConcX.mk mk))=.mark mk from rfl,hm]at hb;cases hb
 ·rw[Deaf_own,hj.2.deaf]
 ·obtain⟨e,he,rfl⟩:=Conc.mem_ofEvents hop;simp at he;subst he;exact hl
end
end Go.Ren
namespace Go.Ren
open Go Go.Conc
open Go.ConcX (KK WgAt)
section
variable {P:Program}{Q Shun Shun':Loc→Prop}{B c:Nat}{ro:Nat→Prop}{t:Trace}
theorem Ra (hP:fj Q Shun B 0 t)(gU:∀l,Shun l→Shun' l)(hro:∀l,jv ro l→¬Shun l)(hc0:c≠0)(Nx:Deaf t c=0){x y:MemOp}(hx:x.g=0∧x.act=.go c)(hy:y.g=c∧y.act=.start):TI Q Shun' c (λ_=>False) ro B (t++#[x,y])∧∀g,Deaf (t++#[x,y]) g=Deaf t g:=by
 have e:t++#[x,y]=(t++#[x])++#[y]:=by apply Array.toList_inj.1;simp
 have dx:∀g,Deaf (t++#[x]) g=Deaf t g:=λg=>cW t g _ λop hop m=>by simp at hop;subst hop;rw[hx.2];simp
 have dy:∀g,Deaf (t++#[x]++#[y]) g=Deaf (t++#[x]) g:=λg=>cW _ g _ λop hop m=>by simp at hop;subst hop;rw[hy.2];simp
 have h1:fj Q Shun B 0 (t++#[x]):=hP.app0 (λop hop=>by simp at hop;subst hop;exact hx.1) (λop hop b hb=>by simp at hop;subst hop;rw[hx.2]at hb;cases hb) ((dx 0).trans hP.deaf) (λop hop=>by simp at hop;subst hop;rw[hx.2];trivial);have h2:fj Q Shun B 0 (t++#[x]++#[y]):=h1.appMute hc0 (λop hop=>by simp at hop;subst hop;exact hy.1) (λop hop=>by simp at hop;subst hop;rw[hy.2];rfl) (λop hop=>by simp at hop;subst hop;rw[hy.2];trivial);rw[e];refine⟨⟨h2.clean,λi a ha hm=>(h2.known i a ha hm).imp id λh=> .inl ⟨gU _ h.1,h.2⟩,λi a _ hg=>?_,λi a ha hr hw=>?_,h2.quiet,λi g hg h0 _ BI=>h2.over i g hg h0 BI,h2.seen⟩,λg=>(dy g).trans (dx g)⟩
 ·generalize a.loc=l at hg;cases l<;>exact hg.elim
 ·have pX:a.loc.isMemory=true:=by
   generalize a.loc=l at hr;cases l<;>first|rfl|exact hr.elim
  have hold:touchAt t i=some a:=by
   rcases bB ha with⟨hi,ha'⟩|⟨_,op,hop,_,hb⟩
   ·rcases bB ha' with⟨hi',acW⟩|⟨_,op,hop,_,hb⟩
    ·exact acW
    ·simp at hop;subst hop;rw[hx.2]at hb;cases hb
   ·simp at hop;subst hop;rw[hy.2]at hb;cases hb
  have hk:Knows t 0 i:=(hP.known i a hold pX).resolve_right λh=>hro _ hr h.1;have gx:(t++#[x])[t.size]?=some x:=by simp
  have gx':(t++#[x]++#[y])[t.size]?=some x:=by rw[getElem?_append_old (by simp)];exact gx
  have gy:(t++#[x]++#[y])[t.size+1]?=some y:=by
   rw[Array.getElem?_append_right (by simp)];simp
  have b1:HappensBefore (t++#[x]++#[y]) i t.size:=hb_app _ (hk.hb_new (zaa _) gx hx.1);have hh1:(t++#[x]++#[y]).heard t.size:=⟨0,by unfold Trace.g?;rw[gx'];simp[hx.1],by
   rw[deaf_old (by simp),deaf_old (zaa _)];exact hP.deaf⟩
  have hh2:(t++#[x]++#[y]).heard (t.size+1):=⟨c,by unfold Trace.g?;rw[gy];simp[hy.1],by
   have hs:(t++#[x]).size=t.size+1:=by simp
   rw[←hs,deaf_old (zaa _)];exact(dx c).trans Nx⟩
  have b2:HappensBefore (t++#[x]++#[y]) t.size (t.size+1):= .single (.inr ⟨.spawn (child:=c) (by rw[act?_of gx',hx.2]) (by rw[act?_of gy,hy.2]) (by unfold Trace.g?;rw[gy];simp[hy.1]),hh1,hh2⟩);exact⟨t.size+1,y,gy,hy.1,.inr (b1.trans b2)⟩
theorem CJ {n:Nat}(gU:∀l,Shun l→Shun' l)(hro:∀l,jv ro l→¬Shun l){gs:Array Goroutine}{a a' child:Goroutine}{w:World}{sl:Option (Nat×Nat)}{q:Nat→Nat}(hn:gs.size=n)(hL:Leavers P t gs q)(h0:gs[0]?=some a)(hP:fj Q Shun B 0 t)(ha:a.status=.running)
 (hS:∀w₁,AtRel w w₁→stepG P true a w₁=.spawn a' child w₁ #[]):
 Reach P (crowd gs w sl) t λm t=>∃gs w₁ sl q,m=crowd gs w₁ sl∧AtRel w w₁∧dW P n t gs q∧gs[0]?=some a'∧gs[n]?=some child∧TI Q Shun' n (λ_=>False) ro B t∧Deaf t 0=0∧Deaf t n=0:=by
 refine nQ (J:=λw₁ t=>AtRel w w₁∧fj Q Shun B 0 t) ha (λw₁ t dd ops hj ⟨g,hg,hgo⟩ h1 h2=>⟨atRel_trans _ _ _ hj.1 ⟨dd,rfl⟩,hj.2.appMute hg hgo (λop hop=>(h1 op hop).1) (h2 B)⟩) (λgs w₁ sl t q hn hL h0 hj=>?_) gs w sl t q hn hL h0 ⟨atRel_refl w,hP⟩;have hlt:0<gs.size:=(zac.1 h0).1;have hrun:=runT_crowd_spawn (P:=P) (sl:=sl) (i:=0) h0 (show stepG P (0==0) a w₁=_ from hS w₁ hj.1);have Nx:Deaf t n=0:=hL.above n (by omega);have acX:∀(x y:MemOp),((MemOp.ofEvents 0 a.frame.fn a.frame.place #[]).push x).push y=#[x,y]:=λ_ _=>rfl;rw[acX,hn]at hrun;obtain⟨hT,hD⟩:=Ra (c:=n) (x:={ g:=0,fn:=a.frame.fn,pos:=a.frame.place,act:= .go n }) (y:={ g:=n,fn:=child.frame.fn,pos:=a.frame.place,act:= .start }) hj.2 gU hro (by omega) Nx ⟨rfl,rfl⟩ ⟨rfl,rfl⟩;refine⟨_,_,hrun,.here ⟨_,w₁,sl,q,rfl,hj.1,⟨by simp[hn],by omega,λi g h1 h2 hg=>?_,λj hj'=>?_⟩,?_,?_,hT,(hD 0).trans hj.2.deaf,(hD n).trans Nx⟩⟩
 ·rw[hD i];refine hL.old i g h1 ?_;rw[zbe,if_neg (by simp;omega),zak (by omega)]at hg;exact hg
 ·rw[hD j];exact hL.above j (by omega)
 ·rw[Array.getElem?_push_lt (by simp;omega)];simp
 ·have:(gs.setIfInBounds 0 a').size=n:=by simp[hn]
  rw[←this,zbD]
end
section
variable {P:Program}{ty:TypeId}{Q Shun Shun':Loc→Prop}{ch Wg n:Nat}{ro:Nat→Prop}{z:Value}{w:World}{x y:sX Wg w.heap.size}{After:(Nat→Prop)→World→Goroutine→World→Prop}
theorem Rb (hY:Cq Q Shun' n ch Wg w.heap.size ro (λb=>b=ch∨b=Wg))(gU:∀l,Shun l→Shun' l)(zj:x.C≠y.C)(Ys:∀a:Addr,a.block=x.C→¬Shun' (.cell a))(Yt:∀a:Addr,a.block=y.C→¬Shun' (.cell a))
 {vs:List Value}{gs:Array Goroutine}{sl:Option (Nat×Nat)}{t:Trace}{q:Nat→Nat}{a a' child:Goroutine}(hn:gs.size=n)(hL:Leavers P t gs q)(h0:gs[0]?=some a)(hP:fj Q Shun w.heap.size 0 t)(ha:a.status=.running)
 (hS:∀w₁,AtRel w w₁→stepG P true a w₁=.spawn a' child w₁ #[])(hch:∃s r tm,w.heap[ch]?=some (.chan 0 #[] false s r tm))(hw:WgAt ty Wg w KK 0)
 (hM:∀w₁,AtRel w w₁→kZ P ro ch z (M3 P ty x y After) vs (λ_=>False) a' w₁)(hG:∀w₁,AtRel w w₁→jw P ro ch (JE P ty x y) vs (λ_=>False) child w₁):
 Reach P (crowd gs w sl) t λm t=>∃w₁,AtRel w w₁∧Joined P Shun' n ch Wg w.heap.size After w₁ m t:=by
 refine(CJ (Shun':=Shun') (ro:=ro) gU (λl hl hs=>hY.rS l hl (gU l hs)) hn hL h0 hP ha hS).bind ?_;rintro m t ⟨gs,w₁,sl,q,rfl,hr,hC,h0,hc,hT,MX,hdc⟩;have lD:w₁.heap=w.heap:=by obtain⟨d,rfl⟩:=hr;rfl
 refine(JF hY zj Ys Yt hC h0 hc (hM w₁ hr) (hG w₁ hr) ⟨by rw[lD];exact hT,MX,λ_=>hdc,λ_ h=>h.elim,λ_ h=>h.elim,λ_ h=>h.elim,by rw[lD];exact zaa _,by rw[lD];exact hch,rfl,rfl,rfl,λ_ _ _=>rfl,rfl⟩ (hw.of_block (by rw[lD]))).mono λm t h=>⟨w₁,hr,h⟩
end
end Go.Ren
set_option linter.unusedSectionVars false
namespace Go.Ren
open Go.Proofs.Tryz
open Go Go.Conc Go.ConcX Go.RowKit Go.Conc.Lib Go.ConcX.Gen Go.Proofs Go.Loop
theorem JQ (Wg:Nat):Frame.enter prog 68 #[.pointer (some ⟨Wg,0,none⟩),.int .i64 1] .normal=(base cg.add).at ⟨#[.pointer (some ⟨Wg,0,none⟩),.int .i64 1,undef,undef,undef,undef,undef,undef,undef,undef,undef,undef,undef,undef,undef,undef,undef,undef,undef,undef,undef,undef,undef,undef,undef,undef,undef,undef,undef,undef,undef,undef,undef,undef,undef,undef,undef,undef,undef,undef,undef,undef,undef,undef,undef,undef,undef,undef,undef,undef,undef,undef,undef,undef,undef,undef,undef,undef,undef,undef,undef,undef,undef,undef,undef,undef,undef,undef,undef,undef,undef,undef,undef,undef,undef,undef,undef,undef,undef,undef,undef,undef,undef,undef,undef,undef,undef,undef,undef,undef,undef,undef,undef,undef,undef,undef,undef,undef,undef,undef,undef,undef,undef,undef,undef,undef,undef,undef,undef,undef,undef,undef,undef,undef,undef,undef,undef],[]⟩ [.code (body_add cg)]:=by
 rw[enter_at (P:=prog) (f:=68) (c:=body_add cg) #[.pointer (some ⟨Wg,0,none⟩),.int .i64 1] M4 (by kernel_rfl)];have:(#[Value.pointer (some ⟨Wg,0,none⟩),.int .i64 1]++Array.replicate ((addFn cg).ntmps - (#[Value.pointer (some ⟨Wg,0,none⟩),.int .i64 1]:Array Value).size) undef)=#[.pointer (some ⟨Wg,0,none⟩),.int .i64 1,undef,undef,undef,undef,undef,undef,undef,undef,undef,undef,undef,undef,undef,undef,undef,undef,undef,undef,undef,undef,undef,undef,undef,undef,undef,undef,undef,undef,undef,undef,undef,undef,undef,undef,undef,undef,undef,undef,undef,undef,undef,undef,undef,undef,undef,undef,undef,undef,undef,undef,undef,undef,undef,undef,undef,undef,undef,undef,undef,undef,undef,undef,undef,undef,undef,undef,undef,undef,undef,undef,undef,undef,undef,undef,undef,undef,undef,undef,undef,undef,undef,undef,undef,undef,undef,undef,undef,undef,undef,undef,undef,undef,undef,undef,undef,undef,undef,undef,undef,undef,undef,undef,undef,undef,undef,undef,undef,undef,undef,undef,undef,undef,undef,undef,undef]:=by kernel_rfl
 rw[this]
variable {cs:List Frame}{N:Nat}
def AtGo (s:List UInt8)(w0:World)(cs:List Frame)(g:Goroutine)(w:World):Prop:=
 ∃a,GB a w0.heap.size∧a.eval (.tmp 9)=.func (.func 69) #[] #[.pointer (some ⟨w0.heap.size+3,0,none⟩),.pointer (some ⟨w0.heap.size,0,none⟩),.pointer (some ⟨w0.heap.size+2,0,none⟩)]∧
  g=G ((base 43).at a (.inRegion (g4 f43) [1]::.code (D5 f43)::[])) cs∧Laid s w0 w∧WgAt cg.tWg (w0.heap.size+3) w KK 0
theorem AP {Wg C Low:Nat}(hW:Wg<Low)(hC:C<Low){Z:Loc→Prop}(hZ:∀a:Addr,a.block=C→¬Z (.cell a)){w w':World}{es:Array Event}(h:@DE (@EvS Wg C (lH Wg C Low mY hW hC)) w w' es):∀e∈es,EvL Z Low e:=by
 intro e he;obtain⟨h1,h2,h3,h4,h5,h6⟩:=h e he;have h6':okR Wg C Low (MemAct.ofEvent e):=h6;refine⟨λx hx hz=>?_,?_,?_,h6'.2⟩
 ·obtain⟨a,ha,hb⟩:=h6'.1 x hx;rcases hb with hb|hb
  ·exact(h1 x hx).1 (.inl ⟨a,ha,hb⟩)
  ·rw[ha]at hz;exact absurd hz (hZ a hb)
 ·intro e';exact h4 (by obtain⟨loc,wr,sy⟩:=e;simp only at e';subst e';rfl)
 ·intro e';exact h5 (by obtain⟨loc,wr,sy⟩:=e;simp only at e';subst e';rfl)
theorem Laid.YU {s:List UInt8}{w0 w:World}(h:Laid s w0 w)(v:Value):Laid s w0 (w.setCell (stA (w0.heap.size+3)) v):=by
 have hb:∀b,b≠w0.heap.size+3→(w.setCell (stA (w0.heap.size+3)) v).heap[b]?=w.heap[b]?:=λb hb=>Below.heap_setCell _ _ _ b hb;refine⟨?_,λb hlt=>(hb b (by omega)).trans (h.old b hlt),(hb _ (by omega)).trans h.txt,(hb _ (by omega)).trans h.chan,(hb _ (by omega)).trans h.box,h.tape,h.os,h.output⟩;show(Array.modify w.heap _ _).size=_;rw[Array.size_modify];exact h.size
theorem Laid.at {s:List UInt8}{w0 w:World}(h:Laid s w0 w)(d:Nat):Laid s w0 (w.at d):=⟨h.size,h.old,h.txt,h.chan,h.box,h.tape,h.os,h.output⟩
theorem GB.put {a:Act}{N:Nat}(h:GB a N){t:Tmp}{v:Value}(h1:t≠1)(h3:t≠3)(h4:t≠4):GB (a.put (some t) v) N:=
 ⟨size_put.trans h.size,(aD h1).trans h.s1,(aD h3).trans h.s3,(aD h4).trans h.s4,ct.trans h.defers⟩
theorem Ny (s:List UInt8)(w0:World)(g:Goroutine)(w:World)(h:Te s w0 cs g w)(hW:w0.heap.size+3<w0.heap.size+4)(hC:w0.heap.size<w0.heap.size+4):letI:=lH (w0.heap.size+3) w0.heap.size (w0.heap.size+4) mY hW hC
 Goes prog true AtRel (DE (EvS (w0.heap.size+3) w0.heap.size)) (AtMkS prog .disable λa w=>∃n,Goes prog true AtRel (DE (EvS (w0.heap.size+3) w0.heap.size)) (AtMkS prog .enable λa w=>∃n,Goes prog true AtRel (DE (EvS (w0.heap.size+3) w0.heap.size)) (AtGo s w0 cs) n a w) n a w) 12 g w:=by
 letI:=lH (w0.heap.size+3) w0.heap.size (w0.heap.size+4) mY hW hC
 obtain⟨a,hg,rfl,hl,Fi⟩:=h;rw[JQ];refine addPos (L:=cg) (b₀:=base 43) (a₀:=a) (ops₀:=g3 f43) (i₀:=0) (rest₀:=[]) (k₀:=[.code (D4 f43)]) (mT:=4) wgz w Fi ?_;have hl':=hl.YU (.int .u64 KK);have acY:WgAt cg.tWg (w0.heap.size+3) (w.setCell (stA (w0.heap.size+3)) (.int .u64 KK)) KK 0:=Fi.setSt KK;generalize w.setCell (stA (w0.heap.size+3)) (.int .u64 KK)=w1 at *;change Goes _ _ _ _ _ _ (G ((base 43).at (a.put (some 8) (.tuple #[])) (.inRegion (g3 f43) []::.code (D4 f43)::[])) cs) _;have hg1:=hg.put (t:=8) (v:= .tuple #[]) (by decide) (by decide) (by decide);generalize a.put (some 8) (.tuple #[])=a1 at *;refine Goes.silent atRel_trans (λ_=>by intro e he;simp at he) rfl (λ_=>stepG_region_end) ?_;refine Goes.silent atRel_trans (λ_=>by intro e he;simp at he) rfl (λ_=>stepG_seq (x:= .region 4 (g4 f43) false) (y:=D5 f43)) ?_;refine Goes.silent atRel_trans (λ_=>by intro e he;simp at he) rfl (λ_=>stepG_region) ?_;refine Goes.silent (g':=G ((base 43).at (a1.put (some 9) (.func (.func 69) #[] #[.pointer (some ⟨w0.heap.size+3,0,none⟩),.pointer (some ⟨w0.heap.size,0,none⟩),.pointer (some ⟨w0.heap.size+2,0,none⟩)])) (.inRegion (g4 f43) [1]::.code (D5 f43)::[])) cs) atRel_trans (λ_=>by intro e he;simp at he) rfl (λw₁=>?_) ?_
 ·have hop:(g4 f43)[0].op=.makeFunc (.func 69) #[] #[.tmp 4,.tmp 1,.tmp 3]:=rfl;have hr:(execOp a1.eval (g4 f43)[0]).run prog w₁=.ok (.value (.func (.func 69) #[] #[.pointer (some ⟨w0.heap.size+3,0,none⟩),.pointer (some ⟨w0.heap.size,0,none⟩),.pointer (some ⟨w0.heap.size+2,0,none⟩)])) w₁:=by
   unfold execOp;simp[hop,Instr.makeFunc,hg1.s1,hg1.s3,hg1.s4]
  have he:(execOp a1.eval (g4 f43)[0]).events prog w₁ #[]=#[]:=by
   unfold execOp;simp[hop,Instr.makeFunc]
  have hq:=stepG_value (P:=prog) (main:=true) (b:=base 43) (k:=[.code (D5 f43)]) (cs:=cs) (ops:=g4 f43) (i:=0) (rest:=[1]) rfl rfl (by decide) hr;rw[listed_none he]at hq;exact hq
 ·refine Goes.stop λw₁ h₁=>?_;obtain⟨d,rfl⟩:=h₁;exact⟨_,hg1.put (by decide) (by decide) (by decide),aW (by rw[hg1.size];decide),rfl,hl'.at d,acY⟩
def QG (N:Nat)(l:Loc):Prop:=l=.obj (N+1)∨∃a:Addr,l=.cell a∧a.block=N+3
def Tf (N:Nat)(b:Nat):Prop:=b=N∨b=N+2
theorem Nz {a:Act}{N:Nat}(h9:a.eval (.tmp 9)=.func (.func 69) #[] #[.pointer (some ⟨N+3,0,none⟩),.pointer (some ⟨N,0,none⟩),.pointer (some ⟨N+2,0,none⟩)])(w:World):stepG prog true (G ((base 43).at a (.inRegion (g4 f43) [1]::.code (D5 f43)::[])) cs) w=.spawn (G ((base 43).at a (.inRegion (g4 f43) []::.code (D5 f43)::[])) cs) (born prog (sZ (N+3) N (N+2))) w #[]:=by
 have hop:(g4 f43)[1].op=.go { callee:= .value (.tmp 9),args:=#[],argTypes:=#[] }:=rfl;have hr:(execOp a.eval (g4 f43)[1]).run prog w=.ok (.spawn (sZ (N+3) N (N+2))) w:=by
  unfold execOp;simp[hop,resolve,h9,Deferred.ofValue,sZ]
 have he:(execOp a.eval (g4 f43)[1]).events prog w #[]=#[]:=by
  unfold execOp;simp[hop,resolve,h9,Deferred.ofValue]
 have hq:=stepG_spawn (P:=prog) (main:=true) (b:=base 43) (k:=[.code (D5 f43)]) (cs:=cs) (ops:=g4 f43) (i:=1) (rest:=[]) rfl rfl (by decide) hr rfl;rw[listed_none he]at hq;exact hq
theorem AQ {Low:Nat}{x y:sX (N+3) Low}(hx:x.C=N)(hy:y.C=N+2){a:Act}(hg:GB a N){ts:List Tok}(hts:ts.length≤1000000){W:World}(hb:prog.globals.size≤W.heap.size)(hsz:N+4≤W.heap.size)(acZ:W.heap[N+2]?=some (.cells #[.chan (some (N+1))] 132)):kZ prog (Tf N) (N+1) (bK s7) (M3 prog cg.tWg x y (AO (Tf N) x.C y.C (N+3) (N+1) ts cs)) (ts.map bK) (λ_=>False) (G ((base 43).at a (.inRegion (g4 f43) []::.code (D5 f43)::[])) cs) W:=by
 rw[cv];refine ai.silent rfl (λ_=>stepG_region_end) ?_;refine ai.silent rfl (λ_=>stepG_seq (x:= .region 5 (g5 f43) false) (y:=D6 f43)) ?_;refine ai.silent rfl (λ_=>stepG_region) ?_;refine ai.mv (ops:=g5 f43) (i:=0) (rest:=[]) rfl rfl (by decide) (dd:=some 5) rfl (.inr rfl) (v:= .slice none 0 0) rfl ?_;have hg1:=hg.put (t:=5) (v:= .slice none 0 0) (by decide) (by decide) (by decide);have k5:(a.put (some 5) (.slice none 0 0)).eval (.tmp 5)=.slice none 0 0:=aW (by rw[hg.size];decide);generalize a.put (some 5) (.slice none 0 0)=a1 at *;refine ai.silent rfl (λ_=>stepG_region_end) ?_;refine ai.silent rfl (λ_=>stepG_seq (x:=aC (D6 f43)) (y:=D10 f43)) ?_;refine ai.silent rfl (λ_=>stepG_seq (x:= .region 6 (g6 f43) false) (y:= .block 0 (.loop (Lg f43)))) ?_;refine ai.silent rfl (λ_=>stepG_region) ?_;refine ai.FK (ops:=g6 f43) (i:=0) (rest:=[]) rfl rfl (by decide) (dd:=some 10) rfl (e:=132) (x:= .tmp 3) rfl (ad:=⟨N+2,0,none⟩) hg1.s3 (.inr rfl) (v:= .chan (some (N+1))) (cell_of_one acZ) (λw h=>Nt (.inr rfl) w _ h) ?_;have hga:YL (a1.put (some 10) (.chan (some (N+1)))) x.C y.C (N+3) (N+1):=⟨size_put.trans hg1.size,by rw[hx];exact(aD (by decide)).trans hg1.s1,by rw[hy];exact(aD (by decide)).trans hg1.s3,(aD (by decide)).trans hg1.s4,aW (by rw[hg1.size];decide),ct.trans hg1.defers⟩;have YQ:(a1.put (some 10) (.chan (some (N+1)))).eval (.tmp 5)=.slice none 0 0:=(aD (by decide)).trans k5;generalize a1.put (some 10) (.chan (some (N+1)))=a2 at *;refine ai.silent rfl (λ_=>stepG_region_end) ?_;refine ai.silent rfl (λ_=>stepG_block) ?_;refine ai.silent rfl (λ_=>stepG_loop) ?_;have hH:pP (Tf N) (λ_=>False) W:=⟨λb hb=>by rcases hb with h|h|h<;>first|exact h.elim|omega,λ_ _ h=>h⟩;have hA:=At.empty (P:=prog) (S:=Sc) hH hb;have WG:GR (Tf N) x.C y.C (N+3) (N+1) [] (λ_=>False) a2 W:=⟨hga,_,_,.slice none 0 0,hA,by rw[YQ];simp[rv],by unfold Cl;simp[rv],World.ownsRow_nil _ _ _ _⟩;have:=JP (cs:=cs) (Fin:=M3 prog cg.tWg x y (AO (Tf N) x.C y.C (N+3) (N+1) ts cs)) ts [] (λ_=>False) a2 W WG (by simpa using hts) (λown a W h=>FO (by simpa using h));rw[cv]at this;exact this
end Go.Ren
