import Derived.OneCell
import Derived.Test.YtlhimdjkkiflhaaGreatDoorDeep16
set_option linter.unusedSectionVars false
namespace Go.Ren
open Go Go.Conc Go.ConcX Go.RowKit Go.Conc.Lib Go.ConcX.Gen Go.Proofs Go.Loop
theorem info77:(Tryz.prog.info? 132).map (fun i=>(i.size,i.zero))=some (1,some (.chan none)):=by kernel_rfl
theorem info87:(Tryz.prog.info? 142).map (fun i=>i.zero.map fun z=>Obj.cells z.cells 142)=some (some (wgBlock linkz.tWg 0 0)):=by kernel_rfl
theorem bx (s:ByteArray)(w:World):(Instr.box 9 (.string s)).run Tryz.prog w= .ok (.pointer (some ⟨w.heap.size,0,none⟩)) (w.alloc (.cells #[.string s] 9))∧(Instr.box 9 (.string s)).events Tryz.prog w #[]=#[]:=by
 constructor
 ·simp[Instr.box,newVar,newRow,go_sem,Value.cells]
 ·simp[Instr.box,newVar,newRow,go_sem,Value.cells]
theorem mkc (w:World):(Instr.makeChan 132 (.int .i64 0)).run Tryz.prog w= .ok (.chan (some w.heap.size)) (w.alloc (.chan 0 #[] false 0 0 false))∧(Instr.makeChan 132 (.int .i64 0)).events Tryz.prog w #[]=#[]:=by
 obtain⟨i,hi,he⟩:=Option.map_eq_some_iff.1 info76
 obtain⟨dir,hu⟩:∃ dir,Tryz.prog.underlying 132=some (.chan dir 131):=⟨_,Tryz.underlying132⟩
 have h1:¬ (IntKind.i64.max<0):=by decide
 constructor
 ·simp[Instr.makeChan,run_underlying hu,asInt,asIntOf,typeInfo,hi]
 ·simp[Instr.makeChan,run_underlying hu,asInt,asIntOf,typeInfo,hi]
theorem alz {e:TypeId}{i:TypeInfo}{z:Value}(hi:Tryz.prog.info? e=some i)(hz:i.zero=some z)(w:World):(Instr.alloc e true (.tuple #[])).run Tryz.prog w= .ok (.pointer (some ⟨w.heap.size,0,none⟩)) (w.alloc (.cells z.cells e))∧(Instr.alloc e true (.tuple #[])).events Tryz.prog w #[]=#[]:=by
 constructor
 ·simp[Instr.alloc,zeroValue,typeInfo,hi,hz,newVar,newRow]
 ·simp[Instr.alloc,zeroValue,typeInfo,hi,hz,newVar,newRow]
theorem stz {w:World}{r c:Nat}(h:w.heap[r]? =some (.cells #[.chan none] 132)):(Instr.storeAt 132 (.pointer (some ⟨r,0,none⟩)) (.chan (some c))).run Tryz.prog w= .ok () (w.setCell ⟨r,0,none⟩ (.chan (some c)))∧(Instr.storeAt 132 (.pointer (some ⟨r,0,none⟩)) (.chan (some c))).events Tryz.prog w #[]=#[⟨.cell ⟨r,0,none⟩,true,false⟩]:=by
 obtain⟨i,hi,he⟩:=Option.map_eq_some_iff.1 info77
 simp only[Prod.mk.injEq] at he
 have hc:w.cell? ⟨r,0,none⟩=some (.chan none):=by simp[World.cell?,h]
 have hf:w.frozen? ⟨r,0,none⟩=false:=by simp[World.frozen?,h]
 constructor
 ·simp[Instr.storeAt,Instr.sureAddr,storeVar,sizeOf,typeInfo,hi,he.1,Value.cells,storeCells,go_sem,hc,hf,Addr.add]
 ·simp[Instr.storeAt,Instr.sureAddr,storeVar,sizeOf,typeInfo,hi,he.1,Value.cells,storeCells,go_sem,hc,hf,Addr.add]
section
variable {P:Program} {Stop:Goroutine→World→Prop} {Z:Loc→Prop} {B n:Nat} {w:World} {b:Frame} {a:Act} {ops:Array Oper} {i:Nat} {rest:List Nat} {o:Oper} {kk:List Item} {cs:List Frame}
def DZ (Z:Loc→Prop)(B:Nat)(_ _:World)(es:Array Event):Prop:=∀ e∈es,EvL Z B e
theorem Goes.ctl {g g':Goroutine}(hs:g.status= .running)(h:∀ w₁,stepG P true g w₁= .go g' w₁ #[])(k:Goes P true AtRel (DZ Z B) Stop n g' w):Goes P true AtRel (DZ Z B) Stop (n+1) g w:=
 Goes.silent atRel_trans (fun _=>by intro e he;simp at he) hs h k
theorem Goes.opv (ho:ops[i]? =some o)(hw:Region.wanted o (yielded ops a.tmps)=true)(hk:b.kind≠ .early){dd:Option Tmp}(hdd:o.dst=dd){v:Value}{nw:World→World}(hr:∀ d,(execOp a.eval o).run P (w.at d)= .ok (.value v) (nw (w.at d)))(he:∀ d,(execOp a.eval o).events P (w.at d) #[]=#[])
 (k:∀ d,Goes P true AtRel (DZ Z B) Stop n (G (b.at (a.put dd v) (.inRegion ops rest::kk)) cs) (nw (w.at d))):Goes P true AtRel (DZ Z B) Stop (n+1) (G (b.at a (.inRegion ops (i::rest)::kk)) cs) w:=by
 subst hdd
 refine Goes.step rfl fun w₁ h₁=>?_
 obtain⟨d,rfl⟩:=h₁
 rw[stepG_value ho hw hk (hr d),listed_none (he d)]
 exact⟨fun e he=>by simp at he,k d⟩
theorem Goes.opn (ho:ops[i]? =some o)(hw:Region.wanted o (yielded ops a.tmps)=true)(hk:b.kind≠ .early){dd:Option Tmp}(hdd:o.dst=dd){nw:World→World}{es:Array Event}(hr:∀ d,(execOp a.eval o).run P (w.at d)= .ok .skip (nw (w.at d)))(he:∀ d,(execOp a.eval o).events P (w.at d) #[]=es)(hes:∀ e∈es,EvL Z B e)
 (k:∀ d,Goes P true AtRel (DZ Z B) Stop n (G (b.at (a.put dd undef) (.inRegion ops rest::kk)) cs) (nw (w.at d))):Goes P true AtRel (DZ Z B) Stop (n+1) (G (b.at a (.inRegion ops (i::rest)::kk)) cs) w:=by
 subst hdd
 refine Goes.step rfl fun w₁ h₁=>?_
 obtain⟨d,rfl⟩:=h₁
 rw[stepG_none ho hw hk (hr d)]
 refine⟨fun e hm=>hes e ?_,k d⟩
 unfold listed at hm
 rw[he d] at hm
 exact mem_seen hm
end
structure Laid (s:List UInt8) (w0 w:World):Prop where
 size:w.heap.size=w0.heap.size+4
 old:∀ b,b<w0.heap.size→w.heap[b]? =w0.heap[b]?
 txt:w.heap[w0.heap.size]? =some (.cells #[.string ⟨⟨s⟩⟩] 9)
 chan:w.heap[w0.heap.size+1]? =some (.chan 0 #[] false 0 0 false)
 box:w.heap[w0.heap.size+2]? =some (.cells #[.chan (some (w0.heap.size+1))] 132)
 tape:w.tape=w0.tape
 os:w.os=w0.os
 output:w.output=w0.output
structure GB (a:Act) (N:Nat):Prop where
 size:a.tmps.size=20
 s1:a.eval (.tmp 1)= .pointer (some ⟨N,0,none⟩)
 s3:a.eval (.tmp 3)= .pointer (some ⟨N+2,0,none⟩)
 s4:a.eval (.tmp 4)= .pointer (some ⟨N+3,0,none⟩)
 defers:a.defers=[]
def D1 (f:Func):Code:=dC 1 (c24 f)
def D2 (f:Func):Code:=dC 2 (c24 f)
def D3 (f:Func):Code:=dC 3 (c24 f)
def D4 (f:Func):Code:=dC 4 (c24 f)
def g0 (f:Func):Array Oper:=opsC (fstC (c24 f))
def g1 (f:Func):Array Oper:=opsC (fstC (D1 f))
def g2 (f:Func):Array Oper:=opsC (fstC (D2 f))
def g3 (f:Func):Array Oper:=opsC (fstC (D3 f))
def g4 (f:Func):Array Oper:=opsC (fstC (D4 f))
def AtAddC (f:Func)(a:Act):Frame:=(base 43).at a (.inRegion (g3 f) [0]:: .code (D4 f)::[])
def AtAdd (s:List UInt8)(w0:World)(cs:List Frame)(g:Goroutine)(w:World):Prop:=
 ∃ a,GB a w0.heap.size∧g=G (Frame.enter Tryz.prog 68 #[.pointer (some ⟨w0.heap.size+3,0,none⟩),.int .i64 1] .normal) (AtAddC Tryz.f43 a::cs)∧Laid s w0 w∧WgAt linkz.tWg (w0.heap.size+3) w 0 0
theorem fz13:Tryz.prog.funcs[43]? =some Tryz.f43:=by kernel_rfl
def a13 (s:List UInt8):Act:=⟨#[.string ⟨⟨s⟩⟩]++Array.replicate 19 undef,[]⟩
theorem push_old {H:Array Obj}{o:Obj}{b:Nat}(h:b<H.size):(H.push o)[b]? =H[b]?:=by rw[Array.getElem?_push,if_neg (by omega)]
theorem push_new {H:Array Obj}{o:Obj}{b:Nat}(h:b=H.size):(H.push o)[b]? =some o:=by subst h;simp
variable {cs:List Frame}
set_option maxRecDepth 10000 in
theorem ahead_goes {Z:Loc→Prop}{B:Nat}(s:List UInt8)(w0:World)(hZ:¬ Z (.cell ⟨w0.heap.size+2,0,none⟩))(hB:w0.heap.size+2<B):
 Goes Tryz.prog true AtRel (DZ Z B) (AtAdd s w0 cs) 19 (G (Frame.enter Tryz.prog 43 #[.string ⟨⟨s⟩⟩] .normal) cs) w0:=by
 rw[enter_at (P:=Tryz.prog) (f:=43) (c:=c24 Tryz.f43) #[.string ⟨⟨s⟩⟩] fz13 rfl]
 change Goes _ _ _ _ _ _ (G ((base 43).at (a13 s) [.code (c24 Tryz.f43)]) cs) _
 have q0:(a13 s).eval (.tmp 0)= .string ⟨⟨s⟩⟩:=by simp[a13,Act.eval]
 have qs:(a13 s).tmps.size=20:=by simp[a13]
 have qd:(a13 s).defers=[]:=rfl
 generalize a13 s=a at *
 refine Goes.ctl rfl (fun _=>stepG_seq (x:= .region 0 (g0 Tryz.f43) false) (y:=D1 Tryz.f43)) ?_
 refine Goes.ctl rfl (fun _=>stepG_region) ?_
 refine Goes.opv (ops:=g0 Tryz.f43) (i:=0) (rest:=[1]) rfl rfl (by decide) (dd:=some 1) rfl (v:= .pointer (some ⟨w0.heap.size,0,none⟩)) (nw:=fun w=>w.alloc (.cells #[.string ⟨⟨s⟩⟩] 9)) (fun d=>?_) (fun d=>?_) (fun d=>?_)
 ·have hop:(g0 Tryz.f43)[0].op= .box 9 (.tmp 0):=rfl
  unfold execOp
  simp only[hop,q0,Sem.run_bind,(bx _ _).1,Result.andThen_ok,Sem.run_pure]
  rfl
 ·have hop:(g0 Tryz.f43)[0].op= .box 9 (.tmp 0):=rfl
  unfold execOp
  simp only[hop,q0,Sem.events_bind,(bx _ _).1,(bx _ _).2,Result.evThen_ok,Sem.events_pure]
 have hs1:((w0.at d).alloc (.cells #[.string ⟨⟨s⟩⟩] 9)).heap.size=w0.heap.size+1:=alloc_size _ _
 have ho1:∀ b,b<w0.heap.size→((w0.at d).alloc (.cells #[.string ⟨⟨s⟩⟩] 9)).heap[b]? =w0.heap[b]?:=fun b h=>push_old (H:=w0.heap) h
 have hx1:((w0.at d).alloc (.cells #[.string ⟨⟨s⟩⟩] 9)).heap[w0.heap.size]? =some (.cells #[.string ⟨⟨s⟩⟩] 9):=push_new (H:=w0.heap) rfl
 have ht1:((w0.at d).alloc (.cells #[.string ⟨⟨s⟩⟩] 9)).tape=w0.tape∧((w0.at d).alloc (.cells #[.string ⟨⟨s⟩⟩] 9)).os=w0.os∧((w0.at d).alloc (.cells #[.string ⟨⟨s⟩⟩] 9)).output=w0.output:=⟨rfl,rfl,rfl⟩
 generalize (w0.at d).alloc (.cells #[.string ⟨⟨s⟩⟩] 9)=w1 at *
 have p1:(a.put (some 1) (.pointer (some ⟨w0.heap.size,0,none⟩))).eval (.tmp 1)= .pointer (some ⟨w0.heap.size,0,none⟩):=ev_put_eq (by rw[qs];decide)
 have qs1:(a.put (some 1) (.pointer (some ⟨w0.heap.size,0,none⟩))).tmps.size=20:=size_put.trans qs
 have qd1:(a.put (some 1) (.pointer (some ⟨w0.heap.size,0,none⟩))).defers=[]:=defers_put.trans qd
 generalize a.put (some 1) (.pointer (some ⟨w0.heap.size,0,none⟩))=a1 at *
 refine Goes.opv (ops:=g0 Tryz.f43) (i:=1) (rest:=[]) rfl rfl (by decide) (dd:=some 2) rfl (v:= .slice none 0 0) (nw:=fun w=>w) (fun d=>rfl) (fun d=>rfl) (fun d1=>?_)
 have p1':(a1.put (some 2) (.slice none 0 0)).eval (.tmp 1)= .pointer (some ⟨w0.heap.size,0,none⟩):=(ev_put_ne (by decide)).trans p1
 have qs2:(a1.put (some 2) (.slice none 0 0)).tmps.size=20:=size_put.trans qs1
 have qd2:(a1.put (some 2) (.slice none 0 0)).defers=[]:=defers_put.trans qd1
 generalize a1.put (some 2) (.slice none 0 0)=a2 at *
 replace hs1:(w1.at d1).heap.size=w0.heap.size+1:=hs1
 replace ho1:∀ b,b<w0.heap.size→(w1.at d1).heap[b]? =w0.heap[b]?:=ho1
 replace hx1:(w1.at d1).heap[w0.heap.size]? =some (.cells #[.string ⟨⟨s⟩⟩] 9):=hx1
 replace ht1:(w1.at d1).tape=w0.tape∧(w1.at d1).os=w0.os∧(w1.at d1).output=w0.output:=ht1
 generalize w1.at d1=w2 at *
 refine Goes.ctl rfl (fun _=>stepG_region_end) ?_
 refine Goes.ctl rfl (fun _=>stepG_seq (x:= .region 1 (g1 Tryz.f43) false) (y:=D2 Tryz.f43)) ?_
 refine Goes.ctl rfl (fun _=>stepG_region) ?_
 refine Goes.opv (ops:=g1 Tryz.f43) (i:=0) (rest:=[1,2]) rfl rfl (by decide) (dd:=some 7) rfl (v:= .chan (some w2.heap.size)) (nw:=fun w=>w.alloc (.chan 0 #[] false 0 0 false)) (fun d=>?_) (fun d=>?_) (fun d2=>?_)
 ·have hop:(g1 Tryz.f43)[0].op= .makeChan 132 (.const (.int .i64 0)):=rfl
  unfold execOp
  simp only[hop,Act.eval,Sem.run_bind,(mkc _).1,Result.andThen_ok,Sem.run_pure]
  rfl
 ·have hop:(g1 Tryz.f43)[0].op= .makeChan 132 (.const (.int .i64 0)):=rfl
  unfold execOp
  simp only[hop,Act.eval,Sem.events_bind,(mkc _).1,(mkc _).2,Result.evThen_ok,Sem.events_pure]
 rw[hs1]
 have p7:(a2.put (some 7) (.chan (some (w0.heap.size+1)))).eval (.tmp 7)= .chan (some (w0.heap.size+1)):=ev_put_eq (by rw[qs2];decide)
 have p1a:(a2.put (some 7) (.chan (some (w0.heap.size+1)))).eval (.tmp 1)= .pointer (some ⟨w0.heap.size,0,none⟩):=(ev_put_ne (by decide)).trans p1'
 have qs3:(a2.put (some 7) (.chan (some (w0.heap.size+1)))).tmps.size=20:=size_put.trans qs2
 have qd3:(a2.put (some 7) (.chan (some (w0.heap.size+1)))).defers=[]:=defers_put.trans qd2
 generalize a2.put (some 7) (.chan (some (w0.heap.size+1)))=a3 at *
 have hs2:((w2.at d2).alloc (.chan 0 #[] false 0 0 false)).heap.size=w0.heap.size+2:=(alloc_size _ _).trans (congrArg (· + 1) hs1)
 have ho2:∀ b,b<w0.heap.size→((w2.at d2).alloc (.chan 0 #[] false 0 0 false)).heap[b]? =w0.heap[b]?:=fun b h=>(push_old (H:=w2.heap) (by omega)).trans (ho1 b h)
 have hx2:((w2.at d2).alloc (.chan 0 #[] false 0 0 false)).heap[w0.heap.size]? =some (.cells #[.string ⟨⟨s⟩⟩] 9):=(push_old (H:=w2.heap) (by omega)).trans hx1
 have hc2:((w2.at d2).alloc (.chan 0 #[] false 0 0 false)).heap[w0.heap.size+1]? =some (.chan 0 #[] false 0 0 false):=push_new (H:=w2.heap) hs1.symm
 have ht2:((w2.at d2).alloc (.chan 0 #[] false 0 0 false)).tape=w0.tape∧((w2.at d2).alloc (.chan 0 #[] false 0 0 false)).os=w0.os∧((w2.at d2).alloc (.chan 0 #[] false 0 0 false)).output=w0.output:=ht1
 generalize (w2.at d2).alloc (.chan 0 #[] false 0 0 false)=w3 at *
 obtain⟨i77,hi77,he77⟩:=Option.map_eq_some_iff.1 info77
 simp only[Prod.mk.injEq] at he77
 refine Goes.opv (ops:=g1 Tryz.f43) (i:=1) (rest:=[2]) rfl rfl (by decide) (dd:=some 3) rfl (v:= .pointer (some ⟨w3.heap.size,0,none⟩)) (nw:=fun w=>w.alloc (.cells #[.chan none] 132)) (fun d=>?_) (fun d=>?_) (fun d3=>?_)
 ·have hop:(g1 Tryz.f43)[1].op= .alloc 132:=rfl
  unfold execOp
  simp only[hop,Sem.run_bind,(alz hi77 he77.2 _).1,Result.andThen_ok,Sem.run_pure]
  rfl
 ·have hop:(g1 Tryz.f43)[1].op= .alloc 132:=rfl
  unfold execOp
  simp only[hop,Sem.events_bind,(alz hi77 he77.2 _).1,(alz hi77 he77.2 _).2,Result.evThen_ok,Sem.events_pure]
 rw[hs2]
 have p3:(a3.put (some 3) (.pointer (some ⟨w0.heap.size+2,0,none⟩))).eval (.tmp 3)= .pointer (some ⟨w0.heap.size+2,0,none⟩):=ev_put_eq (by rw[qs3];decide)
 have p7b:(a3.put (some 3) (.pointer (some ⟨w0.heap.size+2,0,none⟩))).eval (.tmp 7)= .chan (some (w0.heap.size+1)):=(ev_put_ne (by decide)).trans p7
 have p1b:(a3.put (some 3) (.pointer (some ⟨w0.heap.size+2,0,none⟩))).eval (.tmp 1)= .pointer (some ⟨w0.heap.size,0,none⟩):=(ev_put_ne (by decide)).trans p1a
 have qs4:(a3.put (some 3) (.pointer (some ⟨w0.heap.size+2,0,none⟩))).tmps.size=20:=size_put.trans qs3
 have qd4:(a3.put (some 3) (.pointer (some ⟨w0.heap.size+2,0,none⟩))).defers=[]:=defers_put.trans qd3
 generalize a3.put (some 3) (.pointer (some ⟨w0.heap.size+2,0,none⟩))=a4 at *
 have hs3:((w3.at d3).alloc (.cells #[.chan none] 132)).heap.size=w0.heap.size+3:=(alloc_size _ _).trans (congrArg (· + 1) hs2)
 have ho3:∀ b,b<w0.heap.size→((w3.at d3).alloc (.cells #[.chan none] 132)).heap[b]? =w0.heap[b]?:=fun b h=>(push_old (H:=w3.heap) (by omega)).trans (ho2 b h)
 have hx3:((w3.at d3).alloc (.cells #[.chan none] 132)).heap[w0.heap.size]? =some (.cells #[.string ⟨⟨s⟩⟩] 9):=(push_old (H:=w3.heap) (by omega)).trans hx2
 have hc3:((w3.at d3).alloc (.cells #[.chan none] 132)).heap[w0.heap.size+1]? =some (.chan 0 #[] false 0 0 false):=(push_old (H:=w3.heap) (by omega)).trans hc2
 have hy3:((w3.at d3).alloc (.cells #[.chan none] 132)).heap[w0.heap.size+2]? =some (.cells #[.chan none] 132):=push_new (H:=w3.heap) hs2.symm
 have ht3:((w3.at d3).alloc (.cells #[.chan none] 132)).tape=w0.tape∧((w3.at d3).alloc (.cells #[.chan none] 132)).os=w0.os∧((w3.at d3).alloc (.cells #[.chan none] 132)).output=w0.output:=ht2
 generalize (w3.at d3).alloc (.cells #[.chan none] 132)=w4 at *
 refine Goes.opn (ops:=g1 Tryz.f43) (i:=2) (rest:=[]) rfl rfl (by decide) (dd:=none) rfl (nw:=fun w=>w.setCell ⟨w0.heap.size+2,0,none⟩ (.chan (some (w0.heap.size+1)))) (es:=#[⟨.cell ⟨w0.heap.size+2,0,none⟩,true,false⟩]) (fun d=>?_) (fun d=>?_) (fun e he=>?_) (fun d4=>?_)
 ·have hop:(g1 Tryz.f43)[2].op= .store 132 (.tmp 3) (.tmp 7):=rfl
  have hq:(w4.at d).heap[w0.heap.size+2]? =some (.cells #[.chan none] 132):=hy3
  unfold execOp
  simp only[hop,p3,p7b,Sem.run_bind,(stz hq).1,Result.andThen_ok,Sem.run_pure]
 ·have hop:(g1 Tryz.f43)[2].op= .store 132 (.tmp 3) (.tmp 7):=rfl
  have hq:(w4.at d).heap[w0.heap.size+2]? =some (.cells #[.chan none] 132):=hy3
  unfold execOp
  simp only[hop,p3,p7b,Sem.events_bind,(stz hq).1,(stz hq).2,Result.evThen_ok,Sem.events_pure]
 ·simp only[List.mem_toArray,List.mem_cons,List.not_mem_nil,or_false] at he
  subst he
  refine⟨fun x hx hz=>?_,by simp,by simp,?_⟩
  ·simp only[MemAct.ofEvent,MemAct.touch?] at hx
   cases hx
   exact absurd hz hZ
  ·exact hB
 rw[put_none]
 have hs4:((w4.at d4).setCell ⟨w0.heap.size+2,0,none⟩ (.chan (some (w0.heap.size+1)))).heap.size=w0.heap.size+3:=by
  show(Array.modify w4.heap _ _).size=_
  rw[Array.size_modify];exact hs3
 have ho4:∀ b,b<w0.heap.size→((w4.at d4).setCell ⟨w0.heap.size+2,0,none⟩ (.chan (some (w0.heap.size+1)))).heap[b]? =w0.heap[b]?:=fun b h=>(Below.heap_setCell _ _ _ b (by show b≠w0.heap.size+2;omega)).trans (ho3 b h)
 have hx4:((w4.at d4).setCell ⟨w0.heap.size+2,0,none⟩ (.chan (some (w0.heap.size+1)))).heap[w0.heap.size]? =some (.cells #[.string ⟨⟨s⟩⟩] 9):=(Below.heap_setCell _ _ _ _ (by show w0.heap.size≠w0.heap.size+2;omega)).trans hx3
 have hc4:((w4.at d4).setCell ⟨w0.heap.size+2,0,none⟩ (.chan (some (w0.heap.size+1)))).heap[w0.heap.size+1]? =some (.chan 0 #[] false 0 0 false):=(Below.heap_setCell _ _ _ _ (by show w0.heap.size+1≠w0.heap.size+2;omega)).trans hc3
 have hy4:((w4.at d4).setCell ⟨w0.heap.size+2,0,none⟩ (.chan (some (w0.heap.size+1)))).heap[w0.heap.size+2]? =some (.cells #[.chan (some (w0.heap.size+1))] 132):=one_setCell (w:=w4.at d4) hy3
 have ht4:((w4.at d4).setCell ⟨w0.heap.size+2,0,none⟩ (.chan (some (w0.heap.size+1)))).tape=w0.tape∧((w4.at d4).setCell ⟨w0.heap.size+2,0,none⟩ (.chan (some (w0.heap.size+1)))).os=w0.os∧((w4.at d4).setCell ⟨w0.heap.size+2,0,none⟩ (.chan (some (w0.heap.size+1)))).output=w0.output:=ht3
 generalize (w4.at d4).setCell ⟨w0.heap.size+2,0,none⟩ (.chan (some (w0.heap.size+1)))=w5 at *
 refine Goes.ctl rfl (fun _=>stepG_region_end) ?_
 refine Goes.ctl rfl (fun _=>stepG_seq (x:= .region 2 (g2 Tryz.f43) false) (y:=D3 Tryz.f43)) ?_
 refine Goes.ctl rfl (fun _=>stepG_region) ?_
 obtain⟨i87,hi87,he87⟩:=Option.map_eq_some_iff.1 info87
 obtain⟨z87,hz87,he87'⟩:=Option.map_eq_some_iff.1 he87
 refine Goes.opv (ops:=g2 Tryz.f43) (i:=0) (rest:=[]) rfl rfl (by decide) (dd:=some 4) rfl (v:= .pointer (some ⟨w5.heap.size,0,none⟩)) (nw:=fun w=>w.alloc (wgBlock linkz.tWg 0 0)) (fun d=>?_) (fun d=>?_) (fun d5=>?_)
 ·have hop:(g2 Tryz.f43)[0].op= .alloc 142:=rfl
  unfold execOp
  simp only[hop,Sem.run_bind,(alz hi87 hz87 _).1,Result.andThen_ok,Sem.run_pure,he87']
  rfl
 ·have hop:(g2 Tryz.f43)[0].op= .alloc 142:=rfl
  unfold execOp
  simp only[hop,Sem.events_bind,(alz hi87 hz87 _).1,(alz hi87 hz87 _).2,Result.evThen_ok,Sem.events_pure]
 rw[hs4]
 have gb:GB (a4.put (some 4) (.pointer (some ⟨w0.heap.size+3,0,none⟩))) w0.heap.size:=⟨size_put.trans qs4,(ev_put_ne (by decide)).trans p1b,(ev_put_ne (by decide)).trans p3,ev_put_eq (by rw[qs4];decide),defers_put.trans qd4⟩
 generalize a4.put (some 4) (.pointer (some ⟨w0.heap.size+3,0,none⟩))=a5 at *
 have hl:Laid s w0 ((w5.at d5).alloc (wgBlock linkz.tWg 0 0)):=⟨(alloc_size _ _).trans (congrArg (· + 1) hs4),fun b h=>(push_old (H:=w5.heap) (by omega)).trans (ho4 b h),(push_old (H:=w5.heap) (by omega)).trans hx4,(push_old (H:=w5.heap) (by omega)).trans hc4,(push_old (H:=w5.heap) (by omega)).trans hy4,ht4.1,ht4.2.1,ht4.2.2⟩
 have hwg:WgAt linkz.tWg (w0.heap.size+3) ((w5.at d5).alloc (wgBlock linkz.tWg 0 0)) 0 0:=push_new (H:=w5.heap) hs4.symm
 generalize (w5.at d5).alloc (wgBlock linkz.tWg 0 0)=w6 at *
 refine Goes.ctl rfl (fun _=>stepG_region_end) ?_
 refine Goes.ctl rfl (fun _=>stepG_seq (x:= .region 3 (g3 Tryz.f43) false) (y:=D4 Tryz.f43)) ?_
 refine Goes.ctl rfl (fun _=>stepG_region) ?_
 refine Goes.ctl rfl (fun _=>stepG_callz (ops:=g3 Tryz.f43) (i:=0) (rest:=[]) (f:=68) (args:=#[.pointer (some ⟨w0.heap.size+3,0,none⟩),.int .i64 1]) rfl rfl (by decide) rfl (by have h4:=gb.s4;simp only[List.map_toArray,List.map_cons,List.map_nil,h4];rfl)) ?_
 refine Goes.stop fun w₁ h₁=>?_
 obtain⟨d6,rfl⟩:=h₁
 exact⟨a5,gb,rfl,⟨hl.size,hl.old,hl.txt,hl.chan,hl.box,hl.tape,hl.os,hl.output⟩,hwg⟩
end Go.Ren
namespace Go.Ren
open Go Go.Conc
open Go.ConcN (sumTo upd sumTo_upd upd_ne upd_same)
structure PastQ (Q Shun:Loc→Prop) (B d:Nat) (t:Trace):Prop where
 clean:∀ said,¬ Race said t
 known:∀ i a,touchAt t i=some a→a.loc.isMemory=true→Knows t 0 i∨(Shun a.loc∧a.kind= .atomic)
 over:t.HandedOver
 deaf:Deaf t 0=d
 seen:∀ op∈t,op.act.low B
 quiet:∀ i a,touchAt t i=some a→Q a.loc→a.kind≠ .plain∧(a.kind= .said→t.g? i=some 0)
section
variable {Q Shun:Loc→Prop} {B d d':Nat} {t u:Trace}
theorem PastQ.past (h:PastQ Q Shun B 0 t):Past Shun B t:=⟨h.clean,h.known,h.over,h.deaf,h.seen⟩
theorem PastQ.of_past (h:Past Shun B t)(hq:∀ i a,touchAt t i=some a→¬ Q a.loc):PastQ Q Shun B 0 t:=⟨h.clean,h.known,h.over,h.hears,h.seen,fun i a ha hl=>absurd hl (hq i a ha)⟩
theorem PastQ.app0 (h:PastQ Q Shun B d t)(hu:∀ op∈u,op.g=0)(hs:∀ op∈u,∀ b,op.act.touch? =some b→(Shun b.loc∨Q b.loc)→b.kind≠ .plain)(hd:Deaf (t++u) 0=d')(hl:∀ op∈u,op.act.low B):PastQ Q Shun B d' (t++u):=by
 refine⟨fun said=>noRace_append (h.clean said) hu fun i a ha op hop b hb hc=>?_,fun i a ha hm=>?_,handedOver_app h.over fun op hop=> .inl (hu op hop),hd,seen_app h.seen hl,fun i a ha hq=>?_⟩
 ·rcases h.known i a ha hc.2.1 with hk|⟨hsa,hka⟩
  ·exact hk
  ·have hkb:=hs op hop b hb (.inl (hc.1▸hsa))
   obtain⟨_,_,_,hcase⟩:=hc
   rw[hka] at hcase
   rcases hcase with x|x|⟨_,x,_⟩
   ·cases x
   ·exact absurd x hkb
   ·cases x
 ·rcases touch_cases ha with⟨_,ha'⟩|⟨_,op,hop,hx,_⟩
  ·exact(h.known i a ha' hm).imp (·.app u) id
  ·have:=knows_own hx
   rw[hu op hop] at this
   exact .inl this
 ·rcases touch_cases ha with⟨hi,ha'⟩|⟨_,op,hop,hx,hb⟩
  ·rw[g?_old hi];exact h.quiet i a ha' hq
  ·exact⟨hs op hop a hb (.inr hq),fun _=>by simp[Trace.g?,hx,hu op hop]⟩
theorem PastQ.appMute {g:Nat}(h:PastQ Q Shun B d t)(hg:g≠0)(hu:∀ op∈u,op.g=g)(hn:∀ op∈u,op.act.touch? =none)(hl:∀ op∈u,op.act.low B):PastQ Q Shun B d (t++u):=by
 have old:∀ {i a},touchAt (t++u) i=some a→i<t.size∧touchAt t i=some a:=fun ha=>by
  rcases touch_cases ha with h|⟨_,op,hop,_,hx⟩
  ·exact h
  ·rw[hn op hop] at hx;cases hx
 refine⟨fun said=>noRace_append (h.clean said) hu fun i a _ op hop b hb _=>(by rw[hn op hop] at hb;cases hb),fun i a ha hm=>?_,handedOver_app h.over fun op hop=> .inr (hn op hop),(Deaf_other t hg u hu).trans h.deaf,seen_app h.seen hl,fun i a ha hq=>?_⟩
 ·exact(h.known i a (old ha).2 hm).imp (·.app u) id
 ·rw[g?_old (old ha).1];exact h.quiet i a (old ha).2 hq
end
section
variable {P:Program} {Q Shun:Loc→Prop} {B d:Nat} {K:Machine→Trace→Prop} {a:Goroutine}
theorem beside_turn {J:World→Trace→Prop}{n:Nat}(ha:a.status= .running)
 (hJ:∀ w t d ops,J w t→(∃ g,g≠0∧∀ op∈ops,op.g=g)→(∀ op∈ops,op.act.touch? =none∧∀ a,op.act≠ .mark (.release a))→(∀ B,∀ op∈ops,op.act.low B)→J (w.at d) (t++ops))
 (H:∀ gs w sl t q,gs.size=n→Leavers P t gs q→gs[0]? =some a→J w t→∃ m' ops,runT P (crowd gs w sl) 0=(.next m',ops)∧Reach P m' (t++ops) K):
 ∀ gs w sl t q,gs.size=n→Leavers P t gs q→gs[0]? =some a→J w t→Reach P (crowd gs w sl) t K:=by
 intro gs w sl t q hn hL h0 hj
 generalize hM:sumTo n q=M
 induction M using Nat.strongRecOn generalizing gs w sl t q with
 |_ M ih=>
 have haw:∀ g∈gs,awake g:=by
  intro g hg
  obtain⟨i,hi,rfl⟩:=Array.mem_iff_getElem.1 hg
  rcases Nat.eq_zero_or_pos i with rfl|hpos
  ·have:gs[0]=a:=by simpa[Array.getElem?_eq_getElem hi] using h0
   rw[this];exact awake_of (.inl ha)
  ·exact awake_of ((hL.old i _ hpos (Array.getElem?_eq_getElem hi)).status.elim .inl fun x=> .inr (.inr x))
 obtain⟨i,g,dd,sl',hi,hg,hst⟩:=crowd_pick (P:=P) (w:=w) (sl:=sl) haw ⟨0,a,h0,ha⟩
 have hjd:J (w.at dd) t:=by
  have:=hJ w t dd #[] hj ⟨1,by decide,by simp⟩ (by simp) (by simp)
  simpa using this
 rcases Nat.eq_zero_or_pos i with rfl|hpos
 ·obtain⟨m',ops,e,hR⟩:=H gs (w.at dd) sl' t q hn hL h0 hjd
  exact Reach.step (hst.trans e) hR
 ·have hq:=hL.old i g hpos hi
  have hi0:(i==0)=false:=by simp;omega
  have hlt:i<gs.size:=(Array.getElem?_eq_some_iff.1 hi).1
  cases hqi:q i with
  |zero=>rw[hqi] at hq;rw[hq.1] at hg;cases hg
  |succ k=>
   rw[hqi] at hq
   rcases hq with⟨hf,_⟩|⟨_,g',es,hm,hstp,hq'⟩
   ·rw[hf] at hg;cases hg
   have hrunT:=runT_crowd_go (P:=P) (sl:=sl') (i:=i) hi (by rw[hi0];exact hstp (w.at dd))
   have hsum:sumTo n (upd q i k)+(k+1)=sumTo n q+k:=by
    have:=sumTo_upd q k id (hn▸hlt)
    simpa[hqi] using this
   refine Reach.step (hst.trans hrunT) (ih (sumTo n (upd q i k)) (by omega) _ (w.at dd) sl' _ (upd q i k) (by simp[hn]) ⟨fun j x hj hx=>?_,fun j hj=>?_⟩ ?_ (hJ w t dd _ hj ⟨i,by omega,ofEvents_g⟩ (fun op hop=>?_) (fun B op hop=>?_)) rfl)
   ·by_cases hji:i=j
    ·subst hji
     rw[Array.getElem?_setIfInBounds_self_of_lt (by simpa using hlt)] at hx
     obtain rfl:=Option.some.inj hx
     rw[upd_same,Deaf_own]
     exact hq'
    ·rw[Array.getElem?_setIfInBounds_ne hji,Array.getElem?_map] at hx
     obtain⟨y,hy,rfl⟩:=Option.map_eq_some_iff.1 hx
     have hqj:=hL.old j y hj hy
     rw[woken_quitsD hqj,upd_ne q k (Ne.symm hji),Deaf_other t hji _ ofEvents_g]
     exact hqj
   ·rw[Deaf_other t (g':=i) (by simp at hj;omega) _ ofEvents_g]
    exact hL.above j (by simpa using hj)
   ·rw[Array.getElem?_setIfInBounds_ne (by omega),Array.getElem?_map,h0]
    simp[woken_run ha]
   ·obtain⟨e,he,rfl⟩:=Conc.mem_ofEvents hop;exact⟨touch_mute (hm e he),fun a=>mute_norel (hm e he) a⟩
   ·obtain⟨e,he,rfl⟩:=Conc.mem_ofEvents hop;exact low_mute (hm e he) B
theorem leavers_go {t:Trace}{gs:Array Goroutine}{q:Nat→Nat}{a':Goroutine}{w w':World}{sl:Option (Nat×Nat)}{es:Array Event}(hL:Leavers P t gs q)(h0:gs[0]? =some a)(hs:stepG P true a w= .go a' w' es):
 ∃ gs',runT P (crowd gs w sl) 0=(.next (crowd gs' w' sl),MemOp.ofEvents 0 a.frame.fn a.frame.place es)∧gs'.size=gs.size∧Leavers P (t++MemOp.ofEvents 0 a.frame.fn a.frame.place es) gs' q∧gs'[0]? =some a':=by
 have hlt:0<gs.size:=(Array.getElem?_eq_some_iff.1 h0).1
 refine⟨_,runT_crowd_go (P:=P) (sl:=sl) (i:=0) h0 (show stepG P (0==0) a w=_ from hs),by simp,⟨fun j x hj hx=>?_,fun j hj=>?_⟩,by simp[hlt]⟩
 ·rw[Array.getElem?_setIfInBounds_ne (by omega),Array.getElem?_map] at hx
  obtain⟨y,hy,rfl⟩:=Option.map_eq_some_iff.1 hx
  have hq:=hL.old j y hj hy
  rw[woken_quitsD hq,Deaf_other t (by omega) _ ofEvents_g]
  exact hq
 ·rw[Deaf_other t (g':=0) (by simp at hj;omega) _ ofEvents_g]
  exact hL.above j (by simpa using hj)
def At0 (P:Program)(Q Shun:Loc→Prop)(B d n:Nat)(Stop:Goroutine→World→Prop)(m:Machine)(t:Trace):Prop:=
 ∃ gs a w sl q,m=crowd gs w sl∧gs.size=n∧gs[0]? =some a∧(∀ w₁,AtRel w w₁→Stop a w₁)∧Leavers P t gs q∧PastQ Q Shun B d t
theorem goes_beside {D:World→World→Array Event→Prop}{Stop:Goroutine→World→Prop}(hD:∀ w w' es,D w w' es→∀ e∈es,EvL (fun l=>Shun l∨Q l) B e){n:Nat}:∀ (N:Nat) (a:Goroutine) (w:World),Goes P true AtRel D Stop N a w→
 ∀ gs sl t q,gs.size=n→Leavers P t gs q→gs[0]? =some a→PastQ Q Shun B d t→Reach P (crowd gs w sl) t (At0 P Q Shun B d n Stop):=by
 intro N
 induction N with
 |zero=>intro a w hG gs sl t q hn hL h0 hP;exact .here ⟨gs,a,w,sl,q,rfl,hn,h0,hG,hL,hP⟩
 |succ N ih=>
  intro a w hG gs sl t q hn hL h0 hP
  rcases hG with hstop|⟨hrun,hstep⟩
  ·exact .here ⟨gs,a,w,sl,q,rfl,hn,h0,hstop,hL,hP⟩
  refine beside_turn (J:=fun w₁ t=>AtRel w w₁∧PastQ Q Shun B d t) hrun (fun w₁ t dd ops hj ⟨g,hg,hgo⟩ h1 h2=>⟨atRel_trans _ _ _ hj.1 ⟨dd,rfl⟩,hj.2.appMute hg hgo (fun op hop=>(h1 op hop).1) (h2 B)⟩) (fun gs w₁ sl t q hn hL h0 hj=>?_) gs w sl t q hn hL h0 ⟨atRel_refl w,hP⟩
  obtain⟨a',w',es,hgo,hd,hG'⟩:=goes_elim (hstep w₁ hj.1)
  obtain⟨gs',e1,e2,e3,e4⟩:=leavers_go (sl:=sl) hL h0 hgo
  have hev:=hD _ _ _ hd
  refine⟨_,_,e1,ih a' w' hG' gs' sl _ q (e2.trans hn) e3 e4 (hj.2.app0 ofEvents_g (fun op hop b hb hs=>?_) ?_ (fun op hop=>?_))⟩
  ·obtain⟨e,he,rfl⟩:=Conc.mem_ofEvents hop;exact(hev e he).1 b hb hs
  ·rw[Deaf_own,deafBehind_still (fun e he=>⟨(hev e he).2.1,(hev e he).2.2.1⟩)];exact hj.2.deaf
  ·obtain⟨e,he,rfl⟩:=Conc.mem_ofEvents hop;exact(hev e he).2.2.2
theorem mark_beside {mk:Mark}{Next:Goroutine→World→Prop}{n:Nat}(hm:(MemAct.mark mk).touch? =none)(hl:(MemAct.mark mk).low B){gs:Array Goroutine}{a:Goroutine}{w:World}{sl:Option (Nat×Nat)}{t:Trace}{q:Nat→Nat}(hn:gs.size=n)(hL:Leavers P t gs q)(h0:gs[0]? =some a)(hP:PastQ Q Shun B d t)
 (hS:∀ w₁,AtRel w w₁→Go.ConcX.AtMkS P mk Next a w₁):Reach P (crowd gs w sl) t fun m t=>∃ gs a w sl q,m=crowd gs w sl∧gs.size=n∧gs[0]? =some a∧Next a w∧Leavers P t gs q∧PastQ Q Shun B (deafBehind d #[Go.ConcX.mk mk]) t:=by
 refine beside_turn (J:=fun w₁ t=>AtRel w w₁∧PastQ Q Shun B d t) (hS w (atRel_refl w)).1 (fun w₁ t dd ops hj ⟨g,hg,hgo⟩ h1 h2=>⟨atRel_trans _ _ _ hj.1 ⟨dd,rfl⟩,hj.2.appMute hg hgo (fun op hop=>(h1 op hop).1) (h2 B)⟩) (fun gs w₁ sl t q hn hL h0 hj=>?_) gs w sl t q hn hL h0 ⟨atRel_refl w,hP⟩
 obtain⟨_,a',hgo,hnext⟩:=hS w₁ hj.1
 obtain⟨gs',e1,e2,e3,e4⟩:=leavers_go (sl:=sl) hL h0 hgo
 refine⟨_,_,e1,.here ⟨gs',a',w₁,sl,q,rfl,e2.trans hn,e4,hnext,e3,hj.2.app0 ofEvents_g (fun op hop b hb hs=>?_) ?_ (fun op hop=>?_)⟩⟩
 ·obtain⟨e,he,rfl⟩:=Conc.mem_ofEvents hop
  simp at he
  subst he
  rw[show(MemAct.ofEvent (Go.ConcX.mk mk))= .mark mk from rfl,hm] at hb
  cases hb
 ·rw[Deaf_own,hj.2.deaf]
 ·obtain⟨e,he,rfl⟩:=Conc.mem_ofEvents hop
  simp at he
  subst he
  exact hl
end
end Go.Ren
namespace Go.Ren
open Go Go.Conc
open Go.ConcX (KK WgAt)
section
variable {P:Program} {Q Shun Shun':Loc→Prop} {B c:Nat} {ro:Nat→Prop} {t:Trace}
theorem fork_ti (hP:PastQ Q Shun B 0 t)(hsub:∀ l,Shun l→Shun' l)(hro:∀ l,InB ro l→¬ Shun l)(hc0:c≠0)(hcd:Deaf t c=0){x y:MemOp}(hx:x.g=0∧x.act= .go c)(hy:y.g=c∧y.act= .start):
 TI Q Shun' c (fun _=>False) ro B (t++#[x,y])∧∀ g,Deaf (t++#[x,y]) g=Deaf t g:=by
 have e:t++#[x,y]=(t++#[x])++#[y]:=by apply Array.toList_inj.1;simp
 have dx:∀ g,Deaf (t++#[x]) g=Deaf t g:=fun g=>Deaf_comm t g _ fun op hop m=>by simp at hop;subst hop;rw[hx.2];simp
 have dy:∀ g,Deaf (t++#[x]++#[y]) g=Deaf (t++#[x]) g:=fun g=>Deaf_comm _ g _ fun op hop m=>by simp at hop;subst hop;rw[hy.2];simp
 have h1:PastQ Q Shun B 0 (t++#[x]):=hP.app0 (fun op hop=>by simp at hop;subst hop;exact hx.1) (fun op hop b hb=>by simp at hop;subst hop;rw[hx.2] at hb;cases hb) ((dx 0).trans hP.deaf) (fun op hop=>by simp at hop;subst hop;rw[hx.2];trivial)
 have h2:PastQ Q Shun B 0 (t++#[x]++#[y]):=h1.appMute hc0 (fun op hop=>by simp at hop;subst hop;exact hy.1) (fun op hop=>by simp at hop;subst hop;rw[hy.2];rfl) (fun op hop=>by simp at hop;subst hop;rw[hy.2];trivial)
 rw[e]
 refine⟨⟨h2.clean,fun i a ha hm=>(h2.known i a ha hm).imp id fun h=> .inl ⟨hsub _ h.1,h.2⟩,fun i a _ hg=>?_,fun i a ha hr hw=>?_,h2.quiet,fun i g hg h0 _ hcn=>h2.over i g hg h0 hcn,h2.seen⟩,fun g=>(dy g).trans (dx g)⟩
 ·generalize a.loc=l at hg
  cases l<;>exact hg.elim
 ·have hmem:a.loc.isMemory=true:=by
   generalize a.loc=l at hr
   cases l<;>first|rfl|exact hr.elim
  have hold:touchAt t i=some a:=by
   rcases touch_cases ha with⟨hi,ha'⟩|⟨_,op,hop,_,hb⟩
   ·rcases touch_cases ha' with⟨hi',ha''⟩|⟨_,op,hop,_,hb⟩
    ·exact ha''
    ·simp at hop;subst hop;rw[hx.2] at hb;cases hb
   ·simp at hop;subst hop;rw[hy.2] at hb;cases hb
  have hk:Knows t 0 i:=(hP.known i a hold hmem).resolve_right fun h=>hro _ hr h.1
  have gx:(t++#[x])[t.size]? =some x:=by simp
  have gx':(t++#[x]++#[y])[t.size]? =some x:=by rw[getElem?_append_old (by simp)];exact gx
  have gy:(t++#[x]++#[y])[t.size+1]? =some y:=by
   rw[Array.getElem?_append_right (by simp)]
   simp
  have b1:HappensBefore (t++#[x]++#[y]) i t.size:=hb_app _ (hk.hb_new (Nat.le_refl _) gx hx.1)
  have hh1:(t++#[x]++#[y]).heard t.size:=⟨0,by unfold Trace.g?;rw[gx'];simp[hx.1],by
   rw[deaf_old (by simp),deaf_old (Nat.le_refl _)];exact hP.deaf⟩
  have hh2:(t++#[x]++#[y]).heard (t.size+1):=⟨c,by unfold Trace.g?;rw[gy];simp[hy.1],by
   have hs:(t++#[x]).size=t.size+1:=by simp
   rw[←hs,deaf_old (Nat.le_refl _)]
   exact(dx c).trans hcd⟩
  have b2:HappensBefore (t++#[x]++#[y]) t.size (t.size+1):= .single (.inr ⟨.spawn (child:=c) (by rw[act?_of gx',hx.2]) (by rw[act?_of gy,hy.2]) (by unfold Trace.g?;rw[gy];simp[hy.1]),hh1,hh2⟩)
  exact⟨t.size+1,y,gy,hy.1,.inr (b1.trans b2)⟩
theorem fork_beside {n:Nat}(hsub:∀ l,Shun l→Shun' l)(hro:∀ l,InB ro l→¬ Shun l){gs:Array Goroutine}{a a' child:Goroutine}{w:World}{sl:Option (Nat×Nat)}{q:Nat→Nat}(hn:gs.size=n)(hL:Leavers P t gs q)(h0:gs[0]? =some a)(hP:PastQ Q Shun B 0 t)(ha:a.status= .running)
 (hS:∀ w₁,AtRel w w₁→stepG P true a w₁= .spawn a' child w₁ #[]):
 Reach P (crowd gs w sl) t fun m t=>∃ gs w₁ sl q,m=crowd gs w₁ sl∧AtRel w w₁∧Crew P n t gs q∧gs[0]? =some a'∧gs[n]? =some child∧TI Q Shun' n (fun _=>False) ro B t∧Deaf t 0=0∧Deaf t n=0:=by
 refine beside_turn (J:=fun w₁ t=>AtRel w w₁∧PastQ Q Shun B 0 t) ha (fun w₁ t dd ops hj ⟨g,hg,hgo⟩ h1 h2=>⟨atRel_trans _ _ _ hj.1 ⟨dd,rfl⟩,hj.2.appMute hg hgo (fun op hop=>(h1 op hop).1) (h2 B)⟩) (fun gs w₁ sl t q hn hL h0 hj=>?_) gs w sl t q hn hL h0 ⟨atRel_refl w,hP⟩
 have hlt:0<gs.size:=(Array.getElem?_eq_some_iff.1 h0).1
 have hrun:=runT_crowd_spawn (P:=P) (sl:=sl) (i:=0) h0 (show stepG P (0==0) a w₁=_ from hS w₁ hj.1)
 have hcd:Deaf t n=0:=hL.above n (by omega)
 have hops:∀ (x y:MemOp),((MemOp.ofEvents 0 a.frame.fn a.frame.place #[]).push x).push y=#[x,y]:=fun _ _=>rfl
 rw[hops,hn] at hrun
 obtain⟨hT,hD⟩:=fork_ti (c:=n) (x:={ g:=0,fn:=a.frame.fn,pos:=a.frame.place,act:= .go n }) (y:={ g:=n,fn:=child.frame.fn,pos:=a.frame.place,act:= .start }) hj.2 hsub hro (by omega) hcd ⟨rfl,rfl⟩ ⟨rfl,rfl⟩
 refine⟨_,_,hrun,.here ⟨_,w₁,sl,q,rfl,hj.1,⟨by simp[hn],by omega,fun i g h1 h2 hg=>?_,fun j hj'=>?_⟩,?_,?_,hT,(hD 0).trans hj.2.deaf,(hD n).trans hcd⟩⟩
 ·rw[hD i]
  refine hL.old i g h1 ?_
  rw[Array.getElem?_push,if_neg (by simp;omega),Array.getElem?_setIfInBounds_ne (by omega)] at hg
  exact hg
 ·rw[hD j];exact hL.above j (by omega)
 ·rw[Array.getElem?_push_lt (by simp;omega)]
  simp
 ·have:(gs.setIfInBounds 0 a').size=n:=by simp[hn]
  rw[←this,Array.getElem?_push_size]
end
section
variable {P:Program} {ty:TypeId} {Q Shun Shun':Loc→Prop} {ch Wg n:Nat} {ro:Nat→Prop} {z:Value} {w:World} {x y:Pay Wg w.heap.size} {After:(Nat→Prop)→World→Goroutine→World→Prop}
theorem go_join (hY:LayW Q Shun' n ch Wg w.heap.size ro (fun b=>b=ch∨b=Wg))(hsub:∀ l,Shun l→Shun' l)(hxy:x.C≠y.C)(hxS:∀ a:Addr,a.block=x.C→¬ Shun' (.cell a))(hyS:∀ a:Addr,a.block=y.C→¬ Shun' (.cell a))
 {vs:List Value}{gs:Array Goroutine}{sl:Option (Nat×Nat)}{t:Trace}{q:Nat→Nat}{a a' child:Goroutine}(hn:gs.size=n)(hL:Leavers P t gs q)(h0:gs[0]? =some a)(hP:PastQ Q Shun w.heap.size 0 t)(ha:a.status= .running)
 (hS:∀ w₁,AtRel w w₁→stepG P true a w₁= .spawn a' child w₁ #[])(hch:∃ s r tm,w.heap[ch]? =some (.chan 0 #[] false s r tm))(hw:WgAt ty Wg w KK 0)
 (hM:∀ w₁,AtRel w w₁→RecvsW P ro ch z (FinM P ty x y After) vs (fun _=>False) a' w₁)(hG:∀ w₁,AtRel w w₁→SendsW P ro ch (FinC P ty x y) vs (fun _=>False) child w₁):
 Reach P (crowd gs w sl) t fun m t=>∃ w₁,AtRel w w₁∧Joined P Shun' n ch Wg w.heap.size After w₁ m t:=by
 refine(fork_beside (Shun':=Shun') (ro:=ro) hsub (fun l hl hs=>hY.rS l hl (hsub l hs)) hn hL h0 hP ha hS).bind ?_
 rintro m t ⟨gs,w₁,sl,q,rfl,hr,hC,h0,hc,hT,hd0,hdc⟩
 have hheap:w₁.heap=w.heap:=by obtain⟨d,rfl⟩:=hr;rfl
 refine(fork_join hY hxy hxS hyS hC h0 hc (hM w₁ hr) (hG w₁ hr) ⟨by rw[hheap];exact hT,hd0,fun _=>hdc,fun _ h=>h.elim,fun _ h=>h.elim,fun _ h=>h.elim,by rw[hheap];exact Nat.le_refl _,by rw[hheap];exact hch,rfl,rfl,rfl,fun _ _ _=>rfl,rfl⟩ (hw.of_block (by rw[hheap]))).mono fun m t h=>⟨w₁,hr,h⟩
end
end Go.Ren
