import Derived.OneCell
import Derived.Laws.ResultCell
import Derived.Test.YtlhimdjkkiflhaaGreatDoorRet21
import Derived.Test.YtlhimdjkkiflhaaGreatDoorRet29
set_option maxHeartbeats 8000000
set_option maxRecDepth 100000
set_option linter.unusedSectionVars false
open Go renaming undef→Γ,World→Δ,execOp→Θ,Frame→Λ,Value→Ξ,Goroutine→Φ,typeInfo→Ω,Trace→η,Calls→θ,zeroValue→ι
open Array renaming replicate→ζ
namespace Go.Ren
open Go.Proofs.Tryz
open Go Go.Conc Go.ConcX Go.RowKit Go.Conc.Lib Go.ConcX.Gen Go.Proofs Go.Loop
theorem Pr:(prog.info? 132).map (λi=>(i.size,i.zero))=some (1,some (.chan none)):=by kernel_rfl
theorem Yo:(prog.info? 142).map (λi=>i.zero.map λz=>Obj.cells z.cells 142)=some (some (wgBlock cI.tWg 0 0)):=by kernel_rfl
theorem bx (s:ByteArray)(w:Δ):(Instr.box 9 (.string s)).run prog w=.ok (.pointer (some ⟨w.heap.size,0,none⟩)) (w.alloc (.cells #[.string s] 9))∧(Instr.box 9 (.string s)).events prog w #[]=#[]:=by
 constructor
 ·simp[Instr.box,newVar,newRow,go_sem,Ξ.cells]
 ·simp[Instr.box,newVar,newRow,go_sem,Ξ.cells]
theorem mkc (w:Δ):(Instr.makeChan 132 (.int .i64 0)).run prog w=.ok (.chan (some w.heap.size)) (w.alloc (.chan 0 #[] false 0 0 false))∧(Instr.makeChan 132 (.int .i64 0)).events prog w #[]=#[]:=by
 obtain⟨i,hi,he⟩:=zas.1 rh;obtain⟨dir,hu⟩:∃dir,prog.underlying 132=some (.chan dir 131):=⟨_,underlying132⟩;have h1:¬(IntKind.i64.max<0):=by decide
 constructor
 ·simp[Instr.makeChan,run_underlying hu,asInt,asIntOf,Ω,hi]
 ·simp[Instr.makeChan,run_underlying hu,asInt,asIntOf,Ω,hi]
theorem alz {e:TypeId}{i:TypeInfo}{z:Ξ}(hi:prog.info? e=some i)(hz:i.zero=some z)(w:Δ):(Instr.alloc e true (.tuple #[])).run prog w=.ok (.pointer (some ⟨w.heap.size,0,none⟩)) (w.alloc (.cells z.cells e))∧(Instr.alloc e true (.tuple #[])).events prog w #[]=#[]:=by
 constructor
 ·simp[Instr.alloc,ι,Ω,hi,hz,newVar,newRow]
 ·simp[Instr.alloc,ι,Ω,hi,hz,newVar,newRow]
theorem stz {w:Δ}{r c:Nat}(h:w.heap[r]?=some (.cells #[.chan none] 132)):(Instr.storeAt 132 (.pointer (some ⟨r,0,none⟩)) (.chan (some c))).run prog w=.ok () (w.setCell ⟨r,0,none⟩ (.chan (some c)))∧(Instr.storeAt 132 (.pointer (some ⟨r,0,none⟩)) (.chan (some c))).events prog w #[]=#[⟨.cell ⟨r,0,none⟩,true,false⟩]:=by
 obtain⟨i,hi,he⟩:=zas.1 Pr;simp only[zaf]at he;have hc:w.cell? ⟨r,0,none⟩=some (.chan none):=by simp[Δ.cell?,h]
 have hf:w.frozen? ⟨r,0,none⟩=false:=by simp[Δ.frozen?,h]
 constructor
 ·simp[Instr.storeAt,Instr.sureAddr,storeVar,sizeOf,Ω,hi,he.1,Ξ.cells,storeCells,go_sem,hc,hf,Addr.add]
 ·simp[Instr.storeAt,Instr.sureAddr,storeVar,sizeOf,Ω,hi,he.1,Ξ.cells,storeCells,go_sem,hc,hf,Addr.add]
section
variable {P:Program}{Stop:Φ→Δ→Prop}{Z:Loc→Prop}{B n:Nat}{w:Δ}{b:Λ}{a:Act}{ops:Array Oper}{i:Nat}{rest:List Nat}{o:Oper}{kk:List Item}{cs:List Λ}
def DZ (Z:Loc→Prop)(B:Nat)(_ _:Δ)(es:Array Event):Prop:=∀e∈es,EvL Z B e
theorem Goes.ctl {g g':Φ}(hs:g.status=.running)(h:∀w₁,stepG P true g w₁=.go g' w₁ #[])(k:Goes P true AtRel (DZ Z B) Stop n g' w):Goes P true AtRel (DZ Z B) Stop (n+1) g w:=
 Goes.silent atRel_trans (λ_=>by intro e he;simp at he) hs h k
theorem Goes.JU (ho:ops[i]?=some o)(hw:Region.wanted o (yielded ops a.tmps)=true)(hk:b.kind≠.early){dd:Option Tmp}(hdd:o.dst=dd){v:Ξ}{nw:Δ→Δ}(hr:∀d,(Θ a.eval o).run P (w.at d)=.ok (.value v) (nw (w.at d)))(he:∀d,(Θ a.eval o).events P (w.at d) #[]=#[])
 (k:∀d,Goes P true AtRel (DZ Z B) Stop n (G (b.at (a.put dd v) (.inRegion ops rest::kk)) cs) (nw (w.at d))):Goes P true AtRel (DZ Z B) Stop (n+1) (G (b.at a (.inRegion ops (i::rest)::kk)) cs) w:=by
 subst hdd;refine Goes.step rfl λw₁ h₁=>?_;obtain⟨d,rfl⟩:=h₁;rw[stepG_value ho hw hk (hr d),listed_none (he d)];exact⟨λe he=>by simp at he,k d⟩
theorem Goes.opn (ho:ops[i]?=some o)(hw:Region.wanted o (yielded ops a.tmps)=true)(hk:b.kind≠.early){dd:Option Tmp}(hdd:o.dst=dd){nw:Δ→Δ}{es:Array Event}(hr:∀d,(Θ a.eval o).run P (w.at d)=.ok .skip (nw (w.at d)))(he:∀d,(Θ a.eval o).events P (w.at d) #[]=es)(hes:∀e∈es,EvL Z B e)
 (k:∀d,Goes P true AtRel (DZ Z B) Stop n (G (b.at (a.put dd Γ) (.inRegion ops rest::kk)) cs) (nw (w.at d))):Goes P true AtRel (DZ Z B) Stop (n+1) (G (b.at a (.inRegion ops (i::rest)::kk)) cs) w:=by
 subst hdd;refine Goes.step rfl λw₁ h₁=>?_;obtain⟨d,rfl⟩:=h₁;rw[stepG_none ho hw hk (hr d)];refine⟨λe hm=>hes e ?_,k d⟩;unfold listed at hm;rw[he d]at hm;exact mem_seen hm
end
structure Laid (s:List UInt8) (w0 w:Δ):Prop where
 size:w.heap.size=w0.heap.size+4
 old:∀b,b<w0.heap.size→w.heap[b]?=w0.heap[b]?
 txt:w.heap[w0.heap.size]?=some (.cells #[.string ⟨⟨s⟩⟩] 9)
 chan:w.heap[w0.heap.size+1]?=some (.chan 0 #[] false 0 0 false)
 box:w.heap[w0.heap.size+2]?=some (.cells #[.chan (some (w0.heap.size+1))] 132)
 tape:w.tape=w0.tape
 os:w.os=w0.os
 output:w.output=w0.output
structure GB (a:Act) (N:Nat):Prop where
 size:a.tmps.size=20
 s1:a.eval (.tmp 1)=.pointer (some ⟨N,0,none⟩)
 s3:a.eval (.tmp 3)=.pointer (some ⟨N+2,0,none⟩)
 s4:a.eval (.tmp 4)=.pointer (some ⟨N+3,0,none⟩)
 defers:a.defers=[]
def D1 (f:Func):Code:=dC 1 (AG f)
def D2 (f:Func):Code:=dC 2 (AG f)
def D3 (f:Func):Code:=dC 3 (AG f)
def D4 (f:Func):Code:=dC 4 (AG f)
def g0 (f:Func):Array Oper:=bz (cj (AG f))
def g1 (f:Func):Array Oper:=bz (cj (D1 f))
def g2 (f:Func):Array Oper:=bz (cj (D2 f))
def g3 (f:Func):Array Oper:=bz (cj (D3 f))
def g4 (f:Func):Array Oper:=bz (cj (D4 f))
def Yp (f:Func)(a:Act):Λ:=(base 43).at a (.inRegion (g3 f) [0]::.code (D4 f)::[])
def WW (s:List UInt8)(w0:Δ)(cs:List Λ)(g:Φ)(w:Δ):Prop:=
 ∃a,GB a w0.heap.size∧g=G (Λ.enter prog 68 #[.pointer (some ⟨w0.heap.size+3,0,none⟩),.int .i64 1] .normal) (Yp f43 a::cs)∧Laid s w0 w∧WgAt cI.tWg (w0.heap.size+3) w 0 0
theorem aaP:prog.funcs[43]?=some f43:=by kernel_rfl
def Yq (s:List UInt8):Act:=⟨#[.string ⟨⟨s⟩⟩]++ζ 19 Γ,[]⟩
theorem gL {H:Array Obj}{o:Obj}{b:Nat}(h:b<H.size):(H.push o)[b]?=H[b]?:=by rw[zbY,zaa (by omega)]
theorem sI {H:Array Obj}{o:Obj}{b:Nat}(h:b=H.size):(H.push o)[b]?=some o:=by subst h;simp
variable {cs:List Λ}
theorem Ij {Z:Loc→Prop}{B:Nat}(s:List UInt8)(w0:Δ)(hZ:¬Z (.cell ⟨w0.heap.size+2,0,none⟩))(hB:w0.heap.size+2<B):Goes prog true AtRel (DZ Z B) (WW s w0 cs) 19 (G (Λ.enter prog 43 #[.string ⟨⟨s⟩⟩] .normal) cs) w0:=by
 rw[enter_at (P:=prog) (f:=43) (c:=AG f43) #[.string ⟨⟨s⟩⟩] aaP rfl];change Goes _ _ _ _ _ _ (G ((base 43).at (Yq s) [.code (AG f43)]) cs) _;have q0:(Yq s).eval (.tmp 0)=.string ⟨⟨s⟩⟩:=by simp[Yq,Act.eval]
 have qs:(Yq s).tmps.size=20:=by simp[Yq]
 have qd:(Yq s).defers=[]:=rfl;generalize Yq s=a at *;refine Goes.ctl rfl (λ_=>zaV (x:= .region 0 (g0 f43) false) (y:=D1 f43)) ?_;refine Goes.ctl rfl (λ_=>zaW) ?_;refine Goes.JU (ops:=g0 f43) (i:=0) (rest:=[1]) rfl rfl (by decide) (dd:=some 1) rfl (v:= .pointer (some ⟨w0.heap.size,0,none⟩)) (nw:=λw=>w.alloc (.cells #[.string ⟨⟨s⟩⟩] 9)) (λd=>?_) (λd=>?_) (λd=>?_)
 ·have hop:(g0 f43)[0].op=.box 9 (.tmp 0):=rfl;unfold Θ;simp only[hop,q0,zba,(bx _ _).1,zbb,zbd];rfl
 ·have hop:(g0 f43)[0].op=.box 9 (.tmp 0):=rfl;unfold Θ;simp only[hop,q0,Sem.events_bind,(bx _ _).1,(bx _ _).2,Result.evThen_ok,Sem.events_pure]
 have hs1:((w0.at d).alloc (.cells #[.string ⟨⟨s⟩⟩] 9)).heap.size=w0.heap.size+1:=bV _ _;have WO:∀b,b<w0.heap.size→((w0.at d).alloc (.cells #[.string ⟨⟨s⟩⟩] 9)).heap[b]?=w0.heap[b]?:=λb h=>gL (H:=w0.heap) h;have hx1:((w0.at d).alloc (.cells #[.string ⟨⟨s⟩⟩] 9)).heap[w0.heap.size]?=some (.cells #[.string ⟨⟨s⟩⟩] 9):=sI (H:=w0.heap) rfl;have rH:((w0.at d).alloc (.cells #[.string ⟨⟨s⟩⟩] 9)).tape=w0.tape∧((w0.at d).alloc (.cells #[.string ⟨⟨s⟩⟩] 9)).os=w0.os∧((w0.at d).alloc (.cells #[.string ⟨⟨s⟩⟩] 9)).output=w0.output:=⟨rfl,rfl,rfl⟩;generalize (w0.at d).alloc (.cells #[.string ⟨⟨s⟩⟩] 9)=w1 at *;have p1:(a.put (some 1) (.pointer (some ⟨w0.heap.size,0,none⟩))).eval (.tmp 1)=.pointer (some ⟨w0.heap.size,0,none⟩):=bn (by rw[qs];decide);have qs1:(a.put (some 1) (.pointer (some ⟨w0.heap.size,0,none⟩))).tmps.size=20:=size_put.trans qs;have qd1:(a.put (some 1) (.pointer (some ⟨w0.heap.size,0,none⟩))).defers=[]:=cP.trans qd;generalize a.put (some 1) (.pointer (some ⟨w0.heap.size,0,none⟩))=a1 at *;refine Goes.JU (ops:=g0 f43) (i:=1) (rest:=[]) rfl rfl (by decide) (dd:=some 2) rfl (v:= .slice none 0 0) (nw:=λw=>w) (λd=>rfl) (λd=>rfl) (λd1=>?_);have p1':(a1.put (some 2) (.slice none 0 0)).eval (.tmp 1)=.pointer (some ⟨w0.heap.size,0,none⟩):=(aN (by decide)).trans p1;have qs2:(a1.put (some 2) (.slice none 0 0)).tmps.size=20:=size_put.trans qs1;have qd2:(a1.put (some 2) (.slice none 0 0)).defers=[]:=cP.trans qd1;generalize a1.put (some 2) (.slice none 0 0)=a2 at *;replace hs1:(w1.at d1).heap.size=w0.heap.size+1:=hs1;replace WO:∀b,b<w0.heap.size→(w1.at d1).heap[b]?=w0.heap[b]?:=WO;replace hx1:(w1.at d1).heap[w0.heap.size]?=some (.cells #[.string ⟨⟨s⟩⟩] 9):=hx1;replace rH:(w1.at d1).tape=w0.tape∧(w1.at d1).os=w0.os∧(w1.at d1).output=w0.output:=rH;generalize w1.at d1=w2 at *;refine Goes.ctl rfl (λ_=>zaX) ?_;refine Goes.ctl rfl (λ_=>zaV (x:= .region 1 (g1 f43) false) (y:=D2 f43)) ?_;refine Goes.ctl rfl (λ_=>zaW) ?_;refine Goes.JU (ops:=g1 f43) (i:=0) (rest:=[1,2]) rfl rfl (by decide) (dd:=some 7) rfl (v:= .chan (some w2.heap.size)) (nw:=λw=>w.alloc (.chan 0 #[] false 0 0 false)) (λd=>?_) (λd=>?_) (λd2=>?_)
 ·have hop:(g1 f43)[0].op=.makeChan 132 (.const (.int .i64 0)):=rfl;unfold Θ;simp only[hop,Act.eval,zba,(mkc _).1,zbb,zbd];rfl
 ·have hop:(g1 f43)[0].op=.makeChan 132 (.const (.int .i64 0)):=rfl;unfold Θ;simp only[hop,Act.eval,Sem.events_bind,(mkc _).1,(mkc _).2,Result.evThen_ok,Sem.events_pure]
 rw[hs1];have p7:(a2.put (some 7) (.chan (some (w0.heap.size+1)))).eval (.tmp 7)=.chan (some (w0.heap.size+1)):=bn (by rw[qs2];decide);have p1a:(a2.put (some 7) (.chan (some (w0.heap.size+1)))).eval (.tmp 1)=.pointer (some ⟨w0.heap.size,0,none⟩):=(aN (by decide)).trans p1';have qs3:(a2.put (some 7) (.chan (some (w0.heap.size+1)))).tmps.size=20:=size_put.trans qs2;have qd3:(a2.put (some 7) (.chan (some (w0.heap.size+1)))).defers=[]:=cP.trans qd2;generalize a2.put (some 7) (.chan (some (w0.heap.size+1)))=a3 at *;have hs2:((w2.at d2).alloc (.chan 0 #[] false 0 0 false)).heap.size=w0.heap.size+2:=(bV _ _).trans (zak (· + 1) hs1);have ho2:∀b,b<w0.heap.size→((w2.at d2).alloc (.chan 0 #[] false 0 0 false)).heap[b]?=w0.heap[b]?:=λb h=>(gL (H:=w2.heap) (by omega)).trans (WO b h);have hx2:((w2.at d2).alloc (.chan 0 #[] false 0 0 false)).heap[w0.heap.size]?=some (.cells #[.string ⟨⟨s⟩⟩] 9):=(gL (H:=w2.heap) (by omega)).trans hx1;have hc2:((w2.at d2).alloc (.chan 0 #[] false 0 0 false)).heap[w0.heap.size+1]?=some (.chan 0 #[] false 0 0 false):=sI (H:=w2.heap) hs1.symm;have ht2:((w2.at d2).alloc (.chan 0 #[] false 0 0 false)).tape=w0.tape∧((w2.at d2).alloc (.chan 0 #[] false 0 0 false)).os=w0.os∧((w2.at d2).alloc (.chan 0 #[] false 0 0 false)).output=w0.output:=rH;generalize (w2.at d2).alloc (.chan 0 #[] false 0 0 false)=w3 at *;obtain⟨i77,Yr,T7⟩:=zas.1 Pr;simp only[zaf]at T7;refine Goes.JU (ops:=g1 f43) (i:=1) (rest:=[2]) rfl rfl (by decide) (dd:=some 3) rfl (v:= .pointer (some ⟨w3.heap.size,0,none⟩)) (nw:=λw=>w.alloc (.cells #[.chan none] 132)) (λd=>?_) (λd=>?_) (λd3=>?_)
 ·have hop:(g1 f43)[1].op=.alloc 132:=rfl;unfold Θ;simp only[hop,zba,(alz Yr T7.2 _).1,zbb,zbd];rfl
 ·have hop:(g1 f43)[1].op=.alloc 132:=rfl;unfold Θ;simp only[hop,Sem.events_bind,(alz Yr T7.2 _).1,(alz Yr T7.2 _).2,Result.evThen_ok,Sem.events_pure]
 rw[hs2];have p3:(a3.put (some 3) (.pointer (some ⟨w0.heap.size+2,0,none⟩))).eval (.tmp 3)=.pointer (some ⟨w0.heap.size+2,0,none⟩):=bn (by rw[qs3];decide);have p7b:(a3.put (some 3) (.pointer (some ⟨w0.heap.size+2,0,none⟩))).eval (.tmp 7)=.chan (some (w0.heap.size+1)):=(aN (by decide)).trans p7;have p1b:(a3.put (some 3) (.pointer (some ⟨w0.heap.size+2,0,none⟩))).eval (.tmp 1)=.pointer (some ⟨w0.heap.size,0,none⟩):=(aN (by decide)).trans p1a;have qs4:(a3.put (some 3) (.pointer (some ⟨w0.heap.size+2,0,none⟩))).tmps.size=20:=size_put.trans qs3;have qd4:(a3.put (some 3) (.pointer (some ⟨w0.heap.size+2,0,none⟩))).defers=[]:=cP.trans qd3;generalize a3.put (some 3) (.pointer (some ⟨w0.heap.size+2,0,none⟩))=a4 at *;have hs3:((w3.at d3).alloc (.cells #[.chan none] 132)).heap.size=w0.heap.size+3:=(bV _ _).trans (zak (· + 1) hs2);have ho3:∀b,b<w0.heap.size→((w3.at d3).alloc (.cells #[.chan none] 132)).heap[b]?=w0.heap[b]?:=λb h=>(gL (H:=w3.heap) (by omega)).trans (ho2 b h);have hx3:((w3.at d3).alloc (.cells #[.chan none] 132)).heap[w0.heap.size]?=some (.cells #[.string ⟨⟨s⟩⟩] 9):=(gL (H:=w3.heap) (by omega)).trans hx2;have hc3:((w3.at d3).alloc (.cells #[.chan none] 132)).heap[w0.heap.size+1]?=some (.chan 0 #[] false 0 0 false):=(gL (H:=w3.heap) (by omega)).trans hc2;have hy3:((w3.at d3).alloc (.cells #[.chan none] 132)).heap[w0.heap.size+2]?=some (.cells #[.chan none] 132):=sI (H:=w3.heap) hs2.symm;have ht3:((w3.at d3).alloc (.cells #[.chan none] 132)).tape=w0.tape∧((w3.at d3).alloc (.cells #[.chan none] 132)).os=w0.os∧((w3.at d3).alloc (.cells #[.chan none] 132)).output=w0.output:=ht2;generalize (w3.at d3).alloc (.cells #[.chan none] 132)=w4 at *;refine Goes.opn (ops:=g1 f43) (i:=2) (rest:=[]) rfl rfl (by decide) (dd:=none) rfl (nw:=λw=>w.setCell ⟨w0.heap.size+2,0,none⟩ (.chan (some (w0.heap.size+1)))) (es:=#[⟨.cell ⟨w0.heap.size+2,0,none⟩,true,false⟩]) (λd=>?_) (λd=>?_) (λe he=>?_) (λd4=>?_)
 ·have hop:(g1 f43)[2].op=.store 132 (.tmp 3) (.tmp 7):=rfl;have hq:(w4.at d).heap[w0.heap.size+2]?=some (.cells #[.chan none] 132):=hy3;unfold Θ;simp only[hop,p3,p7b,zba,(stz hq).1,zbb,zbd]
 ·have hop:(g1 f43)[2].op=.store 132 (.tmp 3) (.tmp 7):=rfl;have hq:(w4.at d).heap[w0.heap.size+2]?=some (.cells #[.chan none] 132):=hy3;unfold Θ;simp only[hop,p3,p7b,Sem.events_bind,(stz hq).1,(stz hq).2,Result.evThen_ok,Sem.events_pure]
 ·simp only[zca,zal,zcb,or_false]at he;subst he;refine⟨λx hx hz=>?_,by simp,by simp,?_⟩
  ·simp only[MemAct.ofEvent,MemAct.touch?]at hx;cases hx;exact absurd hz hZ
  ·exact hB
 rw[xI];have NB:((w4.at d4).setCell ⟨w0.heap.size+2,0,none⟩ (.chan (some (w0.heap.size+1)))).heap.size=w0.heap.size+3:=by
  show(Array.modify w4.heap _ _).size=_;rw[Array.size_modify];exact hs3
 have ho4:∀b,b<w0.heap.size→((w4.at d4).setCell ⟨w0.heap.size+2,0,none⟩ (.chan (some (w0.heap.size+1)))).heap[b]?=w0.heap[b]?:=λb h=>(zax _ _ _ b (by show b≠w0.heap.size+2;omega)).trans (ho3 b h);have hx4:((w4.at d4).setCell ⟨w0.heap.size+2,0,none⟩ (.chan (some (w0.heap.size+1)))).heap[w0.heap.size]?=some (.cells #[.string ⟨⟨s⟩⟩] 9):=(zax _ _ _ _ (by show w0.heap.size≠w0.heap.size+2;omega)).trans hx3;have hc4:((w4.at d4).setCell ⟨w0.heap.size+2,0,none⟩ (.chan (some (w0.heap.size+1)))).heap[w0.heap.size+1]?=some (.chan 0 #[] false 0 0 false):=(zax _ _ _ _ (by show w0.heap.size+1≠w0.heap.size+2;omega)).trans hc3;have hy4:((w4.at d4).setCell ⟨w0.heap.size+2,0,none⟩ (.chan (some (w0.heap.size+1)))).heap[w0.heap.size+2]?=some (.cells #[.chan (some (w0.heap.size+1))] 132):=one_setCell (w:=w4.at d4) hy3;have ht4:((w4.at d4).setCell ⟨w0.heap.size+2,0,none⟩ (.chan (some (w0.heap.size+1)))).tape=w0.tape∧((w4.at d4).setCell ⟨w0.heap.size+2,0,none⟩ (.chan (some (w0.heap.size+1)))).os=w0.os∧((w4.at d4).setCell ⟨w0.heap.size+2,0,none⟩ (.chan (some (w0.heap.size+1)))).output=w0.output:=ht3;generalize (w4.at d4).setCell ⟨w0.heap.size+2,0,none⟩ (.chan (some (w0.heap.size+1)))=w5 at *;refine Goes.ctl rfl (λ_=>zaX) ?_;refine Goes.ctl rfl (λ_=>zaV (x:= .region 2 (g2 f43) false) (y:=D3 f43)) ?_;refine Goes.ctl rfl (λ_=>zaW) ?_;obtain⟨i87,Ys,adi⟩:=zas.1 Yo;obtain⟨z87,Yt,aaQ⟩:=zas.1 adi;refine Goes.JU (ops:=g2 f43) (i:=0) (rest:=[]) rfl rfl (by decide) (dd:=some 4) rfl (v:= .pointer (some ⟨w5.heap.size,0,none⟩)) (nw:=λw=>w.alloc (wgBlock cI.tWg 0 0)) (λd=>?_) (λd=>?_) (λd5=>?_)
 ·have hop:(g2 f43)[0].op=.alloc 142:=rfl;unfold Θ;simp only[hop,zba,(alz Ys Yt _).1,zbb,zbd,aaQ];rfl
 ·have hop:(g2 f43)[0].op=.alloc 142:=rfl;unfold Θ;simp only[hop,Sem.events_bind,(alz Ys Yt _).1,(alz Ys Yt _).2,Result.evThen_ok,Sem.events_pure]
 rw[NB];have gb:GB (a4.put (some 4) (.pointer (some ⟨w0.heap.size+3,0,none⟩))) w0.heap.size:=⟨size_put.trans qs4,(aN (by decide)).trans p1b,(aN (by decide)).trans p3,bn (by rw[qs4];decide),cP.trans qd4⟩;generalize a4.put (some 4) (.pointer (some ⟨w0.heap.size+3,0,none⟩))=a5 at *;have hl:Laid s w0 ((w5.at d5).alloc (wgBlock cI.tWg 0 0)):=⟨(bV _ _).trans (zak (· + 1) NB),λb h=>(gL (H:=w5.heap) (by omega)).trans (ho4 b h),(gL (H:=w5.heap) (by omega)).trans hx4,(gL (H:=w5.heap) (by omega)).trans hc4,(gL (H:=w5.heap) (by omega)).trans hy4,ht4.1,ht4.2.1,ht4.2.2⟩;have Hm:WgAt cI.tWg (w0.heap.size+3) ((w5.at d5).alloc (wgBlock cI.tWg 0 0)) 0 0:=sI (H:=w5.heap) NB.symm;generalize (w5.at d5).alloc (wgBlock cI.tWg 0 0)=w6 at *;refine Goes.ctl rfl (λ_=>zaX) ?_;refine Goes.ctl rfl (λ_=>zaV (x:= .region 3 (g3 f43) false) (y:=D4 f43)) ?_;refine Goes.ctl rfl (λ_=>zaW) ?_;refine Goes.ctl rfl (λ_=>jI (ops:=g3 f43) (i:=0) (rest:=[]) (f:=68) (args:=#[.pointer (some ⟨w0.heap.size+3,0,none⟩),.int .i64 1]) rfl rfl (by decide) rfl (by have h4:=gb.s4;simp only[zbR,zaB,zbt,h4];rfl)) ?_;refine Goes.stop λw₁ h₁=>?_;obtain⟨d6,rfl⟩:=h₁;exact⟨a5,gb,rfl,⟨hl.size,hl.old,hl.txt,hl.chan,hl.box,hl.tape,hl.os,hl.output⟩,Hm⟩
end Go.Ren
set_option linter.unusedSectionVars false
namespace Go.Ren
open Go.Proofs.Tryz
open Go Go.Conc Go.ConcX Go.RowKit Go.Conc.Lib Go.ConcX.Gen Go.Proofs Go.Loop
theorem LZ (Wg:Nat):Λ.enter prog 68 #[.pointer (some ⟨Wg,0,none⟩),.int .i64 1] .normal=(base cI.add).at ⟨#[.pointer (some ⟨Wg,0,none⟩),.int .i64 1,Γ,Γ,Γ,Γ,Γ,Γ,Γ,Γ,Γ,Γ,Γ,Γ,Γ,Γ,Γ,Γ,Γ,Γ,Γ,Γ,Γ,Γ,Γ,Γ,Γ,Γ,Γ,Γ,Γ,Γ,Γ,Γ,Γ,Γ,Γ,Γ,Γ,Γ,Γ,Γ,Γ,Γ,Γ,Γ,Γ,Γ,Γ,Γ,Γ,Γ,Γ,Γ,Γ,Γ,Γ,Γ,Γ,Γ,Γ,Γ,Γ,Γ,Γ,Γ,Γ,Γ,Γ,Γ,Γ,Γ,Γ,Γ,Γ,Γ,Γ,Γ,Γ,Γ,Γ,Γ,Γ,Γ,Γ,Γ,Γ,Γ,Γ,Γ,Γ,Γ,Γ,Γ,Γ,Γ,Γ,Γ,Γ,Γ,Γ,Γ,Γ,Γ,Γ,Γ,Γ,Γ,Γ,Γ,Γ,Γ,Γ,Γ,Γ,Γ,Γ],[]⟩ [.code (body_add cI)]:=by
 rw[enter_at (P:=prog) (f:=68) (c:=body_add cI) #[.pointer (some ⟨Wg,0,none⟩),.int .i64 1] O0 (by kernel_rfl)];have:(#[Ξ.pointer (some ⟨Wg,0,none⟩),.int .i64 1]++ζ ((addFn cI).ntmps - (#[Ξ.pointer (some ⟨Wg,0,none⟩),.int .i64 1]:Array Ξ).size) Γ)=#[.pointer (some ⟨Wg,0,none⟩),.int .i64 1,Γ,Γ,Γ,Γ,Γ,Γ,Γ,Γ,Γ,Γ,Γ,Γ,Γ,Γ,Γ,Γ,Γ,Γ,Γ,Γ,Γ,Γ,Γ,Γ,Γ,Γ,Γ,Γ,Γ,Γ,Γ,Γ,Γ,Γ,Γ,Γ,Γ,Γ,Γ,Γ,Γ,Γ,Γ,Γ,Γ,Γ,Γ,Γ,Γ,Γ,Γ,Γ,Γ,Γ,Γ,Γ,Γ,Γ,Γ,Γ,Γ,Γ,Γ,Γ,Γ,Γ,Γ,Γ,Γ,Γ,Γ,Γ,Γ,Γ,Γ,Γ,Γ,Γ,Γ,Γ,Γ,Γ,Γ,Γ,Γ,Γ,Γ,Γ,Γ,Γ,Γ,Γ,Γ,Γ,Γ,Γ,Γ,Γ,Γ,Γ,Γ,Γ,Γ,Γ,Γ,Γ,Γ,Γ,Γ,Γ,Γ,Γ,Γ,Γ,Γ]:=by kernel_rfl
 rw[this]
variable {cs:List Λ}{N:Nat}
def AtGo (s:List UInt8)(w0:Δ)(cs:List Λ)(g:Φ)(w:Δ):Prop:=
 ∃a,GB a w0.heap.size∧a.eval (.tmp 9)=.func (.func 69) #[] #[.pointer (some ⟨w0.heap.size+3,0,none⟩),.pointer (some ⟨w0.heap.size,0,none⟩),.pointer (some ⟨w0.heap.size+2,0,none⟩)]∧
  g=G ((base 43).at a (.inRegion (g4 f43) [1]::.code (D5 f43)::[])) cs∧Laid s w0 w∧WgAt cI.tWg (w0.heap.size+3) w KK 0
theorem CY {Wg C Low:Nat}(hW:Wg<Low)(hC:C<Low){Z:Loc→Prop}(hZ:∀a:Addr,a.block=C→¬Z (.cell a)){w w':Δ}{es:Array Event}(h:@DE (@EvS Wg C (ml Wg C Low nV hW hC)) w w' es):∀e∈es,EvL Z Low e:=by
 intro e he;obtain⟨h1,h2,h3,h4,h5,h6⟩:=h e he;have h6':okR Wg C Low (MemAct.ofEvent e):=h6;refine⟨λx hx hz=>?_,?_,?_,h6'.2⟩
 ·obtain⟨a,ha,hb⟩:=h6'.1 x hx;rcases hb with hb|hb
  ·exact(h1 x hx).1 (.inl ⟨a,ha,hb⟩)
  ·rw[ha]at hz;exact absurd hz (hZ a hb)
 ·intro e';exact h4 (by obtain⟨loc,wr,sy⟩:=e;simp only at e';subst e';rfl)
 ·intro e';exact h5 (by obtain⟨loc,wr,sy⟩:=e;simp only at e';subst e';rfl)
theorem Laid.aaS {s:List UInt8}{w0 w:Δ}(h:Laid s w0 w)(v:Ξ):Laid s w0 (w.setCell (stA (w0.heap.size+3)) v):=by
 have hb:∀b,b≠w0.heap.size+3→(w.setCell (stA (w0.heap.size+3)) v).heap[b]?=w.heap[b]?:=λb hb=>zax _ _ _ b hb;refine⟨?_,λb hlt=>(hb b (by omega)).trans (h.old b hlt),(hb _ (by omega)).trans h.txt,(hb _ (by omega)).trans h.chan,(hb _ (by omega)).trans h.box,h.tape,h.os,h.output⟩;show(Array.modify w.heap _ _).size=_;rw[Array.size_modify];exact h.size
theorem Laid.at {s:List UInt8}{w0 w:Δ}(h:Laid s w0 w)(d:Nat):Laid s w0 (w.at d):=⟨h.size,h.old,h.txt,h.chan,h.box,h.tape,h.os,h.output⟩
theorem GB.put {a:Act}{N:Nat}(h:GB a N){t:Tmp}{v:Ξ}(h1:t≠1)(h3:t≠3)(h4:t≠4):GB (a.put (some t) v) N:=
 ⟨size_put.trans h.size,(aN h1).trans h.s1,(aN h3).trans h.s3,(aN h4).trans h.s4,cP.trans h.defers⟩
theorem Pt (s:List UInt8)(w0:Δ)(g:Φ)(w:Δ)(h:WW s w0 cs g w)(hW:w0.heap.size+3<w0.heap.size+4)(hC:w0.heap.size<w0.heap.size+4):letI:=ml (w0.heap.size+3) w0.heap.size (w0.heap.size+4) nV hW hC
 Goes prog true AtRel (DE (EvS (w0.heap.size+3) w0.heap.size)) (AtMkS prog .disable λa w=>∃n,Goes prog true AtRel (DE (EvS (w0.heap.size+3) w0.heap.size)) (AtMkS prog .enable λa w=>∃n,Goes prog true AtRel (DE (EvS (w0.heap.size+3) w0.heap.size)) (AtGo s w0 cs) n a w) n a w) 12 g w:=by
 letI:=ml (w0.heap.size+3) w0.heap.size (w0.heap.size+4) nV hW hC
 obtain⟨a,hg,rfl,hl,Hm⟩:=h;rw[LZ];refine addPos (L:=cI) (b₀:=base 43) (a₀:=a) (ops₀:=g3 f43) (i₀:=0) (rest₀:=[]) (k₀:=[.code (D4 f43)]) (mT:=4) wgz w Hm ?_;have hl':=hl.aaS (.int .u64 KK);have adl:WgAt cI.tWg (w0.heap.size+3) (w.setCell (stA (w0.heap.size+3)) (.int .u64 KK)) KK 0:=Hm.setSt KK;generalize w.setCell (stA (w0.heap.size+3)) (.int .u64 KK)=w1 at *;change Goes _ _ _ _ _ _ (G ((base 43).at (a.put (some 8) (.tuple #[])) (.inRegion (g3 f43) []::.code (D4 f43)::[])) cs) _;have hg1:=hg.put (t:=8) (v:= .tuple #[]) (by decide) (by decide) (by decide);generalize a.put (some 8) (.tuple #[])=a1 at *;refine Goes.silent atRel_trans (λ_=>by intro e he;simp at he) rfl (λ_=>zaX) ?_;refine Goes.silent atRel_trans (λ_=>by intro e he;simp at he) rfl (λ_=>zaV (x:= .region 4 (g4 f43) false) (y:=D5 f43)) ?_;refine Goes.silent atRel_trans (λ_=>by intro e he;simp at he) rfl (λ_=>zaW) ?_;refine Goes.silent (g':=G ((base 43).at (a1.put (some 9) (.func (.func 69) #[] #[.pointer (some ⟨w0.heap.size+3,0,none⟩),.pointer (some ⟨w0.heap.size,0,none⟩),.pointer (some ⟨w0.heap.size+2,0,none⟩)])) (.inRegion (g4 f43) [1]::.code (D5 f43)::[])) cs) atRel_trans (λ_=>by intro e he;simp at he) rfl (λw₁=>?_) ?_
 ·have hop:(g4 f43)[0].op=.makeFunc (.func 69) #[] #[.tmp 4,.tmp 1,.tmp 3]:=rfl;have hr:(Θ a1.eval (g4 f43)[0]).run prog w₁=.ok (.value (.func (.func 69) #[] #[.pointer (some ⟨w0.heap.size+3,0,none⟩),.pointer (some ⟨w0.heap.size,0,none⟩),.pointer (some ⟨w0.heap.size+2,0,none⟩)])) w₁:=by
   unfold Θ;simp[hop,Instr.makeFunc,hg1.s1,hg1.s3,hg1.s4]
  have he:(Θ a1.eval (g4 f43)[0]).events prog w₁ #[]=#[]:=by
   unfold Θ;simp[hop,Instr.makeFunc]
  have hq:=stepG_value (P:=prog) (main:=true) (b:=base 43) (k:=[.code (D5 f43)]) (cs:=cs) (ops:=g4 f43) (i:=0) (rest:=[1]) rfl rfl (by decide) hr;rw[listed_none he]at hq;exact hq
 ·refine Goes.stop λw₁ h₁=>?_;obtain⟨d,rfl⟩:=h₁;exact⟨_,hg1.put (by decide) (by decide) (by decide),bn (by rw[hg1.size];decide),rfl,hl'.at d,adl⟩
def QG (N:Nat)(l:Loc):Prop:=l=.obj (N+1)∨∃a:Addr,l=.cell a∧a.block=N+3
def WX (N:Nat)(b:Nat):Prop:=b=N∨b=N+2
theorem Pu {a:Act}{N:Nat}(h9:a.eval (.tmp 9)=.func (.func 69) #[] #[.pointer (some ⟨N+3,0,none⟩),.pointer (some ⟨N,0,none⟩),.pointer (some ⟨N+2,0,none⟩)])(w:Δ):stepG prog true (G ((base 43).at a (.inRegion (g4 f43) [1]::.code (D5 f43)::[])) cs) w=.spawn (G ((base 43).at a (.inRegion (g4 f43) []::.code (D5 f43)::[])) cs) (born prog (uk (N+3) N (N+2))) w #[]:=by
 have hop:(g4 f43)[1].op=.go { callee:= .value (.tmp 9),args:=#[],argTypes:=#[] }:=rfl;have hr:(Θ a.eval (g4 f43)[1]).run prog w=.ok (.spawn (uk (N+3) N (N+2))) w:=by
  unfold Θ;simp[hop,resolve,h9,Deferred.ofValue,uk]
 have he:(Θ a.eval (g4 f43)[1]).events prog w #[]=#[]:=by
  unfold Θ;simp[hop,resolve,h9,Deferred.ofValue]
 have hq:=stepG_spawn (P:=prog) (main:=true) (b:=base 43) (k:=[.code (D5 f43)]) (cs:=cs) (ops:=g4 f43) (i:=1) (rest:=[]) rfl rfl (by decide) hr rfl;rw[listed_none he]at hq;exact hq
theorem CZ {Low:Nat}{x y:uh (N+3) Low}(hx:x.C=N)(hy:y.C=N+2){a:Act}(hg:GB a N){ts:List Tok}(hts:ts.length≤1000000){W:Δ}(hb:prog.globals.size≤W.heap.size)(hsz:N+4≤W.heap.size)(adm:W.heap[N+2]?=some (.cells #[.chan (some (N+1))] 132)):lR prog (WX N) (N+1) (cg um) (OZ prog cI.tWg x y (CX (WX N) x.C y.C (N+3) (N+1) ts cs)) (ts.map cg) (λ_=>False) (G ((base 43).at a (.inRegion (g4 f43) []::.code (D5 f43)::[])) cs) W:=by
 rw[cQ];refine af.silent rfl (λ_=>zaX) ?_;refine af.silent rfl (λ_=>zaV (x:= .region 5 (g5 f43) false) (y:=D6 f43)) ?_;refine af.silent rfl (λ_=>zaW) ?_;refine af.mv (ops:=g5 f43) (i:=0) (rest:=[]) rfl rfl (by decide) (dd:=some 5) rfl (.inr rfl) (v:= .slice none 0 0) rfl ?_;have hg1:=hg.put (t:=5) (v:= .slice none 0 0) (by decide) (by decide) (by decide);have k5:(a.put (some 5) (.slice none 0 0)).eval (.tmp 5)=.slice none 0 0:=bn (by rw[hg.size];decide);generalize a.put (some 5) (.slice none 0 0)=a1 at *;refine af.silent rfl (λ_=>zaX) ?_;refine af.silent rfl (λ_=>zaV (x:=cj (D6 f43)) (y:=D10 f43)) ?_;refine af.silent rfl (λ_=>zaV (x:= .region 6 (g6 f43) false) (y:= .block 0 (.loop (Lg f43)))) ?_;refine af.silent rfl (λ_=>zaW) ?_;refine af.Ib (ops:=g6 f43) (i:=0) (rest:=[]) rfl rfl (by decide) (dd:=some 10) rfl (e:=132) (x:= .tmp 3) rfl (ad:=⟨N+2,0,none⟩) hg1.s3 (.inr rfl) (v:= .chan (some (N+1))) (cell_of_one adm) (λw h=>Po (.inr rfl) w _ h) ?_;have hga:GtA (a1.put (some 10) (.chan (some (N+1)))) x.C y.C (N+3) (N+1):=⟨size_put.trans hg1.size,by rw[hx];exact(aN (by decide)).trans hg1.s1,by rw[hy];exact(aN (by decide)).trans hg1.s3,(aN (by decide)).trans hg1.s4,bn (by rw[hg1.size];decide),cP.trans hg1.defers⟩;have k5':(a1.put (some 10) (.chan (some (N+1)))).eval (.tmp 5)=.slice none 0 0:=(aN (by decide)).trans k5;generalize a1.put (some 10) (.chan (some (N+1)))=a2 at *;refine af.silent rfl (λ_=>zaX) ?_;refine af.silent rfl (λ_=>stepG_block) ?_;refine af.silent rfl (λ_=>stepG_loop) ?_;have hH:qc (WX N) (λ_=>False) W:=⟨λb hb=>by rcases hb with h|h|h<;>first|exact h.elim|omega,λ_ _ h=>h⟩;have hA:=At.empty (P:=prog) (S:=Sc) hH hb;have hGR:GR (WX N) x.C y.C (N+3) (N+1) [] (λ_=>False) a2 W:=⟨hga,_,_,.slice none 0 0,hA,by rw[k5'];simp[rv],by unfold Cl;simp[rv],zck _ _ _ _⟩;have:=LY (cs:=cs) (Fin:=OZ prog cI.tWg x y (CX (WX N) x.C y.C (N+3) (N+1) ts cs)) ts [] (λ_=>False) a2 W hGR (by simpa using hts) (λown a W h=>Ii (by simpa using h));rw[cQ]at this;exact this
end Go.Ren
set_option linter.unusedSectionVars false
namespace Go.Ren
open Go.Proofs.Tryz
open Go Go.Conc Go.ConcX Go.RowKit Go.Conc.Lib Go.ConcX.Gen Go.Proofs Go.Loop
variable {c:Λ}{cs:List Λ}
theorem L3 {Z:Loc→Prop}{B:Nat}{a:Act}(hd:a.defers=[])(hs:a.tmps.size=20){v:Ξ}(h5:a.eval (.tmp 5)=v)(w:Δ):Goes prog true AtRel (DZ Z B) (λg w'=>g=G (c.finish v) cs∧AtRel w w') 8 (Bx f43 a (c::cs)) w:=by
 unfold Bx;have h5':(a.put (some 18) (.tuple #[])).eval (.tmp 5)=v:=(aN (by decide)).trans h5;have hs':(a.put (some 18) (.tuple #[])).tmps.size=20:=size_put.trans hs;have hd':(a.put (some 18) (.tuple #[])).defers=[]:=cP.trans hd;generalize a.put (some 18) (.tuple #[])=a1 at *;refine Goes.ctl rfl (λ_=>zaX) ?_;refine Goes.ctl rfl (λ_=>zaV (x:= .region 11 (g11 f43) false) (y:= .ret)) ?_;refine Goes.ctl rfl (λ_=>zaW) ?_;refine Goes.JU (ops:=g11 f43) (i:=0) (rest:=[1]) rfl rfl (by decide) (dd:=some 19) rfl (v:=v) (nw:=λw=>w) (λd=>?_) (λd=>rfl) (λd=>?_)
 ·show(pure (.value (a1.eval (.tmp 5))):Sem Next).run prog _=_;rw[h5'];rfl
 have h19:(a1.put (some 19) v).eval (.tmp 19)=v:=bn (by rw[hs'];decide);have hs2:(a1.put (some 19) v).tmps.size=20:=size_put.trans hs';have hd2:(a1.put (some 19) v).defers=[]:=cP.trans hd';generalize a1.put (some 19) v=a2 at *;refine Goes.JU (ops:=g11 f43) (i:=1) (rest:=[]) rfl rfl (by decide) (dd:=some 2) rfl (v:=v) (nw:=λw=>w) (λd=>?_) (λd=>rfl) (λd1=>?_)
 ·show(pure (.value (a2.eval (.tmp 19))):Sem Next).run prog _=_;rw[h19];rfl
 have h2:(a2.put (some 2) v).eval (.tmp 2)=v:=bn (by rw[hs2];decide);have hd3:(a2.put (some 2) v).defers=[]:=cP.trans hd2;generalize a2.put (some 2) v=a3 at *;refine Goes.ctl rfl (λ_=>zaX) ?_;refine Goes.ctl rfl (λ_=>stepG_ret') ?_;refine Goes.ctl (g':=G (c.finish v) cs) rfl (λw₁=>?_) ?_
 ·refine stepG_leave (fn:=f43) rfl hd3 aaP ?_ ?_
  ·have jA:a3.tmps.getD 2 Γ=v:=h2;unfold results;rw[show f43.results=#[.tmp 2] from rfl];simp[←jA,go_sem]
  ·unfold results;rw[show f43.results=#[.tmp 2] from rfl];simp[go_sem]
 ·refine Goes.stop λw₁ h₁=>⟨rfl,?_⟩;exact atRel_trans _ _ _ (atRel_trans _ _ _ ⟨d,rfl⟩ ⟨d1,rfl⟩) h₁
def E4 (Shun:Loc→Prop)(ts:List Tok)(c:Λ)(cs:List Λ)(n:Nat)(w0:Δ)(m:Machine)(t:η):Prop:=
 ∃(gs:Array Φ) (W:Δ) (sl:Option (Nat×Nat)) (q:Nat→Nat) (ρ:Rn) (w:Δ) (v:Ξ) (Shun':Loc→Prop),m=crowd gs W sl∧gs.size=n+1∧gs[0]?=some (G (c.finish (rv ρ v)) cs)∧Leavers prog t gs q∧Past Shun' W.heap.size t∧
  (∀l,Shun' l→l.low W.heap.size)∧(∀l,l.low w0.heap.size→Shun' l→Shun l)∧(∀l,jS (Touch Sc.d ρ w) l→¬Shun' l)∧
  ja prog Sc ρ w W∧Cl prog Sc w v∧w.ownsRow prog.globals.size 131 7 v ts.length (ts.flatMap λt=>(eH t).toList)∧(∀b,Touch Sc.d ρ w b→w0.heap.size≤b)∧
  w0.heap.size≤W.heap.size∧(∀b,b<w0.heap.size→W.heap[b]?=w0.heap[b]?)∧W.tape=w0.tape∧W.os=w0.os∧W.output=w0.output
theorem quiet_of {Shun Q:Loc→Prop}{B:Nat}{t:η}(h:Past Shun B t)(hQ:∀l,l.low B→¬Q l):∀i a,touchAt t i=some a→¬Q a.loc:=by
 intro i a ha;unfold touchAt at ha;obtain⟨act,h1,h2⟩:=zaO.1 ha;unfold Trace.act? at h1;obtain⟨op,h3,rfl⟩:=zas.1 h1;exact hQ _ (Be (h.seen op (zbF h3)) h2)
theorem uZ:∀(n:Nat) (s:List UInt8) (a:Nat),(aw n s a).length≤n
 |0,s,a=>zac _
 |n+1,s,a=>by
  have:=uZ n s (aR s a).gw;rw[aw];split
  ·simp
  ·simp;exact this
def Yu (N Low:Nat)(s:List UInt8)(h:N+4≤Low):uh (N+3) Low:=⟨⟨9⟩,N,[.string ⟨⟨s⟩⟩],by omega,by omega,by omega⟩
def Yv (N Low:Nat)(h:N+4≤Low):uh (N+3) Low:=⟨⟨132⟩,N+2,[.chan (some (N+1))],by omega,by omega,by omega⟩
theorem aaT {Shun:Loc→Prop}{N n Low:Nat}(hn:n≠0)(adn:Low=N+4)(hS:∀l,Shun l→l.low N):EH (QG N) (λl=>Shun l∨QG N l) n (N+1) (N+3) Low (WX N) (λb=>b=N+1∨b=N+3):=by
 subst adn;refine⟨⟨hn,λb hb=>by rcases hb with h|h<;>omega,by omega,λh=>by rcases h with h|h<;>omega,λl h=> .inr h,λl h=>?_,λl hl h=>?_,.inl rfl⟩,by omega,by omega,λa ha=> .inr ⟨a,rfl,ha⟩,.inr rfl⟩
 ·rcases h with h|rfl|⟨a,rfl,ha⟩
  ·exact Loc.low_mono (by omega) (hS l h)
  ·show N+1<N+4;omega
  ·show a.block<N+4;omega
 ·rcases h with h|rfl|⟨a,rfl,ha⟩
  ·have:=hS l h;cases l with
   |cell a=>have h2:a.block<N:=this;rcases hl with h|h<;>omega
   |obj r=>have h2:r<N:=this;rcases hl with h|h<;>omega
   |_=>exact hl
  ·rcases hl with h|h<;>omega
  ·rcases hl with h|h<;>omega
section
variable {s:List UInt8}
 (hN:∀(n:Nat) (w:Δ),n≤s.length→θ prog 120 #[.string ⟨⟨s⟩⟩,.int .i64 n] w λe _=>∃v,e=.returned v∧v=cg (aR s n))
 (hL:∀(t:Tok) (w:Δ),θ prog 121 #[cg t] w λe _=>∃v,e=.returned v∧v=.bool t.lastB)
include hN hL in
theorem C0 {Shun:Loc→Prop}{gs:Array Φ}{w0:Δ}{sl:Option (Nat×Nat)}{t:η}{q:Nat→Nat}(hlen:s.length≤1000)(hb:prog.globals.size≤w0.heap.size)(h0:gs[0]?=some (G (Λ.enter prog 43 #[.string ⟨⟨s⟩⟩] .normal) (c::cs)))(hLv:Leavers prog t gs q)(hP:Past Shun w0.heap.size t)(hS:∀l,Shun l→l.low w0.heap.size):Reach prog (crowd gs w0 sl) t (E4 Shun (aw (s.length+1) s 0) c cs gs.size w0):=by
 have Ln:gs.size≠0:=by have:=(zaj.1 h0).1;omega
 have hPQ:fO (QG w0.heap.size) Shun (w0.heap.size+4) 0 t:=fO.Ke (hP.mono (by omega)) (quiet_of hP λl hl hq=>by
  rcases hq with rfl|⟨a,rfl,ha⟩
  ·have:w0.heap.size+1<w0.heap.size:=hl;omega
  ·have:a.block<w0.heap.size:=hl;omega)
 refine(jJ (Q:=QG w0.heap.size) (Shun:=Shun) (B:=w0.heap.size+4) (D:=DZ (λl=>Shun l∨QG w0.heap.size l) (w0.heap.size+4)) (λ_ _ _ h=>h) 19 _ w0 (Ij (cs:=c::cs) s w0 (λhz=>?_) (by omega)) gs sl t q rfl hLv h0 hPQ).bind ?_
 ·rcases hz with hz|hz|⟨a,ha,hab⟩
  ·have:w0.heap.size+2<w0.heap.size:=hS _ hz;omega
  ·cases hz
  ·cases ha;have:w0.heap.size+2=w0.heap.size+3:=hab;omega
 rintro m t1 ⟨gs1,a1,w1,sl1,q1,rfl,Yw,h01,ado,adp,hP1⟩;have hZ:∀a:Addr,a.block=w0.heap.size→¬(Shun (.cell a)∨QG w0.heap.size (.cell a)):=λa ha hz=>by
  rcases hz with hz|hz|⟨a',ha',hab⟩
  ·have:a.block<w0.heap.size:=hS _ hz;omega
  ·cases hz
  ·cases ha';omega
 have Pv:=Pt s w0 a1 w1 (ado w1 (atRel_refl w1)) (by omega) (by omega);refine(jJ (Q:=QG w0.heap.size) (Shun:=Shun) (B:=w0.heap.size+4) (λw w' es h=>CY _ _ hZ h) 12 _ w1 Pv gs1 sl1 t1 q1 Yw adp h01 hP1).bind ?_;rintro m t2 ⟨gs2,a2,w2,sl2,q2,rfl,wJ,h02,adq,adr,hP2⟩;refine(uY (mk:= .disable) (by rfl) trivial wJ adr h02 hP2 adq).bind ?_;rintro m t3 ⟨gs3,a3,w3,sl3,q3,rfl,hn3,h03,⟨n3,hG3⟩,ads,hP3⟩;refine(jJ (Q:=QG w0.heap.size) (Shun:=Shun) (B:=w0.heap.size+4) (λw w' es h=>CY _ _ hZ h) n3 _ w3 hG3 gs3 sl3 t3 q3 hn3 ads h03 hP3).bind ?_;rintro m t4 ⟨gs4,a4,w4,sl4,q4,rfl,hn4,h04,adt,adu,Pk⟩;refine(uY (mk:= .enable) (by rfl) trivial hn4 adu h04 Pk adt).bind ?_;rintro m t5 ⟨gs5,a5,w5,sl5,q5,rfl,hn5,h05,⟨n5,hG5⟩,adv,hP5⟩;refine(jJ (Q:=QG w0.heap.size) (Shun:=Shun) (B:=w0.heap.size+4) (λw w' es h=>CY _ _ hZ h) n5 _ w5 hG5 gs5 sl5 t5 q5 hn5 adv h05 hP5).bind ?_;rintro m t6 ⟨gs6,a6,w6,sl6,q6,rfl,hn6,h06,adw,adx,hP6⟩;have hd0:deafBehind (deafBehind 0 #[Go.ConcX.mk .disable]) #[Go.ConcX.mk .enable]=0:=by rfl
 rw[hd0]at hP6;obtain⟨a,hg,h9,rfl,hl,Hm⟩:=adw w6 (atRel_refl w6);have hsz:w6.heap.size=w0.heap.size+4:=hl.size;rw[←hsz]at hP6;have Ik:w0.heap.size+4≤w6.heap.size:=by omega
 have nX:prog.globals.size≤w6.heap.size:=by omega
 have aaU:=Ua (P:=prog) (ty:=cI.tWg) (Q:=QG w0.heap.size) (Shun:=Shun) (Shun':=λl=>Shun l∨QG w0.heap.size l) (ch:=w0.heap.size+1) (Wg:=w0.heap.size+3) (n:=gs.size) (ro:=WX w0.heap.size) (z:=cg um) (w:=w6) (x:=Yu w0.heap.size w6.heap.size s Ik) (y:=Yv w0.heap.size w6.heap.size Ik)
  (After:=CX (WX w0.heap.size) w0.heap.size (w0.heap.size+2) (w0.heap.size+3) (w0.heap.size+1) (aw (s.length+1) s 0) (c::cs)) (vs:=(aw (s.length+1) s 0).map cg) (sl:=sl6)
  (aaT Ln hsz hS) (λl h=> .inl h) (by show w0.heap.size≠w0.heap.size+2;omega) (λa ha=>hZ a ha) (λa ha hz=>?_) hn6 adx h06 hP6 rfl (λw₁ _=>Pu h9 w₁) ⟨0,0,false,hl.chan⟩ Hm (λw₁ h₁=>?_) (λw₁ h₁=>?_)
 rotate_left
 ·have hab:a.block=w0.heap.size+2:=ha;rcases hz with hz|hz|⟨a',ha',afq⟩
  ·have:a.block<w0.heap.size:=hS _ hz;omega
  ·cases hz
  ·cases ha';omega
 ·obtain⟨d,rfl⟩:=h₁;exact CZ (x:=Yu w0.heap.size w6.heap.size s Ik) (y:=Yv w0.heap.size w6.heap.size Ik) rfl rfl hg (by have:=uZ (s.length+1) s 0;omega) nX Ik hl.box
 ·obtain⟨d,rfl⟩:=h₁;exact Ic (x:=Yu w0.heap.size w6.heap.size s Ik) (y:=Yv w0.heap.size w6.heap.size Ik) (by show w0.heap.size≠w0.heap.size+1;omega) (by show w0.heap.size+2≠w0.heap.size+1;omega) (.inl rfl) (.inr rfl) hN hL (w6.at d) ⟨λb hb=>by
   rcases hb with h|h|h
   ·exact h.elim
   ·show b<w6.heap.size;omega
   ·show b<w6.heap.size;omega,λ_ _ h=>h⟩ nX ⟨hl.txt,hl.box⟩ (cell_of_one (w:=w6.at d) hl.txt) (cell_of_one (w:=w6.at d) hl.box)
 refine aaU.bind ?_;rintro m t7 ⟨w₁,⟨d1,rfl⟩,gs7,w',w7,sl7,q7,a7,own,rfl,hn7,h07,aff,⟨a',⟨hga,ρ,w,v,hA,h5,fK,hrow⟩,rfl,L4⟩,afr,ady,hP7,aaV,afg,Yx,ht7,adz,aaW⟩;refine(jJ (Q:=λ_=>False) (Shun:=λl=>Shun l∨QG w0.heap.size l) (B:=w7.heap.size) (D:=DZ (λl=>(Shun l∨QG w0.heap.size l)∨False) w7.heap.size) (λ_ _ _ h=>h) 8 _ w7 (L3 (c:=c) (cs:=cs) hga.defers hga.size h5 w7) gs7 sl7 t7 q7 hn7 ady h07 (fO.Ke hP7 λ_ _ _ h=>h)).mono ?_;rintro m t8 ⟨gs8,a8,w8,sl8,q8,rfl,hn8,h08,adA,adB,hP8⟩;obtain⟨rfl,d8,e8⟩:=adA w8 (atRel_refl w8);have mh:w8.heap=w7.heap:=by rw[e8];rfl
 have afs:w7.heap.size=w'.heap.size:=L4.size;have C1:∀b,Touch Sc.d ρ w b→w0.heap.size+4≤b:=λb hb=>by have:=aaV b (hA.Wz b hb);omega
 have hblk:∀b,Touch Sc.d ρ w b→w8.heap[b]?=w'.heap[b]?:=λb hb=>by
  have:=C1 b hb;rw[mh];exact L4.block b (by omega) (by omega) (by omega)
 have hS8:=hA.vG.grow (aS:=w8) (by rw[mh];omega) hblk;refine⟨gs8,w8,sl8,q8,_,w,v,λl=>Shun l∨QG w0.heap.size l,rfl,hn8,?_,adB,by rw[mh];exact hP8.past,λl hl'=>?_,λl fV hl'=>?_,λl hl'=>?_,hS8,fK,hrow,λb hb=>?_,by rw[mh];omega,λb hb=>?_,?_,?_,?_⟩
 ·rw[h08];have:rv (ek ρ w.heap.size w8.heap.size) v=rv ρ v:=fK.agree (λr hr=>bg hr) (Er hA.vG hS8);rw[this]
 ·have:=(aaT (Low:=w6.heap.size) Ln hsz hS).sr l hl';exact Loc.low_mono (by rw[mh];omega) this
 ·rcases hl' with h|rfl|⟨a,rfl,ha⟩
  ·exact h
  ·have:w0.heap.size+1<w0.heap.size:=fV;omega
  ·have:a.block<w0.heap.size:=fV;omega
 ·rw[dN]at hl';rintro (h|rfl|⟨a,rfl,ha⟩)
  ·have AJ:=hS l h;cases l with
   |cell a=>have h1:=C1 _ hl';have h2:a.block<w0.heap.size:=AJ;omega
   |obj r=>have h1:=C1 _ hl';have h2:r<w0.heap.size:=AJ;omega
   |_=>exact hl'
  ·have h1:=C1 _ hl';omega
  ·have h1:=C1 _ hl';omega
 ·rw[dN]at hb;have:=C1 b hb;omega
 ·rw[mh,L4.block b (by omega) (by omega) (by omega),Yx b (by omega) (by omega) (by omega)];exact hl.old b hb
 ·rw[e8];exact(L4.tape.trans ht7).trans hl.tape
 ·rw[e8];exact(L4.os.trans adz).trans hl.os
 ·rw[e8];exact(L4.output.trans aaW).trans hl.output
end
end Go.Ren
namespace Go.Ren
open Go.Proofs.Tryz
open Go Go.Conc Go.ConcX Go.RowKit Go.Proofs Go.Loop
theorem Md (s:List UInt8)(hs:s.length≤1000)(n:Nat)(w:Δ)(hn:n≤s.length):θ prog 120 #[.string ⟨⟨s⟩⟩,.int .i64 n] w λe _=>∃v,e=.returned v∧v=cg (aR s n):=
 (Go.Proofs.YtlhimdjkkiflhaaGreatDoor.PQ ⟨⟨s⟩⟩ n w (by show s.length≤_;omega) hn).mono λe w' h=>⟨_,h.1,rfl⟩
theorem Me (t:Tok)(w:Δ):θ prog 121 #[cg t] w λe _=>∃v,e=.returned v∧v=.bool t.lastB:=
 (Go.Proofs.YtlhimdjkkiflhaaGreatDoor.PH t w).mono λ_e _w' h=>⟨_,h,rfl⟩
theorem Iw {s:List UInt8}{c:Λ}{cs:List Λ}{Shun:Loc→Prop}{gs:Array Φ}{w0:Δ}{sl:Option (Nat×Nat)}{t:η}{q:Nat→Nat}(hlen:s.length≤1000)(hb:prog.globals.size≤w0.heap.size)(h0:gs[0]?=some (G (Λ.enter prog 43 #[.string ⟨⟨s⟩⟩] .normal) (c::cs)))(hLv:Leavers prog t gs q)(hP:Past Shun w0.heap.size t)(hS:∀l,Shun l→l.low w0.heap.size):Reach prog (crowd gs w0 sl) t (E4 Shun (aw (s.length+1) s 0) c cs gs.size w0):=
 C0 (λn w hn=>Md s hlen n w hn) Me hlen hb h0 hLv hP hS
section
variable {Ψ:dn}{cs:List Λ}{w:Δ}{b:Λ}{a:Act}{ops:Array Oper}{i:Nat}{rest:List Nat}{kk:List Item}
theorem YH {o1 o2 o3:Nat→Prop}(h:∀x,o1 x→o2 x∨o3 x){l:Loc}(hl:jS o1 l):jS o2 l∨jS o3 l:=by
 cases l with
 |cell a=>exact h _ hl
 |obj r=>exact h _ hl
 |_=>exact .inl hl
theorem Fo {o:Nat→Prop}{n:Nat}(h:∀x,o x→x<n){l:Loc}(hl:jS o l):l.low n:=by
 cases l with
 |cell a=>exact h _ hl
 |obj r=>exact h _ hl
 |_=>exact hl.elim
theorem aa.YI {s:List UInt8}(hlen:s.length≤1000)(h:∀v w',Below w.heap.size w w'→w'.ownsRow w.heap.size 131 7 v (aw (s.length+1) s 0).length ((aw (s.length+1) s 0).flatMap λt=>(eH t).toList)→aa prog Sz Ψ (b.at (a.put ((ops[i]?).bind (·.dst)) v) (.inRegion ops rest::kk)) cs w'):aa prog Sz Ψ (Λ.enter prog 43 #[.string ⟨⟨s⟩⟩] .normal) (b.at a (.inRegion ops (i::rest)::kk)::cs) w:=by
 intro ρ W gs sl t q Shun hS hc hcs h0 hL hP hN hO hT YJ Ar;have e0:cv ρ (Λ.enter prog 43 #[.string ⟨⟨s⟩⟩] .normal)=Λ.enter prog 43 #[.string ⟨⟨s⟩⟩] .normal:=by
  rw[←il];simp[rv]
 rw[e0,zaB,zam]at h0;refine(Iw hlen hS.qb h0 hL hP hN.low).bind ?_;rintro m t' ⟨gs',W',sl',q',gB,w₂,v,Shun',rfl,_,Au,hL',hP',aaZ,WY,aa0,PR,fK,hrow,C1,hsz,hblk,aa1,hos,hout⟩;have WZ:=hS.grow hsz λx hx=>hblk x (hN.WC x hx);have rH:Touch Sz.d (ek ρ w.heap.size W'.heap.size) w=Touch Sz.d ρ w:=dN;have adG:∀r,r<w.heap.size→ek ρ w.heap.size W'.heap.size r=ρ r:=λr hr=>bg hr;generalize ek ρ w.heap.size W'.heap.size=cH at *;have PS:=ja.merge TV WZ PR (λx h1 h2=>by
  have k1:=hN.WC x (by rw[←rH];exact h1);have k2:=C1 x h2;omega)
 have kN:=PR.wr.big.p;have afh:=pG (w:=w) kN;have hrv:=aap TV WZ PR fK;have htm:∀x,Touch Sz.d (Bg cH gB prog.globals.size w.heap.size w₂.heap.size W'.heap.size) (Ht prog w w₂) x→Touch Sz.d ρ w x∨Touch Sc.d gB w₂ x:=λx hx=>by
  have:=Ew TV kN hx;rwa[rH]at this
 have Ul:∀r,r<w.heap.size→Bg cH gB prog.globals.size w.heap.size w₂.heap.size W'.heap.size r=ρ r:=λr hr=>by
  rw[←adG r hr];simp only[Bg,zab hr]
 generalize Bg cH gB prog.globals.size w.heap.size w₂.heap.size W'.heap.size=Ki at *;have YK:Below w.heap.size w (Ht prog w w₂):=⟨rfl,rfl,rfl,by omega,λr hr=>Hu hr⟩;have hrow3:=Ya (w:=w) (zac _) hrow (λx hx=>by
  obtain⟨tk,_,hx⟩:=List.mem_flatMap.1 hx;simp[eH]at hx;rcases hx with rfl|rfl|rfl|rfl|rfl|rfl|rfl<;>simp[rv])
 have Ym:=aar TV (w:=w) hS.wr.big.p kN fK;have hf3:∀x,Ki.f x=ρ.f x:=λx=>by rw[PS.f,hS.f]
 refine h _ _ YK hrow3 Ki W' gs' sl' t' q' Shun' PS ?_ (λf hf=>iJ (by omega) (hcs f (zaQ _ hf))) ?_ hL' hP' ⟨λx hx=>?_,λb hb=>zaI (hN.JW b hb) hsz,λl hl C8=>?_,aaZ⟩ ⟨aa1.trans hO.tape,hos.trans hO.os,hout.trans hO.output,zag hO.size hsz,λr hr hm=>(hblk r (zaI hr hO.size)).trans (hO.block r hr hm)⟩ (λx hx=>(htm x hx).elim (hT x) λh2=> .inl (zag hO.size (C1 x h2))) ⟨zag YJ.size (by omega),λr hr=>(Ul r (zaI hr YJ.size)).trans (YJ.same r hr)⟩ ⟨zag Ar.size (by omega),λr hr=>(Ul r (zaI hr Ar.size)).trans (Ar.same r hr)⟩
 ·have h1:OE prog Sz w.heap.size a:=hcs _ zaD;exact OE.put (P:=prog) (λx hx=>eY (dY (by omega)).1 (dY (by omega)).2 x (h1 x hx)) _ Ym
 ·rw[Au];have e1:cv ρ (b.at a (.inRegion ops (i::rest)::kk))=cv Ki (b.at a (.inRegion ops (i::rest)::kk)):=eZ (hcs _ zaD) (λr hr=>(Ul r hr).symm) (λx=>(hf3 x).symm);have e2:cs.map (cv ρ)=cs.map (cv Ki):=fw (λr hr=>(Ul r hr).symm) (λx=>(hf3 x).symm) λf hf=>hcs f (zaQ _ hf);rw[e1,e2,mP,mP,zcj,←hrv,Hs]
 ·obtain⟨r,h1,h2,rfl⟩:=hx;exact PS.low h2
 ·rcases hl with hl|hl
  ·rcases YH htm hl with h1|h1
   ·exact hN.sr l (.inl h1) (WY l (Fo hN.WC h1) C8)
   ·exact aa0 l h1 C8
  ·exact hN.sr l (.inr hl) (WY l (Fo hN.JW hl) C8)
end
end Go.Ren
namespace Go.Ren
open Go.Proofs.Tryz
open Go Go.Conc Go.ConcX Go.RowKit Go.Proofs Go.Loop Go.Proofs.YtlhimdjkkiflhaaGreatDoor
def c8 (f:Func):Code:=f.body.getD .skip
def c8a (f:Func):Code:=Ren.cj (c8 f)
def c8b (f:Func):Code:=Ren.cj (Ren.bM (c8 f))
def c8c (f:Func):Code:=Ren.bM (Ren.bM (c8 f))
def o8 (f:Func):Array Oper:=Ren.bz (Ren.cj (c8c f))
def UG (f:Func):Code:=Ren.bM (c8c f)
theorem Qf:prog.funcs[25]?=some f25:=by kernel_rfl
theorem abd:f25.body=some (.seq (c8a f25) (.seq (c8b f25) (.seq (.region 3 (o8 f25) false) (UG f25)))):=by kernel_rfl
theorem nt8:f25.ntmps=40:=by kernel_rfl
theorem t40 (x y:Ξ):(#[x,y]++ζ (40-#[x,y].size) Γ:Array Ξ)=#[x,y,Γ,Γ,Γ,Γ,Γ,Γ,Γ,Γ,Γ,Γ,Γ,Γ,Γ,Γ,Γ,Γ,Γ,Γ,Γ,Γ,Γ,Γ,Γ,Γ,Γ,Γ,Γ,Γ,Γ,Γ,Γ,Γ,Γ,Γ,Γ,Γ,Γ,Γ]:=by
 generalize Γ=u;simp[ζ,List.replicate]
theorem Y0 (x y:Ξ):Λ.enter prog 25 #[x,y] .normal=(base 25).at ⟨#[x,y,Γ,Γ,Γ,Γ,Γ,Γ,Γ,Γ,Γ,Γ,Γ,Γ,Γ,Γ,Γ,Γ,Γ,Γ,Γ,Γ,Γ,Γ,Γ,Γ,Γ,Γ,Γ,Γ,Γ,Γ,Γ,Γ,Γ,Γ,Γ,Γ,Γ,Γ],[]⟩ [.code (.seq (c8a f25) (.seq (c8b f25) (.seq (.region 3 (o8 f25) false) (UG f25))))]:=by
 rw[enter_at _ Qf abd,nt8,t40]
theorem adN:bB prog Fz Sz (c8a f25)=true:=by kernel_rfl
theorem abe:bB prog Fz Sz (c8b f25)=true:=by kernel_rfl
theorem abf:bB prog Fz Sz (UG f25)=true:=by kernel_rfl
def aq (w w':Δ):Prop:=w.heap.size≤w'.heap.size∧∀r,r<w.heap.size→w'.heap[r]?=w.heap[r]?
theorem aq.trans {a b c:Δ}(h:aq a b)(k:aq b c):aq a c:=⟨zag h.1 k.1,λr hr=>(k.2 r (zaI hr h.1)).trans (h.2 r hr)⟩
theorem aq.of {w w':Δ}(h:Below w.heap.size w w'):aq w w':=⟨h.size,h.block⟩
def Y1 (s:List UInt8)(dp:Nat)(w:Δ)(v:Ξ):Prop:=∃lo K L E d s',ay (aw (s.length+1) s 0) dp 2000 ⟨0,false,[]⟩ ⟨0,0,[]⟩=.ok d s'∧ct lo K L w E d v∧(∀i j,i<K→j<K→E.α i=E.α j→i=j)∧bH d d=true
def FT (s:List UInt8)(dp:Nat)(w:Δ)(v:Ξ)(w':Δ):Prop:=
 aq w w'∧((∃b e at_,v=.tuple #[.agg #[.nilIface,.slice none 0 0,.int .i64 0],aC b]∧dQ w' b e at_∧cS s dp=some ([],at_,e))∨
  ∃ty y nv bN nodes gw,v=.tuple #[.agg #[.iface ty y,nv,.int .i64 (gw:Nat)],.pointer none]∧b9 w' 0 nv bN nodes∧cS s dp=some (nodes,gw,0)∧Y1 s dp w' (.iface ty y))
def VQ (T:List Tok)(dp:Nat):Prop:=((∃t∈T,t.kind=5)→∀g cap R M,Fx R M g cap T dp)∧((∃t∈T,t.kind=4)→∀g cap R M,Fy R M g cap T dp)
theorem Y2 (T:List Tok)(dp:Nat):VQ T dp:=⟨λ_ _ _ _ _=>aa5,λ_ _ _ _ _=>aa7⟩
theorem UH {T:List Tok}{dp:Nat}(h:∀t∈T,t.kind≠5∧t.kind≠4):VQ T dp:=⟨λ⟨t,ht,e⟩=>absurd e (h t ht).1,λ⟨t,ht,e⟩=>absurd e (h t ht).2⟩
def mA (s:List UInt8)(dp:Nat):Prop:=(∀d s',ay (aw (s.length+1) s 0) dp 2000 ⟨0,false,[]⟩ ⟨0,0,[]⟩=.ok d s'→bH d d=true∧∃k g,ie d 100000 d ⟨[],[]⟩=some (k,g)∧g.nodes.length≤999999)∧VQ (aw (s.length+1) s 0) dp
end Go.Ren
