import Derived.OneCell
import Derived.Test.YtlhimdjkkiflhaaGreatDoorCut14
set_option maxHeartbeats 8000000
set_option maxRecDepth 100000
set_option linter.unusedSectionVars false
namespace Go.Ren
open Go.Proofs.Tryz
open Go Go.Conc Go.ConcX Go.RowKit Go.Conc.Lib Go.ConcX.Gen Go.Proofs Go.Loop
section
variable {P:Program}{main:Bool}{b:Frame}{a:Act}{ops:Array Oper}{i:Nat}{rest:List Nat}{o:Oper}{kk:List Item}{cs:List Frame}
theorem ER (ho:ops[i]?=some o)(hw:Region.wanted o (yielded ops a.tmps)=true)(hk:b.kind≠.early){dd:Option Tmp}(hdd:o.dst=dd){x:Operand}{j:Nat}(hop:o.op=.extract x j){vs:Array Value}{v:Value}(hx:a.eval x=.tuple vs)(hv:vs[j]?=some v)(w:World):stepG P main (G (b.at a (.inRegion ops (i::rest)::kk)) cs) w=.go (G (b.at (a.put dd v) (.inRegion ops rest::kk)) cs) w #[]:=by
 subst hdd;have hr:(execOp a.eval o).run P w=.ok (.value v) w:=by
  unfold execOp;simp[hop,hx,Instr.extract,hv]
 have he:(execOp a.eval o).events P w #[]=#[]:=by
  unfold execOp;simp[hop,hx,Instr.extract,hv]
 rw[stepG_value ho hw hk hr,listed_none he]
theorem Goes.silent {R:World→World→Prop}{D:World→World→Array Event→Prop}{Stop:Goroutine→World→Prop}(tr:∀a b c,R a b→R b c→R a c)(hd:∀w,D w w #[]){n:Nat}{g g':Goroutine}{w:World}(hs:g.status=.running)(h:∀w₁,stepG P main g w₁=.go g' w₁ #[])(k:Goes P main R D Stop n g' w):Goes P main R D Stop (n+1) g w:=
 Goes.step hs λw₁ h₁=>by rw[h w₁];exact⟨hd w₁,k.rely tr h₁⟩
end
variable {Wg Low ch X Y:Nat}{x y:sP Wg Low}{ro own:Nat→Prop}{cs:List Frame}
structure Off (Wg X Y:Nat) (w w':World):Prop where
 tape:w'.tape=w.tape
 os:w'.os=w.os
 output:w'.output=w.output
 size:w'.heap.size=w.heap.size
 block:∀k,k≠X→k≠Y→k≠Wg→w'.heap[k]?=w.heap[k]?
def zk (f:Func)(a:Act)(cs:List Frame):Goroutine:=G ((base 43).at (a.put (some 18) (.tuple #[])) (.inRegion (g10 f) []::.code (WH f)::[])) cs
def Au (f:Func)(a:Act):Frame:=(base 43).at a (.inRegion (g10 f) [0]::.code (WH f)::[])
theorem zl {pl:Payload}{ty:TypeId}{C:Nat} [Shy Wg C] {vals:List Value}(a b c:World)(h:RPa ty Wg C vals a b)(k:RPa ty Wg C vals b c):RPa ty Wg C vals a c:=
 RPa.trans h k
theorem ES (Wg:Nat):Frame.enter prog 72 #[.pointer (some ⟨Wg,0,none⟩)] .normal=(base cG.wait).at ⟨#[.pointer (some ⟨Wg,0,none⟩),undef,undef,undef,undef,undef,undef,undef,undef,undef,undef,undef,undef,undef,undef,undef,undef,undef,undef,undef,undef,undef,undef,undef,undef,undef,undef,undef,undef,undef,undef,undef,undef,undef,undef,undef,undef,undef,undef,undef,undef,undef,undef,undef,undef,undef,undef,undef,undef,undef,undef,undef,undef,undef,undef,undef,undef,undef,undef,undef,undef,undef,undef,undef,undef,undef,undef,undef,undef,undef,undef,undef,undef,undef,undef,undef,undef,undef,undef,undef,undef,undef,undef,undef],[]⟩ [.code (body_wait cG)]:=by
 rw[enter_at (P:=prog) (f:=72) (c:=body_wait cG) #[.pointer (some ⟨Wg,0,none⟩)] GM (by kernel_rfl)];have:(#[Value.pointer (some ⟨Wg,0,none⟩)]++Array.replicate ((waitFn cG).ntmps - (#[Value.pointer (some ⟨Wg,0,none⟩)]:Array Value).size) undef)=#[.pointer (some ⟨Wg,0,none⟩),undef,undef,undef,undef,undef,undef,undef,undef,undef,undef,undef,undef,undef,undef,undef,undef,undef,undef,undef,undef,undef,undef,undef,undef,undef,undef,undef,undef,undef,undef,undef,undef,undef,undef,undef,undef,undef,undef,undef,undef,undef,undef,undef,undef,undef,undef,undef,undef,undef,undef,undef,undef,undef,undef,undef,undef,undef,undef,undef,undef,undef,undef,undef,undef,undef,undef,undef,undef,undef,undef,undef,undef,undef,undef,undef,undef,undef,undef,undef,undef,undef,undef,undef]:=by kernel_rfl
 rw[this]
theorem L5 (k:sP Wg Low){X Y:Nat}(hk:k.C=X∨k.C=Y)(a:Act)(h4:a.eval (.tmp 4)=.pointer (some ⟨Wg,0,none⟩))(W:World)(hK:k.X7 cG.tWg W):∃A,k.wait prog cG.tWg (λg w=>g=zk f43 a cs∧Off Wg X Y W w) A (G (Au f43 a) cs) W:=by
 letI:=k.pl
 letI:=l9 Wg k.C Low (λg w=>g=zk f43 a cs∧Off Wg X Y W w) k.hW k.hC
 let F:World→Prop:=λw=>(∀b,b≠k.C→b≠Wg→w.heap[b]?=W.heap[b]?)∧w.heap.size=W.heap.size∧w.tape=W.tape∧w.os=W.os∧w.output=W.output;have hF2:∀w w',Aside2 k.C Wg w w'→F w→F w':=λw w' h f=>⟨λb h1 h2=>(h.block b h1 h2).trans (f.1 b h1 h2),h.size.trans f.2.1,h.tape.trans f.2.2.1,h.os.trans f.2.2.2.1,h.output.trans f.2.2.2.2⟩;refine⟨AnchW7 cG F Wg k.C k.vals (Au f43 a) cs,⟨k.hC,k.hCW,?_,?_,λ_ h=>h⟩,4,?_⟩
 ·rintro g w ⟨T,rfl,_⟩;rfl
 ·intro g w h;exact waitRound (L:=cG) (Low:=Low) (Mine:=kI) (Post:=λ_ _=>True) (mT:=0) (b₀:=base 43) (a₀:=a) (ops₀:=g10 f43) (i₀:=0) (rest₀:=[]) (k₀:=[.code (WH f43)]) wgz k.hCW hF2 (λw f _ _=>Goes.stop λw₁ h₁=>by
   obtain⟨d,rfl⟩:=h₁;refine⟨rfl,rfl,f.2.2.1,f.2.2.2.1,f.2.2.2.2,f.2.1,λb h1 h2 h3=>f.1 b ?_ h3⟩;rcases hk with e|e<;>rw[e]<;>assumption) g w h
 ·refine Goes.silent (g':=G (Frame.enter prog 72 #[.pointer (some ⟨Wg,0,none⟩)] .normal) (Au f43 a::cs)) (λa b c=>zl a b c) (λw=>⟨λ_ _=>rfl,by simp⟩) rfl (λw₁=>jH (ops:=g10 f43) (i:=0) (rest:=[]) (f:=72) rfl rfl (by decide) rfl (by simp[h4])) ?_;rw[ES];exact waitStart (L:=cG) (Low:=Low) (F:=F) (Mine:=kI) (b₀:=base 43) (a₀:=a) (ops₀:=g10 f43) (i₀:=0) (rest₀:=[]) (k₀:=[.code (WH f43)]) (cs:=cs) wgz hF2 W ⟨⟨λ_ _ _=>rfl,rfl,rfl,rfl,rfl⟩,hK⟩
theorem jh {k:sP Wg Low}{St A:Goroutine→World→Prop}{g g':Goroutine}{W:World}(hs:g.status=.running)(h:∀w₁,stepG prog true g w₁=.go g' w₁ #[])(hw:k.wait prog cG.tWg St A g' W):k.wait prog cG.tWg St A g W:=by
 letI:=k.pl
 letI:=l9 Wg k.C Low St k.hW k.hC
 obtain⟨h1,m,h2⟩:=hw;exact⟨h1,m+1,Goes.silent (λa b c=>zl a b c) (λw=>⟨λ_ _=>rfl,by simp⟩) hs h h2⟩
def Av (ro:Nat→Prop)(X Y Wg ch:Nat)(ts:List Tok)(cs:List Frame)(own:Nat→Prop)(w':World)(g:Goroutine)(w:World):Prop:=
 ∃a,GR ro X Y Wg ch ts own a w'∧g=zk f43 a cs∧Off Wg X Y w' w
theorem ET {ts:List Tok}{a:Act}{W:World}(h:GR ro x.C y.C Wg ch ts own a W):LA prog cG.tWg x y (Av ro x.C y.C Wg ch ts cs) own (G ((base 43).at (a.put (some 11) (.tuple #[cn sS,.bool false])) (.inRegion (g7 f43) [1]::.code (cd (Lg f43))::kG f43)) cs) W:=by
 intro hx hy;obtain⟨hg,ρ,w,v,hA,h5,eG,hrow⟩:=h;have hg1:=hg.put (t:=11) (v:= .tuple #[cn sS,.bool false]) (by decide) (by decide) (by decide) (by decide);have Ki:(a.put (some 11) (.tuple #[cn sS,.bool false])).eval (.tmp 11)=.tuple #[cn sS,.bool false]:=bk (by rw[hg.size];decide);have k5:(a.put (some 11) (.tuple #[cn sS,.bool false])).eval (.tmp 5)=rv ρ v:=(aO (by decide)).trans h5;generalize a.put (some 11) (.tuple #[cn sS,.bool false])=a1 at *;have hg2:=hg1.put (t:=12) (v:= .bool false) (by decide) (by decide) (by decide) (by decide);have k12:(a1.put (some 12) (.bool false)).eval (.tmp 12)=.bool false:=bk (by rw[hg1.size];decide);have Yr:(a1.put (some 12) (.bool false)).eval (.tmp 5)=rv ρ v:=(aO (by decide)).trans k5;have step:∀(k:sP Wg Low),(k.C=x.C∨k.C=y.C)→k.X7 cG.tWg W→∃A,k.wait prog cG.tWg (λg w=>g=zk f43 (a1.put (some 12) (.bool false)) cs∧Off Wg x.C y.C W w) A (G ((base 43).at a1 (.inRegion (g7 f43) [1]::.code (cd (Lg f43))::kG f43)) cs) W:=λk hk hK=>by
  obtain⟨A,hw⟩:=L5 (cs:=cs) k hk (a1.put (some 12) (.bool false)) hg2.s4 W hK;refine⟨A,?_⟩;refine jh rfl (λw₁=>ER (ops:=g7 f43) (i:=1) (rest:=[]) rfl rfl (by decide) (dd:=some 12) rfl rfl Ki (v:= .bool false) rfl w₁) ?_;generalize a1.put (some 12) (.bool false)=a2 at *;refine jh rfl (λ_=>stepG_region_end) ?_;refine jh rfl (λ_=>stepG_seq (x:= .cond (.tmp 12) .skip (.exit 0)) (y:= .block 1 (Mg f43))) ?_;refine jh rfl (λ_=>stepG_cond k12) ?_;refine jh rfl (λ_=>stepG_exit (id:=0) (k':=[.code (D10 f43)]) rfl) ?_;refine jh rfl (λ_=>stepG_seq (x:= .region 10 (g10 f43) false) (y:=WH f43)) ?_;refine jh rfl (λ_=>stepG_region) ?_;exact hw
 obtain⟨Ax,hwx⟩:=step x (.inl rfl) hx;obtain⟨Ay,hwy⟩:=step y (.inr rfl) hy;exact⟨_,Ax,Ay,hwx,hwy,λa' w' hst=>⟨Nat.le_of_eq hst.2.size.symm,_,⟨hg2,ρ,w,v,hA,Yr,eG,hrow⟩,hst.1,hst.2⟩⟩
end Go.Ren
set_option linter.unusedSectionVars false
namespace Go.Ren
open Go.Proofs.Tryz
open Go Go.Conc Go.ConcX Go.RowKit Go.Conc.Lib Go.ConcX.Gen Go.Proofs Go.Loop
theorem L6:(prog.info? 132).map (λi=>(i.size,i.zero))=some (1,some (.chan none)):=by kernel_rfl
theorem T6:(prog.info? 142).map (λi=>i.zero.map λz=>Obj.cells z.cells 142)=some (some (wgBlock cG.tWg 0 0)):=by kernel_rfl
theorem bx (s:ByteArray)(w:World):(Instr.box 9 (.string s)).run prog w=.ok (.pointer (some ⟨w.heap.size,0,none⟩)) (w.alloc (.cells #[.string s] 9))∧(Instr.box 9 (.string s)).events prog w #[]=#[]:=by
 constructor
 ·simp[Instr.box,newVar,newRow,go_sem,Value.cells]
 ·simp[Instr.box,newVar,newRow,go_sem,Value.cells]
theorem mkc (w:World):(Instr.makeChan 132 (.int .i64 0)).run prog w=.ok (.chan (some w.heap.size)) (w.alloc (.chan 0 #[] false 0 0 false))∧(Instr.makeChan 132 (.int .i64 0)).events prog w #[]=#[]:=by
 obtain⟨i,hi,he⟩:=zam.1 qb;obtain⟨dir,hu⟩:∃dir,prog.underlying 132=some (.chan dir 131):=⟨_,underlying132⟩;have h1:¬(IntKind.i64.max<0):=by decide
 constructor
 ·simp[Instr.makeChan,run_underlying hu,asInt,asIntOf,typeInfo,hi]
 ·simp[Instr.makeChan,run_underlying hu,asInt,asIntOf,typeInfo,hi]
theorem WI {e:TypeId}{i:TypeInfo}{z:Value}(hi:prog.info? e=some i)(hz:i.zero=some z)(w:World):(Instr.alloc e true (.tuple #[])).run prog w=.ok (.pointer (some ⟨w.heap.size,0,none⟩)) (w.alloc (.cells z.cells e))∧(Instr.alloc e true (.tuple #[])).events prog w #[]=#[]:=by
 constructor
 ·simp[Instr.alloc,zeroValue,typeInfo,hi,hz,newVar,newRow]
 ·simp[Instr.alloc,zeroValue,typeInfo,hi,hz,newVar,newRow]
theorem stz {w:World}{r c:Nat}(h:w.heap[r]?=some (.cells #[.chan none] 132)):(Instr.storeAt 132 (.pointer (some ⟨r,0,none⟩)) (.chan (some c))).run prog w=.ok () (w.setCell ⟨r,0,none⟩ (.chan (some c)))∧(Instr.storeAt 132 (.pointer (some ⟨r,0,none⟩)) (.chan (some c))).events prog w #[]=#[⟨.cell ⟨r,0,none⟩,true,false⟩]:=by
 obtain⟨i,hi,he⟩:=zam.1 L6;simp only[zab]at he;have hc:w.cell? ⟨r,0,none⟩=some (.chan none):=by simp[World.cell?,h]
 have hf:w.frozen? ⟨r,0,none⟩=false:=by simp[World.frozen?,h]
 constructor
 ·simp[Instr.storeAt,Instr.sureAddr,storeVar,sizeOf,typeInfo,hi,he.1,Value.cells,storeCells,go_sem,hc,hf,Addr.add]
 ·simp[Instr.storeAt,Instr.sureAddr,storeVar,sizeOf,typeInfo,hi,he.1,Value.cells,storeCells,go_sem,hc,hf,Addr.add]
section
variable {P:Program}{Stop:Goroutine→World→Prop}{Z:Loc→Prop}{B n:Nat}{w:World}{b:Frame}{a:Act}{ops:Array Oper}{i:Nat}{rest:List Nat}{o:Oper}{kk:List Item}{cs:List Frame}
def DZ (Z:Loc→Prop)(B:Nat)(_ _:World)(es:Array Event):Prop:=∀e∈es,EvL Z B e
theorem Goes.ctl {g g':Goroutine}(hs:g.status=.running)(h:∀w₁,stepG P true g w₁=.go g' w₁ #[])(k:Goes P true AtRel (DZ Z B) Stop n g' w):Goes P true AtRel (DZ Z B) Stop (n+1) g w:=
 Goes.silent atRel_trans (λ_=>by intro e he;simp at he) hs h k
theorem Goes.BP (ho:ops[i]?=some o)(hw:Region.wanted o (yielded ops a.tmps)=true)(hk:b.kind≠.early){dd:Option Tmp}(hdd:o.dst=dd){v:Value}{nw:World→World}(hr:∀d,(execOp a.eval o).run P (w.at d)=.ok (.value v) (nw (w.at d)))(he:∀d,(execOp a.eval o).events P (w.at d) #[]=#[])
 (k:∀d,Goes P true AtRel (DZ Z B) Stop n (G (b.at (a.put dd v) (.inRegion ops rest::kk)) cs) (nw (w.at d))):Goes P true AtRel (DZ Z B) Stop (n+1) (G (b.at a (.inRegion ops (i::rest)::kk)) cs) w:=by
 subst hdd;refine Goes.step rfl λw₁ h₁=>?_;obtain⟨d,rfl⟩:=h₁;rw[stepG_value ho hw hk (hr d),listed_none (he d)];exact⟨λe he=>by simp at he,k d⟩
theorem Goes.opn (ho:ops[i]?=some o)(hw:Region.wanted o (yielded ops a.tmps)=true)(hk:b.kind≠.early){dd:Option Tmp}(hdd:o.dst=dd){nw:World→World}{es:Array Event}(hr:∀d,(execOp a.eval o).run P (w.at d)=.ok .skip (nw (w.at d)))(he:∀d,(execOp a.eval o).events P (w.at d) #[]=es)(hes:∀e∈es,EvL Z B e)
 (k:∀d,Goes P true AtRel (DZ Z B) Stop n (G (b.at (a.put dd undef) (.inRegion ops rest::kk)) cs) (nw (w.at d))):Goes P true AtRel (DZ Z B) Stop (n+1) (G (b.at a (.inRegion ops (i::rest)::kk)) cs) w:=by
 subst hdd;refine Goes.step rfl λw₁ h₁=>?_;obtain⟨d,rfl⟩:=h₁;rw[stepG_none ho hw hk (hr d)];refine⟨λe hm=>hes e ?_,k d⟩;unfold listed at hm;rw[he d]at hm;exact mem_seen hm
end
structure Laid (s:List UInt8) (w0 w:World):Prop where
 size:w.heap.size=w0.heap.size+4
 old:∀b,b<w0.heap.size→w.heap[b]?=w0.heap[b]?
 txt:w.heap[w0.heap.size]?=some (.cells #[.string ⟨⟨s⟩⟩] 9)
 chan:w.heap[w0.heap.size+1]?=some (.chan 0 #[] false 0 0 false)
 box:w.heap[w0.heap.size+2]?=some (.cells #[.chan (some (w0.heap.size+1))] 132)
 tape:w.tape=w0.tape
 os:w.os=w0.os
 output:w.output=w0.output
structure GB (a:Act) (N:Nat):Prop where
 size:a.tmps.size=20
 s1:a.eval (.tmp 1)=.pointer (some ⟨N,0,none⟩)
 s3:a.eval (.tmp 3)=.pointer (some ⟨N+2,0,none⟩)
 s4:a.eval (.tmp 4)=.pointer (some ⟨N+3,0,none⟩)
 defers:a.defers=[]
def D1 (f:Func):Code:=dC 1 (yj f)
def D2 (f:Func):Code:=dC 2 (yj f)
def D3 (f:Func):Code:=dC 3 (yj f)
def D4 (f:Func):Code:=dC 4 (yj f)
def g0 (f:Func):Array Oper:=gB (cJ (yj f))
def g1 (f:Func):Array Oper:=gB (cJ (D1 f))
def g2 (f:Func):Array Oper:=gB (cJ (D2 f))
def g3 (f:Func):Array Oper:=gB (cJ (D3 f))
def g4 (f:Func):Array Oper:=gB (cJ (D4 f))
def T7 (f:Func)(a:Act):Frame:=(base 43).at a (.inRegion (g3 f) [0]::.code (D4 f)::[])
def SC (s:List UInt8)(w0:World)(cs:List Frame)(g:Goroutine)(w:World):Prop:=
 ∃a,GB a w0.heap.size∧g=G (Frame.enter prog 68 #[.pointer (some ⟨w0.heap.size+3,0,none⟩),.int .i64 1] .normal) (T7 f43 a::cs)∧Laid s w0 w∧WgAt cG.tWg (w0.heap.size+3) w 0 0
theorem Ys:prog.funcs[43]?=some f43:=by kernel_rfl
def T9 (s:List UInt8):Act:=⟨#[.string ⟨⟨s⟩⟩]++Array.replicate 19 undef,[]⟩
theorem gO {H:Array Obj}{o:Obj}{b:Nat}(h:b<H.size):(H.push o)[b]?=H[b]?:=by rw[zbj,if_neg (by omega)]
theorem rF {H:Array Obj}{o:Obj}{b:Nat}(h:b=H.size):(H.push o)[b]?=some o:=by subst h;simp
variable {cs:List Frame}
theorem EU {Z:Loc→Prop}{B:Nat}(s:List UInt8)(w0:World)(hZ:¬Z (.cell ⟨w0.heap.size+2,0,none⟩))(hB:w0.heap.size+2<B):Goes prog true AtRel (DZ Z B) (SC s w0 cs) 19 (G (Frame.enter prog 43 #[.string ⟨⟨s⟩⟩] .normal) cs) w0:=by
 rw[enter_at (P:=prog) (f:=43) (c:=yj f43) #[.string ⟨⟨s⟩⟩] Ys rfl];change Goes _ _ _ _ _ _ (G ((base 43).at (T9 s) [.code (yj f43)]) cs) _;have q0:(T9 s).eval (.tmp 0)=.string ⟨⟨s⟩⟩:=by simp[T9,Act.eval]
 have qs:(T9 s).tmps.size=20:=by simp[T9]
 have qd:(T9 s).defers=[]:=rfl;generalize T9 s=a at *;refine Goes.ctl rfl (λ_=>stepG_seq (x:= .region 0 (g0 f43) false) (y:=D1 f43)) ?_;refine Goes.ctl rfl (λ_=>stepG_region) ?_;refine Goes.BP (ops:=g0 f43) (i:=0) (rest:=[1]) rfl rfl (by decide) (dd:=some 1) rfl (v:= .pointer (some ⟨w0.heap.size,0,none⟩)) (nw:=λw=>w.alloc (.cells #[.string ⟨⟨s⟩⟩] 9)) (λd=>?_) (λd=>?_) (λd=>?_)
 ·have hop:(g0 f43)[0].op=.box 9 (.tmp 0):=rfl;unfold execOp;simp only[hop,q0,Sem.run_bind,(bx _ _).1,Result.andThen_ok,Sem.run_pure];rfl
 ·have hop:(g0 f43)[0].op=.box 9 (.tmp 0):=rfl;unfold execOp;simp only[hop,q0,Sem.events_bind,(bx _ _).1,(bx _ _).2,Result.evThen_ok,Sem.events_pure]
 have hs1:((w0.at d).alloc (.cells #[.string ⟨⟨s⟩⟩] 9)).heap.size=w0.heap.size+1:=bX _ _;have WB:∀b,b<w0.heap.size→((w0.at d).alloc (.cells #[.string ⟨⟨s⟩⟩] 9)).heap[b]?=w0.heap[b]?:=λb h=>gO (H:=w0.heap) h;have hx1:((w0.at d).alloc (.cells #[.string ⟨⟨s⟩⟩] 9)).heap[w0.heap.size]?=some (.cells #[.string ⟨⟨s⟩⟩] 9):=rF (H:=w0.heap) rfl;have qy:((w0.at d).alloc (.cells #[.string ⟨⟨s⟩⟩] 9)).tape=w0.tape∧((w0.at d).alloc (.cells #[.string ⟨⟨s⟩⟩] 9)).os=w0.os∧((w0.at d).alloc (.cells #[.string ⟨⟨s⟩⟩] 9)).output=w0.output:=⟨rfl,rfl,rfl⟩;generalize (w0.at d).alloc (.cells #[.string ⟨⟨s⟩⟩] 9)=w1 at *;have p1:(a.put (some 1) (.pointer (some ⟨w0.heap.size,0,none⟩))).eval (.tmp 1)=.pointer (some ⟨w0.heap.size,0,none⟩):=bk (by rw[qs];decide);have qs1:(a.put (some 1) (.pointer (some ⟨w0.heap.size,0,none⟩))).tmps.size=20:=size_put.trans qs;have qd1:(a.put (some 1) (.pointer (some ⟨w0.heap.size,0,none⟩))).defers=[]:=cM.trans qd;generalize a.put (some 1) (.pointer (some ⟨w0.heap.size,0,none⟩))=a1 at *;refine Goes.BP (ops:=g0 f43) (i:=1) (rest:=[]) rfl rfl (by decide) (dd:=some 2) rfl (v:= .slice none 0 0) (nw:=λw=>w) (λd=>rfl) (λd=>rfl) (λd1=>?_);have p1':(a1.put (some 2) (.slice none 0 0)).eval (.tmp 1)=.pointer (some ⟨w0.heap.size,0,none⟩):=(aO (by decide)).trans p1;have qs2:(a1.put (some 2) (.slice none 0 0)).tmps.size=20:=size_put.trans qs1;have qd2:(a1.put (some 2) (.slice none 0 0)).defers=[]:=cM.trans qd1;generalize a1.put (some 2) (.slice none 0 0)=a2 at *;replace hs1:(w1.at d1).heap.size=w0.heap.size+1:=hs1;replace WB:∀b,b<w0.heap.size→(w1.at d1).heap[b]?=w0.heap[b]?:=WB;replace hx1:(w1.at d1).heap[w0.heap.size]?=some (.cells #[.string ⟨⟨s⟩⟩] 9):=hx1;replace qy:(w1.at d1).tape=w0.tape∧(w1.at d1).os=w0.os∧(w1.at d1).output=w0.output:=qy;generalize w1.at d1=w2 at *;refine Goes.ctl rfl (λ_=>stepG_region_end) ?_;refine Goes.ctl rfl (λ_=>stepG_seq (x:= .region 1 (g1 f43) false) (y:=D2 f43)) ?_;refine Goes.ctl rfl (λ_=>stepG_region) ?_;refine Goes.BP (ops:=g1 f43) (i:=0) (rest:=[1,2]) rfl rfl (by decide) (dd:=some 7) rfl (v:= .chan (some w2.heap.size)) (nw:=λw=>w.alloc (.chan 0 #[] false 0 0 false)) (λd=>?_) (λd=>?_) (λd2=>?_)
 ·have hop:(g1 f43)[0].op=.makeChan 132 (.const (.int .i64 0)):=rfl;unfold execOp;simp only[hop,Act.eval,Sem.run_bind,(mkc _).1,Result.andThen_ok,Sem.run_pure];rfl
 ·have hop:(g1 f43)[0].op=.makeChan 132 (.const (.int .i64 0)):=rfl;unfold execOp;simp only[hop,Act.eval,Sem.events_bind,(mkc _).1,(mkc _).2,Result.evThen_ok,Sem.events_pure]
 rw[hs1];have p7:(a2.put (some 7) (.chan (some (w0.heap.size+1)))).eval (.tmp 7)=.chan (some (w0.heap.size+1)):=bk (by rw[qs2];decide);have p1a:(a2.put (some 7) (.chan (some (w0.heap.size+1)))).eval (.tmp 1)=.pointer (some ⟨w0.heap.size,0,none⟩):=(aO (by decide)).trans p1';have qs3:(a2.put (some 7) (.chan (some (w0.heap.size+1)))).tmps.size=20:=size_put.trans qs2;have qd3:(a2.put (some 7) (.chan (some (w0.heap.size+1)))).defers=[]:=cM.trans qd2;generalize a2.put (some 7) (.chan (some (w0.heap.size+1)))=a3 at *;have hs2:((w2.at d2).alloc (.chan 0 #[] false 0 0 false)).heap.size=w0.heap.size+2:=(bX _ _).trans (congrArg (· + 1) hs1);have ho2:∀b,b<w0.heap.size→((w2.at d2).alloc (.chan 0 #[] false 0 0 false)).heap[b]?=w0.heap[b]?:=λb h=>(gO (H:=w2.heap) (by omega)).trans (WB b h);have hx2:((w2.at d2).alloc (.chan 0 #[] false 0 0 false)).heap[w0.heap.size]?=some (.cells #[.string ⟨⟨s⟩⟩] 9):=(gO (H:=w2.heap) (by omega)).trans hx1;have hc2:((w2.at d2).alloc (.chan 0 #[] false 0 0 false)).heap[w0.heap.size+1]?=some (.chan 0 #[] false 0 0 false):=rF (H:=w2.heap) hs1.symm;have WJ:((w2.at d2).alloc (.chan 0 #[] false 0 0 false)).tape=w0.tape∧((w2.at d2).alloc (.chan 0 #[] false 0 0 false)).os=w0.os∧((w2.at d2).alloc (.chan 0 #[] false 0 0 false)).output=w0.output:=qy;generalize (w2.at d2).alloc (.chan 0 #[] false 0 0 false)=w3 at *;obtain⟨i77,Ua,Pb⟩:=zam.1 L6;simp only[zab]at Pb;refine Goes.BP (ops:=g1 f43) (i:=1) (rest:=[2]) rfl rfl (by decide) (dd:=some 3) rfl (v:= .pointer (some ⟨w3.heap.size,0,none⟩)) (nw:=λw=>w.alloc (.cells #[.chan none] 132)) (λd=>?_) (λd=>?_) (λd3=>?_)
 ·have hop:(g1 f43)[1].op=.alloc 132:=rfl;unfold execOp;simp only[hop,Sem.run_bind,(WI Ua Pb.2 _).1,Result.andThen_ok,Sem.run_pure];rfl
 ·have hop:(g1 f43)[1].op=.alloc 132:=rfl;unfold execOp;simp only[hop,Sem.events_bind,(WI Ua Pb.2 _).1,(WI Ua Pb.2 _).2,Result.evThen_ok,Sem.events_pure]
 rw[hs2];have p3:(a3.put (some 3) (.pointer (some ⟨w0.heap.size+2,0,none⟩))).eval (.tmp 3)=.pointer (some ⟨w0.heap.size+2,0,none⟩):=bk (by rw[qs3];decide);have p7b:(a3.put (some 3) (.pointer (some ⟨w0.heap.size+2,0,none⟩))).eval (.tmp 7)=.chan (some (w0.heap.size+1)):=(aO (by decide)).trans p7;have p1b:(a3.put (some 3) (.pointer (some ⟨w0.heap.size+2,0,none⟩))).eval (.tmp 1)=.pointer (some ⟨w0.heap.size,0,none⟩):=(aO (by decide)).trans p1a;have qs4:(a3.put (some 3) (.pointer (some ⟨w0.heap.size+2,0,none⟩))).tmps.size=20:=size_put.trans qs3;have qd4:(a3.put (some 3) (.pointer (some ⟨w0.heap.size+2,0,none⟩))).defers=[]:=cM.trans qd3;generalize a3.put (some 3) (.pointer (some ⟨w0.heap.size+2,0,none⟩))=a4 at *;have hs3:((w3.at d3).alloc (.cells #[.chan none] 132)).heap.size=w0.heap.size+3:=(bX _ _).trans (congrArg (· + 1) hs2);have ho3:∀b,b<w0.heap.size→((w3.at d3).alloc (.cells #[.chan none] 132)).heap[b]?=w0.heap[b]?:=λb h=>(gO (H:=w3.heap) (by omega)).trans (ho2 b h);have hx3:((w3.at d3).alloc (.cells #[.chan none] 132)).heap[w0.heap.size]?=some (.cells #[.string ⟨⟨s⟩⟩] 9):=(gO (H:=w3.heap) (by omega)).trans hx2;have hc3:((w3.at d3).alloc (.cells #[.chan none] 132)).heap[w0.heap.size+1]?=some (.chan 0 #[] false 0 0 false):=(gO (H:=w3.heap) (by omega)).trans hc2;have hy3:((w3.at d3).alloc (.cells #[.chan none] 132)).heap[w0.heap.size+2]?=some (.cells #[.chan none] 132):=rF (H:=w3.heap) hs2.symm;have ht3:((w3.at d3).alloc (.cells #[.chan none] 132)).tape=w0.tape∧((w3.at d3).alloc (.cells #[.chan none] 132)).os=w0.os∧((w3.at d3).alloc (.cells #[.chan none] 132)).output=w0.output:=WJ;generalize (w3.at d3).alloc (.cells #[.chan none] 132)=w4 at *;refine Goes.opn (ops:=g1 f43) (i:=2) (rest:=[]) rfl rfl (by decide) (dd:=none) rfl (nw:=λw=>w.setCell ⟨w0.heap.size+2,0,none⟩ (.chan (some (w0.heap.size+1)))) (es:=#[⟨.cell ⟨w0.heap.size+2,0,none⟩,true,false⟩]) (λd=>?_) (λd=>?_) (λe he=>?_) (λd4=>?_)
 ·have hop:(g1 f43)[2].op=.store 132 (.tmp 3) (.tmp 7):=rfl;have hq:(w4.at d).heap[w0.heap.size+2]?=some (.cells #[.chan none] 132):=hy3;unfold execOp;simp only[hop,p3,p7b,Sem.run_bind,(stz hq).1,Result.andThen_ok,Sem.run_pure]
 ·have hop:(g1 f43)[2].op=.store 132 (.tmp 3) (.tmp 7):=rfl;have hq:(w4.at d).heap[w0.heap.size+2]?=some (.cells #[.chan none] 132):=hy3;unfold execOp;simp only[hop,p3,p7b,Sem.events_bind,(stz hq).1,(stz hq).2,Result.evThen_ok,Sem.events_pure]
 ·simp only[zbb,zas,zbc,or_false]at he;subst he;refine⟨λx hx hz=>?_,by simp,by simp,?_⟩
  ·simp only[MemAct.ofEvent,MemAct.touch?]at hx;cases hx;exact absurd hz hZ
  ·exact hB
 rw[vT];have Kj:((w4.at d4).setCell ⟨w0.heap.size+2,0,none⟩ (.chan (some (w0.heap.size+1)))).heap.size=w0.heap.size+3:=by
  show(Array.modify w4.heap _ _).size=_;rw[Array.size_modify];exact hs3
 have ho4:∀b,b<w0.heap.size→((w4.at d4).setCell ⟨w0.heap.size+2,0,none⟩ (.chan (some (w0.heap.size+1)))).heap[b]?=w0.heap[b]?:=λb h=>(Below.heap_setCell _ _ _ b (by show b≠w0.heap.size+2;omega)).trans (ho3 b h);have hx4:((w4.at d4).setCell ⟨w0.heap.size+2,0,none⟩ (.chan (some (w0.heap.size+1)))).heap[w0.heap.size]?=some (.cells #[.string ⟨⟨s⟩⟩] 9):=(Below.heap_setCell _ _ _ _ (by show w0.heap.size≠w0.heap.size+2;omega)).trans hx3;have hc4:((w4.at d4).setCell ⟨w0.heap.size+2,0,none⟩ (.chan (some (w0.heap.size+1)))).heap[w0.heap.size+1]?=some (.chan 0 #[] false 0 0 false):=(Below.heap_setCell _ _ _ _ (by show w0.heap.size+1≠w0.heap.size+2;omega)).trans hc3;have hy4:((w4.at d4).setCell ⟨w0.heap.size+2,0,none⟩ (.chan (some (w0.heap.size+1)))).heap[w0.heap.size+2]?=some (.cells #[.chan (some (w0.heap.size+1))] 132):=one_setCell (w:=w4.at d4) hy3;have ht4:((w4.at d4).setCell ⟨w0.heap.size+2,0,none⟩ (.chan (some (w0.heap.size+1)))).tape=w0.tape∧((w4.at d4).setCell ⟨w0.heap.size+2,0,none⟩ (.chan (some (w0.heap.size+1)))).os=w0.os∧((w4.at d4).setCell ⟨w0.heap.size+2,0,none⟩ (.chan (some (w0.heap.size+1)))).output=w0.output:=ht3;generalize (w4.at d4).setCell ⟨w0.heap.size+2,0,none⟩ (.chan (some (w0.heap.size+1)))=w5 at *;refine Goes.ctl rfl (λ_=>stepG_region_end) ?_;refine Goes.ctl rfl (λ_=>stepG_seq (x:= .region 2 (g2 f43) false) (y:=D3 f43)) ?_;refine Goes.ctl rfl (λ_=>stepG_region) ?_;obtain⟨i87,Ub,aa1⟩:=zam.1 T6;obtain⟨z87,Uc,Yt⟩:=zam.1 aa1;refine Goes.BP (ops:=g2 f43) (i:=0) (rest:=[]) rfl rfl (by decide) (dd:=some 4) rfl (v:= .pointer (some ⟨w5.heap.size,0,none⟩)) (nw:=λw=>w.alloc (wgBlock cG.tWg 0 0)) (λd=>?_) (λd=>?_) (λd5=>?_)
 ·have hop:(g2 f43)[0].op=.alloc 142:=rfl;unfold execOp;simp only[hop,Sem.run_bind,(WI Ub Uc _).1,Result.andThen_ok,Sem.run_pure,Yt];rfl
 ·have hop:(g2 f43)[0].op=.alloc 142:=rfl;unfold execOp;simp only[hop,Sem.events_bind,(WI Ub Uc _).1,(WI Ub Uc _).2,Result.evThen_ok,Sem.events_pure]
 rw[Kj];have gb:GB (a4.put (some 4) (.pointer (some ⟨w0.heap.size+3,0,none⟩))) w0.heap.size:=⟨size_put.trans qs4,(aO (by decide)).trans p1b,(aO (by decide)).trans p3,bk (by rw[qs4];decide),cM.trans qd4⟩;generalize a4.put (some 4) (.pointer (some ⟨w0.heap.size+3,0,none⟩))=a5 at *;have hl:Laid s w0 ((w5.at d5).alloc (wgBlock cG.tWg 0 0)):=⟨(bX _ _).trans (congrArg (· + 1) Kj),λb h=>(gO (H:=w5.heap) (by omega)).trans (ho4 b h),(gO (H:=w5.heap) (by omega)).trans hx4,(gO (H:=w5.heap) (by omega)).trans hc4,(gO (H:=w5.heap) (by omega)).trans hy4,ht4.1,ht4.2.1,ht4.2.2⟩;have En:WgAt cG.tWg (w0.heap.size+3) ((w5.at d5).alloc (wgBlock cG.tWg 0 0)) 0 0:=rF (H:=w5.heap) Kj.symm;generalize (w5.at d5).alloc (wgBlock cG.tWg 0 0)=w6 at *;refine Goes.ctl rfl (λ_=>stepG_region_end) ?_;refine Goes.ctl rfl (λ_=>stepG_seq (x:= .region 3 (g3 f43) false) (y:=D4 f43)) ?_;refine Goes.ctl rfl (λ_=>stepG_region) ?_;refine Goes.ctl rfl (λ_=>jH (ops:=g3 f43) (i:=0) (rest:=[]) (f:=68) (args:=#[.pointer (some ⟨w0.heap.size+3,0,none⟩),.int .i64 1]) rfl rfl (by decide) rfl (by have h4:=gb.s4;simp only[zbe,zao,zaG,h4];rfl)) ?_;refine Goes.stop λw₁ h₁=>?_;obtain⟨d6,rfl⟩:=h₁;exact⟨a5,gb,rfl,⟨hl.size,hl.old,hl.txt,hl.chan,hl.box,hl.tape,hl.os,hl.output⟩,En⟩
end Go.Ren
namespace Go.Ren
open Go Go.Conc
open Go.ConcN (sumTo upd sumTo_upd upd_ne upd_same)
structure fS (Q Shun:Loc→Prop) (B d:Nat) (t:Trace):Prop where
 clean:∀said,¬Race said t
 known:∀i a,touchAt t i=some a→a.loc.isMemory=true→Knows t 0 i∨(Shun a.loc∧a.kind=.atomic)
 over:t.HandedOver
 deaf:Deaf t 0=d
 seen:∀op∈t,op.act.low B
 quiet:∀i a,touchAt t i=some a→Q a.loc→a.kind≠.plain∧(a.kind=.said→t.g? i=some 0)
section
variable {Q Shun:Loc→Prop}{B d d':Nat}{t u:Trace}
theorem fS.past (h:fS Q Shun B 0 t):Past Shun B t:=⟨h.clean,h.known,h.over,h.deaf,h.seen⟩
theorem fS.GX (h:Past Shun B t)(hq:∀i a,touchAt t i=some a→¬Q a.loc):fS Q Shun B 0 t:=⟨h.clean,h.known,h.over,h.hears,h.seen,λi a ha hl=>absurd hl (hq i a ha)⟩
theorem fS.app0 (h:fS Q Shun B d t)(hu:∀op∈u,op.g=0)(hs:∀op∈u,∀b,op.act.touch? =some b→(Shun b.loc∨Q b.loc)→b.kind≠.plain)(hd:Deaf (t++u) 0=d')(hl:∀op∈u,op.act.low B):fS Q Shun B d' (t++u):=by
 refine⟨λsaid=>noRace_append (h.clean said) hu λi a ha op hop b hb hc=>?_,λi a ha hm=>?_,handedOver_app h.over λop hop=> .inl (hu op hop),hd,seen_app h.seen hl,λi a ha hq=>?_⟩
 ·rcases h.known i a ha hc.2.1 with hk|⟨Bx,hka⟩
  ·exact hk
  ·have hkb:=hs op hop b hb (.inl (hc.1▸Bx));obtain⟨_,_,_,GI⟩:=hc;rw[hka]at GI;rcases GI with x|x|⟨_,x,_⟩
   ·cases x
   ·exact absurd x hkb
   ·cases x
 ·rcases bU ha with⟨_,ha'⟩|⟨_,op,hop,hx,_⟩
  ·exact(h.known i a ha' hm).imp (·.app u) id
  ·have:=knows_own hx;rw[hu op hop]at this;exact .inl this
 ·rcases bU ha with⟨hi,ha'⟩|⟨_,op,hop,hx,hb⟩
  ·rw[g?_old hi];exact h.quiet i a ha' hq
  ·exact⟨hs op hop a hb (.inr hq),λ_=>by simp[Trace.g?,hx,hu op hop]⟩
theorem fS.appMute {g:Nat}(h:fS Q Shun B d t)(hg:g≠0)(hu:∀op∈u,op.g=g)(hn:∀op∈u,op.act.touch? =none)(hl:∀op∈u,op.act.low B):fS Q Shun B d (t++u):=by
 have old:∀{i a},touchAt (t++u) i=some a→i<t.size∧touchAt t i=some a:=λha=>by
  rcases bU ha with h|⟨_,op,hop,_,hx⟩
  ·exact h
  ·rw[hn op hop]at hx;cases hx
 refine⟨λsaid=>noRace_append (h.clean said) hu λi a _ op hop b hb _=>(by rw[hn op hop]at hb;cases hb),λi a ha hm=>?_,handedOver_app h.over λop hop=> .inr (hn op hop),(Deaf_other t hg u hu).trans h.deaf,seen_app h.seen hl,λi a ha hq=>?_⟩
 ·exact(h.known i a (old ha).2 hm).imp (·.app u) id
 ·rw[g?_old (old ha).1];exact h.quiet i a (old ha).2 hq
end
section
variable {P:Program}{Q Shun:Loc→Prop}{B d:Nat}{K:Machine→Trace→Prop}{a:Goroutine}
theorem og {J:World→Trace→Prop}{n:Nat}(ha:a.status=.running)
 (hJ:∀w t d ops,J w t→(∃g,g≠0∧∀op∈ops,op.g=g)→(∀op∈ops,op.act.touch? =none∧∀a,op.act≠.mark (.release a))→(∀B,∀op∈ops,op.act.low B)→J (w.at d) (t++ops))
 (H:∀gs w sl t q,gs.size=n→Leavers P t gs q→gs[0]?=some a→J w t→∃m' ops,runT P (crowd gs w sl) 0=(.next m',ops)∧Reach P m' (t++ops) K):
 ∀gs w sl t q,gs.size=n→Leavers P t gs q→gs[0]?=some a→J w t→Reach P (crowd gs w sl) t K:=by
 intro gs w sl t q hn hL h0 hj;generalize hM:sumTo n q=M
 induction M using Nat.strongRecOn generalizing gs w sl t q with
 |_ M ih=>
 have Tx:∀g∈gs,awake g:=by
  intro g hg;obtain⟨i,hi,rfl⟩:=zbp.1 hg;rcases zbz i with rfl|jS
  ·have:gs[0]=a:=by simpa[Array.getElem?_eq_getElem hi]using h0
   rw[this];exact awake_of (.inl ha)
  ·exact awake_of ((hL.old i _ jS (zar hi)).status.elim .inl λx=> .inr (.inr x))
 obtain⟨i,g,dd,sl',hi,hg,hst⟩:=crowd_pick (P:=P) (w:=w) (sl:=sl) Tx ⟨0,a,h0,ha⟩;have xP:J (w.at dd) t:=by
  have:=hJ w t dd #[] hj ⟨1,by decide,by simp⟩ (by simp) (by simp);simpa using this
 rcases zbz i with rfl|jS
 ·obtain⟨m',ops,e,hR⟩:=H gs (w.at dd) sl' t q hn hL h0 xP;exact Reach.step (hst.trans e) hR
 ·have hq:=hL.old i g jS hi;have Ty:(i==0)=false:=by simp;omega
  have hlt:i<gs.size:=(zae.1 hi).1;cases Ep:q i with
  |zero=>rw[Ep]at hq;rw[hq.1]at hg;cases hg
  |succ k=>
   rw[Ep]at hq;rcases hq with⟨hf,_⟩|⟨_,g',es,hm,Er,hq'⟩
   ·rw[hf]at hg;cases hg
   have qX:=runT_crowd_go (P:=P) (sl:=sl') (i:=i) hi (by rw[Ty];exact Er (w.at dd));have Tz:sumTo n (upd q i k)+(k+1)=sumTo n q+k:=by
    have:=sumTo_upd q k id (hn▸hlt);simpa[Ep]using this
   refine Reach.step (hst.trans qX) (ih (sumTo n (upd q i k)) (by omega) _ (w.at dd) sl' _ (upd q i k) (by simp[hn]) ⟨λj x hj hx=>?_,λj hj=>?_⟩ ?_ (hJ w t dd _ hj ⟨i,by omega,ofEvents_g⟩ (λop hop=>?_) (λB op hop=>?_)) rfl)
   ·by_cases Ac:i=j
    ·subst Ac;rw[zaV (by simpa using hlt)]at hx;obtain rfl:=Option.some.inj hx;rw[upd_same,Deaf_own];exact hq'
    ·rw[zan Ac,zal]at hx;obtain⟨y,hy,rfl⟩:=zam.1 hx;have K2:=hL.old j y hj hy;rw[woken_quitsD K2,upd_ne q k (Ne.symm Ac),Deaf_other t Ac _ ofEvents_g];exact K2
   ·rw[Deaf_other t (g':=i) (by simp at hj;omega) _ ofEvents_g];exact hL.above j (by simpa using hj)
   ·rw[zan (by omega),zal,h0];simp[woken_run ha]
   ·obtain⟨e,he,rfl⟩:=Conc.mem_ofEvents hop;exact⟨touch_mute (hm e he),λa=>pX (hm e he) a⟩
   ·obtain⟨e,he,rfl⟩:=Conc.mem_ofEvents hop;exact low_mute (hm e he) B
theorem wR {t:Trace}{gs:Array Goroutine}{q:Nat→Nat}{a':Goroutine}{w w':World}{sl:Option (Nat×Nat)}{es:Array Event}(hL:Leavers P t gs q)(h0:gs[0]?=some a)(hs:stepG P true a w=.go a' w' es):∃gs',runT P (crowd gs w sl) 0=(.next (crowd gs' w' sl),MemOp.ofEvents 0 a.frame.fn a.frame.place es)∧gs'.size=gs.size∧Leavers P (t++MemOp.ofEvents 0 a.frame.fn a.frame.place es) gs' q∧gs'[0]?=some a':=by
 have hlt:0<gs.size:=(zae.1 h0).1;refine⟨_,runT_crowd_go (P:=P) (sl:=sl) (i:=0) h0 (show stepG P (0==0) a w=_ from hs),by simp,⟨λj x hj hx=>?_,λj hj=>?_⟩,by simp[hlt]⟩
 ·rw[zan (by omega),zal]at hx;obtain⟨y,hy,rfl⟩:=zam.1 hx;have hq:=hL.old j y hj hy;rw[woken_quitsD hq,Deaf_other t (by omega) _ ofEvents_g];exact hq
 ·rw[Deaf_other t (g':=0) (by simp at hj;omega) _ ofEvents_g];exact hL.above j (by simpa using hj)
def At0 (P:Program)(Q Shun:Loc→Prop)(B d n:Nat)(Stop:Goroutine→World→Prop)(m:Machine)(t:Trace):Prop:=
 ∃gs a w sl q,m=crowd gs w sl∧gs.size=n∧gs[0]?=some a∧(∀w₁,AtRel w w₁→Stop a w₁)∧Leavers P t gs q∧fS Q Shun B d t
theorem jI {D:World→World→Array Event→Prop}{Stop:Goroutine→World→Prop}(hD:∀w w' es,D w w' es→∀e∈es,EvL (λl=>Shun l∨Q l) B e){n:Nat}:∀(N:Nat) (a:Goroutine) (w:World),Goes P true AtRel D Stop N a w→∀gs sl t q,gs.size=n→Leavers P t gs q→gs[0]?=some a→fS Q Shun B d t→Reach P (crowd gs w sl) t (At0 P Q Shun B d n Stop):=by
 intro N
 induction N with
 |zero=>intro a w hG gs sl t q hn hL h0 hP;exact .here ⟨gs,a,w,sl,q,rfl,hn,h0,hG,hL,hP⟩
 |succ N ih=>
  intro a w hG gs sl t q hn hL h0 hP;rcases hG with Yu|⟨hrun,hstep⟩
  ·exact .here ⟨gs,a,w,sl,q,rfl,hn,h0,Yu,hL,hP⟩
  refine og (J:=λw₁ t=>AtRel w w₁∧fS Q Shun B d t) hrun (λw₁ t dd ops hj ⟨g,hg,hgo⟩ h1 h2=>⟨atRel_trans _ _ _ hj.1 ⟨dd,rfl⟩,hj.2.appMute hg hgo (λop hop=>(h1 op hop).1) (h2 B)⟩) (λgs w₁ sl t q hn hL h0 hj=>?_) gs w sl t q hn hL h0 ⟨atRel_refl w,hP⟩;obtain⟨a',w',es,hgo,hd,hG'⟩:=goes_elim (hstep w₁ hj.1);obtain⟨gs',e1,e2,e3,e4⟩:=wR (sl:=sl) hL h0 hgo;have gi:=hD _ _ _ hd;refine⟨_,_,e1,ih a' w' hG' gs' sl _ q (e2.trans hn) e3 e4 (hj.2.app0 ofEvents_g (λop hop b hb hs=>?_) ?_ (λop hop=>?_))⟩
  ·obtain⟨e,he,rfl⟩:=Conc.mem_ofEvents hop;exact(gi e he).1 b hb hs
  ·rw[Deaf_own,deafBehind_still (λe he=>⟨(gi e he).2.1,(gi e he).2.2.1⟩)];exact hj.2.deaf
  ·obtain⟨e,he,rfl⟩:=Conc.mem_ofEvents hop;exact(gi e he).2.2.2
theorem tS {mk:Mark}{Next:Goroutine→World→Prop}{n:Nat}(hm:(MemAct.mark mk).touch? =none)(hl:(MemAct.mark mk).low B){gs:Array Goroutine}{a:Goroutine}{w:World}{sl:Option (Nat×Nat)}{t:Trace}{q:Nat→Nat}(hn:gs.size=n)(hL:Leavers P t gs q)(h0:gs[0]?=some a)(hP:fS Q Shun B d t)
 (hS:∀w₁,AtRel w w₁→Go.ConcX.AtMkS P mk Next a w₁):Reach P (crowd gs w sl) t λm t=>∃gs a w sl q,m=crowd gs w sl∧gs.size=n∧gs[0]?=some a∧Next a w∧Leavers P t gs q∧fS Q Shun B (deafBehind d #[Go.ConcX.mk mk]) t:=by
 refine og (J:=λw₁ t=>AtRel w w₁∧fS Q Shun B d t) (hS w (atRel_refl w)).1 (λw₁ t dd ops hj ⟨g,hg,hgo⟩ h1 h2=>⟨atRel_trans _ _ _ hj.1 ⟨dd,rfl⟩,hj.2.appMute hg hgo (λop hop=>(h1 op hop).1) (h2 B)⟩) (λgs w₁ sl t q hn hL h0 hj=>?_) gs w sl t q hn hL h0 ⟨atRel_refl w,hP⟩;obtain⟨_,a',hgo,rp⟩:=hS w₁ hj.1;obtain⟨gs',e1,e2,e3,e4⟩:=wR (sl:=sl) hL h0 hgo;refine⟨_,_,e1,.here ⟨gs',a',w₁,sl,q,rfl,e2.trans hn,e4,rp,e3,hj.2.app0 ofEvents_g (λop hop b hb hs=>?_) ?_ (λop hop=>?_)⟩⟩
 ·obtain⟨e,he,rfl⟩:=Conc.mem_ofEvents hop;simp at he;subst he;rw[show(MemAct.ofEvent (Go.ConcX.mk mk))=.mark mk from rfl,hm]at hb;cases hb
 ·rw[Deaf_own,hj.2.deaf]
 ·obtain⟨e,he,rfl⟩:=Conc.mem_ofEvents hop;simp at he;subst he;exact hl
end
end Go.Ren
namespace Go.Ren
open Go Go.Conc
open Go.ConcX (KK WgAt)
section
variable {P:Program}{Q Shun Shun':Loc→Prop}{B c:Nat}{ro:Nat→Prop}{t:Trace}
theorem Pc (hP:fS Q Shun B 0 t)(kj:∀l,Shun l→Shun' l)(hro:∀l,jR ro l→¬Shun l)(hc0:c≠0)(L8:Deaf t c=0){x y:MemOp}(hx:x.g=0∧x.act=.go c)(hy:y.g=c∧y.act=.start):TI Q Shun' c (λ_=>False) ro B (t++#[x,y])∧∀g,Deaf (t++#[x,y]) g=Deaf t g:=by
 have e:t++#[x,y]=(t++#[x])++#[y]:=by apply Array.toList_inj.1;simp
 have dx:∀g,Deaf (t++#[x]) g=Deaf t g:=λg=>dK t g _ λop hop m=>by simp at hop;subst hop;rw[hx.2];simp
 have dy:∀g,Deaf (t++#[x]++#[y]) g=Deaf (t++#[x]) g:=λg=>dK _ g _ λop hop m=>by simp at hop;subst hop;rw[hy.2];simp
 have h1:fS Q Shun B 0 (t++#[x]):=hP.app0 (λop hop=>by simp at hop;subst hop;exact hx.1) (λop hop b hb=>by simp at hop;subst hop;rw[hx.2]at hb;cases hb) ((dx 0).trans hP.deaf) (λop hop=>by simp at hop;subst hop;rw[hx.2];trivial);have h2:fS Q Shun B 0 (t++#[x]++#[y]):=h1.appMute hc0 (λop hop=>by simp at hop;subst hop;exact hy.1) (λop hop=>by simp at hop;subst hop;rw[hy.2];rfl) (λop hop=>by simp at hop;subst hop;rw[hy.2];trivial);rw[e];refine⟨⟨h2.clean,λi a ha hm=>(h2.known i a ha hm).imp id λh=> .inl ⟨kj _ h.1,h.2⟩,λi a _ hg=>?_,λi a ha hr hw=>?_,h2.quiet,λi g hg h0 _ Bn=>h2.over i g hg h0 Bn,h2.seen⟩,λg=>(dy g).trans (dx g)⟩
 ·generalize a.loc=l at hg;cases l<;>exact hg.elim
 ·have yl:a.loc.isMemory=true:=by
   generalize a.loc=l at hr;cases l<;>first|rfl|exact hr.elim
  have hold:touchAt t i=some a:=by
   rcases bU ha with⟨hi,ha'⟩|⟨_,op,hop,_,hb⟩
   ·rcases bU ha' with⟨hi',aa2⟩|⟨_,op,hop,_,hb⟩
    ·exact aa2
    ·simp at hop;subst hop;rw[hx.2]at hb;cases hb
   ·simp at hop;subst hop;rw[hy.2]at hb;cases hb
  have hk:Knows t 0 i:=(hP.known i a hold yl).resolve_right λh=>hro _ hr h.1;have gx:(t++#[x])[t.size]?=some x:=by simp
  have gx':(t++#[x]++#[y])[t.size]?=some x:=by rw[getElem?_append_old (by simp)];exact gx
  have gy:(t++#[x]++#[y])[t.size+1]?=some y:=by
   rw[Array.getElem?_append_right (by simp)];simp
  have b1:HappensBefore (t++#[x]++#[y]) i t.size:=hb_app _ (hk.hb_new (zaa _) gx hx.1);have hh1:(t++#[x]++#[y]).heard t.size:=⟨0,by unfold Trace.g?;rw[gx'];simp[hx.1],by
   rw[deaf_old (by simp),deaf_old (zaa _)];exact hP.deaf⟩
  have hh2:(t++#[x]++#[y]).heard (t.size+1):=⟨c,by unfold Trace.g?;rw[gy];simp[hy.1],by
   have hs:(t++#[x]).size=t.size+1:=by simp
   rw[←hs,deaf_old (zaa _)];exact(dx c).trans L8⟩
  have b2:HappensBefore (t++#[x]++#[y]) t.size (t.size+1):= .single (.inr ⟨.spawn (child:=c) (by rw[act?_of gx',hx.2]) (by rw[act?_of gy,hy.2]) (by unfold Trace.g?;rw[gy];simp[hy.1]),hh1,hh2⟩);exact⟨t.size+1,y,gy,hy.1,.inr (b1.trans b2)⟩
theorem Cq {n:Nat}(kj:∀l,Shun l→Shun' l)(hro:∀l,jR ro l→¬Shun l){gs:Array Goroutine}{a a' child:Goroutine}{w:World}{sl:Option (Nat×Nat)}{q:Nat→Nat}(hn:gs.size=n)(hL:Leavers P t gs q)(h0:gs[0]?=some a)(hP:fS Q Shun B 0 t)(ha:a.status=.running)
 (hS:∀w₁,AtRel w w₁→stepG P true a w₁=.spawn a' child w₁ #[]):
 Reach P (crowd gs w sl) t λm t=>∃gs w₁ sl q,m=crowd gs w₁ sl∧AtRel w w₁∧eJ P n t gs q∧gs[0]?=some a'∧gs[n]?=some child∧TI Q Shun' n (λ_=>False) ro B t∧Deaf t 0=0∧Deaf t n=0:=by
 refine og (J:=λw₁ t=>AtRel w w₁∧fS Q Shun B 0 t) ha (λw₁ t dd ops hj ⟨g,hg,hgo⟩ h1 h2=>⟨atRel_trans _ _ _ hj.1 ⟨dd,rfl⟩,hj.2.appMute hg hgo (λop hop=>(h1 op hop).1) (h2 B)⟩) (λgs w₁ sl t q hn hL h0 hj=>?_) gs w sl t q hn hL h0 ⟨atRel_refl w,hP⟩;have hlt:0<gs.size:=(zae.1 h0).1;have hrun:=runT_crowd_spawn (P:=P) (sl:=sl) (i:=0) h0 (show stepG P (0==0) a w₁=_ from hS w₁ hj.1);have L8:Deaf t n=0:=hL.above n (by omega);have aa3:∀(x y:MemOp),((MemOp.ofEvents 0 a.frame.fn a.frame.place #[]).push x).push y=#[x,y]:=λ_ _=>rfl;rw[aa3,hn]at hrun;obtain⟨hT,hD⟩:=Pc (c:=n) (x:={ g:=0,fn:=a.frame.fn,pos:=a.frame.place,act:= .go n }) (y:={ g:=n,fn:=child.frame.fn,pos:=a.frame.place,act:= .start }) hj.2 kj hro (by omega) L8 ⟨rfl,rfl⟩ ⟨rfl,rfl⟩;refine⟨_,_,hrun,.here ⟨_,w₁,sl,q,rfl,hj.1,⟨by simp[hn],by omega,λi g h1 h2 hg=>?_,λj hj'=>?_⟩,?_,?_,hT,(hD 0).trans hj.2.deaf,(hD n).trans L8⟩⟩
 ·rw[hD i];refine hL.old i g h1 ?_;rw[zbj,if_neg (by simp;omega),zan (by omega)]at hg;exact hg
 ·rw[hD j];exact hL.above j (by omega)
 ·rw[Array.getElem?_push_lt (by simp;omega)];simp
 ·have:(gs.setIfInBounds 0 a').size=n:=by simp[hn]
  rw[←this,Array.getElem?_push_size]
end
section
variable {P:Program}{ty:TypeId}{Q Shun Shun':Loc→Prop}{ch Wg n:Nat}{ro:Nat→Prop}{z:Value}{w:World}{x y:sP Wg w.heap.size}{After:(Nat→Prop)→World→Goroutine→World→Prop}
theorem Pd (hY:B7 Q Shun' n ch Wg w.heap.size ro (λb=>b=ch∨b=Wg))(kj:∀l,Shun l→Shun' l)(ze:x.C≠y.C)(X5:∀a:Addr,a.block=x.C→¬Shun' (.cell a))(X6:∀a:Addr,a.block=y.C→¬Shun' (.cell a))
 {vs:List Value}{gs:Array Goroutine}{sl:Option (Nat×Nat)}{t:Trace}{q:Nat→Nat}{a a' child:Goroutine}(hn:gs.size=n)(hL:Leavers P t gs q)(h0:gs[0]?=some a)(hP:fS Q Shun w.heap.size 0 t)(ha:a.status=.running)
 (hS:∀w₁,AtRel w w₁→stepG P true a w₁=.spawn a' child w₁ #[])(hch:∃s r tm,w.heap[ch]?=some (.chan 0 #[] false s r tm))(hw:WgAt ty Wg w KK 0)
 (hM:∀w₁,AtRel w w₁→lA P ro ch z (LA P ty x y After) vs (λ_=>False) a' w₁)(hG:∀w₁,AtRel w w₁→jT P ro ch (IE P ty x y) vs (λ_=>False) child w₁):
 Reach P (crowd gs w sl) t λm t=>∃w₁,AtRel w w₁∧Joined P Shun' n ch Wg w.heap.size After w₁ m t:=by
 refine(Cq (Shun':=Shun') (ro:=ro) kj (λl hl hs=>hY.rS l hl (kj l hs)) hn hL h0 hP ha hS).bind ?_;rintro m t ⟨gs,w₁,sl,q,rfl,hr,hC,h0,hc,hT,Wy,hdc⟩;have lY:w₁.heap=w.heap:=by obtain⟨d,rfl⟩:=hr;rfl
 refine(IG hY ze X5 X6 hC h0 hc (hM w₁ hr) (hG w₁ hr) ⟨by rw[lY];exact hT,Wy,λ_=>hdc,λ_ h=>h.elim,λ_ h=>h.elim,λ_ h=>h.elim,by rw[lY];exact zaa _,by rw[lY];exact hch,rfl,rfl,rfl,λ_ _ _=>rfl,rfl⟩ (hw.of_block (by rw[lY]))).mono λm t h=>⟨w₁,hr,h⟩
end
end Go.Ren
