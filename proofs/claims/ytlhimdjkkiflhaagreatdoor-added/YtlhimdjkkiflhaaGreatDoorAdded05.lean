import Derived.Shelf.Strings.Builder1
import Derived.Shelf.Small.Strs
import Derived.Shelf.Strings.BuilderF
import Derived.Shelf.Strings.BuilderK
import Derived.Shelf.Strconv.Itoa0
import Derived.Shelf.Strconv.Itoa1
import Derived.Shelf.LaysM
import Derived.Shelf.Strconv.Itoa2
import Derived.Shelf.Strconv.Itoa3
import Derived.Shelf.Strconv.Clone
import Derived.Shelf.Strings.Search1
import Derived.Shelf.Strings.Search2
import Derived.Shelf.Strings.Cut
import Derived.Shelf.Strings.Shaped
import Derived.Shelf.Strings.Prefix
import Derived.Test.YtlhimdjkkiflhaaGreatDoorRows
import Derived.WalkKit
import Derived.WalkSpells
import Derived.WalkLawsBesides
import Derived.Deep.QuietTactic
import Derived.BigQuiet
import Derived.Lib.ItoaMem
import Derived.Lib.AppendStr
import Derived.Lib.UnsafeStr
import Derived.Laws.Externs
import Derived.Test.YtlhimdjkkiflhaaGreatDoorAdded04
set_option maxHeartbeats 8000000
set_option maxRecDepth 100000
set_option linter.unusedSectionVars false
open Go.Value renaming int→Γ
open Go.IntKind renaming i64→Δ
open Go renaming undef→Θ,World→Λ,Calls→Φ,Value→ζ,maxLen→η,TypeId→ξ,execOp→φ,Frame→χ,Goroutine→ψ,TypeInfo→ω,Trace→ϋ
open Go.Lib renaming hasPrefix→Ξ,indexByte→Ω,byteCells→ϊ
open Int renaming gcd→θ
open Go.RowKit renaming Below→ι,intOf→υ
open ByteArray renaming mk→π
namespace Go.Ren
open Go.Proofs.Tryz
open Go Go.Conc Go.ConcX Go.RowKit Go.Conc.Lib Go.ConcX.Gen Go.Proofs Go.Loop
theorem NL (Wg:Nat):χ.enter prog 68 #[.pointer (some ⟨Wg,0,none⟩),Γ Δ 1] .normal=(base cv.add).at ⟨#[.pointer (some ⟨Wg,0,none⟩),Γ Δ 1,Θ,Θ,Θ,Θ,Θ,Θ,Θ,Θ,Θ,Θ,Θ,Θ,Θ,Θ,Θ,Θ,Θ,Θ,Θ,Θ,Θ,Θ,Θ,Θ,Θ,Θ,Θ,Θ,Θ,Θ,Θ,Θ,Θ,Θ,Θ,Θ,Θ,Θ,Θ,Θ,Θ,Θ,Θ,Θ,Θ,Θ,Θ,Θ,Θ,Θ,Θ,Θ,Θ,Θ,Θ,Θ,Θ,Θ,Θ,Θ,Θ,Θ,Θ,Θ,Θ,Θ,Θ,Θ,Θ,Θ,Θ,Θ,Θ,Θ,Θ,Θ,Θ,Θ,Θ,Θ,Θ,Θ,Θ,Θ,Θ,Θ,Θ,Θ,Θ,Θ,Θ,Θ,Θ,Θ,Θ,Θ,Θ,Θ,Θ,Θ,Θ,Θ,Θ,Θ,Θ,Θ,Θ,Θ,Θ,Θ,Θ,Θ,Θ,Θ,Θ],[]⟩ [.code (body_add cv)]:=by
 rw[enter_at (P:=prog) (f:=68) (c:=body_add cv) #[.pointer (some ⟨Wg,0,none⟩),Γ Δ 1] QN (by kernel_rfl)];have:(#[ζ.pointer (some ⟨Wg,0,none⟩),Γ Δ 1]++Array.replicate ((addFn cv).ntmps - (#[ζ.pointer (some ⟨Wg,0,none⟩),Γ Δ 1]:Array ζ).size) Θ)=#[.pointer (some ⟨Wg,0,none⟩),Γ Δ 1,Θ,Θ,Θ,Θ,Θ,Θ,Θ,Θ,Θ,Θ,Θ,Θ,Θ,Θ,Θ,Θ,Θ,Θ,Θ,Θ,Θ,Θ,Θ,Θ,Θ,Θ,Θ,Θ,Θ,Θ,Θ,Θ,Θ,Θ,Θ,Θ,Θ,Θ,Θ,Θ,Θ,Θ,Θ,Θ,Θ,Θ,Θ,Θ,Θ,Θ,Θ,Θ,Θ,Θ,Θ,Θ,Θ,Θ,Θ,Θ,Θ,Θ,Θ,Θ,Θ,Θ,Θ,Θ,Θ,Θ,Θ,Θ,Θ,Θ,Θ,Θ,Θ,Θ,Θ,Θ,Θ,Θ,Θ,Θ,Θ,Θ,Θ,Θ,Θ,Θ,Θ,Θ,Θ,Θ,Θ,Θ,Θ,Θ,Θ,Θ,Θ,Θ,Θ,Θ,Θ,Θ,Θ,Θ,Θ,Θ,Θ,Θ,Θ,Θ,Θ]:=by kernel_rfl
 rw[this]
variable {cs:List χ}{N:Nat}
def AtGo (s:List UInt8)(w0:Λ)(cs:List χ)(g:ψ)(w:Λ):Prop:=
 ∃a,GB a w0.heap.size∧a.eval (.tmp 9)=.func (.func 69) #[] #[.pointer (some ⟨w0.heap.size+3,0,none⟩),.pointer (some ⟨w0.heap.size,0,none⟩),.pointer (some ⟨w0.heap.size+2,0,none⟩)]∧
  g=G ((base 43).at a (.inRegion (g4 f43) [1]::.code (D5 f43)::[])) cs∧Laid s w0 w∧WgAt cv.tWg (w0.heap.size+3) w KK 0
theorem Ed {Wg C Low:Nat}(hW:Wg<Low)(hC:C<Low){Z:Loc→Prop}(hZ:∀a:Addr,a.block=C→¬Z (.cell a)){w w':Λ}{es:Array Event}(h:@DE (@EvS Wg C (nt Wg C Low pq hW hC)) w w' es):∀e∈es,EvL Z Low e:=by
 intro e he;obtain⟨h1,h2,h3,h4,h5,h6⟩:=h e he;have h6':okR Wg C Low (MemAct.ofEvent e):=h6;refine⟨λx hx hz=>?_,?_,?_,h6'.2⟩
 ·obtain⟨a,ha,hb⟩:=h6'.1 x hx;rcases hb with hb|hb
  ·exact(h1 x hx).1 (.inl ⟨a,ha,hb⟩)
  ·rw[ha]at hz;exact absurd hz (hZ a hb)
 ·intro e';exact h4 (by obtain⟨loc,wr,sy⟩:=e;simp only at e';subst e';rfl)
 ·intro e';exact h5 (by obtain⟨loc,wr,sy⟩:=e;simp only at e';subst e';rfl)
theorem Laid.abS {s:List UInt8}{w0 w:Λ}(h:Laid s w0 w)(v:ζ):Laid s w0 (w.setCell (stA (w0.heap.size+3)) v):=by
 have hb:∀b,b≠w0.heap.size+3→(w.setCell (stA (w0.heap.size+3)) v).heap[b]?=w.heap[b]?:=λb hb=>zau _ _ _ b hb;refine⟨?_,λb hlt=>(hb b (by omega)).trans (h.old b hlt),(hb _ (by omega)).trans h.txt,(hb _ (by omega)).trans h.chan,(hb _ (by omega)).trans h.box,h.tape,h.os,h.output⟩;show(Array.modify w.heap _ _).size=_;rw[Array.size_modify];exact h.size
theorem Laid.at {s:List UInt8}{w0 w:Λ}(h:Laid s w0 w)(d:Nat):Laid s w0 (w.at d):=⟨h.size,h.old,h.txt,h.chan,h.box,h.tape,h.os,h.output⟩
theorem GB.put {a:Act}{N:Nat}(h:GB a N){t:Tmp}{v:ζ}(h1:t≠1)(h3:t≠3)(h4:t≠4):GB (a.put (some t) v) N:=
 ⟨size_put.trans h.size,(aF h1).trans h.s1,(aF h3).trans h.s3,(aF h4).trans h.s4,cG.trans h.defers⟩
theorem Rg (s:List UInt8)(w0:Λ)(g:ψ)(w:Λ)(h:X8 s w0 cs g w)(hW:w0.heap.size+3<w0.heap.size+4)(hC:w0.heap.size<w0.heap.size+4):letI:=nt (w0.heap.size+3) w0.heap.size (w0.heap.size+4) pq hW hC
 Goes prog true AtRel (DE (EvS (w0.heap.size+3) w0.heap.size)) (AtMkS prog .disable λa w=>∃n,Goes prog true AtRel (DE (EvS (w0.heap.size+3) w0.heap.size)) (AtMkS prog .enable λa w=>∃n,Goes prog true AtRel (DE (EvS (w0.heap.size+3) w0.heap.size)) (AtGo s w0 cs) n a w) n a w) 12 g w:=by
 letI:=nt (w0.heap.size+3) w0.heap.size (w0.heap.size+4) pq hW hC
 obtain⟨a,hg,rfl,hl,JK⟩:=h;rw[NL];refine addPos (L:=cv) (b₀:=base 43) (a₀:=a) (ops₀:=g3 f43) (i₀:=0) (rest₀:=[]) (k₀:=[.code (D4 f43)]) (mT:=4) wgz w JK ?_;have hl':=hl.abS (.int .u64 KK);have ad7:WgAt cv.tWg (w0.heap.size+3) (w.setCell (stA (w0.heap.size+3)) (.int .u64 KK)) KK 0:=JK.setSt KK;generalize w.setCell (stA (w0.heap.size+3)) (.int .u64 KK)=w1 at *;change Goes _ _ _ _ _ _ (G ((base 43).at (a.put (some 8) (.tuple #[])) (.inRegion (g3 f43) []::.code (D4 f43)::[])) cs) _;have hg1:=hg.put (t:=8) (v:= .tuple #[]) (by decide) (by decide) (by decide);generalize a.put (some 8) (.tuple #[])=a1 at *;refine Goes.silent atRel_trans (λ_=>by intro e he;simp at he) rfl (λ_=>zaZ) ?_;refine Goes.silent atRel_trans (λ_=>by intro e he;simp at he) rfl (λ_=>zaU (x:= .region 4 (g4 f43) false) (y:=D5 f43)) ?_;refine Goes.silent atRel_trans (λ_=>by intro e he;simp at he) rfl (λ_=>zaX) ?_;refine Goes.silent (g':=G ((base 43).at (a1.put (some 9) (.func (.func 69) #[] #[.pointer (some ⟨w0.heap.size+3,0,none⟩),.pointer (some ⟨w0.heap.size,0,none⟩),.pointer (some ⟨w0.heap.size+2,0,none⟩)])) (.inRegion (g4 f43) [1]::.code (D5 f43)::[])) cs) atRel_trans (λ_=>by intro e he;simp at he) rfl (λw₁=>?_) ?_
 ·have hop:(g4 f43)[0].op=.makeFunc (.func 69) #[] #[.tmp 4,.tmp 1,.tmp 3]:=rfl;have hr:(φ a1.eval (g4 f43)[0]).run prog w₁=.ok (.value (.func (.func 69) #[] #[.pointer (some ⟨w0.heap.size+3,0,none⟩),.pointer (some ⟨w0.heap.size,0,none⟩),.pointer (some ⟨w0.heap.size+2,0,none⟩)])) w₁:=by
   unfold φ;simp[hop,Instr.makeFunc,hg1.s1,hg1.s3,hg1.s4]
  have he:(φ a1.eval (g4 f43)[0]).events prog w₁ #[]=#[]:=by
   unfold φ;simp[hop,Instr.makeFunc]
  have hq:=stepG_value (P:=prog) (main:=true) (b:=base 43) (k:=[.code (D5 f43)]) (cs:=cs) (ops:=g4 f43) (i:=0) (rest:=[1]) rfl rfl (by decide) hr;rw[listed_none he]at hq;exact hq
 ·refine Goes.stop λw₁ h₁=>?_;obtain⟨d,rfl⟩:=h₁;exact⟨_,hg1.put (by decide) (by decide) (by decide),aU (by rw[hg1.size];decide),rfl,hl'.at d,ad7⟩
def QG (N:Nat)(l:Loc):Prop:=l=.obj (N+1)∨∃a:Addr,l=.cell a∧a.block=N+3
def X9 (N:Nat)(b:Nat):Prop:=b=N∨b=N+2
theorem Rh {a:Act}{N:Nat}(h9:a.eval (.tmp 9)=.func (.func 69) #[] #[.pointer (some ⟨N+3,0,none⟩),.pointer (some ⟨N,0,none⟩),.pointer (some ⟨N+2,0,none⟩)])(w:Λ):stepG prog true (G ((base 43).at a (.inRegion (g4 f43) [1]::.code (D5 f43)::[])) cs) w=.spawn (G ((base 43).at a (.inRegion (g4 f43) []::.code (D5 f43)::[])) cs) (born prog (vK (N+3) N (N+2))) w #[]:=by
 have hop:(g4 f43)[1].op=.go { callee:= .value (.tmp 9),args:=#[],argTypes:=#[] }:=rfl;have hr:(φ a.eval (g4 f43)[1]).run prog w=.ok (.spawn (vK (N+3) N (N+2))) w:=by
  unfold φ;simp[hop,resolve,h9,Deferred.ofValue,vK]
 have he:(φ a.eval (g4 f43)[1]).events prog w #[]=#[]:=by
  unfold φ;simp[hop,resolve,h9,Deferred.ofValue]
 have hq:=stepG_spawn (P:=prog) (main:=true) (b:=base 43) (k:=[.code (D5 f43)]) (cs:=cs) (ops:=g4 f43) (i:=1) (rest:=[]) rfl rfl (by decide) hr rfl;rw[listed_none he]at hq;exact hq
theorem Ee {Low:Nat}{x y:vI (N+3) Low}(hx:x.C=N)(hy:y.C=N+2){a:Act}(hg:GB a N){ts:List Tok}(hts:ts.length≤1000000){W:Λ}(hb:prog.globals.size≤W.heap.size)(hsz:N+4≤W.heap.size)(ad8:W.heap[N+2]?=some (.cells #[.chan (some (N+1))] 132)):mC prog (X9 N) (N+1) (bR vL) (QM prog cv.tWg x y (Ec (X9 N) x.C y.C (N+3) (N+1) ts cs)) (ts.map bR) (λ_=>False) (G ((base 43).at a (.inRegion (g4 f43) []::.code (D5 f43)::[])) cs) W:=by
 rw[cH];refine af.silent rfl (λ_=>zaZ) ?_;refine af.silent rfl (λ_=>zaU (x:= .region 5 (g5 f43) false) (y:=D6 f43)) ?_;refine af.silent rfl (λ_=>zaX) ?_;refine af.mv (ops:=g5 f43) (i:=0) (rest:=[]) rfl rfl (by decide) (dd:=some 5) rfl (.inr rfl) (v:= .slice none 0 0) rfl ?_;have hg1:=hg.put (t:=5) (v:= .slice none 0 0) (by decide) (by decide) (by decide);have k5:(a.put (some 5) (.slice none 0 0)).eval (.tmp 5)=.slice none 0 0:=aU (by rw[hg.size];decide);generalize a.put (some 5) (.slice none 0 0)=a1 at *;refine af.silent rfl (λ_=>zaZ) ?_;refine af.silent rfl (λ_=>zaU (x:=bD (D6 f43)) (y:=D10 f43)) ?_;refine af.silent rfl (λ_=>zaU (x:= .region 6 (g6 f43) false) (y:= .block 0 (.loop (Lg f43)))) ?_;refine af.silent rfl (λ_=>zaX) ?_;refine af.DX (ops:=g6 f43) (i:=0) (rest:=[]) rfl rfl (by decide) (dd:=some 10) rfl (e:=132) (x:= .tmp 3) rfl (ad:=⟨N+2,0,none⟩) hg1.s3 (.inr rfl) (v:= .chan (some (N+1))) (cell_of_one ad8) (λw h=>Q8 (.inr rfl) w _ h) ?_;have hga:GtA (a1.put (some 10) (.chan (some (N+1)))) x.C y.C (N+3) (N+1):=⟨size_put.trans hg1.size,by rw[hx];exact(aF (by decide)).trans hg1.s1,by rw[hy];exact(aF (by decide)).trans hg1.s3,(aF (by decide)).trans hg1.s4,aU (by rw[hg1.size];decide),cG.trans hg1.defers⟩;have k5':(a1.put (some 10) (.chan (some (N+1)))).eval (.tmp 5)=.slice none 0 0:=(aF (by decide)).trans k5;generalize a1.put (some 10) (.chan (some (N+1)))=a2 at *;refine af.silent rfl (λ_=>zaZ) ?_;refine af.silent rfl (λ_=>stepG_block) ?_;refine af.silent rfl (λ_=>stepG_loop) ?_;have hH:pn (X9 N) (λ_=>False) W:=⟨λb hb=>by rcases hb with h|h|h<;>first|exact h.elim|omega,λ_ _ h=>h⟩;have hA:=At.empty (P:=prog) (S:=Sc) hH hb;have hGR:GR (X9 N) x.C y.C (N+3) (N+1) [] (λ_=>False) a2 W:=⟨hga,_,_,.slice none 0 0,hA,by rw[k5'];simp[rv],by unfold Cl;simp[rv],zbO _ _ _ _⟩;have:=NK (cs:=cs) (Fin:=QM prog cv.tWg x y (Ec (X9 N) x.C y.C (N+3) (N+1) ts cs)) ts [] (λ_=>False) a2 W hGR (by simpa using hts) (λown a W h=>Kd (by simpa using h));rw[cH]at this;exact this
end Go.Ren
set_option linter.unusedSectionVars false
namespace Go.Ren
open Go.Proofs.Tryz
open Go Go.Conc Go.ConcX Go.RowKit Go.Conc.Lib Go.ConcX.Gen Go.Proofs Go.Loop
variable {c:χ}{cs:List χ}
theorem NM {Z:Loc→Prop}{B:Nat}{a:Act}(hd:a.defers=[])(hs:a.tmps.size=20){v:ζ}(h5:a.eval (.tmp 5)=v)(w:Λ):Goes prog true AtRel (DZ Z B) (λg w'=>g=G (c.finish v) cs∧AtRel w w') 8 (Cz f43 a (c::cs)) w:=by
 unfold Cz;have h5':(a.put (some 18) (.tuple #[])).eval (.tmp 5)=v:=(aF (by decide)).trans h5;have hs':(a.put (some 18) (.tuple #[])).tmps.size=20:=size_put.trans hs;have hd':(a.put (some 18) (.tuple #[])).defers=[]:=cG.trans hd;generalize a.put (some 18) (.tuple #[])=a1 at *;refine Goes.ctl rfl (λ_=>zaZ) ?_;refine Goes.ctl rfl (λ_=>zaU (x:= .region 11 (g11 f43) false) (y:= .ret)) ?_;refine Goes.ctl rfl (λ_=>zaX) ?_;refine Goes.Jk (ops:=g11 f43) (i:=0) (rest:=[1]) rfl rfl (by decide) (dd:=some 19) rfl (v:=v) (nw:=λw=>w) (λd=>?_) (λd=>rfl) (λd=>?_)
 ·show(pure (.value (a1.eval (.tmp 5))):Sem Next).run prog _=_;rw[h5'];rfl
 have h19:(a1.put (some 19) v).eval (.tmp 19)=v:=aU (by rw[hs'];decide);have hs2:(a1.put (some 19) v).tmps.size=20:=size_put.trans hs';have hd2:(a1.put (some 19) v).defers=[]:=cG.trans hd';generalize a1.put (some 19) v=a2 at *;refine Goes.Jk (ops:=g11 f43) (i:=1) (rest:=[]) rfl rfl (by decide) (dd:=some 2) rfl (v:=v) (nw:=λw=>w) (λd=>?_) (λd=>rfl) (λd1=>?_)
 ·show(pure (.value (a2.eval (.tmp 19))):Sem Next).run prog _=_;rw[h19];rfl
 have h2:(a2.put (some 2) v).eval (.tmp 2)=v:=aU (by rw[hs2];decide);have hd3:(a2.put (some 2) v).defers=[]:=cG.trans hd2;generalize a2.put (some 2) v=a3 at *;refine Goes.ctl rfl (λ_=>zaZ) ?_;refine Goes.ctl rfl (λ_=>stepG_ret') ?_;refine Goes.ctl (g':=G (c.finish v) cs) rfl (λw₁=>?_) ?_
 ·refine stepG_leave (fn:=f43) rfl hd3 abQ ?_ ?_
  ·have jL:a3.tmps.getD 2 Θ=v:=h2;unfold results;rw[show f43.results=#[.tmp 2] from rfl];simp[←jL,go_sem]
  ·unfold results;rw[show f43.results=#[.tmp 2] from rfl];simp[go_sem]
 ·refine Goes.stop λw₁ h₁=>⟨rfl,?_⟩;exact atRel_trans _ _ _ (atRel_trans _ _ _ ⟨d,rfl⟩ ⟨d1,rfl⟩) h₁
def Gw (Shun:Loc→Prop)(ts:List Tok)(c:χ)(cs:List χ)(n:Nat)(w0:Λ)(m:Machine)(t:ϋ):Prop:=
 ∃(gs:Array ψ) (W:Λ) (sl:Option (Nat×Nat)) (q:Nat→Nat) (ρ:Rn) (w:Λ) (v:ζ) (Shun':Loc→Prop),m=crowd gs W sl∧gs.size=n+1∧gs[0]?=some (G (c.finish (rv ρ v)) cs)∧Leavers prog t gs q∧Past Shun' W.heap.size t∧
  (∀l,Shun' l→l.low W.heap.size)∧(∀l,l.low w0.heap.size→Shun' l→Shun l)∧(∀l,kx (Touch Sc.d ρ w) l→¬Shun' l)∧
  gH prog Sc ρ w W∧Cl prog Sc w v∧w.ownsRow prog.globals.size 131 7 v ts.length (ts.flatMap λt=>(ed t).toList)∧(∀b,Touch Sc.d ρ w b→w0.heap.size≤b)∧
  w0.heap.size≤W.heap.size∧(∀b,b<w0.heap.size→W.heap[b]?=w0.heap[b]?)∧W.tape=w0.tape∧W.os=w0.os∧W.output=w0.output
theorem quiet_of {Shun Q:Loc→Prop}{B:Nat}{t:ϋ}(h:Past Shun B t)(hQ:∀l,l.low B→¬Q l):∀i a,touchAt t i=some a→¬Q a.loc:=by
 intro i a ha;unfold touchAt at ha;obtain⟨act,h1,h2⟩:=zbf.1 ha;unfold Trace.act? at h1;obtain⟨op,h3,rfl⟩:=zaz.1 h1;exact hQ _ (Cc (h.seen op (zbI h3)) h2)
theorem wW:∀(n:Nat) (s:List UInt8) (a:Nat),(aG n s a).length≤n
 |0,s,a=>zab _
 |n+1,s,a=>by
  have:=wW n s (aL s a).ic;rw[aG];split
  ·simp
  ·simp;exact this
def ZN (N Low:Nat)(s:List UInt8)(h:N+4≤Low):vI (N+3) Low:=⟨⟨9⟩,N,[.string ⟨⟨s⟩⟩],by omega,by omega,by omega⟩
def ZO (N Low:Nat)(h:N+4≤Low):vI (N+3) Low:=⟨⟨132⟩,N+2,[.chan (some (N+1))],by omega,by omega,by omega⟩
theorem abT {Shun:Loc→Prop}{N n Low:Nat}(hn:n≠0)(ad9:Low=N+4)(hS:∀l,Shun l→l.low N):Gc (QG N) (λl=>Shun l∨QG N l) n (N+1) (N+3) Low (X9 N) (λb=>b=N+1∨b=N+3):=by
 subst ad9;refine⟨⟨hn,λb hb=>by rcases hb with h|h<;>omega,by omega,λh=>by rcases h with h|h<;>omega,λl h=> .inr h,λl h=>?_,λl hl h=>?_,.inl rfl⟩,by omega,by omega,λa ha=> .inr ⟨a,rfl,ha⟩,.inr rfl⟩
 ·rcases h with h|rfl|⟨a,rfl,ha⟩
  ·exact Loc.low_mono (by omega) (hS l h)
  ·show N+1<N+4;omega
  ·show a.block<N+4;omega
 ·rcases h with h|rfl|⟨a,rfl,ha⟩
  ·have:=hS l h;cases l with
   |cell a=>have h2:a.block<N:=this;rcases hl with h|h<;>omega
   |obj r=>have h2:r<N:=this;rcases hl with h|h<;>omega
   |_=>exact hl
  ·rcases hl with h|h<;>omega
  ·rcases hl with h|h<;>omega
section
variable {s:List UInt8}
 (hN:∀(n:Nat) (w:Λ),n≤s.length→Φ prog 120 #[.string ⟨⟨s⟩⟩,Γ Δ n] w λe _=>∃v,e=.returned v∧v=bR (aL s n))
 (hL:∀(t:Tok) (w:Λ),Φ prog 121 #[bR t] w λe _=>∃v,e=.returned v∧v=.bool t.lastB)
include hN hL in
theorem Ef {Shun:Loc→Prop}{gs:Array ψ}{w0:Λ}{sl:Option (Nat×Nat)}{t:ϋ}{q:Nat→Nat}(hlen:s.length≤1000)(hb:prog.globals.size≤w0.heap.size)(h0:gs[0]?=some (G (χ.enter prog 43 #[.string ⟨⟨s⟩⟩] .normal) (c::cs)))(hLv:Leavers prog t gs q)(hP:Past Shun w0.heap.size t)(hS:∀l,Shun l→l.low w0.heap.size):Reach prog (crowd gs w0 sl) t (Gw Shun (aG (s.length+1) s 0) c cs gs.size w0):=by
 have Py:gs.size≠0:=by have:=(zaf.1 h0).1;omega
 have hPQ:fK (QG w0.heap.size) Shun (w0.heap.size+4) 0 t:=fK.Mj (hP.mono (by omega)) (quiet_of hP λl hl hq=>by
  rcases hq with rfl|⟨a,rfl,ha⟩
  ·have:w0.heap.size+1<w0.heap.size:=hl;omega
  ·have:a.block<w0.heap.size:=hl;omega)
 refine(jZ (Q:=QG w0.heap.size) (Shun:=Shun) (B:=w0.heap.size+4) (D:=DZ (λl=>Shun l∨QG w0.heap.size l) (w0.heap.size+4)) (λ_ _ _ h=>h) 19 _ w0 (Ke (cs:=c::cs) s w0 (λhz=>?_) (by omega)) gs sl t q rfl hLv h0 hPQ).bind ?_
 ·rcases hz with hz|hz|⟨a,ha,hab⟩
  ·have:w0.heap.size+2<w0.heap.size:=hS _ hz;omega
  ·cases hz
  ·cases ha;have:w0.heap.size+2=w0.heap.size+3:=hab;omega
 rintro m t1 ⟨gs1,a1,w1,sl1,q1,rfl,ZP,h01,aea,aeb,hP1⟩;have hZ:∀a:Addr,a.block=w0.heap.size→¬(Shun (.cell a)∨QG w0.heap.size (.cell a)):=λa ha hz=>by
  rcases hz with hz|hz|⟨a',ha',hab⟩
  ·have:a.block<w0.heap.size:=hS _ hz;omega
  ·cases hz
  ·cases ha';omega
 have Ri:=Rg s w0 a1 w1 (aea w1 (atRel_refl w1)) (by omega) (by omega);refine(jZ (Q:=QG w0.heap.size) (Shun:=Shun) (B:=w0.heap.size+4) (λw w' es h=>Ed _ _ hZ h) 12 _ w1 Ri gs1 sl1 t1 q1 ZP aeb h01 hP1).bind ?_;rintro m t2 ⟨gs2,a2,w2,sl2,q2,rfl,PK,h02,aec,aed,hP2⟩;refine(wV (mk:= .disable) (by rfl) trivial PK aed h02 hP2 aec).bind ?_;rintro m t3 ⟨gs3,a3,w3,sl3,q3,rfl,hn3,h03,⟨n3,hG3⟩,aee,hP3⟩;refine(jZ (Q:=QG w0.heap.size) (Shun:=Shun) (B:=w0.heap.size+4) (λw w' es h=>Ed _ _ hZ h) n3 _ w3 hG3 gs3 sl3 t3 q3 hn3 aee h03 hP3).bind ?_;rintro m t4 ⟨gs4,a4,w4,sl4,q4,rfl,hn4,h04,aef,aeg,Q5⟩;refine(wV (mk:= .enable) (by rfl) trivial hn4 aeg h04 Q5 aef).bind ?_;rintro m t5 ⟨gs5,a5,w5,sl5,q5,rfl,hn5,h05,⟨n5,hG5⟩,aeh,hP5⟩;refine(jZ (Q:=QG w0.heap.size) (Shun:=Shun) (B:=w0.heap.size+4) (λw w' es h=>Ed _ _ hZ h) n5 _ w5 hG5 gs5 sl5 t5 q5 hn5 aeh h05 hP5).bind ?_;rintro m t6 ⟨gs6,a6,w6,sl6,q6,rfl,hn6,h06,aei,aej,hP6⟩;have QJ:deafBehind (deafBehind 0 #[Go.ConcX.mk .disable]) #[Go.ConcX.mk .enable]=0:=by rfl
 rw[QJ]at hP6;obtain⟨a,hg,h9,rfl,hl,JK⟩:=aei w6 (atRel_refl w6);have hsz:w6.heap.size=w0.heap.size+4:=hl.size;rw[←hsz]at hP6;have Kf:w0.heap.size+4≤w6.heap.size:=by omega
 have nz:prog.globals.size≤w6.heap.size:=by omega
 have abU:=We (P:=prog) (ty:=cv.tWg) (Q:=QG w0.heap.size) (Shun:=Shun) (Shun':=λl=>Shun l∨QG w0.heap.size l) (ch:=w0.heap.size+1) (Wg:=w0.heap.size+3) (n:=gs.size) (ro:=X9 w0.heap.size) (z:=bR vL) (w:=w6) (x:=ZN w0.heap.size w6.heap.size s Kf) (y:=ZO w0.heap.size w6.heap.size Kf)
  (After:=Ec (X9 w0.heap.size) w0.heap.size (w0.heap.size+2) (w0.heap.size+3) (w0.heap.size+1) (aG (s.length+1) s 0) (c::cs)) (vs:=(aG (s.length+1) s 0).map bR) (sl:=sl6)
  (abT Py hsz hS) (λl h=> .inl h) (by show w0.heap.size≠w0.heap.size+2;omega) (λa ha=>hZ a ha) (λa ha hz=>?_) hn6 aej h06 hP6 rfl (λw₁ _=>Rh h9 w₁) ⟨0,0,false,hl.chan⟩ JK (λw₁ h₁=>?_) (λw₁ h₁=>?_)
 rotate_left
 ·have hab:a.block=w0.heap.size+2:=ha;rcases hz with hz|hz|⟨a',ha',afN⟩
  ·have:a.block<w0.heap.size:=hS _ hz;omega
  ·cases hz
  ·cases ha';omega
 ·obtain⟨d,rfl⟩:=h₁;exact Ee (x:=ZN w0.heap.size w6.heap.size s Kf) (y:=ZO w0.heap.size w6.heap.size Kf) rfl rfl hg (by have:=wW (s.length+1) s 0;omega) nz Kf hl.box
 ·obtain⟨d,rfl⟩:=h₁;exact Ka (x:=ZN w0.heap.size w6.heap.size s Kf) (y:=ZO w0.heap.size w6.heap.size Kf) (by show w0.heap.size≠w0.heap.size+1;omega) (by show w0.heap.size+2≠w0.heap.size+1;omega) (.inl rfl) (.inr rfl) hN hL (w6.at d) ⟨λb hb=>by
   rcases hb with h|h|h
   ·exact h.elim
   ·show b<w6.heap.size;omega
   ·show b<w6.heap.size;omega,λ_ _ h=>h⟩ nz ⟨hl.txt,hl.box⟩ (cell_of_one (w:=w6.at d) hl.txt) (cell_of_one (w:=w6.at d) hl.box)
 refine abU.bind ?_;rintro m t7 ⟨w₁,⟨d1,rfl⟩,gs7,w',w7,sl7,q7,a7,own,rfl,hn7,h07,afA,⟨a',⟨hga,ρ,w,v,hA,h5,dY,hrow⟩,rfl,NP⟩,afO,aek,hP7,abV,afB,ZQ,ht7,ael,abW⟩;refine(jZ (Q:=λ_=>False) (Shun:=λl=>Shun l∨QG w0.heap.size l) (B:=w7.heap.size) (D:=DZ (λl=>(Shun l∨QG w0.heap.size l)∨False) w7.heap.size) (λ_ _ _ h=>h) 8 _ w7 (NM (c:=c) (cs:=cs) hga.defers hga.size h5 w7) gs7 sl7 t7 q7 hn7 aek h07 (fK.Mj hP7 λ_ _ _ h=>h)).mono ?_;rintro m t8 ⟨gs8,a8,w8,sl8,q8,rfl,hn8,h08,aem,aen,hP8⟩;obtain⟨rfl,d8,e8⟩:=aem w8 (atRel_refl w8);have mY:w8.heap=w7.heap:=by rw[e8];rfl
 have afP:w7.heap.size=w'.heap.size:=NP.size;have Eg:∀b,Touch Sc.d ρ w b→w0.heap.size+4≤b:=λb hb=>by have:=abV b (hA.XT b hb);omega
 have hblk:∀b,Touch Sc.d ρ w b→w8.heap[b]?=w'.heap[b]?:=λb hb=>by
  have:=Eg b hb;rw[mY];exact NP.block b (by omega) (by omega) (by omega)
 have hS8:=hA.xn.grow (aC:=w8) (by rw[mY];omega) hblk;refine⟨gs8,w8,sl8,q8,_,w,v,λl=>Shun l∨QG w0.heap.size l,rfl,hn8,?_,aen,by rw[mY];exact hP8.past,λl hl'=>?_,λl dP hl'=>?_,λl hl'=>?_,hS8,dY,hrow,λb hb=>?_,by rw[mY];omega,λb hb=>?_,?_,?_,?_⟩
 ·rw[h08];have:rv (cN ρ w.heap.size w8.heap.size) v=rv ρ v:=dY.agree (λr hr=>aJ hr) (DL hA.xn hS8);rw[this]
 ·have:=(abT (Low:=w6.heap.size) Py hsz hS).tF l hl';exact Loc.low_mono (by rw[mY];omega) this
 ·rcases hl' with h|rfl|⟨a,rfl,ha⟩
  ·exact h
  ·have:w0.heap.size+1<w0.heap.size:=dP;omega
  ·have:a.block<w0.heap.size:=dP;omega
 ·rw[cC]at hl';rintro (h|rfl|⟨a,rfl,ha⟩)
  ·have Mk:=hS l h;cases l with
   |cell a=>have h1:=Eg _ hl';have h2:a.block<w0.heap.size:=Mk;omega
   |obj r=>have h1:=Eg _ hl';have h2:r<w0.heap.size:=Mk;omega
   |_=>exact hl'
  ·have h1:=Eg _ hl';omega
  ·have h1:=Eg _ hl';omega
 ·rw[cC]at hb;have:=Eg b hb;omega
 ·rw[mY,NP.block b (by omega) (by omega) (by omega),ZQ b (by omega) (by omega) (by omega)];exact hl.old b hb
 ·rw[e8];exact(NP.tape.trans ht7).trans hl.tape
 ·rw[e8];exact(NP.os.trans ael).trans hl.os
 ·rw[e8];exact(NP.output.trans abW).trans hl.output
end
end Go.Ren
namespace Go.Proofs
open Go.Proofs.Tryz
open Go.Shelf
def Tryz.Gx:Go.Shelf.Ren:=⟨λ|137=>127|217=>174|266=>202|n=>n,λ|9=>9|5=>5|3=>3|n=>n,λ|n=>n⟩
theorem Tryz.Wh:Go.Proofs.Lays.n137 prog Tryz.Gx:={
 mixed:=by kernel_rfl
 f137:=func127.trans (zal some (by kernel_rfl))
 f217:=func174.trans (zal some (by kernel_rfl))
 f266:=func202.trans (zal some (by kernel_rfl))
 t3:=underlying3
 a3:=Tryz.isAgg3
 z3:=Tryz.sizeOf3
 v3:=Tryz.zeroValue3
 t5:=underlying5
 a5:=Tryz.isAgg5
 z5:=Tryz.sizeOf5
 v5:=Tryz.zeroValue5
 t9:=underlying9
 a9:=Tryz.isAgg9
 z9:=Tryz.sizeOf9
 v9:=Tryz.zeroValue9 }
open Go.RowKit in
theorem Tryz.strings_IndexByte (s:ByteArray)(c:Int)(w:Λ):Φ prog 127 #[.string s,.int .u8 c] w λe w'=>e=.returned (Γ Δ (Ω s.data.toList c.toNat.toUInt8))∧w'=w:=Any.strings_IndexByte Tryz.Wh s c w
def Tryz.Eh:Go.Shelf.Ren:=⟨λ|171=>100|243=>155|246=>190|283=>216|284=>217|285=>218|286=>219|129=>239|317=>238|318=>240|319=>241|320=>242|337=>245|338=>246|n=>n,λ|3=>3|9=>9|2=>2|4=>4|171=>282|0=>0|53=>137|37=>80|5=>5|173=>285|212=>300|51=>140|20=>20|213=>301|46=>200|232=>306|233=>307|n=>n,λ|17=>1|18=>2|19=>3|n=>n⟩
theorem Tryz.Rj:Go.Proofs.LaysM.n171 prog Tryz.Eh:={
 mixed:=by kernel_rfl
 f129:=func239.trans (zal some (by kernel_rfl))
 f171:=func100.trans (zal some (by kernel_rfl))
 f243:=func155.trans (zal some (by kernel_rfl))
 f246:=func190.trans (zal some (by kernel_rfl))
 f283:=func216.trans (zal some (by kernel_rfl))
 f284:=func217.trans (zal some (by kernel_rfl))
 f285:=func218.trans (zal some (by kernel_rfl))
 f286:=func219.trans (zal some (by kernel_rfl))
 f317:=func238.trans (zal some (by kernel_rfl))
 f318:=func240.trans (zal some (by kernel_rfl))
 f319:=func241.trans (zal some (by kernel_rfl))
 f320:=func242.trans (zal some (by kernel_rfl))
 f337:=func245.trans (zal some (by kernel_rfl))
 f338:=func246.trans (zal some (by kernel_rfl))
 t0:=underlying0
 a0:=Tryz.isAgg0
 z0:=Tryz.sizeOf0
 v0:=Tryz.zeroValue0
 t2:=underlying2
 a2:=Tryz.isAgg2
 z2:=Tryz.sizeOf2
 v2:=Tryz.zeroValue2
 t3:=underlying3
 a3:=Tryz.isAgg3
 z3:=Tryz.sizeOf3
 v3:=Tryz.zeroValue3
 t4:=underlying4
 a4:=Tryz.isAgg4
 z4:=Tryz.sizeOf4
 v4:=Tryz.zeroValue4
 t5:=underlying5
 a5:=Tryz.isAgg5
 z5:=Tryz.sizeOf5
 v5:=Tryz.zeroValue5
 t9:=underlying9
 a9:=Tryz.isAgg9
 z9:=Tryz.sizeOf9
 v9:=Tryz.zeroValue9
 t20:=underlying20
 a20:=Tryz.isAgg20
 z20:=Tryz.sizeOf20
 v20:=Tryz.zeroValue20
 t37:=underlying80
 a37:=Tryz.isAgg80
 z37:=Tryz.sizeOf80
 v37:=Tryz.zeroValue80
 t46:=underlying200
 a46:=Tryz.isAgg200
 z46:=Tryz.sizeOf200
 v46:=Tryz.zeroValue200
 t51:=underlying140
 a51:=Tryz.isAgg140
 z51:=Tryz.sizeOf140
 v51:=Tryz.zeroValue140
 t53:=underlying137
 a53:=Tryz.isAgg137
 z53:=Tryz.sizeOf137
 v53:=Tryz.zeroValue137
 t171:=underlying282
 a171:=Tryz.isAgg282
 z171:=Tryz.sizeOf282
 v171:=Tryz.zeroValue282
 t173:=underlying285
 a173:=Tryz.isAgg285
 z173:=Tryz.sizeOf285
 v173:=Tryz.zeroValue285
 t212:=underlying300
 a212:=Tryz.isAgg300
 z212:=Tryz.sizeOf300
 v212:=Tryz.zeroValue300
 t213:=underlying301
 a213:=Tryz.isAgg301
 z213:=Tryz.sizeOf301
 t232:=underlying306
 a232:=Tryz.isAgg306
 z232:=Tryz.sizeOf306
 v232:=Tryz.zeroValue306
 t233:=underlying307
 a233:=Tryz.isAgg307
 z233:=Tryz.sizeOf307
 v233:=Tryz.zeroValue307
 g17:=by kernel_rfl
 g18:=by kernel_rfl
 g19:=by kernel_rfl
 i0:=by kernel_rfl
 i2:=by kernel_rfl
 i3:=by kernel_rfl
 i4:=by kernel_rfl
 i5:=by kernel_rfl
 i9:=by kernel_rfl
 i20:=by kernel_rfl
 i37:=by kernel_rfl
 i46:=by kernel_rfl
 i51:=by kernel_rfl
 i53:=by kernel_rfl
 i171:=by kernel_rfl
 i173:=by kernel_rfl
 i212:=by kernel_rfl
 i232:=by kernel_rfl
 i233:=by kernel_rfl
 m17:=by kernel_rfl
 m18:=by kernel_rfl
 m19:=by kernel_rfl }
open Go.RowKit Go.Sort Go.Lib in
theorem Tryz.strconv_Itoa (n:Int)(h0: -9223372036854775808≤n)(h1:n≤9223372036854775807)(w:Λ)(aeo:Lib.TabIs prog w "internal/strconv.uint64pow10" .u64 Lib.pow10Tab):Φ prog 100 #[Γ Δ n] w λe w'=>e=.returned (.string ⟨(Lib.itoa n).toArray⟩)∧∃k os,w'=grow (w.drewN k) os:=Any.strconv_Itoa Tryz.Rj n h0 h1 w aeo
def Tryz.Ei:Go.Shelf.Ren:=⟨λ|316=>130|n=>n,λ|9=>9|3=>3|4=>4|37=>80|0=>0|127=>190|5=>5|n=>n,λ|n=>n⟩
theorem Tryz.Rk:Go.Proofs.LaysM.n316 prog Tryz.Ei:={
 mixed:=by kernel_rfl
 f316:=func130.trans (zal some (by kernel_rfl))
 t0:=underlying0
 a0:=Tryz.isAgg0
 z0:=Tryz.sizeOf0
 v0:=Tryz.zeroValue0
 t3:=underlying3
 a3:=Tryz.isAgg3
 z3:=Tryz.sizeOf3
 v3:=Tryz.zeroValue3
 t4:=underlying4
 a4:=Tryz.isAgg4
 z4:=Tryz.sizeOf4
 v4:=Tryz.zeroValue4
 t9:=underlying9
 a9:=Tryz.isAgg9
 z9:=Tryz.sizeOf9
 v9:=Tryz.zeroValue9
 t37:=underlying80
 a37:=Tryz.isAgg80
 z37:=Tryz.sizeOf80
 v37:=Tryz.zeroValue80
 t127:=underlying190
 a127:=Tryz.isAgg190
 z127:=Tryz.sizeOf190
 v127:=Tryz.zeroValue190
 t5:=underlying5
 a5:=Tryz.isAgg5
 z5:=Tryz.sizeOf5
 v5:=Tryz.zeroValue5
 i0:=by kernel_rfl
 i3:=by kernel_rfl
 i4:=by kernel_rfl
 i5:=by kernel_rfl
 i9:=by kernel_rfl
 i37:=by kernel_rfl
 i127:=by kernel_rfl }
open Go.RowKit in
theorem Tryz.stringslite_Clone (s:ByteArray)(w:Λ)(ZR:s.size≤281474976710656):Φ prog 130 #[.string s] w λe w'=>e=.returned (.string s)∧ι w.heap.size w w':=Any.stringslite_Clone Tryz.Rk s w ZR
def Tryz.Gy:Go.Shelf.Ren:=⟨λ|219=>247|217=>174|225=>248|224=>249|267=>250|266=>202|314=>251|n=>n,λ|9=>9|3=>3|4=>4|5=>5|46=>200|146=>308|51=>140|n=>n,λ|1=>0|n=>n⟩
theorem Tryz.Wi:Go.Proofs.Lays.n219 prog Tryz.Gy:={
 mixed:=by kernel_rfl
 f217:=func174.trans (zal some (by kernel_rfl))
 f219:=func247.trans (zal some (by kernel_rfl))
 f224:=func249.trans (zal some (by kernel_rfl))
 f225:=func248.trans (zal some (by kernel_rfl))
 f266:=func202.trans (zal some (by kernel_rfl))
 f267:=func250.trans (zal some (by kernel_rfl))
 f314:=func251.trans (zal some (by kernel_rfl))
 t3:=underlying3
 a3:=Tryz.isAgg3
 z3:=Tryz.sizeOf3
 v3:=Tryz.zeroValue3
 t4:=underlying4
 a4:=Tryz.isAgg4
 z4:=Tryz.sizeOf4
 v4:=Tryz.zeroValue4
 t5:=underlying5
 a5:=Tryz.isAgg5
 z5:=Tryz.sizeOf5
 v5:=Tryz.zeroValue5
 t9:=underlying9
 a9:=Tryz.isAgg9
 z9:=Tryz.sizeOf9
 v9:=Tryz.zeroValue9
 t46:=underlying200
 a46:=Tryz.isAgg200
 z46:=Tryz.sizeOf200
 v46:=Tryz.zeroValue200
 t51:=underlying140
 a51:=Tryz.isAgg140
 z51:=Tryz.sizeOf140
 v51:=Tryz.zeroValue140
 t146:=underlying308
 a146:=Tryz.isAgg308
 z146:=Tryz.sizeOf308
 v146:=Tryz.zeroValue308
 g1:=by kernel_rfl }
open Go.RowKit Go.Lib in
theorem Tryz.stringslite_Index_one (s:ByteArray)(c:UInt8)(w:Λ):Φ prog 247 #[.string s,.string ⟨#[c]⟩] w λe w'=>e=.returned (Γ Δ (Ω s.data.toList c))∧w'=w:=Any.stringslite_Index_one Tryz.Wi s c w
def Tryz.Kg:Go.Shelf.Ren:=⟨λ|99=>75|206=>128|n=>n,λ|9=>9|4=>4|3=>3|n=>n,λ|n=>n⟩
theorem Tryz.ZT:Go.Proofs.Lays.n99 prog Tryz.Kg:={
 mixed:=by kernel_rfl
 f99:=func75.trans (zal some (by kernel_rfl))
 f206:=func128.trans (zal some (by kernel_rfl))
 t3:=underlying3
 a3:=Tryz.isAgg3
 z3:=Tryz.sizeOf3
 v3:=Tryz.zeroValue3
 t4:=underlying4
 a4:=Tryz.isAgg4
 z4:=Tryz.sizeOf4
 v4:=Tryz.zeroValue4
 t9:=underlying9
 a9:=Tryz.isAgg9
 z9:=Tryz.sizeOf9
 v9:=Tryz.zeroValue9 }
open Go.RowKit Go.Lib in
theorem Tryz.strings_HasPrefix (s p:ByteArray)(w:Λ):Φ prog 75 #[.string s,.string p] w λe w'=>e=.returned (.bool (Ξ s.data.toList p.data.toList))∧w'=w:=Any.strings_HasPrefix Tryz.ZT s p w
end Go.Proofs
namespace Go.Proofs.YtlhimdjkkiflhaaGreatDoor
open Go.Proofs.Tryz
open Go.RowKit Go.Loop
theorem fV {k:IntKind}{a b:Int}(h:a=b):Ending.returned (.int k a)=.returned (.int k b):=by rw[h]
theorem ay {a b:Bool}(h:a=b):Ending.returned (.bool a)=.returned (.bool b):=by rw[h]
theorem dK (c:Int)(w:Λ):Φ prog 186 #[.int .u8 c] w λe w'=>e=.returned (.bool (dD c))∧w'=w:=by
 go_enter func186,ntmps186
 go_wp2
 all_goals
  go_ret;exact⟨ay (by simp[dD];try omega),rfl⟩
theorem iN (c:Int)(w:Λ):Φ prog 187 #[.int .u8 c] w λe w'=>e=.returned (.bool (mD c))∧w'=w:=by
 go_enter func187,ntmps187
 go_wp2
 all_goals
  go_ret;refine⟨ay ?_,rfl⟩;rw[zaP];simp[mD];omega
theorem Rl:∀n:Nat,n<256→X4 n=decide (0≤Ω [43,45,42,47,60,62,61,63,33,46,95] n.toUInt8):=by decide +kernel
theorem iO (c:Int)(w:Λ)(h0:0≤c)(h1:c≤255):Φ prog 149 #[.int .u8 c] w λe w'=>e=.returned (.bool (bz c))∧w'=w:=by
 have hs:=Rl c.toNat (by omega);rw[Int.toNat_of_nonneg h0]at hs;cases hl:mD c
 ·cases hd:dD c
  ·go_enter func149,ntmps149;go_wp2_with (first|(go_at_call 187;refine(iN _ _).mono ?_;rw[hl];rintro e w' ⟨rfl,rfl⟩)|(go_at_call 186;refine(dK _ _).mono ?_;rw[hd];rintro e w' ⟨rfl,rfl⟩)|(go_at_call 127;refine(Tryz.strings_IndexByte _ _ _).mono ?_;rintro e w' ⟨rfl,rfl⟩));all_goals
    go_ret;refine⟨ay ?_,rfl⟩;simp[bz,hl,hd,hs]
  ·go_enter func149,ntmps149;go_wp2_with (first|(go_at_call 187;refine(iN _ _).mono ?_;rw[hl];rintro e w' ⟨rfl,rfl⟩)|(go_at_call 186;refine(dK _ _).mono ?_;rw[hd];rintro e w' ⟨rfl,rfl⟩)|(go_at_call 127;refine(Tryz.strings_IndexByte _ _ _).mono ?_;rintro e w' ⟨rfl,rfl⟩));all_goals
    go_ret;refine⟨ay ?_,rfl⟩;simp[bz,hl,hd]
 ·go_enter func149,ntmps149;go_wp2_with (first|(go_at_call 187;refine(iN _ _).mono ?_;rw[hl];rintro e w' ⟨rfl,rfl⟩)|(go_at_call 186;refine(dK _ _).mono ?_;rintro e w' ⟨rfl,rfl⟩));all_goals
   go_ret;refine⟨ay ?_,rfl⟩;simp[bz,hl]
theorem NQ (s:ByteArray)(k:Nat)(h:k<s.size):s.data.toList.take (k+1)=s.data.toList.take k++[s[k]]:=by
 rw[zcA (by simpa using h)];rfl
theorem Rm (s:ByteArray)(k:Nat)(h:s.size≤k):s.data.toList.take k=s.data.toList:=zbC (by simpa using h)
theorem xS (c:UInt8)(r:List UInt8)(h:0<(π (Array.mk (c::r))).size):(π (Array.mk (c::r)))[0]'h=c:=rfl
theorem tQ (c:UInt8)(r:List UInt8):(π (Array.mk (c::r))).extract 1 (r.length+1)=⟨⟨r⟩⟩:=by
 apply ByteArray.ext;simp
theorem xT (c d:UInt8)(r:List UInt8):(π (Array.mk (c::d::r))).extract 1 (r.length+1+1)=⟨⟨d::r⟩⟩:=tQ c (d::r)
theorem nA (r:List UInt8):(π (Array.mk r)).toList=r:=by simp
section
attribute [local go_sem] xS tQ xT nA
theorem jC (c:UInt8)(r:List UInt8)(w:Λ)(hs:(c::r).length≤η):Φ prog 147 #[.string ⟨⟨c::r⟩⟩] w λe w'=>e=.returned (.bool (cy (c::r)))∧w'=w:=by
 unfold η at hs;simp at hs;cases hp:((c.toNat:Int)==43)
 ·cases hm:((c.toNat:Int)==45)
  ·have H:Hid (cy (c::r)=dD (c.toNat:Int)):=by
    simp at hp hm;exact BH c r hp hm
   go_enter func147,ntmps147;go_wp2_with (go_at_call 186;refine(dK _ _).mono ?_;rintro e w' ⟨rfl,rfl⟩);go_ret;exact⟨ay H.out.symm,rfl⟩
  ·cases r with
   |nil=>
    have H:Hid (cy [c]=false):=by simp at hm;exact rJ c (Or.inr hm)
    go_enter func147,ntmps147;go_wp2_with (go_at_call 186;refine(dK _ _).mono ?_;rintro e w' ⟨rfl,rfl⟩);go_ret;exact⟨ay H.out.symm,rfl⟩
   |cons d r=>
    have H:Hid (cy (c::d::r)=dD (d.toNat:Int)):=by
     simp at hm;exact rK c d r (Or.inr hm)
    simp at hs;go_enter func147,ntmps147;go_wp2_with (go_at_call 186;refine(dK _ _).mono ?_;rintro e w' ⟨rfl,rfl⟩);go_ret;exact⟨ay H.out.symm,rfl⟩
 ·cases r with
   |nil=>
    have H:Hid (cy [c]=false):=by simp at hp;exact rJ c (Or.inl hp)
    go_enter func147,ntmps147;go_wp2_with (go_at_call 186;refine(dK _ _).mono ?_;rintro e w' ⟨rfl,rfl⟩);go_ret;exact⟨ay H.out.symm,rfl⟩
   |cons d r=>
    have H:Hid (cy (c::d::r)=dD (d.toNat:Int)):=by
     simp at hp;exact rK c d r (Or.inl hp)
    simp at hs;go_enter func147,ntmps147;go_wp2_with (go_at_call 186;refine(dK _ _).mono ?_;rintro e w' ⟨rfl,rfl⟩);go_ret;exact⟨ay H.out.symm,rfl⟩
end
theorem dL (s:ByteArray)(Gz:Int)(w:Λ)(hs:s.size≤η)(h0:0≤Gz)(h1:Gz≤s.size):Φ prog 148 #[.string s,Γ Δ Gz,.func (.func 149) #[] #[]] w λe w'=>e=.returned (Γ Δ (Gz+br bz (s.data.toList.drop Gz.toNat)))∧w'=w:=by
 unfold η at hs;obtain⟨a,rfl⟩:=zbD h0;rw[zbp];go_enter func148,ntmps148;go_wp2_with fail;go_loop [1] (λi=>∃k:Nat,a≤k∧k≤s.size∧i=Γ Δ k∧Hid ((a:Int)+br bz (s.data.toList.drop a)=(k:Int)+br bz (s.data.toList.drop k))) (λi=>s.size-(υ i).toNat)
 case atStart=>exact⟨a,zab _,by omega,rfl,rfl⟩
 case round=>
  obtain⟨k,NR,hk,rfl,hr⟩:=hrel;by_cases hlt:k<s.size
  ·have hd:Hid (s.data.toList.drop k=s[k]::s.data.toList.drop (k+1)):=by show _=_;rw[zbU (by simpa using hlt)];rfl
   cases hp:bz (s[k].toNat :Int)
   ·have H:Hid (br bz (s.data.toList.drop k)=0):=by show _=_;rw[hd.out];simp[br,hp]
    go_wp2_with fail;refine(iO _ _ (by omega) (by have:=s[k].toNat_lt;omega)).mono ?_;rw[hp];rintro e w' ⟨rfl,rfl⟩;go_wp2_with fail;go_ret;refine⟨fV ?_,rfl⟩;rw[hr.out,H.out];simp
   ·have H:Hid (br bz (s.data.toList.drop k)=br bz (s.data.toList.drop (k+1))+1):=by show _=_;rw[hd.out];simp[br,hp]
    go_wp2_with fail;refine(iO _ _ (by omega) (by have:=s[k].toNat_lt;omega)).mono ?_;rw[hp];rintro e w' ⟨rfl,rfl⟩;go_wp2_with fail
    go_round
    case rel=>exact⟨k+1,by omega,by omega,by go_num,by show _=_;rw[hr.out,H.out];omega⟩
    case measure=>simp[υ];omega
  ·have H:Hid (br bz (s.data.toList.drop k)=0):=by show _=_;rw[zbE (by simp;omega)];rfl
   go_wp2_with fail;go_ret;refine⟨fV ?_,rfl⟩;rw[hr.out,H.out];simp
theorem GC (a b:Int):θ b (a.tmod b)=θ a b:=by
 have h:(a.tmod b)=a-b*(a.tdiv b):=by have:=Int.mul_tdiv_add_tmod a b;omega
 rw[h,Int.gcd_sub_mul_left_right,Int.gcd_comm]
theorem Ml (a b:Int)(hb:b≠0):(a.tmod b).natAbs <b.natAbs:=by
 rw[Int.natAbs_tmod];exact Nat.mod_lt _ (by omega)
theorem Ro (t:Int)(b:Int)(h:t.natAbs<b.natAbs)(hb1: -4611686018427387904≤b)(hb2:b≤4611686018427387904): -4611686018427387904≤t∧t≤4611686018427387904:=by omega
theorem tR (a:Int):((θ a 0:Nat):Int)=max a (-a):=by
 rw[Int.gcd_zero_right];omega
theorem GD (n d:Int)(w:Λ)(h1: -4611686018427387904≤n)(h2:n≤4611686018427387904)(h3: -4611686018427387904≤d)(h4:d≤4611686018427387904):Φ prog 214 #[Γ Δ n,Γ Δ d] w λe w'=>e=.returned (Γ Δ (θ n d))∧∃m,w'=w.drewN m:=by
 go_enter func214,ntmps214
 go_wp2
 go_loopw [0,1] (λx y wr=>∃a b:Int,x=Γ Δ a∧y=Γ Δ b∧-4611686018427387904≤a∧a≤4611686018427387904∧-4611686018427387904≤b∧b≤4611686018427387904∧Hid (θ a b=θ n d)∧∃m,wr=w.drewN m) (λ_ y _=>(υ y).natAbs)
 case atStart=>exact⟨n,d,rfl,rfl,h1,h2,h3,h4,rfl,0,rfl⟩
 case round=>
  obtain⟨a,b,rfl,rfl,ha1,ha2,hb1,hb2,hg,m,rfl⟩:=hrel;by_cases hb:b=0
  ·subst hb
   go_wp2
   go_ret;exact⟨fV (by rw[←hg.out,tR]),_,rfl⟩
  ·have PL:(b != 0)=true:=by simpa using hb
   have HT:Hid ((a.tmod b).natAbs <b.natAbs):=Ml a b hb;obtain⟨t1,t2⟩:=Ro _ _ HT.out hb1 hb2
   go_wp2
   go_quiet (fail)
   go_wp2
   go_roundw
   case rel=>exact⟨b,a.tmod b,rfl,rfl,hb1,hb2,t1,t2,(GC a b).trans hg.out,_,Λ.drewN_drewN _ _ _⟩
   case measure=>exact HT.out
theorem zD (n d:Int)(w:Λ)(h1: -4611686018427387904≤n)(h2:n≤4611686018427387904)(h3:1≤d)(h4:d≤4611686018427387904):Φ prog 188 #[Γ Δ n,Γ Δ d] w λe w'=>e=.returned (.tuple #[Γ Δ (n.tdiv (θ n d)),Γ Δ (d/(θ n d))])∧∃m,w'=w.drewN m:=by
 have hg:1≤((θ n d:Nat):Int):=by
  have:0<θ n d:=zct _ (by omega);omega
 go_enter func188,ntmps188;go_wp2_with (go_at_call 214;refine(GD _ _ _ (by omega) (by omega) (by omega) (by omega)).mono ?_;rintro e w' ⟨rfl,m,rfl⟩)
 go_quiet (fail)
 go_wp2
 go_ret2;exact⟨rfl,_,Λ.drewN_drewN _ _ _⟩
theorem Mm (n g:Int)(h1: -4611686018427387904≤n)(h2:n≤4611686018427387904)(_hg:1≤g): -4611686018427387904≤n.tdiv g∧n.tdiv g≤4611686018427387904:=by
 have:(n.tdiv g).natAbs≤n.natAbs:=by rw[Int.natAbs_tdiv];exact Nat.div_le_self _ _
 omega
theorem Rp (n g:Int)(h1:1≤n)(h2:n≤4611686018427387904)(hg:1≤g):0≤n/g∧n/g≤4611686018427387904:=by
 have h3:=Int.ediv_le_self (a:=n) g (by omega);have h4:=Int.ediv_nonneg (a:=n) (b:=g) (by omega) (by omega);omega
theorem o7 (n d:Int)(w:Λ)(h1: -4611686018427387904≤n)(h2:n≤4611686018427387904)(h3:1≤d)(h4:d≤4611686018427387904):Φ prog 150 #[Γ Δ n,Γ Δ d] w λe w'=>e=.returned (.tuple #[Γ Δ (n.tdiv (θ n d)),Γ Δ (d/(θ n d))])∧∃m,w'=w.drewN m:=by
 have hg:1≤((θ n d:Nat):Int):=by
  have:0<θ n d:=zct _ (by omega);omega
 obtain⟨t1,t2⟩:=Mm n _ h1 h2 hg;obtain⟨t3,t4⟩:=Rp d _ h3 h4 hg;go_enter func150,ntmps150;go_wp2_with (go_at_call 188;refine(zD _ _ _ (by omega) (by omega) (by omega) (by omega)).mono ?_;rintro e w' ⟨rfl,m,rfl⟩);generalize n.tdiv (θ n d)=u at *;generalize d/(θ n d)=v at *
 go_wp2
 go_ret2;exact⟨rfl,_,rfl⟩
theorem U0 (n d:Int)(w:Λ)(h1: -4611686018427387904≤n)(h2:n≤4611686018427387904)(h3:1≤d)(h4:d≤4611686018427387904):Φ prog 182 #[Γ Δ n,Γ Δ d] w λe w'=>e=.returned (.tuple #[Γ Δ (n.tdiv (θ n d)),Γ Δ (d/(θ n d))])∧∃m,w'=w.drewN m:=by
 have hg:1≤((θ n d:Nat):Int):=by
  have:0<θ n d:=zct _ (by omega);omega
 go_enter func182,ntmps182
 go_wp2
 go_loop [6,7] (λx y=>∃a b:Int,x=Γ Δ a∧y=Γ Δ b∧-4611686018427387904≤a∧a≤4611686018427387904∧-4611686018427387904≤b∧b≤4611686018427387904∧Hid (θ a b=θ n d)) (λ_ y=>(υ y).natAbs)
 case atStart=>exact⟨n,d,rfl,rfl,h1,h2,by omega,h4,rfl⟩
 case round=>
  obtain⟨a,b,rfl,rfl,ha1,ha2,hb1,hb2,uZ⟩:=hrel;by_cases hb:b=0
  ·subst hb;have HM:Hid (((θ n d:Nat):Int)=max a (-a)):=by show _=_;rw[←uZ.out,tR]
   by_cases ha:a<0
   ·obtain⟨g,rfl⟩:∃g,a=-g:=⟨-a,by omega⟩;have HA:Hid (((θ n d:Nat):Int)=g):=by show _=_;rw[HM.out];omega
    have hg1:1≤g:=by rw[←HA.out];exact hg
    go_wp2
    go_quiet (fail)
    go_wp2
    go_ret2;refine⟨?_,_,rfl⟩;rw[HA.out];rfl
   ·have HA:Hid (((θ n d:Nat):Int)=a):=by show _=_;rw[HM.out];omega
    have ha1:1≤a:=by rw[←HA.out];exact hg
    go_wp2
    go_quiet (fail)
    go_wp2
    go_ret2;refine⟨?_,_,rfl⟩;rw[HA.out];rfl
  ·have PL:(b != 0)=true:=by simpa using hb
   have HT:Hid ((a.tmod b).natAbs <b.natAbs):=Ml a b hb;obtain⟨t1,t2⟩:=Ro _ _ HT.out hb1 hb2
   go_wp2
   go_round
   case rel=>exact⟨b,a.tmod b,rfl,rfl,hb1,hb2,t1,t2,(GC a b).trans uZ.out⟩
   case measure=>exact HT.out
theorem kA (n d:Int)(w:Λ):Φ prog 97 #[Γ Δ n,Γ Δ d] w λe w'=>e=.returned (.bool (xx n d))∧∃m,w'=w.drewN m:=by
 by_cases hb:1≤d∧d≤1000000∧-1000000≤n∧n≤1000000
 ·obtain⟨b1,b2,b3,b4⟩:=hb;have H:Hid ((d/((θ n d:Nat):Int)==d)=xx n d):=by
   show _=_;rw[Gl n d b1];simp[xx,b1,b2,b3,b4]
  go_enter func97,ntmps97;go_wp2_with (go_at_call 150;refine(o7 _ _ _ (by omega) (by omega) (by omega) (by omega)).mono ?_;rintro e w' ⟨rfl,m,rfl⟩);go_ret;exact⟨ay H.out,_,rfl⟩
 ·have H:Hid (xx n d=false):=by show _=_;simp[xx];omega
  go_enter func97,ntmps97;go_wp2_with fail;all_goals first
   |(exfalso;omega)
   |(go_ret;exact⟨ay H.out.symm,0,rfl⟩)
theorem zE (l:List UInt8)(k:Nat)(h:k<(π (Array.mk l)).size):(π (Array.mk l))[k]'h=l[k]'h:=rfl
section
attribute [local go_sem] xS zE tQ xT nA
theorem Rq (l:List UInt8)(h1:l.isEmpty=false)(h2:(l==[46])=false)(h3:cy l=false):((br bz l:Nat)==l.length)=oY l:=by
 unfold oY;rw[h1,h2,h3];simp only[Bool.not_false,zbL];rw[show(l.all zw)=l.all (λc=>bz (c.toNat:Int)) from rfl,←Gm,zaP];simp
theorem Ej (l:List UInt8)(w:Λ)(hs:l.length≤η):Φ prog 96 #[.string ⟨⟨l⟩⟩] w λe w'=>e=.returned (.bool (oY l))∧w'=w:=by
 cases l with
 |nil=>
  go_enter func96,ntmps96;go_wp2_with fail;go_ret;exact⟨rfl,rfl⟩
 |cons c r=>
 cases h2:((c::r)==[46])
 ·have H2:Hid (((c::r)==[46])=false):=h2;have jL:¬(c::r)=[46]:=by simpa using h2
  have hsz:(π (Array.mk (c::r))).size≤η:=hs;cases h3:cy (c::r)
  ·have H3:=Rq (c::r) rfl h2 h3;have H:Hid ((((br bz (c::r):Nat):Int)==(r.length:Int)+1)=oY (c::r)):=by
    show _=_;rw[←H3,zaP];simp;omega
   clear H3;go_enter func96,ntmps96;go_wp2_with fail;refine(jC _ _ _ hs).mono ?_;rw[h3];rintro e w' ⟨rfl,rfl⟩;go_wp2_with fail;refine(dL _ _ _ hsz (by omega) (by omega)).mono ?_;rintro e w' ⟨rfl,rfl⟩;simp only[Int.toNat_zero,zba,Int.zero_add];go_wp2_with fail;go_ret;exact⟨ay H.out,rfl⟩
  ·have H:Hid (oY (c::r)=false):=by show _=_;simp[oY,h3]
   go_enter func96,ntmps96;go_wp2_with fail;refine(jC _ _ _ hs).mono ?_;rw[h3];rintro e w' ⟨rfl,rfl⟩;go_wp2_with fail;go_ret;exact⟨ay H.out.symm,rfl⟩
 ·have jL:(c::r)=[46]:=by simpa using h2
  rw[jL];go_enter func96,ntmps96;go_wp2_with fail;go_ret;exact⟨rfl,rfl⟩
theorem ig (n:Int)(w:Λ):Φ prog 151 #[Γ Δ n] w λe w'=>e=.returned (.tuple #[.string ⟨⟨nameOf n⟩⟩,.bool (hasName n)])∧w'=w:=by
 go_enter func151,ntmps151;go_wp2_with fail;all_goals
  go_ret2;refine⟨?_,rfl⟩;simp_all [nameOf,hasName]
theorem mG (n:Int)(w:Λ):Φ prog 152 #[Γ Δ n] w λe w'=>e=.returned (.bool (decide (33≤n∧n≤126)))∧w'=w:=by
 go_enter func152,ntmps152;go_wp2_with fail;all_goals
  go_ret;exact⟨ay (by simp;try omega),rfl⟩
theorem si (n:Int)(w:Λ):Φ prog 98 #[Γ Δ n] w λe w'=>e=.returned (.bool (tL n))∧w'=w:=by
 cases h:hasName n
 ·go_enter func98,ntmps98;go_wp2_with fail;refine(ig _ _).mono ?_;rw[h];rintro e w' ⟨rfl,rfl⟩;go_wp2_with fail;refine(mG _ _).mono ?_;rintro e w' ⟨rfl,rfl⟩;go_wp2_with fail;go_ret;exact⟨ay (by simp[tL,h]),rfl⟩
 ·go_enter func98,ntmps98;go_wp2_with fail;refine(ig _ _).mono ?_;rw[h];rintro e w' ⟨rfl,rfl⟩;go_wp2_with fail;go_ret;exact⟨ay (by simp[tL,h]),rfl⟩
theorem GF (l:List UInt8)(n d:Int)(a:Option Addr)(len cap:Nat)(w:Λ):Φ prog 95 #[.string ⟨⟨l⟩⟩,Γ Δ n,Γ Δ d,.slice a len cap] w λe w'=>e=.returned (.bool (decide (l=[]∧n=0∧d=0∧len=0)))∧w'=w:=by
 go_enter func95,ntmps95;go_wp2_with fail;all_goals
  go_ret;refine⟨ay ?_,rfl⟩;first|(simp_all;done)|(simp_all;rw[zaP];simp)
theorem eB {a b:List UInt8}(h:a=b):Ending.returned (.string ⟨⟨a⟩⟩)=.returned (.string ⟨⟨b⟩⟩):=by rw[h]
end
theorem l8 (c:Int)(w:Λ):Φ prog 73 #[.int .u8 c] w λe w'=>e=.returned (.bool (decide (c=32∨c=9∨c=10)))∧w'=w:=by
 go_enter func73,ntmps73
 go_wp2
 all_goals
  go_ret;refine⟨ay ?_,rfl⟩;rw[zaP];simp;try omega
theorem bG (s:ByteArray):s.data.toList.length=s.size:=rfl
theorem p8 (s:ByteArray)(k:Nat):(s.extract k s.size).data.toList=s.data.toList.drop k:=by
 rw[ByteArray.data_extract,Array.toList_extract];simp only[List.extract];rw[zbC];rw[zax,bG];exact zab _
theorem GG:∀l:List UInt8,(0≤Ω l 10→Ω l 10=(fT l:Int))∧(Ω l 10<0→fT l=l.length)
 |[]=>by simp[Ω,fT]
 |c::r=>by
  have ih:=GG r;have hg:=Lib.indexByte_ge r 10;unfold Ω fT;by_cases hc:c=10
  ·subst hc;simp
  ·have hc':(c==10)=false:=by simpa using hc
   rw[hc',zaa hc];simp only[zaT,if_false];by_cases hm:Ω r 10=-1
   ·simp only[hm,BEq.rfl,if_true];refine⟨by omega,λ_=>?_⟩;rw[ih.2 (by omega)];simp
   ·have U1:(Ω r 10==-1)=false:=by simpa using hm
    rw[U1];simp only[zaT,if_false];refine⟨λ_=>?_,λh=>by omega⟩;rw[ih.1 (by omega)];simp
theorem GH (s:ByteArray)(a:Nat)(w:Λ)(hs:s.size≤1000000)(ha:a≤s.size):Φ prog 74 #[.string s,Γ Δ a] w λe w'=>e=.returned (Γ Δ ((a:Int)+fT (s.data.toList.drop a)))∧w'=w:=by
 have h:=GG (s.data.toList.drop a);have hg:=Lib.indexByte_ge (s.data.toList.drop a) 10;have hle:=tN (s.data.toList.drop a);have hlen:(s.data.toList.drop a).length=s.size-a:=by rw[zax,bG]
 generalize hi:Ω (s.data.toList.drop a) 10=i at *;have HI:Hid (Ω (s.data.toList.drop a) 10=i):=hi;clear hi;go_enter func74,ntmps74;go_wp2_with fail;refine(Tryz.strings_IndexByte _ _ _).mono ?_;rintro e w' ⟨rfl,rfl⟩;have hq:Ω (s.extract a s.size).data.toList (Int.toNat 10).toUInt8=i:=by rw[p8];exact HI.out
 rw[hq];by_cases h0:0≤i
 ·have:=h.1 h0;go_wp2_with fail;go_ret;exact⟨fV (by omega),rfl⟩
 ·have:=h.2 (by omega);go_wp2_with fail;go_ret;exact⟨fV (by omega),rfl⟩
theorem fE (s:ByteArray)(Gz:Int)(w:Λ)(hs:s.size≤η)(h0:0≤Gz)(h1:Gz≤s.size):Φ prog 148 #[.string s,Γ Δ Gz,.func (.func 186) #[] #[]] w λe w'=>e=.returned (Γ Δ (Gz+br dD (s.data.toList.drop Gz.toNat)))∧w'=w:=by
 unfold η at hs;obtain⟨a,rfl⟩:=zbD h0;rw[zbp];go_enter func148,ntmps148;go_wp2_with fail;go_loop [1] (λi=>∃k:Nat,a≤k∧k≤s.size∧i=Γ Δ k∧Hid ((a:Int)+br dD (s.data.toList.drop a)=(k:Int)+br dD (s.data.toList.drop k))) (λi=>s.size-(υ i).toNat)
 case atStart=>exact⟨a,zab _,by omega,rfl,rfl⟩
 case round=>
  obtain⟨k,NR,hk,rfl,hr⟩:=hrel;by_cases hlt:k<s.size
  ·have hd:Hid (s.data.toList.drop k=s[k]::s.data.toList.drop (k+1)):=by show _=_;rw[zbU (by simpa using hlt)];rfl
   cases hp:dD (s[k].toNat :Int)
   ·have H:Hid (br dD (s.data.toList.drop k)=0):=by show _=_;rw[hd.out];simp[br,hp]
    go_wp2_with fail;refine(dK _ _).mono ?_;rw[hp];rintro e w' ⟨rfl,rfl⟩;go_wp2_with fail;go_ret;refine⟨fV ?_,rfl⟩;rw[hr.out,H.out];simp
   ·have H:Hid (br dD (s.data.toList.drop k)=br dD (s.data.toList.drop (k+1))+1):=by show _=_;rw[hd.out];simp[br,hp]
    go_wp2_with fail;refine(dK _ _).mono ?_;rw[hp];rintro e w' ⟨rfl,rfl⟩;go_wp2_with fail
    go_round
    case rel=>exact⟨k+1,by omega,by omega,by go_num,by show _=_;rw[hr.out,H.out];omega⟩
    case measure=>simp[υ];omega
  ·have H:Hid (br dD (s.data.toList.drop k)=0):=by show _=_;rw[zbE (by simp;omega)];rfl
   go_wp2_with fail;go_ret;refine⟨fV ?_,rfl⟩;rw[hr.out,H.out];simp
theorem gP (s:ByteArray)(Gz:Int)(w:Λ)(hs:s.size≤η)(h0:0≤Gz)(h1:Gz≤s.size):Φ prog 148 #[.string s,Γ Δ Gz,.func (.func 187) #[] #[]] w λe w'=>e=.returned (Γ Δ (Gz+br mD (s.data.toList.drop Gz.toNat)))∧w'=w:=by
 unfold η at hs;obtain⟨a,rfl⟩:=zbD h0;rw[zbp];go_enter func148,ntmps148;go_wp2_with fail;go_loop [1] (λi=>∃k:Nat,a≤k∧k≤s.size∧i=Γ Δ k∧Hid ((a:Int)+br mD (s.data.toList.drop a)=(k:Int)+br mD (s.data.toList.drop k))) (λi=>s.size-(υ i).toNat)
 case atStart=>exact⟨a,zab _,by omega,rfl,rfl⟩
 case round=>
  obtain⟨k,NR,hk,rfl,hr⟩:=hrel;by_cases hlt:k<s.size
  ·have hd:Hid (s.data.toList.drop k=s[k]::s.data.toList.drop (k+1)):=by show _=_;rw[zbU (by simpa using hlt)];rfl
   cases hp:mD (s[k].toNat :Int)
   ·have H:Hid (br mD (s.data.toList.drop k)=0):=by show _=_;rw[hd.out];simp[br,hp]
    go_wp2_with fail;refine(iN _ _).mono ?_;rw[hp];rintro e w' ⟨rfl,rfl⟩;go_wp2_with fail;go_ret;refine⟨fV ?_,rfl⟩;rw[hr.out,H.out];simp
   ·have H:Hid (br mD (s.data.toList.drop k)=br mD (s.data.toList.drop (k+1))+1):=by show _=_;rw[hd.out];simp[br,hp]
    go_wp2_with fail;refine(iN _ _).mono ?_;rw[hp];rintro e w' ⟨rfl,rfl⟩;go_wp2_with fail
    go_round
    case rel=>exact⟨k+1,by omega,by omega,by go_num,by show _=_;rw[hr.out,H.out];omega⟩
    case measure=>simp[υ];omega
  ·have H:Hid (br mD (s.data.toList.drop k)=0):=by show _=_;rw[zbE (by simp;omega)];rfl
   go_wp2_with fail;go_ret;refine⟨fV ?_,rfl⟩;rw[hr.out,H.out];simp
theorem Rt (x y c d:UInt8)(r:List UInt8):Ξ (c::d::r) [x,y]=decide (c=x∧d=y):=by
 simp only[Ξ,List.isPrefixOf];rw[zaP];simp;exact⟨λh=>⟨h.1.symm,h.2.symm⟩,λh=>⟨h.1.symm,h.2.symm⟩⟩
theorem tS (x y c:UInt8):Ξ [c] [x,y]=false:=by simp[Ξ,List.isPrefixOf]
theorem tT (x y:UInt8):Ξ [] [x,y]=false:=by simp[Ξ,List.isPrefixOf]
theorem zF {l:List UInt8}{x y:UInt8}(h:Ξ l [x,y]=true):2≤l.length:=by
 match l,h with
 |c::d::r,_=>simp
 |[c],h=>rw[tS]at h;cases h
 |[],h=>rw[tT]at h;cases h
theorem zG:∀l:List UInt8,fU l=Ξ l [35,124]
 |[]=>by rw[tT];rfl
 |[c]=>by rw[tS];rfl
 |c::d::r=>by rw[Rt];rfl
theorem NT {o:Nat}:∀{l:List UInt8},Ξ l [35,124]=true→bX o l=((bX (o+1) (l.drop 2)).1+2,(bX (o+1) (l.drop 2)).2)
 |[],h=>by rw[tT]at h;cases h
 |[c],h=>by rw[tS]at h;cases h
 |c::d::r,h=>by
  rw[Rt,zaQ]at h;rw[bX,zac h];rfl
theorem Kh {o:Nat}:∀{l:List UInt8},Ξ l [35,124]=false→Ξ l [124,35]=true→bX o l=if o≤1 then(2,true)else((bX (o-1) (l.drop 2)).1+2,(bX (o-1) (l.drop 2)).2)
 |[],_,h=>by rw[tT]at h;cases h
 |[c],_,h=>by rw[tS]at h;cases h
 |c::d::r,h1,h=>by
  rw[Rt,zbZ]at h1;rw[Rt,zaQ]at h;rw[bX,zaa h1,zac h];rfl
theorem NU {o:Nat}:∀{l:List UInt8},Ξ l [35,124]=false→Ξ l [124,35]=false→l≠[]→bX o l=((bX o (l.drop 1)).1+1,(bX o (l.drop 1)).2)
 |[],_,_,h=>absurd rfl h
 |[c],_,_,_=>by simp[bX]
 |c::d::r,h1,h,_=>by
  rw[Rt,zbZ]at h1 h;rw[bX,zaa h1,zaa h];rfl
theorem zH (s:ByteArray)(a:Nat)(w:Λ)(hs:s.size≤1000000)(hh:fU (s.data.toList.drop a)=true):Φ prog 76 #[.string s,Γ Δ a] w λe w'=>e=.returned (.tuple #[Γ Δ ((a:Int)+(bX 0 (s.data.toList.drop a)).1),.bool (bX 0 (s.data.toList.drop a)).2])∧w'=w:=by
 have Ya:Hid (Ξ (s.data.toList.drop a) [35,124]=true):=by rw[←zG];exact hh
 have ha:a+2≤s.size:=by have:=zF Ya.out;rw[zax,bG]at this;omega
 clear hh;go_enter func76,ntmps76;go_wp2_with fail;go_loop [1,6] (λi d=>∃k o:Nat,a≤k∧k≤s.size∧o≤k∧((k=a∧o=0)∨1≤o)∧i=Γ Δ k∧d=Γ Δ o∧Hid ((a:Int)+(bX 0 (s.data.toList.drop a)).1=(k:Int)+(bX o (s.data.toList.drop k)).1∧(bX 0 (s.data.toList.drop a)).2=(bX o (s.data.toList.drop k)).2)) (λi _=>s.size-(υ i).toNat)
 case atStart=>exact⟨a,0,zab _,by omega,by omega,.inl ⟨rfl,rfl⟩,rfl,rfl,rfl,rfl⟩
 case round=>
  obtain⟨k,o,NR,hk,cg,ho,rfl,rfl,hr⟩:=hrel;by_cases hlt:k<s.size
  ·have hne:Hid (s.data.toList.drop k≠[]):=by
    intro h;have:=zal List.length h;rw[zax,bG]at this;simp at this;omega
   cases BC:Ξ (s.data.toList.drop k) [35,124]
   ·have abX:Hid (Ξ (s.data.toList.drop k) [35,124]=false):=BC;have Zy:1≤o:=by
     rcases ho with⟨rfl,rfl⟩|h
     ·rw[Ya.out]at BC;cases BC
     ·exact h
    cases Wj:Ξ (s.data.toList.drop k) [124,35]
    ·have H:Hid _:=NU (o:=o) BC Wj hne.out;go_wp2_with fail;refine(Tryz.strings_HasPrefix _ _ _).mono ?_;rintro e w' ⟨rfl,rfl⟩;rw[p8,abX.out];go_wp2_with fail;refine(Tryz.strings_HasPrefix _ _ _).mono ?_;rintro e w' ⟨rfl,rfl⟩;rw[p8,show Ξ (s.data.toList.drop k) [124,35]=false from Wj];go_wp2_with fail
     go_round
     case rel=>exact⟨k+1,o,by omega,by omega,by omega,.inr Zy,by go_num,rfl,by
      have h1:=hr.out;rw[H.out,zbo]at h1;exact⟨by rw[h1.1];simp;omega,h1.2⟩⟩
     case measure=>simp[υ];omega
    ·have hl2:=zF Wj;rw[zax,bG]at hl2;have H:Hid _:=Kh (o:=o) BC Wj;go_wp2_with fail;refine(Tryz.strings_HasPrefix _ _ _).mono ?_;rintro e w' ⟨rfl,rfl⟩;rw[p8,abX.out];go_wp2_with fail;refine(Tryz.strings_HasPrefix _ _ _).mono ?_;rintro e w' ⟨rfl,rfl⟩;rw[p8,show Ξ (s.data.toList.drop k) [124,35]=true from Wj];by_cases ho2:o=1
     ·subst ho2;go_wp2_with fail;go_ret2;have h1:=hr.out;rw[H.out]at h1;refine⟨?_,rfl⟩;rw[h1.1,h1.2];simp
     ·go_wp2_with fail
      go_round
      case rel=>exact⟨k+2,o-1,by omega,by omega,by omega,.inr (by omega),by go_num,by go_num,by
       have h1:=hr.out;rw[H.out,zaa (by omega),zbo]at h1;exact⟨by rw[h1.1];simp;omega,h1.2⟩⟩
      case measure=>simp[υ];omega
   ·have hl2:=zF BC;rw[zax,bG]at hl2;have H:Hid _:=NT (o:=o) BC;go_wp2_with fail;refine(Tryz.strings_HasPrefix _ _ _).mono ?_;rintro e w' ⟨rfl,rfl⟩;rw[p8,show Ξ (s.data.toList.drop k) [35,124]=true from BC];go_wp2_with fail
    go_round
    case rel=>exact⟨k+2,o+1,by omega,by omega,by omega,.inr (by omega),by go_num,by go_num,by
     have h1:=hr.out;rw[H.out,zbo]at h1;exact⟨by rw[h1.1];simp;omega,h1.2⟩⟩
    case measure=>simp[υ];omega
  ·have en:k=s.size:=by omega
   have hd:s.data.toList.drop k=[]:=by rw[en,←bG];exact List.drop_length
   have h1:=hr.out;rw[hd]at h1;have H:Hid _:=h1;clear h1 hd;go_wp2_with fail;go_ret2;refine⟨?_,rfl⟩;rw[H.out.1,H.out.2];simp[bX];try omega
theorem tU {n:Nat}{b:Bool}:cF n b []=(0,b):=by cases n<;>rfl
theorem sj {o:Nat}{l:List UInt8}(h:fU l=true):0<(bX o l).1:=by have:=Cw o l h;omega
theorem kY:∀(n m:Nat) (b:Bool) (l:List UInt8),l.length≤n→l.length≤m→cF n b l=cF m b l
 |0,m,b,l,h,_=>by
  have:l=[]:=zce (by omega);subst this;rw[tU,tU]
 |n+1,0,b,l,_,h=>by
  have:l=[]:=zce (by omega);subst this;rw[tU,tU]
 |n+1,m+1,b,[],_,_=>rfl
 |n+1,m+1,b,c::r,h1,h2=>by
  simp only[zar]at h1 h2;have e1:=kY n m b r (by omega) (by omega);have e2:=kY n m b (r.drop (fT r)) (by rw[zax];omega) (by rw[zax];omega);rw[cF,cF,e1,e2];by_cases hh:fU (c::r)=true
  ·have hp:=sj (o:=0) hh;have e3:=kY n m (bX 0 (c::r)).2 ((c::r).drop (bX 0 (c::r)).1) (by rw[zax,zar];omega) (by rw[zax,zar];omega);rw[e3]
  ·simp only[zaa hh]
def tV (b:Bool)(l:List UInt8):Nat×Bool:=cF l.length b l
theorem Ru {b:Bool}:tV b []=(0,b):=rfl
theorem Rv {b:Bool}{c:UInt8}{r:List UInt8}(h:fQ c=true):tV b (c::r)=((tV b r).1+1,(tV b r).2):=by
 unfold tV;rw[zar,cF,zac h]
theorem Wk {b:Bool}{c:UInt8}{r:List UInt8}(h:fQ c=false)(h2:c.toNat=59):tV b (c::r)=((tV b (r.drop (fT r))).1+(fT r+1),(tV b (r.drop (fT r))).2):=by
 unfold tV;rw[zar,cF,zaa (by rw[h];simp),zac h2];have e:=kY r.length (r.drop (fT r)).length b (r.drop (fT r)) (by rw[zax];omega) (zab _);rw[e]
theorem Wl {b:Bool}{c:UInt8}{r:List UInt8}(h:fQ c=false)(h2:c.toNat≠59)(h3:fU (c::r)=true):tV b (c::r)=((tV (bX 0 (c::r)).2 ((c::r).drop (bX 0 (c::r)).1)).1+(bX 0 (c::r)).1,(tV (bX 0 (c::r)).2 ((c::r).drop (bX 0 (c::r)).1)).2):=by
 unfold tV;rw[zar,cF,zaa (by rw[h];simp),zaa h2,zac h3];have hp:=sj (o:=0) h3;have e:=kY r.length ((c::r).drop (bX 0 (c::r)).1).length (bX 0 (c::r)).2 ((c::r).drop (bX 0 (c::r)).1) (by rw[zax,zar];omega) (zab _);rw[e]
theorem Wm {b:Bool}{c:UInt8}{r:List UInt8}(h:fQ c=false)(h2:c.toNat≠59)(h3:fU (c::r)=false):tV b (c::r)=(0,b):=by
 unfold tV;rw[zar,cF,zaa (by rw[h];simp),zaa h2,zaa (by rw[h3];simp)]
theorem NV (c:UInt8):decide ((c.toNat:Int)=32∨(c.toNat:Int)=9∨(c.toNat:Int)=10)=fQ c:=by
 unfold fQ;rw[zaP];simp;omega
theorem drop_cons (s:ByteArray)(k:Nat)(h:k<s.size):s.data.toList.drop k=s[k]::s.data.toList.drop (k+1):=by rw[zbU (by simpa using h)];rfl
theorem iP (s:ByteArray)(a:Nat)(w:Λ)(hs:s.size≤1000000)(ha:a≤s.size):Φ prog 44 #[.string s,Γ Δ a] w λe w'=>e=.returned (.tuple #[Γ Δ ((a:Int)+(tV true (s.data.toList.drop a)).1),.bool (tV true (s.data.toList.drop a)).2])∧w'=w:=by
 go_enter func44,ntmps44;go_wp2_with fail;go_loop [1,6] (λi d=>∃(k:Nat) (b:Bool),a≤k∧k≤s.size∧i=Γ Δ k∧d=.bool b∧Hid ((a:Int)+(tV true (s.data.toList.drop a)).1=(k:Int)+(tV b (s.data.toList.drop k)).1∧(tV true (s.data.toList.drop a)).2=(tV b (s.data.toList.drop k)).2)) (λi _=>s.size-(υ i).toNat)
 case atStart=>exact⟨a,true,zab _,by omega,rfl,rfl,rfl,rfl⟩
 case round=>
  obtain⟨k,b,NR,hk,rfl,rfl,hr⟩:=hrel;by_cases hlt:k<s.size
  ·have hd:Hid _:=drop_cons s k hlt;have hbl:=NV s[k];cases hb:fQ s[k]
   ·rw[hb]at hbl;by_cases h59:(s[k].toNat :Int)=59
    ·have H:Hid _:=Wk (b:=b) (r:=s.data.toList.drop (k+1)) hb (by omega);have hle:=tN (s.data.toList.drop (k+1));rw[zax,bG]at hle;have abY:Hid (fT (s.data.toList.drop k)=fT (s.data.toList.drop (k+1))+1):=by
      show _=_;rw[hd.out,fT,zaa (by intro e;rw[e]at h59;exact absurd h59 (by decide))]
     generalize hm:fT (s.data.toList.drop (k+1))=m at *;go_wp2_with fail;refine(l8 _ _).mono ?_;rw[show decide ((59:Int)=32∨(59:Int)=9∨(59:Int)=10)=false from by decide];rintro e w' ⟨rfl,rfl⟩;go_wp2_with fail;refine(GH _ _ _ hs (by omega)).mono ?_;rw[abY.out];rintro e w' ⟨rfl,rfl⟩;go_wp2_with fail
     go_round
     case rel=>exact⟨k+(m+1),b,by omega,by omega,by go_num,rfl,by
      have h1:=hr.out;rw[hd.out,H.out,zbo]at h1;rw[show k+1+m=k+(m+1) by omega]at h1;exact⟨by rw[h1.1];simp;omega,h1.2⟩⟩
     case measure=>simp[υ];omega
    ·cases hh:fU (s.data.toList.drop k)
     ·have H:Hid _:=Wm (b:=b) (r:=s.data.toList.drop (k+1)) hb (by omega) (by rw[←hd.out];exact hh);have hp:Hid (Ξ (s.data.toList.drop k) [35,124]=false):=by rw[←zG];exact hh
      go_wp2_with fail;refine(l8 _ _).mono ?_;rw[hbl];rintro e w' ⟨rfl,rfl⟩;go_wp2_with fail;refine(Tryz.strings_HasPrefix _ _ _).mono ?_;rintro e w' ⟨rfl,rfl⟩;rw[p8,hp.out];go_wp2_with fail;go_ret2;have h1:=hr.out;rw[hd.out,H.out]at h1;refine⟨?_,rfl⟩;rw[h1.1,h1.2];simp
     ·have H:Hid _:=Wl (b:=b) (r:=s.data.toList.drop (k+1)) hb (by omega) (by rw[←hd.out];exact hh);have hp:Hid (Ξ (s.data.toList.drop k) [35,124]=true):=by rw[←zG];exact hh
      have Ya:Hid (fU (s.data.toList.drop k)=true):=hh;have jy:=sj (o:=0) hh;have hle:=Gp 0 (s.data.toList.drop k);rw[zax,bG]at hle;have HH:Hid _:=H.out;rw[←hd.out]at HH;clear H;generalize hm:bX 0 (s.data.toList.drop k)=cm at *;have U1:Hid _:=hm;clear hm;go_wp2_with fail;refine(l8 _ _).mono ?_;rw[hbl];rintro e w' ⟨rfl,rfl⟩;go_wp2_with fail;refine(Tryz.strings_HasPrefix _ _ _).mono ?_;rintro e w' ⟨rfl,rfl⟩;rw[p8,hp.out];go_wp2_with fail;refine(zH _ _ _ hs Ya.out).mono ?_;rw[U1.out];rintro e w' ⟨rfl,rfl⟩;go_wp2_with fail
      go_round
      case rel=>exact⟨k+cm.1,cm.2,by omega,by omega,by go_num,rfl,by
       have h1:=hr.out;rw[HH.out,zbo]at h1;exact⟨by rw[h1.1];simp;omega,h1.2⟩⟩
      case measure=>simp[υ];omega
   ·have H:Hid _:=Rv (b:=b) (r:=s.data.toList.drop (k+1)) hb;rw[hb]at hbl;go_wp2_with fail;refine(l8 _ _).mono ?_;rw[hbl];rintro e w' ⟨rfl,rfl⟩;go_wp2_with fail
    go_round
    case rel=>exact⟨k+1,b,by omega,by omega,by go_num,rfl,by
     have h1:=hr.out;rw[hd.out,H.out]at h1;exact⟨by rw[h1.1];simp;omega,h1.2⟩⟩
    case measure=>simp[υ];omega
  ·have en:k=s.size:=by omega
   have hd:s.data.toList.drop k=[]:=by rw[en,←bG];exact List.drop_length
   have h1:=hr.out;rw[hd,Ru]at h1;have H:Hid _:=h1;clear h1 hd;go_wp2_with fail;go_ret2;refine⟨?_,rfl⟩;rw[H.out.1,H.out.2];simp;try omega
def bB (t:Tok):ζ:= .agg #[Γ Δ t.kind,Γ Δ t.from_,Γ Δ t.ic,.string ⟨⟨t.text⟩⟩,Γ Δ t.n,Γ Δ t.d,Γ Δ t.fault]
theorem jD (a:Nat)(w:Λ):Φ prog 172 #[Γ Δ a] w λe w'=>e=.returned (bB (bQ a))∧ι w.heap.size w w':=by
 go_enter func172,ntmps172;go_wp2_with fail;exact zak (v:=bB (bQ a)) (by simp[results,results172,bB,bQ,ax,go_sem]) rfl ⟨rfl,(zad _ _).alloc (zab _) _⟩
theorem vM (s:ByteArray)(w:Λ):Φ prog 168 #[.string s] w λe w'=>e=.returned (bB (mE s.data.toList))∧ι w.heap.size w w':=by
 go_enter func168,ntmps168;go_wp2_with fail;exact zak (v:=bB (mE s.data.toList)) (by simp[results,results168,bB,mE,ax,go_sem];try rfl) rfl ⟨rfl,(zad _ _).alloc (zab _) _⟩
theorem Rw (t:Tok)(w:Λ):Φ prog 121 #[bB t] w λe _=>e=.returned (.bool t.lastB):=by
 unfold bB;go_enter func121,ntmps121
 go_wp2
 all_goals
  go_ret;refine ay ?_;unfold Tok.lastB;rw[zaP];simp;try omega
theorem wY (c:UInt8)(w:Λ):Φ prog 197 #[.int .u8 (c.toNat:Int)] w λe w'=>e=.returned (.tuple #[.int .u8 (((Gn c).getD 0).toNat :Int),.bool (Gn c).isSome])∧w'=w:=by
 have key:∀c:UInt8,((c.toNat:Int)=92↔c=92)∧((c.toNat:Int)=34↔c=34)∧((c.toNat:Int)=110↔c=110)∧((c.toNat:Int)=116↔c=116):=by
  intro c;have h:∀n:Nat,n<256→(c.toNat=n↔c=n.toUInt8):=λn hn=>by
   rw[←UInt8.toNat_inj];simp[Nat.mod_eq_of_lt hn]
  have h1:=h 92 (by omega);have h2:=h 34 (by omega);have h3:=h 110 (by omega);have h4:=h 116 (by omega);exact⟨by rw[show(92:UInt8)=Nat.toUInt8 92 from rfl,←h1];omega,by rw[show(34:UInt8)=Nat.toUInt8 34 from rfl,←h2];omega,by rw[show(110:UInt8)=Nat.toUInt8 110 from rfl,←h3];omega,by rw[show(116:UInt8)=Nat.toUInt8 116 from rfl,←h4];omega⟩
 obtain⟨k1,k2,k3,k4⟩:=key c;clear key;by_cases h1:c=92
 ·subst h1;go_enter func197,ntmps197;go_wp2_with fail;go_ret2;exact⟨rfl,rfl⟩
 by_cases h2:c=34
 ·subst h2;go_enter func197,ntmps197;go_wp2_with fail;go_ret2;exact⟨rfl,rfl⟩
 by_cases h3:c=110
 ·subst h3;go_enter func197,ntmps197;go_wp2_with fail;go_ret2;exact⟨rfl,rfl⟩
 by_cases h4:c=116
 ·subst h4;go_enter func197,ntmps197;go_wp2_with fail;go_ret2;exact⟨rfl,rfl⟩
 have e:Gn c=none:=by unfold Gn;rw[zaa (by simp[h1,h2]),zaa h3,zaa h4]
 rw[e];have q1:((c.toNat:Int)==92)=false:=by rw[zai];exact λh=>h1 (k1.1 h)
 have q2:((c.toNat:Int)==34)=false:=by rw[zai];exact λh=>h2 (k2.1 h)
 have q3:((c.toNat:Int)==110)=false:=by rw[zai];exact λh=>h3 (k3.1 h)
 have q4:((c.toNat:Int)==116)=false:=by rw[zai];exact λh=>h4 (k4.1 h)
 clear k1 k2 k3 k4 h1 h2 h3 h4 e;go_enter func197,ntmps197;go_wp2_with fail;go_ret2;exact⟨rfl,rfl⟩
theorem qZ (x:ByteArray):x.toList=x.data.toList:=by cases x with|mk d=>cases d with|mk l=>exact nA l
theorem NW (l:List UInt8)(k:Nat):hasName (k:Int)=true→nameOf (k:Int)=l→kz l=k:=by
 intro h1 h2;unfold hasName at h1;simp at h1;unfold nameOf at h2;rcases h1 with h|h|h|h|h|h<;>(rw[h]at h2 ⊢;simp at h2;subst h2;decide)
theorem NY (l:List UInt8)(h:0≤kz l):hasName (kz l)=true∧nameOf (kz l)=l∧kz l<128:=by
 unfold kz at h ⊢;repeat' split
 all_goals first
  |(simp_all;done)
  |(subst_vars;decide)
theorem zI (s:ByteArray)(w:Λ):Φ prog 223 #[.string s] w λe w'=>e=.returned (.tuple #[Γ Δ ((tM s.data.toList).getD 0),.bool (tM s.data.toList).isSome])∧w'=w:=by
 have hc:Hid (∀k:Nat,hasName (k:Int)=true→nameOf (k:Int)=s.data.toList→tM s.data.toList=some (k:Int)):=λk h1 h2=>by
  have:=NW _ k h1 h2;unfold tM;rw[this,zac (by omega)]
 have hn:Hid (0≤kz s.data.toList→hasName (kz s.data.toList)=true∧nameOf (kz s.data.toList)=s.data.toList∧kz s.data.toList<128):=NY _;go_enter func223,ntmps223;go_wp2_with fail;go_loop [7] (λi=>∃k:Nat,k≤128∧i=Γ Δ k∧Hid (∀j:Nat,j<k→¬(hasName (j:Int)=true∧nameOf (j:Int)=s.data.toList))) (λi=>128-(υ i).toNat)
 case atStart=>exact⟨0,by omega,rfl,λj hj=>by omega⟩
 case round=>
  obtain⟨k,hk,rfl,hr⟩:=hrel;by_cases hlt:k<128
  ·cases hb:hasName (k:Int)
   ·go_wp2_with fail;refine(ig _ _).mono ?_;rw[hb];rintro e w' ⟨rfl,rfl⟩;go_wp2_with fail
    go_round
    case rel=>exact⟨k+1,by omega,by go_num,λj hj h=>by
     by_cases e:j=k
     ·subst e;rw[hb]at h;cases h.1
     ·exact hr.out j (by omega) h⟩
    case measure=>simp[υ];omega
   ·by_cases he:nameOf (k:Int)=s.data.toList
    ·have hq:=hc.out k hb he;have he':(nameOf (k:Int)==s.toList)=true:=by rw[qZ,he,zaJ]
     go_wp2_with fail;refine(ig _ _).mono ?_;rw[hb];rintro e w' ⟨rfl,rfl⟩;go_wp2_with fail;go_ret2;refine⟨?_,rfl⟩;rw[hq];rfl
    ·have he':(nameOf (k:Int)==s.toList)=false:=by
      rw[qZ,zai];exact he
     go_wp2_with fail;refine(ig _ _).mono ?_;rw[hb];rintro e w' ⟨rfl,rfl⟩;go_wp2_with fail
     go_round
     case rel=>exact⟨k+1,by omega,by go_num,λj hj h=>by
      by_cases e:j=k
      ·subst e;exact he h.2
      ·exact hr.out j (by omega) h⟩
     case measure=>simp[υ];omega
  ·have hq:tM s.data.toList=none:=by
    unfold tM;rw[zaa];intro h;obtain⟨h1,h2,h3⟩:=hn.out h;obtain⟨m,hm⟩:=zbD h;rw[hm]at h1 h2 h3;exact hr.out m (by omega) ⟨h1,h2⟩
   have hq':Hid _:=hq;clear hq;go_wp2_with fail;go_ret2;refine⟨?_,rfl⟩;rw[hq'.out];rfl
theorem kB (n d:Int)(w:Λ):Φ prog 227 #[Γ Δ n,Γ Δ d] w λe w'=>e=.returned (Γ Δ (if 1000000<n∨1000000<d then 7 else if d=0 then 3 else 0))∧w'=w:=by
 go_enter func227,ntmps227
 go_wp2
 all_goals
  go_ret;refine⟨fV ?_,rfl⟩;simp_all;try omega
theorem l9 (l:List UInt8)(c:UInt8)(n:Int):eK n (l++[c])=min (eK n l*10+((c.toNat:Int)-48)) 1000001:=by
 simp[eK]
theorem vN:∀(l:List UInt8) (n:Int),0≤n→n≤1000001→l.all (λc=>dD (c.toNat:Int))=true→0≤eK n l∧eK n l≤1000001
 |[],n,h1,h2,_=>⟨h1,h2⟩
 |c::r,n,h1,h2,h3=>by
  simp only[zat,zaj]at h3;have hd:48≤(c.toNat:Int):=by have:=h3.1;unfold dD at this;simp at this;omega
  show 0≤eK (min (n*10+((c.toNat:Int)-48)) 1000001) r∧eK (min (n*10+((c.toNat:Int)-48)) 1000001) r≤1000001;exact vN r _ (by omega) (by omega) h3.2
theorem fF (s:ByteArray)(w:Λ)(hs:s.size≤1000000)(hd:s.data.toList.all (λc=>dD (c.toNat:Int))=true):Φ prog 224 #[.string s] w λe w'=>e=.returned (Γ Δ (aD s.data.toList))∧w'=w:=by
 have hdg:Hid (∀k (h:k<s.size),48≤(s[k].toNat :Int)∧(s[k].toNat :Int)≤57):=λk h=>by
  rw[zaI]at hd;have:=hd s[k] (by exact zbd (l:=s.data.toList) (n:=k) h);unfold dD at this;simpa using this
 have kV:Hid (∀k,0≤aD (s.data.toList.take k)∧aD (s.data.toList.take k)≤1000001):=λk=>vN _ 0 (by omega) (by omega) (by
  rw[zaI]at hd ⊢;exact λx hx=>hd x (List.mem_of_mem_take hx))
 clear hd;go_enter func224,ntmps224;go_wp2_with fail;go_loop [7,3] (λi n=>∃k:Nat,k≤s.size∧i=Γ Δ k∧n=Γ Δ (aD (s.data.toList.take k))) (λi _=>s.size-(υ i).toNat)
 case atStart=>exact⟨0,by omega,rfl,rfl⟩
 case round=>
  obtain⟨k,hk,rfl,rfl⟩:=hrel;by_cases hlt:k<s.size
  ·obtain⟨d1,d2⟩:=hdg.out k hlt;obtain⟨b1,b2⟩:=kV.out k;have hst:Hid (aD (s.data.toList.take (k+1))=min (aD (s.data.toList.take k)*10+((s[k].toNat :Int)-48)) 1000001):=by
    show _=_;rw[NQ s k hlt];exact l9 _ _ 0
   generalize aD (s.data.toList.take k)=m at *;generalize hx:(s[k].toNat :Int)=x at *;go_wp2_with fail
   go_round
   case rel=>exact⟨k+1,by omega,by go_num,by rw[hst.out];try (congr 1;omega)⟩
   case measure=>simp[υ];omega
  ·have hf:Hid (s.data.toList.take k=s.data.toList):=Rm s k (by omega);go_wp2_with fail;go_ret;refine⟨fV ?_,rfl⟩;rw[hf.out]
theorem CC:∀l:List UInt8,(Ω l 47=-1∧oh l=none)∨∃k:Nat,Ω l 47=(k:Int)∧k<l.length∧oh l=some (l.take k,l.drop (k+1))
 |[]=> .inl ⟨rfl,rfl⟩
 |c::r=>by
  unfold Ω oh;by_cases hc:c=47
  ·subst hc;exact .inr ⟨0,by simp,by simp,by simp⟩
  ·have hc':(c==47)=false:=by simpa using hc
   have hn:¬c.toNat=47:=λh=>hc (by rw[←UInt8.toNat_inj];exact h);rw[hc',zaa hn];simp only[zaT,if_false];rcases CC r with⟨h1,h2⟩|⟨k,h1,h2,h3⟩
   ·left;rw[h1,h2];simp
   ·right;refine⟨k+1,?_,by simp;omega,?_⟩
    ·rw[h1];have:((k:Int)==-1)=false:=by rw[zai];omega
     rw[this];simp
    ·rw[h3];simp
theorem Ek (s:ByteArray)(w:Λ)(h:Ω s.data.toList 47=-1):Φ prog 243 #[.string s,.string ⟨#[47]⟩] w λe w'=>e=.returned (.tuple #[.string s,.string ⟨#[]⟩,.bool false])∧∃n,w'=w.drewN n:=by
 go_enter func243,ntmps243;go_wp2_with (go_at_call 247;refine(Tryz.stringslite_Index_one _ _ _).mono ?_;rintro e w' ⟨rfl,rfl⟩;rw[h])
 go_ret3
 exact⟨rfl,0,rfl⟩
theorem GI (s:ByteArray)(k:Nat)(w:Λ)(h:Ω s.data.toList 47=(k:Int))(hk:k<s.size)(hs:s.size≤1000000):Φ prog 243 #[.string s,.string ⟨#[47]⟩] w λe w'=>e=.returned (.tuple #[.string (s.extract 0 k),.string (s.extract (k+1) s.size),.bool true])∧∃n,w'=w.drewN n:=by
 have c1:(0:Int)≤↑k:=by omega
 have c2:(↑k:Int)≤↑s.size:=by omega
 have c3:(0:Int)≤↑k+1:=by omega
 have c4:(↑k+1:Int)≤↑s.size:=by omega
 have mixed:prog.follows Departure.mixedOrders=true:=by kernel_rfl
 go_enter func243,ntmps243;go_wp2_with (go_at_call 247;refine(Tryz.stringslite_Index_one _ _ _).mono ?_;rintro e w' ⟨rfl,rfl⟩;rw[h])
 go_region_o
 go_wp2
 go_ret3
 exact⟨rfl,1,rfl⟩
theorem Rx (s:ByteArray)(w:Λ)(h:Ω s.data.toList 47=-1):Φ prog 225 #[.string s,.string ⟨#[47]⟩] w λe w'=>e=.returned (.tuple #[.string s,.string ⟨#[]⟩,.bool false])∧∃n,w'=w.drewN n:=by
 go_enter func225,ntmps225;go_wp2_with (go_at_call 243;refine(Ek _ _ h).mono ?_;rintro e w' ⟨rfl,n,rfl⟩)
 go_ret3
 exact⟨rfl,n,rfl⟩
theorem Wn (s:ByteArray)(k:Nat)(w:Λ)(h:Ω s.data.toList 47=(k:Int))(hk:k<s.size)(hs:s.size≤1000000):Φ prog 225 #[.string s,.string ⟨#[47]⟩] w λe w'=>e=.returned (.tuple #[.string (s.extract 0 k),.string (s.extract (k+1) s.size),.bool true])∧∃n,w'=w.drewN n:=by
 go_enter func225,ntmps225;go_wp2_with (go_at_call 243;refine(GI _ _ _ h hk hs).mono ?_;rintro e w' ⟨rfl,n,rfl⟩)
 go_ret3
 exact⟨rfl,n,rfl⟩
theorem dh (s:ByteArray)(w:Λ)(hs:s.size≤1000000):Φ prog 226 #[.string s] w λe w'=>e=.returned (.bool (dE s.data.toList))∧w'=w:=by
 have hr:Hid (decide (br dD s.data.toList=s.data.toList.length)=s.data.toList.all (λc=>dD (c.toNat:Int))):=Gm dD _;have hle:=jP dD s.data.toList;rw[bG]at hle;by_cases h0:s.data.toList=[]
 ·have xM:s.toList=[]:=by rw[qZ,h0]
  have UX:(s.toList==[])=true:=by rw[xM];rfl
  have hf:Hid (dE s.data.toList=false):=by show _=_;rw[h0];rfl
  clear h0;go_enter func226,ntmps226;go_wp2_with fail;all_goals
   go_ret;exact⟨ay hf.out.symm,rfl⟩
 ·have xM:¬s.toList=[]:=by rw[qZ];exact h0
  have UX:(s.toList==[])=false:=by rw[zai];exact xM
  have hf:Hid (dE s.data.toList=decide ((br dD s.data.toList:Int)=s.size)):=by
   show _=_;unfold dE;rw[←hr.out,bG];have:s.data.toList.isEmpty=false:=by simpa using h0
   rw[this,zaP];simp;omega
  clear h0 hr;go_enter func226,ntmps226;go_wp2_with (go_at_call 148;refine(fE _ _ _ (by unfold η;omega) (by omega) (by omega)).mono ?_;rintro e w' ⟨rfl,rfl⟩;simp only[Int.toNat_zero,zba,Int.zero_add]);all_goals
   go_ret;refine⟨ay ?_,rfl⟩;rw[hf.out];try (rw[zaP];simp)
def gQ (neg:Bool)(a b:List UInt8):Option (Int×Int×Int):=
 if dE a&&dE b then
  (if 1000000<aD a∨1000000<aD b then some (0,0,7)
   else if aD b=0 then some (0,0,3)
   else some ((if neg then -aD a else aD a).tdiv (θ (if neg then -aD a else aD a) (aD b)),aD b/(θ (if neg then -aD a else aD a) (aD b)),0))
 else none
theorem BK {neg:Bool}{l:List UInt8}(h:oh l=none):numberOf neg l=gQ neg l [49]:=by
 unfold numberOf gQ;rw[h];rfl
theorem El {neg:Bool}{l a b:List UInt8}(h:oh l=some (a,b)):numberOf neg l=gQ neg a b:=by
 unfold numberOf gQ;rw[h];rfl
def Ki:Option (Int×Int×Int)→Tok
 |none=>⟨0,0,0,[],0,0,0⟩
 |some (n,d,f)=>⟨13,0,0,[],n,d,f⟩
theorem zJ {l:List UInt8}(h:dE l=true):l.all (λc=>dD (c.toNat:Int))=true:=by
 unfold dE at h;rw[zaj]at h;exact h.2
theorem Ry {neg:Bool}{a b:List UInt8}(h:dE a=false):gQ neg a b=none:=by unfold gQ;rw[h];rfl
theorem Rz {neg:Bool}{a b:List UInt8}(h:dE b=false):gQ neg a b=none:=by unfold gQ;rw[h];simp
theorem aep {neg:Bool}{a b:List UInt8}(h1:dE a=true)(h2:dE b=true)(h:1000000<aD a∨1000000<aD b):gQ neg a b=some (0,0,7):=by unfold gQ;rw[h1,h2,zbJ,zac rfl,zac h]
theorem aeq {neg:Bool}{a b:List UInt8}(h1:dE a=true)(h2:dE b=true)(h:¬(1000000<aD a∨1000000<aD b))(h3:aD b=0):gQ neg a b=some (0,0,3):=by unfold gQ;rw[h1,h2,zbJ,zac rfl,zaa h,zac h3]
theorem aer {neg:Bool}{a b:List UInt8}{m d:Int}(h1:dE a=true)(h2:dE b=true)(h:¬(1000000<aD a∨1000000<aD b))(h3:¬aD b=0)(hm:(if neg then -aD a else aD a)=m)(hd:aD b=d):gQ neg a b=some (m.tdiv (θ m d),d/(θ m d),0):=by subst hm hd;unfold gQ;rw[h1,h2,zbJ,zac rfl,zaa h,zaa h3]
theorem zK {l:List UInt8}(h:dE l=true):0≤aD l∧aD l≤1000001:=vN l 0 (by omega) (by omega) (zJ h)
theorem RA {c:UInt8}{n:Nat}(h:c.toNat=n)(m:Int)(hm:(n:Int)=m):((c.toNat:Int)==m)=true:=by rw[h,hm];simp
theorem Mn {c:UInt8}{n:Nat}(h:¬c.toNat=n)(m:Int)(hm:(n:Int)=m):((c.toNat:Int)==m)=false:=by rw[zai];omega
section
attribute [local go_sem] xS zE tQ xT nA
theorem GJ (neg dv:Bool)(c:UInt8)(r:List UInt8)(R a b0 b:ByteArray)(w:Λ)(hs:r.length+1≤1000000)
 (ZU:(neg=true∧c.toNat=45∧R=⟨⟨r⟩⟩)∨(neg=false∧c.toNat=43∧R=⟨⟨r⟩⟩)∨(neg=false∧(¬c.toNat=45∧¬c.toNat=43)∧R=⟨⟨c::r⟩⟩))
 (hcut:∀w,Φ prog 225 #[.string R,.string ⟨#[47]⟩] w λe w'=>e=.returned (.tuple #[.string a,.string b0,.bool dv])∧∃n,w'=w.drewN n)
 (hb:(dv=true∧b0=b)∨(dv=false∧(⟨#[49]⟩:ByteArray)=b))(has:a.size≤1000000)(PE:b.size≤1000000):
 Φ prog 201 #[.string ⟨⟨c::r⟩⟩] w λe w'=>e=.returned (.tuple #[bB (Ki (gQ neg a.data.toList b.data.toList)),.bool (gQ neg a.data.toList b.data.toList).isSome])∧ι w.heap.size w w':=by
 have hsz:(π (Array.mk (c::r))).size=r.length+1:=rfl;have abj:(π (Array.mk r)).size=r.length:=rfl;obtain⟨m,hm⟩:∃m,(if neg then -aD a.data.toList else aD a.data.toList)=m:=⟨_,rfl⟩;have N1:Hid (_→gQ neg a.data.toList b.data.toList=_):=Ry;have N2:Hid (_→gQ neg a.data.toList b.data.toList=_):=Rz;have N7:Hid (_→_→_→gQ neg a.data.toList b.data.toList=_):=aep;have N3:Hid (_→_→_→_→gQ neg a.data.toList b.data.toList=_):=aeq;have N0:Hid (_→_→_→_→gQ neg a.data.toList b.data.toList=_):=λh1 h2 h3 h4=>aer h1 h2 h3 h4 hm rfl;have HC:Hid _:=hcut;clear hcut;rcases ZU with⟨rfl,hc,rfl⟩|⟨rfl,hc,rfl⟩|⟨rfl,hc,rfl⟩
 case' inl=>have q1:=RA hc 45 rfl
 case' inr.inl=>
  have q1:((c.toNat:Int)==45)=false:=by rw[zai];omega
  have q2:=RA hc 43 rfl
 case' inr.inr=>
  have q1:=Mn hc.1 45 rfl;have q2:=Mn hc.2 43 rfl
 all_goals
  clear hc;simp only[if_true,if_false,zaT]at hm;subst hm;rcases hb with⟨rfl,hB⟩|⟨rfl,hB⟩
  all_goals
   have HB:Hid _:=hB;clear hB;cases d1:dE a.data.toList
   ·have H:Hid _:=N1.out d1;clear N1 N2 N7 N3 N0;go_enter func201,ntmps201;go_wp2_with fail;refine(HC.out _).mono ?_;rintro e w' ⟨rfl,n,rfl⟩;go_wp2_with fail;rw[HB.out];refine(dh _ _ has).mono ?_;rw[show dE a.data.toList=_ from d1];rintro e w' ⟨rfl,rfl⟩;go_wp2_with fail;refine zak (v:= .tuple #[bB ⟨0,0,0,[],0,0,0⟩,.bool false]) (by simp[results,results201,bB,go_sem]) rfl ⟨?_,?_⟩
    ·rw[H.out];rfl
    ·(repeat (first|with_reducible refine zan ?_ (by simp) _|with_reducible refine zaS ?_ _|with_reducible refine zaC ?_ (by simp) _));with_reducible exact zad _ _
   obtain⟨d2v,d2⟩:∃v,dE b.data.toList=v:=⟨_,rfl⟩;cases d2v
   ·have H:Hid _:=N2.out d2;clear N1 N2 N7 N3 N0;go_enter func201,ntmps201;go_wp2_with fail;refine(HC.out _).mono ?_;rintro e w' ⟨rfl,n,rfl⟩;go_wp2_with fail;rw[HB.out];refine(dh _ _ has).mono ?_;rw[show dE a.data.toList=_ from d1];rintro e w' ⟨rfl,rfl⟩;go_wp2_with fail;refine(dh _ _ PE).mono ?_;rw[show dE b.data.toList=_ from d2];rintro e w' ⟨rfl,rfl⟩;go_wp2_with fail;refine zak (v:= .tuple #[bB ⟨0,0,0,[],0,0,0⟩,.bool false]) (by simp[results,results201,bB,go_sem]) rfl ⟨?_,?_⟩
    ·rw[H.out];rfl
    ·(repeat (first|with_reducible refine zan ?_ (by simp) _|with_reducible refine zaS ?_ _|with_reducible refine zaC ?_ (by simp) _));with_reducible exact zad _ _
   obtain⟨n1,n2⟩:=zK d1;obtain⟨m1,m2⟩:=zK d2;have D1:Hid _:=zJ d1;have D2:Hid _:=zJ d2;by_cases h7:1000000<aD a.data.toList∨1000000<aD b.data.toList
   ·have H:Hid _:=N7.out d1 d2 h7;have hf:Hid (_=(7:Int)):=(zac h7:(if 1000000<aD a.data.toList∨1000000<aD b.data.toList then(7:Int)else if aD b.data.toList=0 then 3 else 0)=7);clear h7 N1 N2 N7 N3 N0;go_enter func201,ntmps201;go_wp2_with fail;refine(HC.out _).mono ?_;rintro e w' ⟨rfl,n,rfl⟩;go_wp2_with fail;rw[HB.out];refine(dh _ _ has).mono ?_;rw[show dE a.data.toList=_ from d1];rintro e w' ⟨rfl,rfl⟩;go_wp2_with fail;refine(dh _ _ PE).mono ?_;rw[show dE b.data.toList=_ from d2];rintro e w' ⟨rfl,rfl⟩;go_wp2_with fail;refine(fF _ _ has D1.out).mono ?_;rintro e w' ⟨rfl,rfl⟩;go_wp2_with fail;refine(fF _ _ PE D2.out).mono ?_;rintro e w' ⟨rfl,rfl⟩;go_wp2_with fail;refine(kB _ _ _).mono ?_;rw[hf.out];rintro e w' ⟨rfl,rfl⟩;go_wp2_with fail;refine zak (v:= .tuple #[bB ⟨13,0,0,[],0,0,7⟩,.bool true]) (by simp[results,results201,bB,go_sem]) rfl ⟨?_,?_⟩
    ·rw[H.out];rfl
    ·(repeat (first|with_reducible refine zan ?_ (by simp) _|with_reducible refine zaS ?_ _|with_reducible refine zaC ?_ (by simp) _));with_reducible exact zad _ _
   by_cases h3:aD b.data.toList=0
   ·have H:Hid _:=N3.out d1 d2 h7 h3;have hf:Hid ((if 1000000<aD a.data.toList∨1000000<aD b.data.toList then(7:Int)else if aD b.data.toList=0 then 3 else 0)=3):=by show _=_;rw[zaa h7,zac h3]
    clear h7 h3 N1 N2 N7 N3 N0;go_enter func201,ntmps201;go_wp2_with fail;refine(HC.out _).mono ?_;rintro e w' ⟨rfl,n,rfl⟩;go_wp2_with fail;rw[HB.out];refine(dh _ _ has).mono ?_;rw[show dE a.data.toList=_ from d1];rintro e w' ⟨rfl,rfl⟩;go_wp2_with fail;refine(dh _ _ PE).mono ?_;rw[show dE b.data.toList=_ from d2];rintro e w' ⟨rfl,rfl⟩;go_wp2_with fail;refine(fF _ _ has D1.out).mono ?_;rintro e w' ⟨rfl,rfl⟩;go_wp2_with fail;refine(fF _ _ PE D2.out).mono ?_;rintro e w' ⟨rfl,rfl⟩;go_wp2_with fail;refine(kB _ _ _).mono ?_;rw[hf.out];rintro e w' ⟨rfl,rfl⟩;go_wp2_with fail;refine zak (v:= .tuple #[bB ⟨13,0,0,[],0,0,3⟩,.bool true]) (by simp[results,results201,bB,go_sem]) rfl ⟨?_,?_⟩
    ·rw[H.out];rfl
    ·(repeat (first|with_reducible refine zan ?_ (by simp) _|with_reducible refine zaS ?_ _|with_reducible refine zaC ?_ (by simp) _));with_reducible exact zad _ _
   have H:Hid _:=N0.out d1 d2 h7 h3;have hf:Hid ((if 1000000<aD a.data.toList∨1000000<aD b.data.toList then(7:Int)else if aD b.data.toList=0 then 3 else 0)=0):=by show _=_;rw[zaa h7,zaa h3]
   have t1:aD a.data.toList≤1000000:=by omega
   have t2:1≤aD b.data.toList:=by omega
   have t3:aD b.data.toList≤1000000:=by omega
   clear h7 h3 N1 N2 N7 N3 N0;go_enter func201,ntmps201;go_wp2_with fail;refine(HC.out _).mono ?_;rintro e w' ⟨rfl,n,rfl⟩;go_wp2_with fail;rw[HB.out];refine(dh _ _ has).mono ?_;rw[show dE a.data.toList=_ from d1];rintro e w' ⟨rfl,rfl⟩;go_wp2_with fail;refine(dh _ _ PE).mono ?_;rw[show dE b.data.toList=_ from d2];rintro e w' ⟨rfl,rfl⟩;go_wp2_with fail;refine(fF _ _ has D1.out).mono ?_;rintro e w' ⟨rfl,rfl⟩;go_wp2_with fail;refine(fF _ _ PE D2.out).mono ?_;rintro e w' ⟨rfl,rfl⟩;go_wp2_with fail;refine(kB _ _ _).mono ?_;rw[hf.out];rintro e w' ⟨rfl,rfl⟩;go_wp2_with fail;refine(o7 _ _ _ (by omega) (by omega) (by omega) (by omega)).mono ?_;rintro e w' ⟨rfl,m,rfl⟩;go_wp2_with fail;refine zak (by simp[results,results201,go_sem];rfl) rfl ⟨?_,?_⟩
   ·rw[H.out];first|rfl|simp[Ki,bB]
   ·(repeat (first|with_reducible refine zan ?_ (by simp) _|with_reducible refine zaS ?_ _|with_reducible refine zaC ?_ (by simp) _));with_reducible exact zad _ _
end
theorem tW (s:ByteArray)(a b:Nat):(s.extract a b).data.toList=(s.data.toList.drop a).take (b-a):=by
 simp
theorem ma (s:ByteArray)(a b n:Nat)(h:s.size≤n):(s.extract a b).size≤n:=by
 rw[←bG,tW,List.length_take,zax,bG];omega
theorem BL (c:UInt8)(r:List UInt8)(w:Λ)(hs:r.length+1≤1000000):Φ prog 201 #[.string ⟨⟨c::r⟩⟩] w λe w'=>e=.returned (.tuple #[bB (Ki (fC (c::r))),.bool (fC (c::r)).isSome])∧ι w.heap.size w w':=by
 have key:∀(l:List UInt8) (k:Nat),k<l.length→((⟨⟨l⟩⟩:ByteArray).extract 0 k).data.toList=l.take k∧((⟨⟨l⟩⟩:ByteArray).extract (k+1) (⟨⟨l⟩⟩:ByteArray).size).data.toList=l.drop (k+1):=λl k hk=>by
  refine⟨by rw[tW];simp,?_⟩;rw[tW];show(l.drop (k+1)).take (l.length-(k+1))=_;rw[zbC];rw[zax];exact zab _
 have go:∀(neg:Bool) (l:List UInt8),l.length≤1000000→fC (c::r)=numberOf neg l→((neg=true∧c.toNat=45∧(⟨⟨l⟩⟩:ByteArray)=⟨⟨r⟩⟩)∨(neg=false∧c.toNat=43∧(⟨⟨l⟩⟩:ByteArray)=⟨⟨r⟩⟩)∨(neg=false∧(¬c.toNat=45∧¬c.toNat=43)∧(⟨⟨l⟩⟩:ByteArray)=⟨⟨c::r⟩⟩))→Φ prog 201 #[.string ⟨⟨c::r⟩⟩] w λe w'=>e=.returned (.tuple #[bB (Ki (fC (c::r))),.bool (fC (c::r)).isSome])∧ι w.heap.size w w':=λneg l hl e ZU=>by
  rw[e];rcases CC l with⟨h1,h2⟩|⟨k,h1,h2,h3⟩
  ·rw[BK h2];exact GJ neg false c r ⟨⟨l⟩⟩ ⟨⟨l⟩⟩ ⟨#[]⟩ ⟨#[49]⟩ w hs ZU (λw=>Rx _ w h1) (.inr ⟨rfl,rfl⟩) hl (by decide)
  ·rw[El h3,←(key l k h2).1,←(key l k h2).2];exact GJ neg true c r ⟨⟨l⟩⟩ _ _ _ w hs ZU (λw=>Wn _ k w h1 h2 hl) (.inl ⟨rfl,rfl⟩) (ma _ _ _ _ hl) (ma _ _ _ _ hl)
 by_cases h45:c.toNat=45
 ·exact go true r (by omega) (by show(if c.toNat=45 then _ else _)=_;rw[zac h45]) (.inl ⟨rfl,h45,rfl⟩)
 by_cases h43:c.toNat=43
 ·exact go false r (by omega) (by show(if c.toNat=45 then _ else _)=_;rw[zaa h45,zac h43]) (.inr (.inl ⟨rfl,h43,rfl⟩))
 ·exact go false (c::r) (by simp;omega) (by show(if c.toNat=45 then _ else _)=_;rw[zaa h45,zaa h43]) (.inr (.inr ⟨rfl,⟨h45,h43⟩,rfl⟩))
theorem GK (x:ByteArray)(w:Λ)(hs:x.size≤1000000)(hne:x.data.toList≠[]):Φ prog 201 #[.string x] w λe w'=>e=.returned (.tuple #[bB (Ki (fC x.data.toList)),.bool (fC x.data.toList).isSome])∧ι w.heap.size w w':=by
 obtain⟨⟨l⟩⟩:=x;cases l with
 |nil=>exact absurd rfl hne
 |cons c r=>exact BL c r w (by have:(c::r).length≤1000000:=hs;simpa using this)
theorem vO (x:ByteArray)(w:Λ)(hs:x.size≤1000000)(hne:x.data.toList≠[]):Φ prog 147 #[.string x] w λe w'=>e=.returned (.bool (cy x.data.toList))∧w'=w:=by
 obtain⟨⟨l⟩⟩:=x;cases l with
 |nil=>exact absurd rfl hne
 |cons c r=>exact jC c r w (by have:(c::r).length≤1000000:=hs;unfold η;omega)
theorem p9 (s:ByteArray)(a b:Nat):(s.extract a b).data.toList=fX s.data.toList a b:=tW s a b
theorem ZV (s:ByteArray)(a b:Nat):(s.extract a b).toList=fX s.data.toList a b:=by rw[qZ,p9]
theorem dn {W w1:Λ}(hb:ι W.heap.size W w1){b:Nat}{x0 x1 x2 x3 x4 x5 x6:ζ}{e:ξ}(h:W.heap[b]?=some (.cells #[x0,x1,x2,x3,x4,x5,x6] e)):(w1.cell? ⟨b,0,none⟩=some x0∧w1.cell? ⟨b,1,none⟩=some x1∧w1.cell? ⟨b,2,none⟩=some x2∧w1.cell? ⟨b,3,none⟩=some x3∧w1.cell? ⟨b,4,none⟩=some x4∧w1.cell? ⟨b,5,none⟩=some x5∧w1.cell? ⟨b,6,none⟩=some x6)∧(w1.frozen? ⟨b,0,none⟩=false∧w1.frozen? ⟨b,1,none⟩=false∧w1.frozen? ⟨b,2,none⟩=false∧w1.frozen? ⟨b,3,none⟩=false∧w1.frozen? ⟨b,4,none⟩=false∧w1.frozen? ⟨b,5,none⟩=false∧w1.frozen? ⟨b,6,none⟩=false):=by
 have hlt:b<W.heap.size:=(zaf.1 h).1;have h1:w1.heap[b]?=some (.cells #[x0,x1,x2,x3,x4,x5,x6] e):=(hb.block b hlt).trans h;refine⟨⟨?_,?_,?_,?_,?_,?_,?_⟩,?_,?_,?_,?_,?_,?_,?_⟩<;>simp[Λ.cell?,Λ.frozen?,h1]
theorem gh {w w1:Λ}(h0:ι w.heap.size w w1)(v0 v1 v2 v3 v4 v5 v6:ζ):ι w.heap.size w (((((((w1.setCell ⟨w.heap.size,0,none⟩ v0).setCell ⟨w.heap.size,1,none⟩ v1).setCell ⟨w.heap.size,2,none⟩ v2).setCell ⟨w.heap.size,3,none⟩ v3).setCell ⟨w.heap.size,4,none⟩ v4).setCell ⟨w.heap.size,5,none⟩ v5).setCell ⟨w.heap.size,6,none⟩ v6):=
 ((((((h0.setCell (zab _) _).setCell (zab _) _).setCell (zab _) _).setCell (zab _) _).setCell (zab _) _).setCell (zab _) _).setCell (zab _) _
theorem rL (s:ByteArray)(a:Nat)(w:Λ)(hs:s.size≤1000000)(ha:a<s.size):Φ prog 200 #[.string s,Γ Δ a] w λe w'=>e=.returned (bB (eR s.data.toList a))∧ι w.heap.size w w':=by
 have hle:=jP bz (s.data.toList.drop (a+1));rw[zax,bG]at hle;have hT:Hid (eR s.data.toList a=if fX s.data.toList (a+1) (a+1+br bz (s.data.toList.drop (a+1)))=[116]∨fX s.data.toList (a+1) (a+1+br bz (s.data.toList.drop (a+1)))=[116,114,117,101]then { ax 12 a (a+1+br bz (s.data.toList.drop (a+1)))with n:=1 } else if fX s.data.toList (a+1) (a+1+br bz (s.data.toList.drop (a+1)))=[102]∨fX s.data.toList (a+1) (a+1+br bz (s.data.toList.drop (a+1)))=[102,97,108,115,101]then ax 12 a (a+1+br bz (s.data.toList.drop (a+1)))else bQ a):=rfl;generalize hk:br bz (s.data.toList.drop (a+1))=k at *;have HK:Hid _:=hk;clear hk;have hc:∀x:List UInt8,((s.extract (a+1) (a+1+k)).toList==x)=decide (fX s.data.toList (a+1) (a+1+k)=x):=λx=>by rw[ZV,zaP];simp
 have q1:=hc [116];have q2:=hc [116,114,117,101];have q3:=hc [102];have q4:=hc [102,97,108,115,101];clear hc;generalize fX s.data.toList (a+1) (a+1+k)=W at *;by_cases c1:W=[116]
 ·have e:Hid (eR s.data.toList a={ ax 12 a (a+1+k)with n:=1 }):=by show _=_;rw[hT.out,zac (.inl c1)]
  rw[zbi c1]at q1;clear q2 q3 q4 c1;clear hT;go_enter func200,ntmps200;go_wp2_with (go_at_call 148;refine(dL _ _ _ (by unfold η;omega) (by omega) (by omega)).mono ?_;rintro e w' ⟨rfl,rfl⟩;rw[show((a:Int)+1).toNat=a+1 by omega,HK.out]);refine zak (v:=bB { ax 12 a (a+1+k)with n:=1 }) (by simp[results,results200,bB,ax,go_sem]) rfl ⟨by rw[e.out],?_⟩
  (repeat (first|with_reducible refine zan ?_ (by simp) _|with_reducible refine zaS ?_ _|with_reducible refine zaC ?_ (by simp) _));with_reducible exact zad _ _
 by_cases c2:W=[116,114,117,101]
 ·have e:Hid (eR s.data.toList a={ ax 12 a (a+1+k)with n:=1 }):=by show _=_;rw[hT.out,zac (.inr c2)]
  rw[zaY c1]at q1;rw[zbi c2]at q2;clear q3 q4 c1 c2;clear hT;go_enter func200,ntmps200;go_wp2_with (go_at_call 148;refine(dL _ _ _ (by unfold η;omega) (by omega) (by omega)).mono ?_;rintro e w' ⟨rfl,rfl⟩;rw[show((a:Int)+1).toNat=a+1 by omega,HK.out]);refine zak (v:=bB { ax 12 a (a+1+k)with n:=1 }) (by simp[results,results200,bB,ax,go_sem]) rfl ⟨by rw[e.out],?_⟩
  (repeat (first|with_reducible refine zan ?_ (by simp) _|with_reducible refine zaS ?_ _|with_reducible refine zaC ?_ (by simp) _));with_reducible exact zad _ _
 by_cases c3:W=[102]
 ·have e:Hid (eR s.data.toList a=ax 12 a (a+1+k)):=by show _=_;rw[hT.out,zaa (by simp[c1,c2]),zac (.inl c3)]
  rw[zaY c1]at q1;rw[zaY c2]at q2;rw[zbi c3]at q3;clear q4 c1 c2 c3;clear hT;go_enter func200,ntmps200;go_wp2_with (go_at_call 148;refine(dL _ _ _ (by unfold η;omega) (by omega) (by omega)).mono ?_;rintro e w' ⟨rfl,rfl⟩;rw[show((a:Int)+1).toNat=a+1 by omega,HK.out]);refine zak (v:=bB (ax 12 a (a+1+k))) (by simp[results,results200,bB,ax,go_sem]) rfl ⟨by rw[e.out],?_⟩
  (repeat (first|with_reducible refine zan ?_ (by simp) _|with_reducible refine zaS ?_ _|with_reducible refine zaC ?_ (by simp) _));with_reducible exact zad _ _
 by_cases c4:W=[102,97,108,115,101]
 ·have e:Hid (eR s.data.toList a=ax 12 a (a+1+k)):=by show _=_;rw[hT.out,zaa (by simp[c1,c2]),zac (.inr c4)]
  rw[zaY c1]at q1;rw[zaY c2]at q2;rw[zaY c3]at q3;rw[zbi c4]at q4;clear c1 c2 c3 c4;clear hT;go_enter func200,ntmps200;go_wp2_with (go_at_call 148;refine(dL _ _ _ (by unfold η;omega) (by omega) (by omega)).mono ?_;rintro e w' ⟨rfl,rfl⟩;rw[show((a:Int)+1).toNat=a+1 by omega,HK.out]);refine zak (v:=bB (ax 12 a (a+1+k))) (by simp[results,results200,bB,ax,go_sem]) rfl ⟨by rw[e.out],?_⟩
  (repeat (first|with_reducible refine zan ?_ (by simp) _|with_reducible refine zaS ?_ _|with_reducible refine zaC ?_ (by simp) _));with_reducible exact zad _ _
 ·have e:Hid (eR s.data.toList a=bQ a):=by show _=_;rw[hT.out,zaa (by simp[c1,c2]),zaa (by simp[c3,c4])]
  rw[zaY c1]at q1;rw[zaY c2]at q2;rw[zaY c3]at q3;rw[zaY c4]at q4;clear hT c1 c2 c3 c4;go_enter func200,ntmps200;go_wp2_with (go_at_call 148;refine(dL _ _ _ (by unfold η;omega) (by omega) (by omega)).mono ?_;rintro e w' ⟨rfl,rfl⟩;rw[show((a:Int)+1).toNat=a+1 by omega,HK.out]);refine(jD _ _).mono ?_;rintro e1 w1 ⟨rfl,hb⟩;obtain⟨⟨x0,x1,x2,x3,x4,x5,x6⟩,f0,f1,f2,f3,f4,f5,f6⟩:=dn (b:=w.heap.size) hb ((zaK _ _ _ (by simp)).trans (zas w _));have HB:Hid (ι w.heap.size w w1):=((((zad _ w).alloc (zab _) _).alloc (by simp) _).trans (hb.mono (by simp;omega)));clear hb;unfold bB;go_wp2_with fail;exact zak (v:=bB (bQ a)) (by simp[results,results200,bB,ax,bQ,go_sem, *]) rfl ⟨by rw[e.out],gh HB.out _ _ _ _ _ _ _⟩
theorem ZW (s:ByteArray)(a b:Nat):s.extract a b=⟨⟨fX s.data.toList a b⟩⟩:=by
 have h:=p9 s a b;generalize s.extract a b=x at *;obtain⟨⟨l⟩⟩:=x;rw[←h]
theorem Em (s:ByteArray)(a:Nat)(w:Λ)(hs:s.size≤1000000)(ha:a<s.size)(hw:bz (s[a].toNat :Int)=true):Φ prog 171 #[.string s,Γ Δ a] w λe w'=>e=.returned (bB (l7 s.data.toList a))∧ι w.heap.size w w':=by
 have hle:=jP bz (s.data.toList.drop a);rw[zax,bG]at hle;have jy:0<br bz (s.data.toList.drop a):=by rw[drop_cons s a ha];unfold br;rw[zac hw];omega
 have hT:Hid (l7 s.data.toList a=if fX s.data.toList a (a+br bz (s.data.toList.drop a))=[46]then ax 7 a (a+br bz (s.data.toList.drop a))else if !cy (fX s.data.toList a (a+br bz (s.data.toList.drop a)))then { ax 14 a (a+br bz (s.data.toList.drop a))with text:=fX s.data.toList a (a+br bz (s.data.toList.drop a)) } else match fC (fX s.data.toList a (a+br bz (s.data.toList.drop a)))with|none=>bQ a|some (n,d,f)=>{ ax 13 a (a+br bz (s.data.toList.drop a))with n:=n,d:=d,fault:=f }):=rfl;clear hw;generalize hk:br bz (s.data.toList.drop a)=k at *;have HK:Hid _:=hk;clear hk;have hx:=ZW s a (a+k);have hlen:(fX s.data.toList a (a+k)).length=k:=by unfold fX;rw[List.length_take,zax,bG];omega
 have hsz:(s.extract a (a+k)).size≤1000000:=ma _ _ _ _ hs;generalize hW:fX s.data.toList a (a+k)=W at *;have hne:W≠[]:=by intro h;rw[h]at hlen;simp at hlen;omega
 clear hW hlen;have hd:(s.extract a (a+k)).data.toList=W:=by rw[hx]
 have ht:(s.extract a (a+k)).toList=W:=by rw[qZ,hd]
 have HXW:Hid _:=hx;clear hx;by_cases c1:W=[46]
 ·have e:Hid (l7 s.data.toList a=ax 7 a (a+k)):=by show _=_;rw[hT.out,zac c1]
  have q1:((s.extract a (a+k)).toList==[46])=true:=by rw[ht,c1];rfl
  clear hT c1 hd ht;go_enter func171,ntmps171;go_wp2_with (go_at_call 148;refine(dL _ _ _ (by unfold η;omega) (by omega) (by omega)).mono ?_;rintro e w' ⟨rfl,rfl⟩;rw[show((a:Int)).toNat=a by omega,HK.out]);refine zak (v:=bB (ax 7 a (a+k))) (by simp[results,results171,bB,ax,go_sem]) rfl ⟨by rw[e.out],?_⟩
  (repeat (first|with_reducible refine zan ?_ (by simp) _|with_reducible refine zaS ?_ _|with_reducible refine zaC ?_ (by simp) _));with_reducible exact zad _ _
 have q1:((s.extract a (a+k)).toList==[46])=false:=by rw[ht,zai];exact c1
 have RB:Hid ((s.extract a (a+k)).data.toList≠[]):=by rw[hd];exact hne
 cases hm:cy W
 ·have e:Hid (l7 s.data.toList a={ ax 14 a (a+k)with text:=W }):=by show _=_;rw[hT.out,zaa c1,hm];rfl
  have U1:Hid (cy (s.extract a (a+k)).data.toList=false):=by rw[hd];exact hm
  have hv:Hid (s.extract a (a+k)=⟨⟨W⟩⟩):=HXW.out;clear hT c1 hd ht hm;go_enter func171,ntmps171;go_wp2_with (go_at_call 148;refine(dL _ _ _ (by unfold η;omega) (by omega) (by omega)).mono ?_;rintro e w' ⟨rfl,rfl⟩;rw[show((a:Int)).toNat=a by omega,HK.out]);refine(vO _ _ hsz RB.out).mono ?_;rw[U1.out];rintro e w' ⟨rfl,rfl⟩;go_wp2_with fail;rw[hv.out];refine zak (v:=bB { ax 14 a (a+k)with text:=W }) (by simp[results,results171,bB,ax,go_sem]) rfl ⟨by rw[e.out],?_⟩
  (repeat (first|with_reducible refine zan ?_ (by simp) _|with_reducible refine zaS ?_ _|with_reducible refine zaC ?_ (by simp) _));with_reducible exact zad _ _
 ·have U1:Hid (cy (s.extract a (a+k)).data.toList=true):=by rw[hd];exact hm
  have cn:Hid (fC (s.extract a (a+k)).data.toList=fC W):=by show _=_;rw[hd]
  cases hn:fC W with
  |none=>
   have e:Hid (l7 s.data.toList a=bQ a):=by show _=_;rw[hT.out,zaa c1,hm,hn];rfl
   clear hT c1 hd ht hm;go_enter func171,ntmps171;go_wp2_with (go_at_call 148;refine(dL _ _ _ (by unfold η;omega) (by omega) (by omega)).mono ?_;rintro e w' ⟨rfl,rfl⟩;rw[show((a:Int)).toNat=a by omega,HK.out]);refine(vO _ _ hsz RB.out).mono ?_;rw[U1.out];rintro e w' ⟨rfl,rfl⟩;go_wp2_with fail;refine(GK _ _ hsz RB.out).mono ?_;rw[cn.out,hn];rintro e w1 ⟨rfl,hb⟩;obtain⟨⟨x0,x1,x2,x3,x4,x5,x6⟩,f0,f1,f2,f3,f4,f5,f6⟩:=dn (b:=w.heap.size) hb (zas w _);have hb1:ι w.heap.size w w1:=((zad _ w).alloc (zab _) _).trans (hb.mono (by simp));have hs1:w.heap.size<w1.heap.size:=by have:=hb.size;simp at this;omega
   have ZP:¬w.heap.size=w1.heap.size:=by omega
   have PK:¬w1.heap.size=w.heap.size:=by omega
   have HB:Hid (ι w.heap.size w w1):=hb1;have rM:Hid _:=(hb.block w.heap.size (by simp)).trans (zas w _);clear hb hb1;unfold bB Ki;go_wp2_with fail;refine(jD _ _).mono ?_;rintro e w2 ⟨rfl,hb2⟩;clear x0 x1 x2 x3 x4 x5 x6 f0 f1 f2 f3 f4 f5 f6;obtain⟨⟨x0,x1,x2,x3,x4,x5,x6⟩,f0,f1,f2,f3,f4,f5,f6⟩:=dn (b:=w.heap.size) hb2 ((zaK _ _ _ hs1).trans rM.out);have iu:Hid (ι w.heap.size w w2):=(HB.out.alloc (by omega) _).trans (hb2.mono (by simp;omega));clear hb2;unfold bB;go_wp2_with fail;exact zak (v:=bB (bQ a)) (by simp[results,results171,bB,ax,bQ,go_sem, *]) rfl ⟨by rw[e.out],gh iu.out _ _ _ _ _ _ _⟩
  |some p=>
   obtain⟨n,d,f⟩:=p;have e:Hid (l7 s.data.toList a={ ax 13 a (a+k)with n:=n,d:=d,fault:=f }):=by show _=_;rw[hT.out,zaa c1,hm,hn];rfl
   clear hT c1 hd ht hm;go_enter func171,ntmps171;go_wp2_with (go_at_call 148;refine(dL _ _ _ (by unfold η;omega) (by omega) (by omega)).mono ?_;rintro e w' ⟨rfl,rfl⟩;rw[show((a:Int)).toNat=a by omega,HK.out]);refine(vO _ _ hsz RB.out).mono ?_;rw[U1.out];rintro e w' ⟨rfl,rfl⟩;go_wp2_with fail;refine(GK _ _ hsz RB.out).mono ?_;rw[cn.out,hn];rintro e w1 ⟨rfl,hb⟩;obtain⟨⟨x0,x1,x2,x3,x4,x5,x6⟩,f0,f1,f2,f3,f4,f5,f6⟩:=dn (b:=w.heap.size) hb (zas w _);have hb1:ι w.heap.size w w1:=((zad _ w).alloc (zab _) _).trans (hb.mono (by simp));have hs1:w.heap.size<w1.heap.size:=by have:=hb.size;simp at this;omega
   have ZP:¬w.heap.size=w1.heap.size:=by omega
   have PK:¬w1.heap.size=w.heap.size:=by omega
   have HB:Hid (ι w.heap.size w w1):=hb1;have rM:Hid _:=(hb.block w.heap.size (by simp)).trans (zas w _);clear hb hb1;unfold bB Ki;go_wp2_with fail;refine zak (v:=bB { ax 13 a (a+k)with n:=n,d:=d,fault:=f }) (by simp[results,results171,bB,ax,go_sem, *]) rfl ⟨by rw[e.out],?_⟩
   (repeat (first|with_reducible refine zan ?_ (by first|(simp;done)|(simp;omega)) _|with_reducible refine zaS ?_ _|with_reducible refine zaC ?_ (by first|omega|(simp;done)|(simp;omega)) _));with_reducible exact HB.out
theorem GM (p:Int→Bool):∀l:List UInt8,(l.take (br p l)).all (λc=>p (c.toNat:Int))=true
 |[]=>rfl
 |c::r=>by
  unfold br;by_cases h:p (c.toNat:Int)=true
  ·rw[zac h,zcu,zat,h,zbL];exact GM p r
  ·rw[zaa h];rfl
def zL:Tok:=⟨0,0,0,[],0,0,0⟩
theorem mH (s:ByteArray)(a:Nat)(w:Λ)(hs:s.size≤1000000)(ha:a<s.size):Φ prog 199 #[.string s,Γ Δ a] w λe w'=>e=.returned (.tuple #[bB ((eQ s.data.toList a).getD zL),.bool (eQ s.data.toList a).isSome])∧ι w.heap.size w w':=by
 have hle:=jP dD (s.data.toList.drop (a+1));rw[zax,bG]at hle;have hall:Hid ((s.extract (a+1) (a+1+br dD (s.data.toList.drop (a+1)))).data.toList.all (λc=>dD (c.toNat:Int))=true):=by
  show _=_;rw[p9];unfold fX;rw[show a+1+br dD (s.data.toList.drop (a+1))-(a+1)=br dD (s.data.toList.drop (a+1)) by omega];exact GM _ _
 have hT:Hid (eQ s.data.toList a=if br dD (s.data.toList.drop (a+1))=0∨3<br dD (s.data.toList.drop (a+1))then none else match s.data.toList.drop (a+1+br dD (s.data.toList.drop (a+1)))with|[]=>none|c::_=>if c.toNat=61 then some { ax 10 a (a+1+br dD (s.data.toList.drop (a+1))+1)with n:=aD (fX s.data.toList (a+1) (a+1+br dD (s.data.toList.drop (a+1)))) } else if c.toNat=35 then some { ax 11 a (a+1+br dD (s.data.toList.drop (a+1))+1)with n:=aD (fX s.data.toList (a+1) (a+1+br dD (s.data.toList.drop (a+1)))) } else none):=rfl;generalize hk:br dD (s.data.toList.drop (a+1))=k at *;have HK:Hid _:=hk;clear hk;have Rf:Hid ((s.extract (a+1) (a+1+k)).data.toList=fX s.data.toList (a+1) (a+1+k)):=p9 _ _ _;have hsz:(s.extract (a+1) (a+1+k)).size≤1000000:=ma _ _ _ _ hs;by_cases h0:k=0
 ·have e:Hid (eQ s.data.toList a=none):=by show _=_;rw[hT.out,zac (.inl h0)]
  have q1:(((a:Int)+1+(k:Int))==(a:Int)+1)=true:=by rw[zaJ];omega
  clear hT;go_enter func199,ntmps199;go_wp2_with (go_at_call 148;refine(fE _ _ _ (by unfold η;omega) (by omega) (by omega)).mono ?_;rintro e w' ⟨rfl,rfl⟩;rw[show((a:Int)+1).toNat=a+1 by omega,HK.out]);refine zak (v:= .tuple #[bB zL,.bool false]) (by simp[results,results199,bB,zL,go_sem]) rfl ⟨by rw[e.out];rfl,?_⟩
  (repeat (first|with_reducible refine zan ?_ (by simp) _|with_reducible refine zaC ?_ (by simp) _));with_reducible exact zad _ _
 have q1:(((a:Int)+1+(k:Int))==(a:Int)+1)=false:=by rw[zai];omega
 by_cases h3:3<k
 ·have e:Hid (eQ s.data.toList a=none):=by show _=_;rw[hT.out,zac (.inr h3)]
  clear hT;go_enter func199,ntmps199;go_wp2_with (go_at_call 148;refine(fE _ _ _ (by unfold η;omega) (by omega) (by omega)).mono ?_;rintro e w' ⟨rfl,rfl⟩;rw[show((a:Int)+1).toNat=a+1 by omega,HK.out]);refine zak (v:= .tuple #[bB zL,.bool false]) (by simp[results,results199,bB,zL,go_sem]) rfl ⟨by rw[e.out];rfl,?_⟩
  (repeat (first|with_reducible refine zan ?_ (by simp) _|with_reducible refine zaC ?_ (by simp) _));with_reducible exact zad _ _
 have hn:¬(k=0∨3<k):=by omega
 by_cases hE:a+1+k=s.size
 ·have e:Hid (eQ s.data.toList a=none):=by show _=_;rw[hT.out,zaa hn,show s.data.toList.drop (a+1+k)=[] from zbE (by rw[bG];omega)]
  have q2:(((a:Int)+1+(k:Int))==(s.size:Int))=true:=by rw[zaJ];omega
  clear hT hn;go_enter func199,ntmps199;go_wp2_with (go_at_call 148;refine(fE _ _ _ (by unfold η;omega) (by omega) (by omega)).mono ?_;rintro e w' ⟨rfl,rfl⟩;rw[show((a:Int)+1).toNat=a+1 by omega,HK.out]);refine zak (v:= .tuple #[bB zL,.bool false]) (by simp[results,results199,bB,zL,go_sem]) rfl ⟨by rw[e.out];rfl,?_⟩
  (repeat (first|with_reducible refine zan ?_ (by simp) _|with_reducible refine zaC ?_ (by simp) _));with_reducible exact zad _ _
 have q2:(((a:Int)+1+(k:Int))==(s.size:Int))=false:=by rw[zai];omega
 have hlt:a+1+k<s.size:=by omega
 have wR:1≤k:=by omega
 have hk3:k≤3:=by omega
 have hd:=drop_cons s (a+1+k) hlt;clear h0 h3 hE;by_cases h61:(s[a+1+k].toNat :Int)=61
 ·have e:Hid (eQ s.data.toList a=some { ax 10 a (a+1+k+1)with n:=aD (fX s.data.toList (a+1) (a+1+k)) }):=by show _=_;rw[hT.out,zaa hn,hd];exact zac (by omega)
  clear hT hd hn;go_enter func199,ntmps199;go_wp2_with (go_at_call 148;refine(fE _ _ _ (by unfold η;omega) (by omega) (by omega)).mono ?_;rintro e w' ⟨rfl,rfl⟩;rw[show((a:Int)+1).toNat=a+1 by omega,HK.out]);refine(fF _ _ hsz hall.out).mono ?_;rw[Rf.out];rintro e w' ⟨rfl,rfl⟩;go_wp2_with fail;refine zak (v:= .tuple #[bB { ax 10 a (a+1+k+1)with n:=aD (fX s.data.toList (a+1) (a+1+k)) },.bool true]) (by simp[results,results199,bB,ax,go_sem]) rfl ⟨by rw[e.out];rfl,?_⟩
  (repeat (first|with_reducible refine zan ?_ (by simp) _|with_reducible refine zaC ?_ (by simp) _));with_reducible exact zad _ _
 by_cases h35:(s[a+1+k].toNat :Int)=35
 ·have e:Hid (eQ s.data.toList a=some { ax 11 a (a+1+k+1)with n:=aD (fX s.data.toList (a+1) (a+1+k)) }):=by show _=_;rw[hT.out,zaa hn,hd];exact(zaa (by omega)).trans (zac (by omega))
  clear hT hd hn;go_enter func199,ntmps199;go_wp2_with (go_at_call 148;refine(fE _ _ _ (by unfold η;omega) (by omega) (by omega)).mono ?_;rintro e w' ⟨rfl,rfl⟩;rw[show((a:Int)+1).toNat=a+1 by omega,HK.out]);refine(fF _ _ hsz hall.out).mono ?_;rw[Rf.out];rintro e w' ⟨rfl,rfl⟩;go_wp2_with fail;refine zak (v:= .tuple #[bB { ax 11 a (a+1+k+1)with n:=aD (fX s.data.toList (a+1) (a+1+k)) },.bool true]) (by simp[results,results199,bB,ax,go_sem]) rfl ⟨by rw[e.out];rfl,?_⟩
  (repeat (first|with_reducible refine zan ?_ (by simp) _|with_reducible refine zaC ?_ (by simp) _));with_reducible exact zad _ _
 ·have e:Hid (eQ s.data.toList a=none):=by show _=_;rw[hT.out,zaa hn,hd];exact(zaa (by omega)).trans (zaa (by omega))
  clear hT hd hn;go_enter func199,ntmps199;go_wp2_with (go_at_call 148;refine(fE _ _ _ (by unfold η;omega) (by omega) (by omega)).mono ?_;rintro e w' ⟨rfl,rfl⟩;rw[show((a:Int)+1).toNat=a+1 by omega,HK.out]);refine(fF _ _ hsz hall.out).mono ?_;rw[Rf.out];rintro e w' ⟨rfl,rfl⟩;go_wp2_with fail;refine zak (v:= .tuple #[bB zL,.bool false]) (by simp[results,results199,bB,zL,go_sem]) rfl ⟨by rw[e.out];rfl,?_⟩
  (repeat (first|with_reducible refine zan ?_ (by simp) _|with_reducible refine zaC ?_ (by simp) _));with_reducible exact zad _ _
structure NZ (T:ξ) (cells off:Nat):Prop where
 lies:liesAt prog prog.depth T (cells/prog.cellsOf T) off 116 1=true
 lt:off<cells
theorem zM:NZ 116 2 0:=⟨by kernel_rfl,by omega⟩
theorem GN:NZ 118 7 4:=⟨by kernel_rfl,by omega⟩
theorem wZ:(prog.info? 116).map (·.size)=some 2:=by kernel_rfl
theorem infoByte:(prog.info? 5).map (λi=>(i.zero,i.size,i.bytes))=some (some (.int .u8 0),1,1):=by kernel_rfl
structure fu (w:Λ) (T:ξ) (off B b:Nat) (cs:Array ζ) (v:ζ) (bs:List ζ):Prop where
 hB:B≤b
 blk:w.heap[b]?=some (.cells cs T (0,0))
 c0:cs[off]?=some (.pointer none)∨cs[off]?=some (.pointer (some ⟨b,off,none⟩))
 c1:cs[off+1]?=some v
 own:w.ownsRow B 5 1 v bs.length bs
structure iv (w w':Λ) (b:Nat) (v v':ζ):Prop where
 os:w'.os=w.os
 tape:w'.tape=w.tape
 output:w'.output=w.output
 size:w.heap.size≤w'.heap.size
 block:∀k,k<w.heap.size→k≠b→some k≠v.ownBlock→w'.heap[k]?=w.heap[k]?
 buf:v'.ownBlock=v.ownBlock∨∃k,v'.ownBlock=some k∧w.heap.size≤k
theorem iv.refl (w:Λ)(b:Nat)(v:ζ):iv w w b v v:=⟨rfl,rfl,rfl,zab _,λ_ _ _ _=>rfl,Or.inl rfl⟩
theorem iv.trans {w w' w'':Λ}{b:Nat}{v v' v'':ζ}(h:iv w w' b v v')(k:iv w' w'' b v' v''):iv w w'' b v v'':=by
 refine⟨k.os.trans h.os,k.tape.trans h.tape,k.output.trans h.output,zah h.size k.size,λi hi hb hv=>?_,?_⟩
 ·have hne:some i≠v'.ownBlock:=by
   rcases h.buf with e|⟨g,e,hg⟩
   ·rw[e];exact hv
   ·rw[e];intro x;simp only[zaG]at x;omega
  exact(k.block i (zaL hi h.size) hb hne).trans (h.block i hi hb hv)
 ·rcases k.buf with e|⟨g,e,hg⟩
  ·rw[e];exact h.buf
  ·exact Or.inr ⟨g,e,zah h.size hg⟩
theorem iv.below {w w':Λ}{B b:Nat}{v v':ζ}(h:iv w w' b v v')(hB:B≤w.heap.size)(hb:B≤b)(hv:∀k,v.ownBlock=some k→B≤k):ι B w w':=
 ⟨h.os,h.tape,h.output,h.size,λk hk=>h.block k (by omega) (by omega) (λe=>by have:=hv k e.symm;omega)⟩
theorem fu.cell {w:Λ}{T:ξ}{off B b:Nat}{cs:Array ζ}{v:ζ}{bs:List ζ}(h:fu w T off B b cs v bs)(j:Nat):w.cell? ⟨b,j,none⟩=cs[j]?:=zbt h.blk j
theorem fu.frozen {w:Λ}{T:ξ}{off B b:Nat}{cs:Array ζ}{v:ζ}{bs:List ζ}(h:fu w T off B b cs v bs)(j:Nat):w.frozen? ⟨b,j,none⟩=false:=Lib.frozen_of_heap h.blk j
theorem fu.lt {w:Λ}{T:ξ}{off B b:Nat}{cs:Array ζ}{v:ζ}{bs:List ζ}(h:fu w T off B b cs v bs):b<w.heap.size:=(zaf.1 h.blk).1
theorem zN (b off:Nat)(w:Λ)(h0:w.cell? ⟨b,off,none⟩=some (.pointer (some ⟨b,off,none⟩))):Φ prog 189 #[.pointer (some ⟨b,off,none⟩)] w λe w'=>e=.returned (.tuple #[])∧w'=w:=by
 obtain⟨j,hj,_⟩:=zaz.1 wZ;go_enter func189,ntmps189
 go_wp2
 rw[Lib.run_neq_ptr_same w _ underlying114 hj]
 go_wp2
 go_end0
 exact⟨rfl,rfl⟩
theorem xy (T:ξ)(cells b off:Nat)(X:NZ T cells off)(w:Λ)(h0:w.cell? ⟨b,off,none⟩=some (.pointer none))(PM:w.shape? b=some (T,cells))(P6:w.frozen? ⟨b,off,none⟩=false):Φ prog 189 #[.pointer (some ⟨b,off,none⟩)] w λe w'=>e=.returned (.tuple #[])∧w'=w.setCell ⟨b,off,none⟩ (.pointer (some ⟨b,off,none⟩)):=by
 obtain⟨j,hj,hjs⟩:=zaz.1 wZ;go_enter func189,ntmps189
 go_wp2
 rw[Lib.run_to_unsafe w ⟨b,off,none⟩ underlying114 underlying196 hj (by rw[hjs];decide) PM X.lt];simp only[Result.andThen];rw[Oper.upon_value]
 go_wp2
 rw[run_callFunc_extern func215 (by kernel_rfl) (by kernel_rfl) (by kernel_rfl) (e:=Extern.AbiNoEscape.same) (by kernel_rfl)];rw[Lib.run_noEscape];simp only[Result.andThen];rw[Oper.upon_value]
 go_wp2
 rw[Lib.run_from_unsafe w ⟨b,off,none⟩ underlying196 underlying114 hj PM X.lies];simp only[Result.andThen];rw[Oper.upon_value]
 go_wp2
 go_end0
 exact⟨rfl,rfl⟩
def lF (off b:Nat)(cs:Array ζ):Array ζ:=cs.setIfInBounds off (.pointer (some ⟨b,off,none⟩))
theorem Kj {off b:Nat}{cs:Array ζ}(h:cs[off]?=some (.pointer (some ⟨b,off,none⟩))):lF off b cs=cs:=by
 apply Array.ext_getElem?
 intro i;unfold lF;rw[zcG];split
 ·next e=>subst e;obtain⟨hlt,_⟩:=zaf.1 h;rw[zac hlt,h]
 ·rfl
theorem rN {w:Λ}{T:ξ}{off B b:Nat}{cs:Array ζ}{v:ζ}{bs:List ζ}(X:NZ T cs.size off)(hT:T≠5)(h:fu w T off B b cs v bs):Φ prog 189 #[.pointer (some ⟨b,off,none⟩)] w λe w'=>e=.returned (.tuple #[])∧fu w' T off B b (lF off b cs) v bs∧(lF off b cs)[off]?=some (.pointer (some ⟨b,off,none⟩))∧iv w w' b v v:=by
 have hlt:=X.lt;rcases h.c0 with h0|h0
 ·refine(xy T cs.size b off X w ((h.cell off).trans h0) (by simp[Λ.shape?,h.blk]) (h.frozen off)).mono ?_;rintro e w' ⟨rfl,rfl⟩;have hn:=Lib.ownBlock_ne h.own h.blk hT;have hu:(lF off b cs)[off]?=some (.pointer (some ⟨b,off,none⟩)):=by simp[lF,hlt]
  refine⟨rfl,⟨h.hB,?_,Or.inr hu,?_,?_⟩,hu,⟨rfl,rfl,rfl,by simp[Λ.setCell],λk _ hk _=>zau _ _ _ _ hk,Or.inl rfl⟩⟩
  ·have:=heap_setCell_same w b off cs T (.pointer (some ⟨b,off,none⟩)) h.blk;exact this
  ·unfold lF;rw[zcG,zaa (by omega)];exact h.c1
  ·exact h.own.kept (row:=some b) ⟨rfl,rfl,rfl,by simp[Λ.setCell],λk _ hk=>zau _ _ _ _ (λe=>hk (by simp[e]))⟩ (Or.inr hn)
 ·refine(zN b off w ((h.cell off).trans h0)).mono ?_;rintro e w' ⟨rfl,rfl⟩;rw[Kj h0];exact⟨rfl,h,h0,iv.refl _ _ _⟩
theorem sk {w:Λ}{T:ξ}{off B b:Nat}{cs:Array ζ}{v:ζ}{bs:List ζ}(h:fu w T off B b cs v bs):Φ prog 153 #[.pointer (some ⟨b,off,none⟩)] w λe w'=>e=.returned (Γ Δ bs.length)∧w'=w:=by
 have c1:=(h.cell (off+1)).trans h.c1;have hown:=h.own;obtain⟨ao,cap,rfl⟩:∃ao cap,v=.slice ao bs.length cap:=by
  rcases hown.2 with⟨hv,h0⟩|⟨g,cap,cur,hv,_⟩
  ·exact⟨none,0,by rw[hv,h0]⟩
  ·exact⟨_,_,hv⟩
 clear hown h;go_enter func153,ntmps153
 go_wp2
 go_ret;exact⟨rfl,rfl⟩
section
variable {P:Program}
theorem zO (w:Λ)(base:Nat)(t u ty e:ξ)(i:ω)(ht:P.underlying t=some (.slice e))(hu:P.underlying u=some .string)(hi:P.info? e=some i)(hz:i.zero=some (.int .u8 0))
 (hsize:i.size=1)(hby:i.bytes=1)
 (v:ζ)(n:Nat)(xs:List ζ)(hown:w.ownsRow base e 1 v n xs)(s:ByteArray)
 (h63:n+s.size≤η)(hbytes:n+s.size≤140737488355328)(hbase:base≤w.heap.size):
 ∃v' w',(Builtin.append_ #[t,u] ty #[v,.string s]).run P w=.ok v' w'∧w'.ownsRow base e 1 v' (n+s.size) (xs++Lib.strCells s)∧w.grownBy w' v.ownBlock∧
  (v'.ownBlock=v.ownBlock∨∃k,v'.ownBlock=some k∧w.heap.size≤k):=by
 obtain⟨v',w',hr,h2,h3,h4⟩:=Lib.run_append_own_string (P:=P) w base t u ty e i ht hu hi hz hsize hby v n xs hown s h63 hbytes hbase;refine⟨v',w',hr,h2,h3,?_⟩;have hxl:xs.length=n:=by simpa using hown.1
 have Kk:n+s.size≤9223372036854775807:=by simp only[η]at h63;omega
 rcases hown.2 with⟨rfl,rfl⟩|⟨g,cap,cur,rfl,hbg,hg,hnc,hcm,hcs,GQ⟩
 ·by_cases hm:s.size=0
  ·have:=h4.2 ⟨rfl,hm⟩;rw[this];exact Or.inl rfl
  ·have pN:=Go.run_append_nil_string (P:=P) w t u ty e i (.int .u8 0) ht hu hi hz s (by omega) (by omega) (by rw[hby];omega);rw[pN]at hr;injection hr with a b;rw[←a];exact Or.inr ⟨_,rfl,zab _⟩
 ·by_cases hroom:n+s.size≤cap
  ·have afQ:cur.size=cap:=by simpa using hcs
   have pN:=Lib.run_append_room_string (P:=P) w t u ty e i ht hu hi hsize g n cap cur hg s hroom (by omega);rw[pN]at hr;injection hr with a b;rw[←a];exact Or.inl rfl
  ·have holds:∀j u,xs[j]?=some u→w.cell? ((⟨g,0,none⟩:Addr).add j)=some u:=hown.cells (g:=g) rfl;have pN:=Lib.run_append_grow_string (P:=P) w t u ty e i (.int .u8 0) ht hu hi hz ⟨g,0,none⟩ n cap xs (by rw[hsize];simpa using hxl) holds s (by omega) (by omega) (by rw[hby];exact growslice_fits (by omega) (by omega));rw[pN]at hr;injection hr with a b;rw[←a];exact Or.inr ⟨_,rfl,zab _⟩
theorem tX {w:Λ}{ops:Array Oper}{rest:List Oper}{o:Oper}{a:Act}{Q:Exit→Act→Λ→Prop}(hgd:o.guard=none)(sl x:Operand)(t u:ξ)
 (ho:o.op=.call { callee:= .builtin .append,args:=#[sl,x],argTypes:=#[t,u] })
 (base:Nat)(e:ξ)(i:ω)(ht:P.underlying t=some (.slice e))(hu:P.underlying u=some .string)(hi:P.info? e=some i)(hz:i.zero=some (.int .u8 0))
 (hsize:i.size=1)(hby:i.bytes=1)
 (v:ζ)(n:Nat)(xs:List ζ)(hs:a.eval sl=v)(hown:w.ownsRow base e 1 v n xs)(s:ByteArray)(hx:a.eval x=.string s)
 (h63:n+s.size≤η)(hbytes:n+s.size≤140737488355328)(hbase:base≤w.heap.size)
 (h:∀v' w',w'.ownsRow base e 1 v' (n+s.size) (xs++Lib.strCells s)→w.grownBy w' v.ownBlock→(v'.ownBlock=v.ownBlock∨∃k,v'.ownBlock=some k∧w.heap.size≤k)→wpList P ops Q rest (a.put o.dst v') w'):wpList P ops Q (o::rest) a w:=by
 refine wpList_plain hgd λK hK=>?_;obtain⟨v',w',hr,h2,h3,h4⟩:=zO (P:=P) w base t u o.type e i ht hu hi hz hsize hby v n xs hown s h63 hbytes hbase;unfold Oper.wp φ;simp only[ho,resolve,invoke,builtin,zaV,zbb,zaW,zbT,zaD,zbu,hs,hx,hr];exact hK _ _ (h v' w' h2 h3 h4)
end
theorem fu.put {w w2:Λ}{T:ξ}{off B b:Nat}{cs:Array ζ}{v v':ζ}{bs bs':List ζ}(h:fu w T off B b cs v bs)(hT:T≠5)(hg:w.grownBy w2 v.ownBlock)
 (hown:w2.ownsRow B 5 1 v' bs'.length bs')(nB:v'.ownBlock=v.ownBlock∨∃k,v'.ownBlock=some k∧w.heap.size≤k):
 fu (w2.setCell ⟨b,off+1,none⟩ v') T off B b (cs.setIfInBounds (off+1) v') v' bs'∧iv w (w2.setCell ⟨b,off+1,none⟩ v') b v v':=by
 have hn:=Lib.ownBlock_ne h.own h.blk hT;have hlt:=h.lt;have hb2:w2.heap[b]?=some (.cells cs T (0,0)):=(hg.block b hlt (λe=>hn e.symm)).trans h.blk;have PK:=Lib.ownBlock_ne hown hb2 hT;obtain⟨RD,_⟩:=zaf.1 h.c1;refine⟨⟨h.hB,heap_setCell_same w2 b (off+1) cs T v' hb2,?_,?_,?_⟩,⟨hg.os,hg.tape,hg.output,?_,λk hk hkb FK=>?_,nB⟩⟩
 ·rw[zcG,zaa (by omega)];exact h.c0
 ·simp[RD]
 ·exact hown.kept (row:=some b) ⟨rfl,rfl,rfl,by simp[Λ.setCell],λk _ hk=>zau _ _ _ _ (λe=>hk (by simp[e]))⟩ (Or.inr PK)
 ·have:=hg.size;simpa[Λ.setCell]using this
 ·rw[zau _ _ _ _ hkb];exact hg.block k hk FK
theorem o9 {w:Λ}{T:ξ}{off B b:Nat}{cs:Array ζ}{v:ζ}{bs:List ζ}(X:NZ T cs.size off)(hT:T≠5)(h:fu w T off B b cs v bs)(s:ByteArray)(hlen:bs.length+s.size≤140737488355328)(rz:B≤w.heap.size):Φ prog 154 #[.pointer (some ⟨b,off,none⟩),.string s] w λe w'=>e=.returned (.tuple #[Γ Δ s.size,.nilIface])∧∃v',fu w' T off B b ((lF off b cs).setIfInBounds (off+1) v') v' (bs++Lib.strCells s)∧iv w w' b v v':=by
 obtain⟨i0,hi,hz0,hz1,hz2⟩:=info_parts infoByte;go_enter func154,ntmps154;go_wp2_with (go_at_call 189;refine(rN X hT h).mono ?_);rintro e w1 ⟨rfl,h1,hc0,oo⟩;have c0:w1.cell? ⟨b,off,none⟩=some (.pointer (some ⟨b,off,none⟩)):=(h1.cell off).trans hc0;have c1:w1.cell? ⟨b,off+1,none⟩=some v:=(h1.cell (off+1)).trans h1.c1;have hs1:=oo.size;go_wp2_with (at_builtin;refine tX rfl _ _ 80 9 rfl B 5 i0 underlying80 underlying9 hi hz0 hz1 hz2 _ _ _ rfl h1.own s rfl ?c3 ?c4 ?c5 ?_)
 case c3=>unfold η;omega
 case c4=>omega
 case c5=>omega
 intro v' w2 hown' hgrow nB;obtain⟨hA,hTo⟩:=h1.put hT hgrow (bs':=bs++Lib.strCells s) (by simpa[Lib.strCells_length]using hown') nB;have hn:=Lib.ownBlock_ne h1.own h1.blk hT;have hb2:w2.heap[b]?=some (.cells (lF off b cs) T (0,0)):=(hgrow.block b h1.lt (λe=>hn e.symm)).trans h1.blk;have d0:w2.cell? ⟨b,off,none⟩=some (.pointer (some ⟨b,off,none⟩)):=(zbt hb2 _).trans hc0;have d1:w2.cell? ⟨b,off+1,none⟩=some v:=(zbt hb2 _).trans h1.c1;have f1:w2.frozen? ⟨b,off+1,none⟩=false:=Lib.frozen_of_heap hb2 _;obtain⟨ao,n',cap,rfl⟩:∃ao n' cap,v'=.slice ao n' cap:=by
  rcases hown'.2 with⟨hv,_⟩|⟨g,cap,cur,hv,_⟩
  ·exact⟨_,_,_,hv⟩
  ·exact⟨_,_,_,hv⟩
 go_wp2
 go_ret2;exact⟨rfl,_,hA,oo.trans hTo⟩
section
variable {P:Program}
theorem zP (w:Λ)(base:Nat)(t ty e:ξ)(i:ω)(z:ζ)(ht:P.underlying t=some (.slice e))(hi:P.info? e=some i)(hz:i.zero=some z)
 (hsize:i.size=1)(hby:i.bytes=1)(hzs:z.cells.size=1)
 (v:ζ)(n:Nat)(xs:List ζ)(hown:w.ownsRow base e 1 v n xs)
 (a:Addr)(m c:Nat)(news:List ζ)(hm:m≠0)(hl:news.length=m*1)(hnews:∀j u,news[j]?=some u→w.cell? (a.add j)=some u)(h1:∀u∈news,u.oneCell'=true)
 (h63:n+m≤η)(hbytes:(n+m)*1≤140737488355328)(hbase:base≤w.heap.size):
 ∃v' w',(Builtin.append_ #[t,t] ty #[v,.slice (some a) m c]).run P w=.ok v' w'∧w'.ownsRow base e 1 v' (n+m) (xs++news)∧w.grownBy w' v.ownBlock∧
  (v'.ownBlock=v.ownBlock∨∃k,v'.ownBlock=some k∧w.heap.size≤k):=by
 obtain⟨v',w',hr,h2,h3,h4⟩:=run_append_own (P:=P) w base t ty e i z 1 1 ht hi hz hsize hby hzs (by decide) v n xs hown a m c news hl hnews h1 h63 hbytes hbase;refine⟨v',w',hr,h2,h3,?_⟩;have Kk:n+m≤9223372036854775807:=by simp only[η]at h63;omega
 rcases hown.2 with⟨rfl,rfl⟩|⟨g,cap,cur,rfl,hbg,hg,hnc,hcm,hcs,GQ⟩
 ·have pN:=run_append_nil (P:=P) w t ty e i z ht hi hz a m c news (by rw[hsize];exact hl) hnews (by omega) (by omega) (by rw[hby];omega);rw[pN]at hr;injection hr with a b;rw[←a];exact Or.inr ⟨_,rfl,zab _⟩
 ·by_cases hroom:n+m≤cap
  ·have pN:=run_append_room (P:=P) w t ty e i ht hi g n cap cur hg a m c news (by rw[hsize];exact hl) hnews h1 hroom (by rw[hsize];omega);rw[pN]at hr;injection hr with a b;rw[←a];exact Or.inl rfl
  ·have holds:∀j u,xs[j]?=some u→w.cell? ((⟨g,0,none⟩:Addr).add j)=some u:=hown.cells (g:=g) rfl;have pN:=run_append_grow (P:=P) w t ty e i z ht hi hz ⟨g,0,none⟩ n cap xs (by rw[hsize];exact hown.1) holds a m c news (by rw[hsize];exact hl) hnews (by omega) (by omega) (by rw[hby];exact growslice_fits (by omega) hbytes);rw[pN]at hr;injection hr with a b;rw[←a];exact Or.inr ⟨_,rfl,zab _⟩
theorem tY {w:Λ}{ops:Array Oper}{rest:List Oper}{o:Oper}{a:Act}{Q:Exit→Act→Λ→Prop}(hgd:o.guard=none)(sl x:Operand)(t:ξ)
 (ho:o.op=.call { callee:= .builtin .append,args:=#[sl,x],argTypes:=#[t,t] })
 (base:Nat)(e:ξ)(i:ω)(z:ζ)(ht:P.underlying t=some (.slice e))(hi:P.info? e=some i)(hz:i.zero=some z)
 (hsize:i.size=1)(hby:i.bytes=1)(hzs:z.cells.size=1)
 (v:ζ)(n:Nat)(xs:List ζ)(hs:a.eval sl=v)(hown:w.ownsRow base e 1 v n xs)
 (ad:Addr)(m c:Nat)(news:List ζ)(hx:a.eval x=.slice (some ad) m c)(hm:m≠0)(hl:news.length=m*1)(hnews:∀j u,news[j]?=some u→w.cell? (ad.add j)=some u)(h1:∀u∈news,u.oneCell'=true)
 (h63:n+m≤η)(hbytes:(n+m)*1≤140737488355328)(hbase:base≤w.heap.size)
 (h:∀v' w',w'.ownsRow base e 1 v' (n+m) (xs++news)→w.grownBy w' v.ownBlock→(v'.ownBlock=v.ownBlock∨∃k,v'.ownBlock=some k∧w.heap.size≤k)→wpList P ops Q rest (a.put o.dst v') w'):wpList P ops Q (o::rest) a w:=by
 refine wpList_plain hgd λK hK=>?_;obtain⟨v',w',hr,h2,h3,h4⟩:=zP (P:=P) w base t o.type e i z ht hi hz hsize hby hzs v n xs hown ad m c news hm hl hnews h1 h63 hbytes hbase;unfold Oper.wp φ;simp only[ho,resolve,invoke,builtin,zaV,zbb,zaW,zbT,zaD,zbu,hs,hx,hr];exact hK _ _ (h v' w' h2 h3 h4)
end
theorem fu.alloc {w:Λ}{T:ξ}{off B b:Nat}{cs:Array ζ}{v:ζ}{bs:List ζ}(h:fu w T off B b cs v bs)(o:Obj):fu (w.alloc o) T off B b cs v bs:=
 ⟨h.hB,(zaK w o b h.lt).trans h.blk,h.c0,h.c1,h.own.alloc o⟩
theorem iv.aA {w w':Λ}{b:Nat}{v:ζ}(h:ι w.heap.size w w'):iv w w' b v v:=⟨h.os,h.tape,h.output,h.size,λk hk _ _=>h.block k hk,Or.inl rfl⟩
theorem rO {w:Λ}{T:ξ}{off B b:Nat}{cs:Array ζ}{v:ζ}{bs:List ζ}(X:NZ T cs.size off)(hT:T≠5)(h:fu w T off B b cs v bs)(c:Int)(hlen:bs.length+1≤140737488355328)(rz:B≤w.heap.size):Φ prog 191 #[.pointer (some ⟨b,off,none⟩),.int .u8 c] w λe w'=>e=.returned .nilIface∧∃v',fu w' T off B b ((lF off b cs).setIfInBounds (off+1) v') v' (bs++[.int .u8 c])∧iv w w' b v v':=by
 obtain⟨i0,hi,hz0,hz1,hz2⟩:=info_parts infoByte;go_enter func191,ntmps191;go_wp2_with (go_at_call 189;refine(rN X hT h).mono ?_);rintro e w1 ⟨rfl,h1,hc0,oo⟩;have c0:w1.cell? ⟨b,off,none⟩=some (.pointer (some ⟨b,off,none⟩)):=(h1.cell off).trans hc0;have c1:w1.cell? ⟨b,off+1,none⟩=some v:=(h1.cell (off+1)).trans h1.c1;have hs1:=oo.size;go_wp2_with (at_builtin;refine tY rfl _ _ 80 rfl B 5 i0 (.int .u8 0) underlying80 hi hz0 hz1 hz2 rfl _ _ _ rfl (h1.alloc _).own ⟨w1.heap.size,0,none⟩ 1 1 [.int .u8 c] rfl (by decide) rfl ?c1 ?c2 ?c3 ?c4 ?c5 ?_)
 case c1=>
  intro j u hj
  match j,hj with
  |0,hj=>simp at hj;subst hj;simp[Addr.add]
 case c2=>intro u hu;simp at hu;subst hu;rfl
 case c3=>unfold η;omega
 case c4=>omega
 case c5=>simp;omega
 intro v' w2 hown' hgrow nB;have h1a:=h1.alloc (.cells #[.int .u8 c] 5);obtain⟨hA,hTo⟩:=h1a.put hT hgrow (bs':=bs++[.int .u8 c]) (by simpa using hown') (by simpa using nB);have hn:=Lib.ownBlock_ne h1a.own h1a.blk hT;have hb2:w2.heap[b]?=some (.cells (lF off b cs) T (0,0)):=(hgrow.block b h1a.lt (λe=>hn e.symm)).trans h1a.blk;have d0:w2.cell? ⟨b,off,none⟩=some (.pointer (some ⟨b,off,none⟩)):=(zbt hb2 _).trans hc0;have d1:w2.cell? ⟨b,off+1,none⟩=some v:=(zbt hb2 _).trans h1.c1;have f1:w2.frozen? ⟨b,off+1,none⟩=false:=Lib.frozen_of_heap hb2 _;obtain⟨ao,n',cap,rfl⟩:∃ao n' cap,v'=.slice ao n' cap:=by
  rcases hown'.2 with⟨hv,_⟩|⟨g,cap,cur,hv,_⟩
  ·exact⟨_,_,_,hv⟩
  ·exact⟨_,_,_,hv⟩
 go_wp2
 go_ret;exact⟨rfl,_,hA,(oo.trans (iv.aA ((zad _ _).alloc (zab _) _))).trans hTo⟩
theorem mI {w:Λ}{T:ξ}{off B b:Nat}{cs:Array ζ}{v:ζ}{l:List UInt8}(h:fu w T off B b cs v (ϊ l))(h0:l≠[]):Φ prog 63 #[.pointer (some ⟨b,off,none⟩)] w λe w'=>e=.returned (.string ⟨l.toArray⟩)∧iv w w' b v v:=by
 have hl0:l.length≠0:=by simpa using h0
 have hown:=h.own;rw[Lib.byteCells_length]at hown;have hc1:=h.c1;have Jn:=h.blk;clear h;obtain⟨g,cap,cur,rfl,hbg,hg,hnc,hcm,hcs,GQ⟩:∃g cap cur,v=.slice (some ⟨g,0,none⟩) l.length cap∧B≤g∧w.heap[g]?=some (.cells cur 5 (0,0))∧l.length≤cap∧cap≤η∧cur.size=cap*1∧cur.toList.take (l.length*1)=ϊ l:=by
  rcases hown.2 with⟨_,hz⟩|⟨g,cap,cur,hv,r⟩
  ·exact absurd hz hl0
  ·exact⟨g,cap,cur,hv,r⟩
 have c1:w.drew.cell? ⟨b,off+1,none⟩=some (.slice (some ⟨g,0,none⟩) l.length cap):=by
  have:w.drew.heap[b]?=some (.cells cs T (0,0)):=Jn;rw[zbt this];exact hc1
 have hSD:(Builtin.unsafeSliceData_ #[80] 190 #[.slice (some ⟨g,0,none⟩) l.length cap]).run prog w.drew=.ok (.pointer (some ⟨g,0,none⟩)) w.drew:=
  Lib.run_unsafeSliceData_row _ _ _ _ _ _ (by omega)
 have hUS:(Builtin.unsafeString_ #[190,3] 9 #[.pointer (some ⟨g,0,none⟩),Γ Δ l.length]).run prog w.drew=.ok (.string ⟨l.toArray⟩) (w.drew.freeze ⟨g,0,none⟩ l.length):=by
  refine Lib.run_unsafeString_row w.drew 190 3 9 5 underlying190 (by kernel_rfl) g cur.size (by have uZ:w.drew.heap[g]?=some (.cells cur 5 (0,0)):=hg;simp[Λ.shape?,uZ]) l h0 (by omega) (by unfold η at hcm;omega) ?_;intro j x hx;have:=hown.cells (g:=g) rfl j (.int .u8 x.toNat) (by simp[ϊ,hx]);exact this
 have hF:Hid (iv w (w.drew.freeze ⟨g,0,none⟩ l.length) b (.slice (some ⟨g,0,none⟩) l.length cap) (.slice (some ⟨g,0,none⟩) l.length cap)):=by
  unfold Λ.freeze;split
  ·exact⟨rfl,rfl,rfl,zab _,λ_ _ _ _=>rfl,Or.inl rfl⟩
  ·refine⟨rfl,rfl,rfl,by simp,λk hk hkb FK=>?_,Or.inl rfl⟩;simp only[zcp];rw[zaa (λe=>FK (by simp[ζ.ownBlock,←e]))];rfl
 clear hown Jn hc1 hg GQ;go_enter func63,ntmps63
 go_wp2
 go_region;all_goals (go_wp2;go_ret;exact⟨rfl,hF.out⟩)
theorem BM {w:Λ}{b:Nat}(hb:w.heap[b]?=some (.cells #[.pointer none,.slice none 0 0] 116 (0,0))):Φ prog 63 #[.pointer (some ⟨b,0,none⟩)] w λe w'=>e=.returned (.string ⟨#[]⟩)∧w'=w.drew:=by
 have c1:w.drew.cell? ⟨b,1,none⟩=some (.slice none 0 0):=by
  have:w.drew.heap[b]?=some (.cells #[.pointer none,.slice none 0 0] 116 (0,0)):=hb;simp[Λ.cell?,this]
 have hSD:(Builtin.unsafeSliceData_ #[80] 190 #[.slice none 0 0]).run prog w.drew=.ok (.pointer none) w.drew:=Lib.run_unsafeSliceData_nil _ _ _ _ _;have hUS:(Builtin.unsafeString_ #[190,3] 9 #[.pointer none,Γ Δ 0]).run prog w.drew=.ok (.string ⟨#[]⟩) w.drew:=
  Lib.run_unsafeString_none _ _ _ _ _
 clear hb;go_enter func63,ntmps63
 go_wp2
 go_region;all_goals (go_wp2;go_ret;exact⟨rfl,rfl⟩)
def PN (W w:Λ)(N:Nat)(l:List UInt8):Prop:=N=W.heap.size∧∃cs v,cs.size=2∧fu w 116 0 N N cs v (ϊ l)∧ι N W w∧(l=[]→cs=#[.pointer none,.slice none 0 0])
theorem PN.start (W:Λ):PN W (W.alloc (.cells #[.pointer none,.slice none 0 0] 116)) W.heap.size []:=
 ⟨rfl,_,_,rfl,⟨zab _,zas W _,Or.inl rfl,rfl,zbO _ _ _ _⟩,(zad _ _).alloc (zab _) _,λ_=>rfl⟩
theorem PN.fN {W w:Λ}{N:Nat}{l:List UInt8}(h:PN W w N l)(c:UInt8)(hl:l.length≤2000000):Φ prog 191 #[.pointer (some ⟨N,0,none⟩),.int .u8 c.toNat] w λe w'=>e=.returned .nilIface∧PN W w' N (l++[c]):=by
 obtain⟨rfl,cs,v,hs,hb,hw,_⟩:=h;have hsz:=hw.size;refine(rO (hs▸zM) (by decide) hb c.toNat (by rw[Lib.byteCells_length];omega) hsz).mono ?_;rintro e w' ⟨rfl,v',h1,h2⟩;refine⟨rfl,rfl,_,v',?_,by rw[Lib.byteCells_append];exact h1,hw.trans (h2.below hsz (zab _) λk hk=>(hb.own.lt k hk).1),λh=>by simp at h⟩;simp[lF,hs]
theorem PN.string {W w:Λ}{N:Nat}{l:List UInt8}(h:PN W w N l):Φ prog 63 #[.pointer (some ⟨N,0,none⟩)] w λe w'=>e=.returned (.string ⟨⟨l⟩⟩)∧ι W.heap.size W w':=by
 obtain⟨rfl,cs,v,hs,hb,hw,h0⟩:=h;by_cases hl:l=[]
 ·subst hl;have hblk:=hb.blk;rw[h0 rfl]at hblk;refine(BM hblk).mono ?_;rintro e w' ⟨rfl,rfl⟩;exact⟨rfl,hw.drew⟩
 ·refine(mI hb hl).mono ?_;rintro e w' ⟨rfl,h2⟩;exact⟨rfl,hw.trans (h2.below hw.size (zab _) λk hk=>(hb.own.lt k hk).1)⟩
theorem PN.below {W w:Λ}{N:Nat}{l:List UInt8}(h:PN W w N l):ι W.heap.size W w:=by
 obtain⟨rfl,_,_,_,_,hw,_⟩:=h;exact hw
theorem ZX {k:Nat}{o:List UInt8}{c:UInt8}{r:List UInt8}(h:c=34):ft k o (c::r)=.ok (k+1) o:=by
 cases r<;>simp[ft,h]
theorem ZY {k:Nat}{o:List UInt8}:ft k o [92]=.fin:=rfl
theorem ZZ {k:Nat}{o:List UInt8}{x:UInt8}{r:List UInt8}(h:Gn x=none):ft k o (92::x::r)=.bad:=by
 rw[ft,zaa (by decide),zac rfl,h]
theorem Z0 {k:Nat}{o:List UInt8}{x b:UInt8}{r:List UInt8}(h:Gn x=some b):ft k o (92::x::r)=ft (k+2) (o++[b]) r:=by
 rw[ft,zaa (by decide),zac rfl,h]
theorem Wo {k:Nat}{o:List UInt8}{c:UInt8}{r:List UInt8}(h1:¬c=34)(h2:¬c=92):ft k o (c::r)=ft (k+1) (o++[c]) r:=by
 cases r with
 |nil=>simp[ft,h1]
 |cons e r=>rw[ft,zaa h1,zaa h2]
def T0:Obj:= .cells #[Γ Δ 0,Γ Δ 0,Γ Δ 0,.string ⟨#[]⟩,Γ Δ 0,Γ Δ 0,Γ Δ 0] 131
theorem Mo {c:UInt8}{n:Nat}(hn:n<256):(c.toNat:Int)=(n:Int)↔c=n.toUInt8:=by
 rw[←UInt8.toNat_inj];simp[Nat.mod_eq_of_lt hn];omega
theorem En (s:ByteArray)(a:Nat)(w:Λ)(hs:s.size≤1000000)(ha:a<s.size):Φ prog 169 #[.string s,Γ Δ a] w λe w'=>e=.returned (bB (oZ s.data.toList a))∧ι w.heap.size w w':=by
 have hT:Hid (oZ s.data.toList a=match ft (a+1) [] (s.data.toList.drop (a+1))with|.fin=>mE s.data.toList|.bad=>bQ a|.ok e b=>{ ax 8 a e with text:=b }):=rfl;have H0:Hid (PN (w.alloc T0) ((w.alloc T0).alloc (.cells #[.pointer none,.slice none 0 0] 116)) (w.heap.size+1) []):=by
  have:=PN.start (w.alloc T0);rw[show(w.alloc T0).heap.size=w.heap.size+1 by simp]at this;exact this
 have hblk:Hid ((w.alloc T0).heap[w.heap.size]?=some T0):=zas w _;have hw0:Hid (ι w.heap.size w (w.alloc T0)):=(zad _ w).alloc (zab _) _;go_enter func169,ntmps169;go_wp2_with fail;go_loopw [6] (λi wr=>∃(k:Nat) (o:List UInt8),a+1≤k∧k≤s.size∧i=Γ Δ k∧o.length≤k∧Hid (PN (w.alloc T0) wr (w.heap.size+1) o)∧Hid (ft (a+1) [] (s.data.toList.drop (a+1))=ft k o (s.data.toList.drop k))) (λi _=>s.size-(υ i).toNat)
 case atStart=>exact⟨a+1,[],zab _,by omega,by go_num,by simp,H0.out,rfl⟩
 case round=>
  obtain⟨k,o,NR,hk,rfl,Mk,H2,hr⟩:=hrel;by_cases hlt:k<s.size
  ·have hd:Hid _:=drop_cons s k hlt;by_cases h34:(s[k].toNat :Int)=34
   ·have he:Hid (oZ s.data.toList a={ ax 8 a (k+1)with text:=o }):=by
     show _=_;rw[hT.out,hr.out,hd.out,ZX ((Mo (by decide:34<256)).1 h34)]
    go_wp2_with fail;refine(H2.out.string).mono ?_;rintro e w1 ⟨rfl,hb⟩;obtain⟨⟨x0,x1,x2,x3,x4,x5,x6⟩,f0,f1,f2,f3,f4,f5,f6⟩:=dn (b:=w.heap.size) hb hblk.out;have HB:Hid (ι w.heap.size w w1):=hw0.out.trans (hb.mono (by simp));clear hb;go_wp2_with fail;exact zak (v:=bB { ax 8 a (k+1)with text:=o }) (by simp[results,results169,bB,ax,go_sem, *]) rfl ⟨by rw[he.out],gh HB.out _ _ _ _ _ _ _⟩
   by_cases h92:(s[k].toNat :Int)=92
   ·have Z1:Hid (s[k]=92):=(Mo (by decide:92<256)).1 h92;by_cases abZ:k+1<s.size
    ·have hd2:Hid _:=drop_cons s (k+1) abZ;cases hes:Gn s[k+1]with
     |none=>
      have he:Hid (oZ s.data.toList a=bQ a):=by
       show _=_;rw[hT.out,hr.out,hd.out,Z1.out,hd2.out,ZZ hes]
      have Z2:Hid _:=hes;go_wp2_with fail;refine(wY _ _).mono ?_;rw[Z2.out];rintro e w' ⟨rfl,rfl⟩;go_wp2_with fail;refine(jD _ _).mono ?_;rintro e w1 ⟨rfl,hb1⟩;have hb:=H2.out.below.trans (hb1.mono H2.out.below.size);obtain⟨⟨x0,x1,x2,x3,x4,x5,x6⟩,f0,f1,f2,f3,f4,f5,f6⟩:=dn (b:=w.heap.size) hb hblk.out;have HB:Hid (ι w.heap.size w w1):=hw0.out.trans (hb.mono (by simp));clear hb hb1;unfold bB;go_wp2_with fail;exact zak (v:=bB (bQ a)) (by simp[results,results169,bB,ax,bQ,go_sem, *]) rfl ⟨by rw[he.out],gh HB.out _ _ _ _ _ _ _⟩
     |some b=>
      have BB:Hid (ft (a+1) [] (s.data.toList.drop (a+1))=ft (k+2) (o++[b]) (s.data.toList.drop (k+2))):=by
       show _=_;rw[hr.out,hd.out,Z1.out,hd2.out,Z0 hes]
      have Z2:Hid _:=hes;go_wp2_with fail;refine(wY _ _).mono ?_;rw[Z2.out];rintro e w' ⟨rfl,rfl⟩;go_wp2_with fail;refine(H2.out.fN b (by omega)).mono ?_;rintro e w2 ⟨rfl,h2⟩;have H3:Hid _:=h2;clear h2 H2;go_wp2_with fail;go_roundw
      case rel=>exact⟨k+2,o++[b],by omega,by omega,by go_num,by simp;omega,H3.out,BB.out⟩
      case measure=>simp[υ];omega
    ·have wR:k+1=s.size:=by omega
     have he:Hid (oZ s.data.toList a=mE s.data.toList):=by
      show _=_;rw[hT.out,hr.out,hd.out,Z1.out,show s.data.toList.drop (k+1)=[] from zbE (by rw[bG];omega),ZY]
     have q:(((k:Int)+1)==(s.size:Int))=true:=by rw[zaJ];omega
     go_wp2_with fail;refine(vM _ _).mono ?_;rintro e w1 ⟨rfl,hb1⟩;have hb:=H2.out.below.trans (hb1.mono H2.out.below.size);obtain⟨⟨x0,x1,x2,x3,x4,x5,x6⟩,f0,f1,f2,f3,f4,f5,f6⟩:=dn (b:=w.heap.size) hb hblk.out;have HB:Hid (ι w.heap.size w w1):=hw0.out.trans (hb.mono (by simp));clear hb hb1;unfold bB;go_wp2_with fail;exact zak (v:=bB (mE s.data.toList)) (by simp[results,results169,bB,ax,mE,go_sem, *]) rfl ⟨by rw[he.out],gh HB.out _ _ _ _ _ _ _⟩
   ·have BB:Hid (ft (a+1) [] (s.data.toList.drop (a+1))=ft (k+1) (o++[s[k]]) (s.data.toList.drop (k+1))):=by
     show _=_;rw[hr.out,hd.out,Wo (λe=>h34 ((Mo (by decide:34<256)).2 e)) (λe=>h92 ((Mo (by decide:92<256)).2 e))]
    have q1:((s[k].toNat :Int)==34)=false:=by rw[zai];exact h34
    have q2:((s[k].toNat :Int)==92)=false:=by rw[zai];exact h92
    go_wp2_with fail;refine(H2.out.fN s[k] (by omega)).mono ?_;rintro e w2 ⟨rfl,h2⟩;have H3:Hid _:=h2;clear h2 H2;go_wp2_with fail;go_roundw
    case rel=>exact⟨k+1,o++[s[k]],by omega,by omega,by go_num,by simp;omega,H3.out,BB.out⟩
    case measure=>simp[υ];omega
  ·have he:Hid (oZ s.data.toList a=mE s.data.toList):=by
    show _=_;rw[hT.out,hr.out,show s.data.toList.drop k=[] from zbE (by rw[bG];omega)];rfl
   go_wp2_with fail;refine(vM _ _).mono ?_;rintro e w1 ⟨rfl,hb1⟩;have hb:=H2.out.below.trans (hb1.mono H2.out.below.size);obtain⟨⟨x0,x1,x2,x3,x4,x5,x6⟩,f0,f1,f2,f3,f4,f5,f6⟩:=dn (b:=w.heap.size) hb hblk.out;have HB:Hid (ι w.heap.size w w1):=hw0.out.trans (hb.mono (by simp));clear hb hb1;unfold bB;go_wp2_with fail;exact zak (v:=bB (mE s.data.toList)) (by simp[results,results169,bB,ax,mE,go_sem, *]) rfl ⟨by rw[he.out],gh HB.out _ _ _ _ _ _ _⟩
theorem Eo (s:ByteArray)(a:Nat)(w:Λ)(hs:s.size≤1000000)(ha:a+2≤s.size):Φ prog 198 #[.string s,Γ Δ a] w λe w'=>e=.returned (bB (ny s.data.toList a))∧ι w.heap.size w w':=by
 have hle:=jP mD (s.data.toList.drop (a+2));rw[zax,bG]at hle;have hT:Hid (ny s.data.toList a=if 1<br mD (s.data.toList.drop (a+2))then(match tM (fX s.data.toList (a+2) (a+2+br mD (s.data.toList.drop (a+2))))with|none=>bQ a|some k=>{ ax 9 a (a+2+br mD (s.data.toList.drop (a+2)))with n:=k })else match s.data.toList.drop (a+2)with|[]=>bQ a|c::_=>if 33≤c.toNat∧c.toNat≤126 then { ax 9 a (a+3)with n:=(c.toNat:Int) } else bQ a):=rfl;generalize hk:br mD (s.data.toList.drop (a+2))=k at *;have HK:Hid _:=hk;clear hk;by_cases h1:1<k
 ·have Rf:Hid ((s.extract (a+2) (a+2+k)).data.toList=fX s.data.toList (a+2) (a+2+k)):=p9 _ _ _;cases hc:tM (fX s.data.toList (a+2) (a+2+k))with
  |none=>
   have e:Hid (ny s.data.toList a=bQ a):=by show _=_;rw[hT.out,zac h1,hc]
   clear hT;go_enter func198,ntmps198;go_wp2_with (go_at_call 148;refine(gP _ _ _ (by unfold η;omega) (by omega) (by omega)).mono ?_;rintro e w' ⟨rfl,rfl⟩;rw[show((a:Int)+2).toNat=a+2 by omega,HK.out]);refine(zI _ _).mono ?_;rw[Rf.out,hc];rintro e w' ⟨rfl,rfl⟩;go_wp2_with fail;refine(jD _ _).mono ?_;rintro e w1 ⟨rfl,hb⟩;obtain⟨⟨x0,x1,x2,x3,x4,x5,x6⟩,f0,f1,f2,f3,f4,f5,f6⟩:=dn (b:=w.heap.size) hb (zas w _);have HB:Hid (ι w.heap.size w w1):=((zad _ w).alloc (zab _) _).trans (hb.mono (by simp));clear hb;unfold bB;go_wp2_with fail;exact zak (v:=bB (bQ a)) (by simp[results,results198,bB,ax,bQ,go_sem, *]) rfl ⟨by rw[e.out],gh HB.out _ _ _ _ _ _ _⟩
  |some n=>
   have e:Hid (ny s.data.toList a={ ax 9 a (a+2+k)with n:=n }):=by show _=_;rw[hT.out,zac h1,hc]
   clear hT;go_enter func198,ntmps198;go_wp2_with (go_at_call 148;refine(gP _ _ _ (by unfold η;omega) (by omega) (by omega)).mono ?_;rintro e w' ⟨rfl,rfl⟩;rw[show((a:Int)+2).toNat=a+2 by omega,HK.out]);refine(zI _ _).mono ?_;rw[Rf.out,hc];rintro e w' ⟨rfl,rfl⟩;go_wp2_with fail;refine zak (v:=bB { ax 9 a (a+2+k)with n:=n }) (by simp[results,results198,bB,ax,go_sem]) rfl ⟨by rw[e.out],?_⟩
   (repeat (first|with_reducible refine zan ?_ (by simp) _|with_reducible refine zaC ?_ (by simp) _));with_reducible exact zad _ _
 by_cases hlt:a+2<s.size
 ·have hd:=drop_cons s (a+2) hlt;have hwr:wrap64 (s[a+2].toNat :Int)=(s[a+2].toNat :Int):=by have:=s[a+2].toNat_lt;unfold wrap64;omega
  by_cases hp:33≤(s[a+2].toNat :Int)∧(s[a+2].toNat :Int)≤126
  ·have e:Hid (ny s.data.toList a={ ax 9 a (a+3)with n:=(s[a+2].toNat :Int) }):=by show _=_;rw[hT.out,zaa h1,hd];exact zac ⟨by omega,by omega⟩
   have Bt:Hid (decide (33≤(s[a+2].toNat :Int)∧(s[a+2].toNat :Int)≤126)=true):=zbi hp;clear hT hd hp;go_enter func198,ntmps198;go_wp2_with (go_at_call 148;refine(gP _ _ _ (by unfold η;omega) (by omega) (by omega)).mono ?_;rintro e w' ⟨rfl,rfl⟩;rw[show((a:Int)+2).toNat=a+2 by omega,HK.out]);refine(mG _ _).mono ?_;rw[Bt.out];rintro e w' ⟨rfl,rfl⟩;go_wp2_with fail;refine zak (v:=bB { ax 9 a (a+3)with n:=(s[a+2].toNat :Int) }) (by simp[results,results198,bB,ax,go_sem];try omega) rfl ⟨by rw[e.out],?_⟩
   (repeat (first|with_reducible refine zan ?_ (by simp) _|with_reducible refine zaC ?_ (by simp) _));with_reducible exact zad _ _
  ·have e:Hid (ny s.data.toList a=bQ a):=by show _=_;rw[hT.out,zaa h1,hd];exact zaa (by omega)
   have Bt:Hid (decide (33≤(s[a+2].toNat :Int)∧(s[a+2].toNat :Int)≤126)=false):=zaY hp;clear hT hd hp;go_enter func198,ntmps198;go_wp2_with (go_at_call 148;refine(gP _ _ _ (by unfold η;omega) (by omega) (by omega)).mono ?_;rintro e w' ⟨rfl,rfl⟩;rw[show((a:Int)+2).toNat=a+2 by omega,HK.out]);refine(mG _ _).mono ?_;rw[Bt.out];rintro e w' ⟨rfl,rfl⟩;go_wp2_with fail;refine(jD _ _).mono ?_;rintro e w1 ⟨rfl,hb⟩;obtain⟨⟨x0,x1,x2,x3,x4,x5,x6⟩,f0,f1,f2,f3,f4,f5,f6⟩:=dn (b:=w.heap.size) hb (zas w _);have HB:Hid (ι w.heap.size w w1):=((zad _ w).alloc (zab _) _).trans (hb.mono (by simp));clear hb;unfold bB;go_wp2_with fail;exact zak (v:=bB (bQ a)) (by simp[results,results198,bB,ax,bQ,go_sem, *]) rfl ⟨by rw[e.out],gh HB.out _ _ _ _ _ _ _⟩
 ·have hd:s.data.toList.drop (a+2)=[]:=zbE (by rw[bG];omega);have e:Hid (ny s.data.toList a=bQ a):=by show _=_;rw[hT.out,zaa h1,hd]
  clear hT hd;go_enter func198,ntmps198;go_wp2_with (go_at_call 148;refine(gP _ _ _ (by unfold η;omega) (by omega) (by omega)).mono ?_;rintro e w' ⟨rfl,rfl⟩;rw[show((a:Int)+2).toNat=a+2 by omega,HK.out]);refine(jD _ _).mono ?_;rintro e w1 ⟨rfl,hb⟩;obtain⟨⟨x0,x1,x2,x3,x4,x5,x6⟩,f0,f1,f2,f3,f4,f5,f6⟩:=dn (b:=w.heap.size) hb (zas w _);have HB:Hid (ι w.heap.size w w1):=((zad _ w).alloc (zab _) _).trans (hb.mono (by simp));clear hb;unfold bB;go_wp2_with fail;exact zak (v:=bB (bQ a)) (by simp[results,results198,bB,ax,bQ,go_sem, *]) rfl ⟨by rw[e.out],gh HB.out _ _ _ _ _ _ _⟩
theorem Kl {s:ByteArray}{a:Nat}(h:∀c r,s.data.toList.drop (a+1)=c::r→¬c.toNat=40∧¬c.toNat=59∧¬c.toNat=92):iM s.data.toList a=(eQ s.data.toList a).getD (eR s.data.toList a):=by
 unfold iM;split
 ·rfl
 ·rename_i c r hd;obtain⟨h1,h2,h3⟩:=h c r hd;rw[zaa h1,zaa h2,zaa h3]
theorem Ep (s:ByteArray)(a:Nat)(w:Λ)(hs:s.size≤1000000)(ha:a<s.size):Φ prog 170 #[.string s,Γ Δ a] w λe w'=>e=.returned (bB (iM s.data.toList a))∧ι w.heap.size w w':=by
 by_cases hlt:a+1<s.size
 ·have hd:=drop_cons s (a+1) hlt;have hT:Hid (iM s.data.toList a=if s[a+1].toNat=40 then ax 5 a (a+2)else if s[a+1].toNat=59 then ax 6 a (a+2)else if s[a+1].toNat=92 then ny s.data.toList a else(eQ s.data.toList a).getD (eR s.data.toList a)):=by
   show _=_;unfold iM;rw[hd]
  clear hd;by_cases h40:(s[a+1].toNat :Int)=40
  ·have e:Hid (iM s.data.toList a=ax 5 a (a+2)):=by show _=_;rw[hT.out,zac (by omega)]
   go_enter func170,ntmps170;go_wp2_with fail;refine zak (v:=bB (ax 5 a (a+2))) (by simp[results,results170,bB,ax,go_sem]) rfl ⟨by rw[e.out],?_⟩
   (repeat (first|with_reducible refine zan ?_ (by simp) _|with_reducible refine zaC ?_ (by simp) _));with_reducible exact zad _ _
  have q1:((s[a+1].toNat :Int)==40)=false:=by rw[zai];exact h40
  by_cases h59:(s[a+1].toNat :Int)=59
  ·have e:Hid (iM s.data.toList a=ax 6 a (a+2)):=by show _=_;rw[hT.out,zaa (by omega),zac (by omega)]
   clear q1;go_enter func170,ntmps170;go_wp2_with fail;refine zak (v:=bB (ax 6 a (a+2))) (by simp[results,results170,bB,ax,go_sem]) rfl ⟨by rw[e.out],?_⟩
   (repeat (first|with_reducible refine zan ?_ (by simp) _|with_reducible refine zaC ?_ (by simp) _));with_reducible exact zad _ _
  have q2:((s[a+1].toNat :Int)==59)=false:=by rw[zai];exact h59
  by_cases h92:(s[a+1].toNat :Int)=92
  ·have e:Hid (iM s.data.toList a=ny s.data.toList a):=by show _=_;rw[hT.out,zaa (by omega),zaa (by omega),zac (by omega)]
   clear q1 q2;go_enter func170,ntmps170;go_wp2_with fail;refine(Eo _ _ _ hs (by omega)).mono ?_;rintro e w1 ⟨rfl,hb⟩;obtain⟨⟨x0,x1,x2,x3,x4,x5,x6⟩,f0,f1,f2,f3,f4,f5,f6⟩:=dn (b:=w.heap.size) hb (zas w _);have HB:Hid (ι w.heap.size w w1):=((zad _ w).alloc (zab _) _).trans (hb.mono (by simp));clear hb;unfold bB;go_wp2_with fail;exact zak (v:=bB (ny s.data.toList a)) (by simp[results,results170,bB,go_sem, *]) rfl ⟨by rw[e.out],gh HB.out _ _ _ _ _ _ _⟩
  have q3:((s[a+1].toNat :Int)==92)=false:=by rw[zai];exact h92
  have e0:Hid (iM s.data.toList a=(eQ s.data.toList a).getD (eR s.data.toList a)):=by show _=_;rw[hT.out,zaa (by omega),zaa (by omega),zaa (by omega)]
  clear hT h40 h59 h92;cases hl:eQ s.data.toList a with
  |some t=>
   have e:Hid (iM s.data.toList a=t):=by show _=_;rw[e0.out,hl];rfl
   have hl':Hid _:=hl;clear hl e0;go_enter func170,ntmps170;go_wp2_with fail;refine(mH _ _ _ hs (by omega)).mono ?_;rw[hl'.out];rintro e w1 ⟨rfl,hb⟩;obtain⟨⟨x0,x1,x2,x3,x4,x5,x6⟩,f0,f1,f2,f3,f4,f5,f6⟩:=dn (b:=w.heap.size) hb (zas w _);have HB:Hid (ι w.heap.size w w1):=((zad _ w).alloc (zab _) _).trans (hb.mono (by simp));have hs1:w.heap.size<w1.heap.size:=by have:=hb.size;simp at this;omega
   have ZP:¬w.heap.size=w1.heap.size:=by omega
   have PK:¬w1.heap.size=w.heap.size:=by omega
   clear hb;simp only[zbl,Option.isSome_some];unfold bB;go_wp2_with fail;refine zak (v:=bB t) (by simp[results,results170,bB,go_sem, *]) rfl ⟨by rw[e.out],?_⟩
   (repeat (first|with_reducible refine zan ?_ (by first|(simp;done)|(simp;omega)) _|with_reducible refine zaC ?_ (by first|omega|(simp;done)|(simp;omega)) _));with_reducible exact HB.out
  |none=>
   have e:Hid (iM s.data.toList a=eR s.data.toList a):=by show _=_;rw[e0.out,hl];rfl
   have hl':Hid _:=hl;clear hl e0;go_enter func170,ntmps170;go_wp2_with fail;refine(mH _ _ _ hs (by omega)).mono ?_;rw[hl'.out];rintro e w1 ⟨rfl,hb⟩;have rM:Hid _:=(hb.block w.heap.size (by simp)).trans (zas w _);have HB:Hid (ι w.heap.size w w1):=((zad _ w).alloc (zab _) _).trans (hb.mono (by simp));have hs1:w.heap.size<w1.heap.size:=by have:=hb.size;simp at this;omega
   clear hb;simp only[zbB,zcB];unfold bB zL;go_wp2_with fail;refine(rL _ _ _ hs (by omega)).mono ?_;rintro e w2 ⟨rfl,hb2⟩;obtain⟨⟨x0,x1,x2,x3,x4,x5,x6⟩,f0,f1,f2,f3,f4,f5,f6⟩:=dn (b:=w.heap.size) hb2 ((zaK _ _ _ hs1).trans rM.out);have iu:Hid (ι w.heap.size w w2):=(HB.out.alloc (by omega) _).trans (hb2.mono (by simp;omega));clear hb2;unfold bB;go_wp2_with fail;exact zak (v:=bB (eR s.data.toList a)) (by simp[results,results170,bB,go_sem, *]) rfl ⟨by rw[e.out],gh iu.out _ _ _ _ _ _ _⟩
 ·have e0:Hid (iM s.data.toList a=(eQ s.data.toList a).getD (eR s.data.toList a)):=Kl λc r h=>by
   have:=zal List.length h;rw[zax,bG]at this;simp at this;omega
  cases hl:eQ s.data.toList a with
  |some t=>
   exfalso;unfold eQ at hl;simp only[show s.data.toList.drop (a+1)=[] from zbE (by rw[bG];omega),br]at hl;simp at hl
  |none=>
   have e:Hid (iM s.data.toList a=eR s.data.toList a):=by show _=_;rw[e0.out,hl];rfl
   have hl':Hid _:=hl;clear hl e0;go_enter func170,ntmps170;go_wp2_with fail;refine(mH _ _ _ hs (by omega)).mono ?_;rw[hl'.out];rintro e w1 ⟨rfl,hb⟩;have rM:Hid _:=(hb.block w.heap.size (by simp)).trans (zas w _);have HB:Hid (ι w.heap.size w w1):=((zad _ w).alloc (zab _) _).trans (hb.mono (by simp));have hs1:w.heap.size<w1.heap.size:=by have:=hb.size;simp at this;omega
   clear hb;simp only[zbB,zcB];unfold bB zL;go_wp2_with fail;refine(rL _ _ _ hs (by omega)).mono ?_;rintro e w2 ⟨rfl,hb2⟩;obtain⟨⟨x0,x1,x2,x3,x4,x5,x6⟩,f0,f1,f2,f3,f4,f5,f6⟩:=dn (b:=w.heap.size) hb2 ((zaK _ _ _ hs1).trans rM.out);have iu:Hid (ι w.heap.size w w2):=(HB.out.alloc (by omega) _).trans (hb2.mono (by simp;omega));clear hb2;unfold bB;go_wp2_with fail;exact zak (v:=bB (eR s.data.toList a)) (by simp[results,results170,bB,go_sem, *]) rfl ⟨by rw[e.out],gh iu.out _ _ _ _ _ _ _⟩
theorem RF (s:ByteArray)(a:Nat)(w:Λ)(hs:s.size≤1000000)(ha:a≤s.size):Φ prog 120 #[.string s,Γ Δ a] w λe w'=>e=.returned (bB (aL s.data.toList a))∧ι w.heap.size w w':=by
 have hsk:=Gq (s:=s.data.toList) (a:=a) (by rw[bG];exact ha);rw[bG]at hsk;have hT:Hid (aL s.data.toList a=jX s.data.toList (pZ s.data.toList a)):=rfl;have NR:Hid ((a:Int)+(tV true (s.data.toList.drop a)).1=(pZ s.data.toList a:Nat)):=by
  show _=_;unfold pZ tV;omega
 obtain⟨b,hk⟩:∃b,Hid (tV true (s.data.toList.drop a)=(pZ s.data.toList a-a,b)):=⟨(tV true (s.data.toList.drop a)).2,by
  show _=_;have:=NR.out;apply Prod.ext
  ·show(tV true (s.data.toList.drop a)).1=_;omega
  ·rfl⟩
 generalize pZ s.data.toList a=k at *;clear NR;have hka:((a:Int)+((k-a:Nat):Int))=k:=by omega
 by_cases hlt:k<s.size
 ·have hd:=drop_cons s k hlt;have Br:Hid (aL s.data.toList a=if s[k].toNat=40 then ax 2 k (k+1)else if s[k].toNat=41 then ax 3 k (k+1)else if s[k].toNat=39 then ax 4 k (k+1)else if s[k].toNat=34 then oZ s.data.toList k else if s[k].toNat=35 then iM s.data.toList k else if bz (s[k].toNat :Int)then l7 s.data.toList k else bQ k):=by
   show _=_;rw[hT.out];unfold jX;rw[hd]
  clear hT hd;have qe:((k:Int)==(s.size:Int))=false:=by rw[zai];omega
  by_cases h40:(s[k].toNat :Int)=40
  ·have e:Hid (aL s.data.toList a=ax 2 k (k+1)):=by show _=_;rw[Br.out,zac (by omega)]
   clear Br;go_enter func120,ntmps120;go_wp2_with fail;refine(iP _ _ _ hs ha).mono ?_;rw[hk.out];rintro e w' ⟨rfl,rfl⟩;go_wp2_with fail;refine zak (v:=bB (ax 2 k (k+1))) (by simp[results,results120,bB,ax,go_sem]) rfl ⟨by rw[e.out],?_⟩
   (repeat (first|with_reducible refine zan ?_ (by simp) _|with_reducible refine zaC ?_ (by simp) _));with_reducible exact zad _ _
  have q40:((s[k].toNat :Int)==40)=false:=by rw[zai];exact h40
  by_cases h41:(s[k].toNat :Int)=41
  ·have e:Hid (aL s.data.toList a=ax 3 k (k+1)):=by show _=_;rw[Br.out,zaa (by omega),zac (by omega)]
   clear Br;clear q40;go_enter func120,ntmps120;go_wp2_with fail;refine(iP _ _ _ hs ha).mono ?_;rw[hk.out];rintro e w' ⟨rfl,rfl⟩;go_wp2_with fail;refine zak (v:=bB (ax 3 k (k+1))) (by simp[results,results120,bB,ax,go_sem]) rfl ⟨by rw[e.out],?_⟩
   (repeat (first|with_reducible refine zan ?_ (by simp) _|with_reducible refine zaC ?_ (by simp) _));with_reducible exact zad _ _
  have q41:((s[k].toNat :Int)==41)=false:=by rw[zai];exact h41
  by_cases h39:(s[k].toNat :Int)=39
  ·have e:Hid (aL s.data.toList a=ax 4 k (k+1)):=by show _=_;rw[Br.out,zaa (by omega),zaa (by omega),zac (by omega)]
   clear Br;clear q40 q41;go_enter func120,ntmps120;go_wp2_with fail;refine(iP _ _ _ hs ha).mono ?_;rw[hk.out];rintro e w' ⟨rfl,rfl⟩;go_wp2_with fail;refine zak (v:=bB (ax 4 k (k+1))) (by simp[results,results120,bB,ax,go_sem]) rfl ⟨by rw[e.out],?_⟩
   (repeat (first|with_reducible refine zan ?_ (by simp) _|with_reducible refine zaC ?_ (by simp) _));with_reducible exact zad _ _
  have q39:((s[k].toNat :Int)==39)=false:=by rw[zai];exact h39
  by_cases h34:(s[k].toNat :Int)=34
  ·have e:Hid (aL s.data.toList a=oZ s.data.toList k):=by show _=_;rw[Br.out,zaa (by omega),zaa (by omega),zaa (by omega),zac (by omega)]
   clear Br q40 q41 q39;go_enter func120,ntmps120;go_wp2_with fail;refine(iP _ _ _ hs ha).mono ?_;rw[hk.out];rintro e w' ⟨rfl,rfl⟩;go_wp2_with fail;refine(En _ _ _ hs hlt).mono ?_;rintro e w1 ⟨rfl,hb⟩;obtain⟨⟨x0,x1,x2,x3,x4,x5,x6⟩,f0,f1,f2,f3,f4,f5,f6⟩:=dn (b:=w.heap.size) hb (zas w _);have HB:Hid (ι w.heap.size w w1):=((zad _ w).alloc (zab _) _).trans (hb.mono (by simp));clear hb;unfold bB;go_wp2_with fail;exact zak (v:=bB (oZ s.data.toList k)) (by simp[results,results120,bB,go_sem, *]) rfl ⟨by rw[e.out],gh HB.out _ _ _ _ _ _ _⟩
  have q34:((s[k].toNat :Int)==34)=false:=by rw[zai];exact h34
  by_cases h35:(s[k].toNat :Int)=35
  ·have e:Hid (aL s.data.toList a=iM s.data.toList k):=by show _=_;rw[Br.out,zaa (by omega),zaa (by omega),zaa (by omega),zaa (by omega),zac (by omega)]
   clear Br q40 q41 q39 q34;go_enter func120,ntmps120;go_wp2_with fail;refine(iP _ _ _ hs ha).mono ?_;rw[hk.out];rintro e w' ⟨rfl,rfl⟩;go_wp2_with fail;refine(Ep _ _ _ hs hlt).mono ?_;rintro e w1 ⟨rfl,hb⟩;obtain⟨⟨x0,x1,x2,x3,x4,x5,x6⟩,f0,f1,f2,f3,f4,f5,f6⟩:=dn (b:=w.heap.size) hb (zas w _);have HB:Hid (ι w.heap.size w w1):=((zad _ w).alloc (zab _) _).trans (hb.mono (by simp));clear hb;unfold bB;go_wp2_with fail;exact zak (v:=bB (iM s.data.toList k)) (by simp[results,results120,bB,go_sem, *]) rfl ⟨by rw[e.out],gh HB.out _ _ _ _ _ _ _⟩
  have q35:((s[k].toNat :Int)==35)=false:=by rw[zai];exact h35
  cases hw:bz (s[k].toNat :Int)
  ·have e:Hid (aL s.data.toList a=bQ k):=by show _=_;rw[Br.out,zaa (by omega),zaa (by omega),zaa (by omega),zaa (by omega),zaa (by omega),hw];rfl
   have hw':Hid _:=hw;clear Br hw;go_enter func120,ntmps120;go_wp2_with fail;refine(iP _ _ _ hs ha).mono ?_;rw[hk.out];rintro e w' ⟨rfl,rfl⟩;go_wp2_with fail;refine(iO _ _ (by omega) (by have:=s[k].toNat_lt;omega)).mono ?_;rw[hw'.out];rintro e w' ⟨rfl,rfl⟩;go_wp2_with fail;refine(jD _ _).mono ?_;rintro e w1 ⟨rfl,hb⟩;obtain⟨⟨x0,x1,x2,x3,x4,x5,x6⟩,f0,f1,f2,f3,f4,f5,f6⟩:=dn (b:=w.heap.size) hb (zas w _);have HB:Hid (ι w.heap.size w w1):=((zad _ w).alloc (zab _) _).trans (hb.mono (by simp));clear hb;unfold bB;go_wp2_with fail;exact zak (v:=bB (bQ k)) (by simp[results,results120,bB,go_sem, *]) rfl ⟨by rw[e.out],gh HB.out _ _ _ _ _ _ _⟩
  ·have e:Hid (aL s.data.toList a=l7 s.data.toList k):=by show _=_;rw[Br.out,zaa (by omega),zaa (by omega),zaa (by omega),zaa (by omega),zaa (by omega),hw];rfl
   have hw':Hid _:=hw;clear Br hw;go_enter func120,ntmps120;go_wp2_with fail;refine(iP _ _ _ hs ha).mono ?_;rw[hk.out];rintro e w' ⟨rfl,rfl⟩;go_wp2_with fail;refine(iO _ _ (by omega) (by have:=s[k].toNat_lt;omega)).mono ?_;rw[hw'.out];rintro e w' ⟨rfl,rfl⟩;go_wp2_with fail;refine(Em _ _ _ hs hlt hw'.out).mono ?_;rintro e w1 ⟨rfl,hb⟩;obtain⟨⟨x0,x1,x2,x3,x4,x5,x6⟩,f0,f1,f2,f3,f4,f5,f6⟩:=dn (b:=w.heap.size) hb (zas w _);have HB:Hid (ι w.heap.size w w1):=((zad _ w).alloc (zab _) _).trans (hb.mono (by simp));clear hb;unfold bB;go_wp2_with fail;exact zak (v:=bB (l7 s.data.toList k)) (by simp[results,results120,bB,go_sem, *]) rfl ⟨by rw[e.out],gh HB.out _ _ _ _ _ _ _⟩
 ·have en:k=s.size:=by omega
  have e:Hid (aL s.data.toList a=mE s.data.toList):=by
   show _=_;rw[hT.out];unfold jX;rw[show s.data.toList.drop k=[] from zbE (by rw[bG];omega)]
  have qe:((k:Int)==(s.size:Int))=true:=by rw[zaJ];omega
  clear hT;go_enter func120,ntmps120;go_wp2_with fail;refine(iP _ _ _ hs ha).mono ?_;rw[hk.out];rintro e w' ⟨rfl,rfl⟩;go_wp2_with fail;refine(vM _ _).mono ?_;rintro e w1 ⟨rfl,hb⟩;obtain⟨⟨x0,x1,x2,x3,x4,x5,x6⟩,f0,f1,f2,f3,f4,f5,f6⟩:=dn (b:=w.heap.size) hb (zas w _);have HB:Hid (ι w.heap.size w w1):=((zad _ w).alloc (zab _) _).trans (hb.mono (by simp));clear hb;unfold bB;go_wp2_with fail;exact zak (v:=bB (mE s.data.toList)) (by simp[results,results120,bB,go_sem, *]) rfl ⟨by rw[e.out],gh HB.out _ _ _ _ _ _ _⟩
end Go.Proofs.YtlhimdjkkiflhaaGreatDoor
namespace Go.Ren
open Go.Proofs.Tryz
open Go Go.Conc Go.ConcX Go.RowKit Go.Proofs Go.Loop
theorem N4 (s:List UInt8)(hs:s.length≤1000)(n:Nat)(w:Λ)(hn:n≤s.length):Φ prog 120 #[.string ⟨⟨s⟩⟩,Γ Δ n] w λe _=>∃v,e=.returned v∧v=bR (aL s n):=
 (Go.Proofs.YtlhimdjkkiflhaaGreatDoor.RF ⟨⟨s⟩⟩ n w (by show s.length≤_;omega) hn).mono λe w' h=>⟨_,h.1,rfl⟩
theorem N5 (t:Tok)(w:Λ):Φ prog 121 #[bR t] w λe _=>∃v,e=.returned v∧v=.bool t.lastB:=
 (Go.Proofs.YtlhimdjkkiflhaaGreatDoor.Rw t w).mono λ_e _w' h=>⟨_,h,rfl⟩
theorem Km {s:List UInt8}{c:χ}{cs:List χ}{Shun:Loc→Prop}{gs:Array ψ}{w0:Λ}{sl:Option (Nat×Nat)}{t:ϋ}{q:Nat→Nat}(hlen:s.length≤1000)(hb:prog.globals.size≤w0.heap.size)(h0:gs[0]?=some (G (χ.enter prog 43 #[.string ⟨⟨s⟩⟩] .normal) (c::cs)))(hLv:Leavers prog t gs q)(hP:Past Shun w0.heap.size t)(hS:∀l,Shun l→l.low w0.heap.size):Reach prog (crowd gs w0 sl) t (Gw Shun (aG (s.length+1) s 0) c cs gs.size w0):=
 Ef (λn w hn=>N4 s hlen n w hn) N5 hlen hb h0 hLv hP hS
end Go.Ren
