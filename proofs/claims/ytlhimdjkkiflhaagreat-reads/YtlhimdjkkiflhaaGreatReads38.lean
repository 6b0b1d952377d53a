import Derived.Laws.ResultCell
import Derived.Test.YtlhimdjkkiflhaaGreatReads12
import Derived.Test.YtlhimdjkkiflhaaGreatReads21
import Derived.Test.YtlhimdjkkiflhaaGreatReads23
import Derived.Test.YtlhimdjkkiflhaaGreatReads37
set_option maxHeartbeats 8000000
set_option maxRecDepth 100000
set_option linter.unusedSectionVars false
open Go renaming undef→Γ,World→Δ,Frame→Θ,Value→Λ,execOp→Ξ,Goroutine→Φ,Trace→Ω,Calls→ζ
namespace Go.Ren
open Go.Proofs.Tryz
open Go Go.Conc Go.ConcX Go.RowKit Go.Conc.Lib Go.ConcX.Gen Go.Proofs Go.Loop
theorem Jp (Wg:Nat):Θ.enter prog 23 #[.pointer (some ⟨Wg,0,none⟩),.int .i64 1] .normal=(base cv.add).at ⟨#[.pointer (some ⟨Wg,0,none⟩),.int .i64 1,Γ,Γ,Γ,Γ,Γ,Γ,Γ,Γ,Γ,Γ,Γ,Γ,Γ,Γ,Γ,Γ,Γ,Γ,Γ,Γ,Γ,Γ,Γ,Γ,Γ,Γ,Γ,Γ,Γ,Γ,Γ,Γ,Γ,Γ,Γ,Γ,Γ,Γ,Γ,Γ,Γ,Γ,Γ,Γ,Γ,Γ,Γ,Γ,Γ,Γ,Γ,Γ,Γ,Γ,Γ,Γ,Γ,Γ,Γ,Γ,Γ,Γ,Γ,Γ,Γ,Γ,Γ,Γ,Γ,Γ,Γ,Γ,Γ,Γ,Γ,Γ,Γ,Γ,Γ,Γ,Γ,Γ,Γ,Γ,Γ,Γ,Γ,Γ,Γ,Γ,Γ,Γ,Γ,Γ,Γ,Γ,Γ,Γ,Γ,Γ,Γ,Γ,Γ,Γ,Γ,Γ,Γ,Γ,Γ,Γ,Γ,Γ,Γ,Γ,Γ],[]⟩ [.code (body_add cv)]:=by
 rw[enter_at (P:=prog) (f:=23) (c:=body_add cv) #[.pointer (some ⟨Wg,0,none⟩),.int .i64 1] LQ (by kernel_rfl)];have:(#[Λ.pointer (some ⟨Wg,0,none⟩),.int .i64 1]++Array.replicate ((addFn cv).ntmps - (#[Λ.pointer (some ⟨Wg,0,none⟩),.int .i64 1]:Array Λ).size) Γ)=#[.pointer (some ⟨Wg,0,none⟩),.int .i64 1,Γ,Γ,Γ,Γ,Γ,Γ,Γ,Γ,Γ,Γ,Γ,Γ,Γ,Γ,Γ,Γ,Γ,Γ,Γ,Γ,Γ,Γ,Γ,Γ,Γ,Γ,Γ,Γ,Γ,Γ,Γ,Γ,Γ,Γ,Γ,Γ,Γ,Γ,Γ,Γ,Γ,Γ,Γ,Γ,Γ,Γ,Γ,Γ,Γ,Γ,Γ,Γ,Γ,Γ,Γ,Γ,Γ,Γ,Γ,Γ,Γ,Γ,Γ,Γ,Γ,Γ,Γ,Γ,Γ,Γ,Γ,Γ,Γ,Γ,Γ,Γ,Γ,Γ,Γ,Γ,Γ,Γ,Γ,Γ,Γ,Γ,Γ,Γ,Γ,Γ,Γ,Γ,Γ,Γ,Γ,Γ,Γ,Γ,Γ,Γ,Γ,Γ,Γ,Γ,Γ,Γ,Γ,Γ,Γ,Γ,Γ,Γ,Γ,Γ,Γ]:=by kernel_rfl
 rw[this]
variable {cs:List Θ}{N:Nat}
def AtGo (s:List UInt8)(w0:Δ)(cs:List Θ)(g:Φ)(w:Δ):Prop:=
 ∃a,GB a w0.heap.size∧a.eval (.tmp 9)=.func (.func 24) #[] #[.pointer (some ⟨w0.heap.size+3,0,none⟩),.pointer (some ⟨w0.heap.size,0,none⟩),.pointer (some ⟨w0.heap.size+2,0,none⟩)]∧
  g=G ((base 13).at a (.inRegion (g4 f13) [1]::.code (D5 f13)::[])) cs∧Laid s w0 w∧WgAt cv.tWg (w0.heap.size+3) w KK 0
theorem A4 {Wg C Low:Nat}(hW:Wg<Low)(hC:C<Low){Z:Loc→Prop}(hZ:∀a:Addr,a.block=C→¬Z (.cell a)){w w':Δ}{es:Array Event}(h:@DE (@EvS Wg C (lZ Wg C Low ni hW hC)) w w' es):∀e∈es,EvL Z Low e:=by
 intro e he;obtain⟨h1,h2,h3,h4,h5,h6⟩:=h e he;have h6':okR Wg C Low (MemAct.ofEvent e):=h6;refine⟨λx hx hz=>?_,?_,?_,h6'.2⟩
 ·obtain⟨a,ha,hb⟩:=h6'.1 x hx;rcases hb with hb|hb
  ·exact(h1 x hx).1 (.inl ⟨a,ha,hb⟩)
  ·rw[ha]at hz;exact absurd hz (hZ a hb)
 ·intro e';exact h4 (by obtain⟨loc,wr,sy⟩:=e;simp only at e';subst e';rfl)
 ·intro e';exact h5 (by obtain⟨loc,wr,sy⟩:=e;simp only at e';subst e';rfl)
theorem Laid.Yb {s:List UInt8}{w0 w:Δ}(h:Laid s w0 w)(v:Λ):Laid s w0 (w.setCell (stA (w0.heap.size+3)) v):=by
 have hb:∀b,b≠w0.heap.size+3→(w.setCell (stA (w0.heap.size+3)) v).heap[b]?=w.heap[b]?:=λb hb=>zay _ _ _ b hb;refine⟨?_,λb hlt=>(hb b (by omega)).trans (h.old b hlt),(hb _ (by omega)).trans h.txt,(hb _ (by omega)).trans h.chan,(hb _ (by omega)).trans h.box,h.tape,h.os,h.output⟩;show(Array.modify w.heap _ _).size=_;rw[Array.size_modify];exact h.size
theorem Laid.at {s:List UInt8}{w0 w:Δ}(h:Laid s w0 w)(d:Nat):Laid s w0 (w.at d):=⟨h.size,h.old,h.txt,h.chan,h.box,h.tape,h.os,h.output⟩
theorem GB.put {a:Act}{N:Nat}(h:GB a N){t:Tmp}{v:Λ}(h1:t≠1)(h3:t≠3)(h4:t≠4):GB (a.put (some t) v) N:=
 ⟨size_put.trans h.size,(aB h1).trans h.s1,(aB h3).trans h.s3,(aB h4).trans h.s4,cD.trans h.defers⟩
theorem Mf (s:List UInt8)(w0:Δ)(g:Φ)(w:Δ)(h:R2 s w0 cs g w)(hW:w0.heap.size+3<w0.heap.size+4)(hC:w0.heap.size<w0.heap.size+4):letI:=lZ (w0.heap.size+3) w0.heap.size (w0.heap.size+4) ni hW hC
 Goes prog true AtRel (DE (EvS (w0.heap.size+3) w0.heap.size)) (AtMkS prog .disable λa w=>∃n,Goes prog true AtRel (DE (EvS (w0.heap.size+3) w0.heap.size)) (AtMkS prog .enable λa w=>∃n,Goes prog true AtRel (DE (EvS (w0.heap.size+3) w0.heap.size)) (AtGo s w0 cs) n a w) n a w) 12 g w:=by
 letI:=lZ (w0.heap.size+3) w0.heap.size (w0.heap.size+4) ni hW hC
 obtain⟨a,hg,rfl,hl,EW⟩:=h;rw[Jp];refine addPos (L:=cv) (b₀:=base 13) (a₀:=a) (ops₀:=g3 f13) (i₀:=0) (rest₀:=[]) (k₀:=[.code (D4 f13)]) (mT:=4) wgz w EW ?_;have hl':=hl.Yb (.int .u64 KK);have acG:WgAt cv.tWg (w0.heap.size+3) (w.setCell (stA (w0.heap.size+3)) (.int .u64 KK)) KK 0:=EW.setSt KK;generalize w.setCell (stA (w0.heap.size+3)) (.int .u64 KK)=w1 at *;change Goes _ _ _ _ _ _ (G ((base 13).at (a.put (some 8) (.tuple #[])) (.inRegion (g3 f13) []::.code (D4 f13)::[])) cs) _;have hg1:=hg.put (t:=8) (v:= .tuple #[]) (by decide) (by decide) (by decide);generalize a.put (some 8) (.tuple #[])=a1 at *;refine Goes.silent atRel_trans (λ_=>by intro e he;simp at he) rfl (λ_=>zaX) ?_;refine Goes.silent atRel_trans (λ_=>by intro e he;simp at he) rfl (λ_=>zaR (x:= .region 4 (g4 f13) false) (y:=D5 f13)) ?_;refine Goes.silent atRel_trans (λ_=>by intro e he;simp at he) rfl (λ_=>zaU) ?_;refine Goes.silent (g':=G ((base 13).at (a1.put (some 9) (.func (.func 24) #[] #[.pointer (some ⟨w0.heap.size+3,0,none⟩),.pointer (some ⟨w0.heap.size,0,none⟩),.pointer (some ⟨w0.heap.size+2,0,none⟩)])) (.inRegion (g4 f13) [1]::.code (D5 f13)::[])) cs) atRel_trans (λ_=>by intro e he;simp at he) rfl (λw₁=>?_) ?_
 ·have hop:(g4 f13)[0].op=.makeFunc (.func 24) #[] #[.tmp 4,.tmp 1,.tmp 3]:=rfl;have hr:(Ξ a1.eval (g4 f13)[0]).run prog w₁=.ok (.value (.func (.func 24) #[] #[.pointer (some ⟨w0.heap.size+3,0,none⟩),.pointer (some ⟨w0.heap.size,0,none⟩),.pointer (some ⟨w0.heap.size+2,0,none⟩)])) w₁:=by
   unfold Ξ;simp[hop,Instr.makeFunc,hg1.s1,hg1.s3,hg1.s4]
  have he:(Ξ a1.eval (g4 f13)[0]).events prog w₁ #[]=#[]:=by
   unfold Ξ;simp[hop,Instr.makeFunc]
  have hq:=stepG_value (P:=prog) (main:=true) (b:=base 13) (k:=[.code (D5 f13)]) (cs:=cs) (ops:=g4 f13) (i:=0) (rest:=[1]) rfl rfl (by decide) hr;rw[listed_none he]at hq;exact hq
 ·refine Goes.stop λw₁ h₁=>?_;obtain⟨d,rfl⟩:=h₁;exact⟨_,hg1.put (by decide) (by decide) (by decide),aW (by rw[hg1.size];decide),rfl,hl'.at d,acG⟩
def QG (N:Nat)(l:Loc):Prop:=l=.obj (N+1)∨∃a:Addr,l=.cell a∧a.block=N+3
def R3 (N:Nat)(b:Nat):Prop:=b=N∨b=N+2
theorem Mh {a:Act}{N:Nat}(h9:a.eval (.tmp 9)=.func (.func 24) #[] #[.pointer (some ⟨N+3,0,none⟩),.pointer (some ⟨N,0,none⟩),.pointer (some ⟨N+2,0,none⟩)])(w:Δ):stepG prog true (G ((base 13).at a (.inRegion (g4 f13) [1]::.code (D5 f13)::[])) cs) w=.spawn (G ((base 13).at a (.inRegion (g4 f13) []::.code (D5 f13)::[])) cs) (born prog (tB (N+3) N (N+2))) w #[]:=by
 have hop:(g4 f13)[1].op=.go { callee:= .value (.tmp 9),args:=#[],argTypes:=#[] }:=rfl;have hr:(Ξ a.eval (g4 f13)[1]).run prog w=.ok (.spawn (tB (N+3) N (N+2))) w:=by
  unfold Ξ;simp[hop,resolve,h9,Deferred.ofValue,tB]
 have he:(Ξ a.eval (g4 f13)[1]).events prog w #[]=#[]:=by
  unfold Ξ;simp[hop,resolve,h9,Deferred.ofValue]
 have hq:=stepG_spawn (P:=prog) (main:=true) (b:=base 13) (k:=[.code (D5 f13)]) (cs:=cs) (ops:=g4 f13) (i:=1) (rest:=[]) rfl rfl (by decide) hr rfl;rw[listed_none he]at hq;exact hq
theorem A5 {Low:Nat}{x y:tu (N+3) Low}(hx:x.C=N)(hy:y.C=N+2){a:Act}(hg:GB a N){ts:List Tok}(hts:ts.length≤1000000){W:Δ}(hb:prog.globals.size≤W.heap.size)(hsz:N+4≤W.heap.size)(acH:W.heap[N+2]?=some (.cells #[.chan (some (N+1))] 77)):lF prog (R3 N) (N+1) (aK tC) (LO prog cv.tWg x y (A3 (R3 N) x.C y.C (N+3) (N+1) ts cs)) (ts.map aK) (λ_=>False) (G ((base 13).at a (.inRegion (g4 f13) []::.code (D5 f13)::[])) cs) W:=by
 rw[cE];refine af.silent rfl (λ_=>zaX) ?_;refine af.silent rfl (λ_=>zaR (x:= .region 5 (g5 f13) false) (y:=D6 f13)) ?_;refine af.silent rfl (λ_=>zaU) ?_;refine af.mv (ops:=g5 f13) (i:=0) (rest:=[]) rfl rfl (by decide) (dd:=some 5) rfl (.inr rfl) (v:= .slice none 0 0) rfl ?_;have hg1:=hg.put (t:=5) (v:= .slice none 0 0) (by decide) (by decide) (by decide);have k5:(a.put (some 5) (.slice none 0 0)).eval (.tmp 5)=.slice none 0 0:=aW (by rw[hg.size];decide);generalize a.put (some 5) (.slice none 0 0)=a1 at *;refine af.silent rfl (λ_=>zaX) ?_;refine af.silent rfl (λ_=>zaR (x:=cY (D6 f13)) (y:=D10 f13)) ?_;refine af.silent rfl (λ_=>zaR (x:= .region 6 (g6 f13) false) (y:= .block 0 (.loop (Lg f13)))) ?_;refine af.silent rfl (λ_=>zaU) ?_;refine af.Fv (ops:=g6 f13) (i:=0) (rest:=[]) rfl rfl (by decide) (dd:=some 10) rfl (e:=77) (x:= .tmp 3) rfl (ad:=⟨N+2,0,none⟩) hg1.s3 (.inr rfl) (v:= .chan (some (N+1))) (cell_of_one acH) (λw h=>Mb (.inr rfl) w _ h) ?_;have hga:X2 (a1.put (some 10) (.chan (some (N+1)))) x.C y.C (N+3) (N+1):=⟨size_put.trans hg1.size,by rw[hx];exact(aB (by decide)).trans hg1.s1,by rw[hy];exact(aB (by decide)).trans hg1.s3,(aB (by decide)).trans hg1.s4,aW (by rw[hg1.size];decide),cD.trans hg1.defers⟩;have X7:(a1.put (some 10) (.chan (some (N+1)))).eval (.tmp 5)=.slice none 0 0:=(aB (by decide)).trans k5;generalize a1.put (some 10) (.chan (some (N+1)))=a2 at *;refine af.silent rfl (λ_=>zaX) ?_;refine af.silent rfl (λ_=>stepG_block) ?_;refine af.silent rfl (λ_=>stepG_loop) ?_;have hH:py (R3 N) (λ_=>False) W:=⟨λb hb=>by rcases hb with h|h|h<;>first|exact h.elim|omega,λ_ _ h=>h⟩;have hA:=At.empty (P:=prog) (S:=Sc) hH hb;have Vl:GR (R3 N) x.C y.C (N+3) (N+1) [] (λ_=>False) a2 W:=⟨hga,_,_,.slice none 0 0,hA,by rw[X7];simp[rv],by unfold Cl;simp[rv],zcm _ _ _ _⟩;have:=Jo (cs:=cs) (Fin:=LO prog cv.tWg x y (A3 (R3 N) x.C y.C (N+3) (N+1) ts cs)) ts [] (λ_=>False) a2 W Vl (by simpa using hts) (λown a W h=>FB (by simpa using h));rw[cE]at this;exact this
end Go.Ren
set_option linter.unusedSectionVars false
namespace Go.Ren
open Go.Proofs.Tryz
open Go Go.Conc Go.ConcX Go.RowKit Go.Conc.Lib Go.ConcX.Gen Go.Proofs Go.Loop
variable {c:Θ}{cs:List Θ}
theorem Jq {Z:Loc→Prop}{B:Nat}{a:Act}(hd:a.defers=[])(hs:a.tmps.size=20){v:Λ}(h5:a.eval (.tmp 5)=v)(w:Δ):Goes prog true AtRel (DZ Z B) (λg w'=>g=G (c.finish v) cs∧AtRel w w') 8 (zF f13 a (c::cs)) w:=by
 unfold zF;have XV:(a.put (some 18) (.tuple #[])).eval (.tmp 5)=v:=(aB (by decide)).trans h5;have hs':(a.put (some 18) (.tuple #[])).tmps.size=20:=size_put.trans hs;have hd':(a.put (some 18) (.tuple #[])).defers=[]:=cD.trans hd;generalize a.put (some 18) (.tuple #[])=a1 at *;refine Goes.ctl rfl (λ_=>zaX) ?_;refine Goes.ctl rfl (λ_=>zaR (x:= .region 11 (g11 f13) false) (y:= .ret)) ?_;refine Goes.ctl rfl (λ_=>zaU) ?_;refine Goes.IY (ops:=g11 f13) (i:=0) (rest:=[1]) rfl rfl (by decide) (dd:=some 19) rfl (v:=v) (nw:=λw=>w) (λd=>?_) (λd=>rfl) (λd=>?_)
 ·show(pure (.value (a1.eval (.tmp 5))):Sem Next).run prog _=_;rw[XV];rfl
 have h19:(a1.put (some 19) v).eval (.tmp 19)=v:=aW (by rw[hs'];decide);have hs2:(a1.put (some 19) v).tmps.size=20:=size_put.trans hs';have Ez:(a1.put (some 19) v).defers=[]:=cD.trans hd';generalize a1.put (some 19) v=a2 at *;refine Goes.IY (ops:=g11 f13) (i:=1) (rest:=[]) rfl rfl (by decide) (dd:=some 2) rfl (v:=v) (nw:=λw=>w) (λd=>?_) (λd=>rfl) (λd1=>?_)
 ·show(pure (.value (a2.eval (.tmp 19))):Sem Next).run prog _=_;rw[h19];rfl
 have h2:(a2.put (some 2) v).eval (.tmp 2)=v:=aW (by rw[hs2];decide);have hd3:(a2.put (some 2) v).defers=[]:=cD.trans Ez;generalize a2.put (some 2) v=a3 at *;refine Goes.ctl rfl (λ_=>zaX) ?_;refine Goes.ctl rfl (λ_=>stepG_ret') ?_;refine Goes.ctl (g':=G (c.finish v) cs) rfl (λw₁=>?_) ?_
 ·refine stepG_leave (fn:=f13) rfl hd3 X8 ?_ ?_
  ·have jQ:a3.tmps.getD 2 Γ=v:=h2;unfold results;rw[show f13.results=#[.tmp 2] from rfl];simp[←jQ,go_sem]
  ·unfold results;rw[show f13.results=#[.tmp 2] from rfl];simp[go_sem]
 ·refine Goes.stop λw₁ h₁=>⟨rfl,?_⟩;exact atRel_trans _ _ _ (atRel_trans _ _ _ ⟨d,rfl⟩ ⟨d1,rfl⟩) h₁
def C0 (Shun:Loc→Prop)(ts:List Tok)(c:Θ)(cs:List Θ)(n:Nat)(w0:Δ)(m:Machine)(t:Ω):Prop:=
 ∃(gs:Array Φ) (W:Δ) (sl:Option (Nat×Nat)) (q:Nat→Nat) (ρ:Rn) (w:Δ) (v:Λ) (Shun':Loc→Prop),m=crowd gs W sl∧gs.size=n+1∧gs[0]?=some (G (c.finish (rv ρ v)) cs)∧Leavers prog t gs q∧Past Shun' W.heap.size t∧
  (∀l,Shun' l→l.low W.heap.size)∧(∀l,l.low w0.heap.size→Shun' l→Shun l)∧(∀l,jS (Touch Sc.d ρ w) l→¬Shun' l)∧
  iO prog Sc ρ w W∧Cl prog Sc w v∧w.ownsRow prog.globals.size 76 7 v ts.length (ts.flatMap λt=>(ek t).toList)∧(∀b,Touch Sc.d ρ w b→w0.heap.size≤b)∧
  w0.heap.size≤W.heap.size∧(∀b,b<w0.heap.size→W.heap[b]?=w0.heap[b]?)∧W.tape=w0.tape∧W.os=w0.os∧W.output=w0.output
theorem quiet_of {Shun Q:Loc→Prop}{B:Nat}{t:Ω}(h:Past Shun B t)(hQ:∀l,l.low B→¬Q l):∀i a,touchAt t i=some a→¬Q a.loc:=by
 intro i a ha;unfold touchAt at ha;obtain⟨act,h1,h2⟩:=zaJ.1 ha;unfold Trace.act? at h1;obtain⟨op,h3,rfl⟩:=zav.1 h1;exact hQ _ (zn (h.seen op (zbG h3)) h2)
theorem uo:∀(n:Nat) (s:List UInt8) (a:Nat),(aH n s a).length≤n
 |0,s,a=>zab _
 |n+1,s,a=>by
  have:=uo n s (aO s a).jZ;rw[aH];split
  ·simp
  ·simp;exact this
def Tr (N Low:Nat)(s:List UInt8)(h:N+4≤Low):tu (N+3) Low:=⟨⟨9⟩,N,[.string ⟨⟨s⟩⟩],by omega,by omega,by omega⟩
def Ts (N Low:Nat)(h:N+4≤Low):tu (N+3) Low:=⟨⟨77⟩,N+2,[.chan (some (N+1))],by omega,by omega,by omega⟩
theorem Yc {Shun:Loc→Prop}{N n Low:Nat}(hn:n≠0)(acI:Low=N+4)(hS:∀l,Shun l→l.low N):CJ (QG N) (λl=>Shun l∨QG N l) n (N+1) (N+3) Low (R3 N) (λb=>b=N+1∨b=N+3):=by
 subst acI;refine⟨⟨hn,λb hb=>by rcases hb with h|h<;>omega,by omega,λh=>by rcases h with h|h<;>omega,λl h=> .inr h,λl h=>?_,λl hl h=>?_,.inl rfl⟩,by omega,by omega,λa ha=> .inr ⟨a,rfl,ha⟩,.inr rfl⟩
 ·rcases h with h|rfl|⟨a,rfl,ha⟩
  ·exact Loc.low_mono (by omega) (hS l h)
  ·show N+1<N+4;omega
  ·show a.block<N+4;omega
 ·rcases h with h|rfl|⟨a,rfl,ha⟩
  ·have:=hS l h;cases l with
   |cell a=>have h2:a.block<N:=this;rcases hl with h|h<;>omega
   |obj r=>have h2:r<N:=this;rcases hl with h|h<;>omega
   |_=>exact hl
  ·rcases hl with h|h<;>omega
  ·rcases hl with h|h<;>omega
section
variable {s:List UInt8}
 (hN:∀(n:Nat) (w:Δ),n≤s.length→ζ prog 47 #[.string ⟨⟨s⟩⟩,.int .i64 n] w λe _=>∃v,e=.returned v∧v=aK (aO s n))
 (hL:∀(t:Tok) (w:Δ),ζ prog 48 #[aK t] w λe _=>∃v,e=.returned v∧v=.bool t.lastB)
include hN hL in
theorem A6 {Shun:Loc→Prop}{gs:Array Φ}{w0:Δ}{sl:Option (Nat×Nat)}{t:Ω}{q:Nat→Nat}(hlen:s.length≤1000)(hb:prog.globals.size≤w0.heap.size)(h0:gs[0]?=some (G (Θ.enter prog 13 #[.string ⟨⟨s⟩⟩] .normal) (c::cs)))(hLv:Leavers prog t gs q)(hP:Past Shun w0.heap.size t)(hS:∀l,Shun l→l.low w0.heap.size):Reach prog (crowd gs w0 sl) t (C0 Shun (aH (s.length+1) s 0) c cs gs.size w0):=by
 have Ol:gs.size≠0:=by have:=(zag.1 h0).1;omega
 have hPQ:fp (QG w0.heap.size) Shun (w0.heap.size+4) 0 t:=fp.He (hP.mono (by omega)) (quiet_of hP λl hl hq=>by
  rcases hq with rfl|⟨a,rfl,ha⟩
  ·have:w0.heap.size+1<w0.heap.size:=hl;omega
  ·have:a.block<w0.heap.size:=hl;omega)
 refine(jC (Q:=QG w0.heap.size) (Shun:=Shun) (B:=w0.heap.size+4) (D:=DZ (λl=>Shun l∨QG w0.heap.size l) (w0.heap.size+4)) (λ_ _ _ h=>h) 19 _ w0 (FC (cs:=c::cs) s w0 (λhz=>?_) (by omega)) gs sl t q rfl hLv h0 hPQ).bind ?_
 ·rcases hz with hz|hz|⟨a,ha,hab⟩
  ·have:w0.heap.size+2<w0.heap.size:=hS _ hz;omega
  ·cases hz
  ·cases ha;have:w0.heap.size+2=w0.heap.size+3:=hab;omega
 rintro m t1 ⟨gs1,a1,w1,sl1,q1,rfl,Tt,h01,acJ,acK,hP1⟩;have hZ:∀a:Addr,a.block=w0.heap.size→¬(Shun (.cell a)∨QG w0.heap.size (.cell a)):=λa ha hz=>by
  rcases hz with hz|hz|⟨a',ha',hab⟩
  ·have:a.block<w0.heap.size:=hS _ hz;omega
  ·cases hz
  ·cases ha';omega
 have acL:=Mf s w0 a1 w1 (acJ w1 (atRel_refl w1)) (by omega) (by omega);refine(jC (Q:=QG w0.heap.size) (Shun:=Shun) (B:=w0.heap.size+4) (λw w' es h=>A4 _ _ hZ h) 12 _ w1 acL gs1 sl1 t1 q1 Tt acK h01 hP1).bind ?_;rintro m t2 ⟨gs2,a2,w2,sl2,q2,rfl,Ov,h02,acM,acN,FE⟩;refine(um (mk:= .disable) (by rfl) trivial Ov acN h02 FE acM).bind ?_;rintro m t3 ⟨gs3,a3,w3,sl3,q3,rfl,hn3,h03,⟨n3,Yd⟩,acO,Td⟩;refine(jC (Q:=QG w0.heap.size) (Shun:=Shun) (B:=w0.heap.size+4) (λw w' es h=>A4 _ _ hZ h) n3 _ w3 Yd gs3 sl3 t3 q3 hn3 acO h03 Td).bind ?_;rintro m t4 ⟨gs4,a4,w4,sl4,q4,rfl,hn4,h04,acP,acQ,L8⟩;refine(um (mk:= .enable) (by rfl) trivial hn4 acQ h04 L8 acP).bind ?_;rintro m t5 ⟨gs5,a5,w5,sl5,q5,rfl,hn5,h05,⟨n5,hG5⟩,acR,Vt⟩;refine(jC (Q:=QG w0.heap.size) (Shun:=Shun) (B:=w0.heap.size+4) (λw w' es h=>A4 _ _ hZ h) n5 _ w5 hG5 gs5 sl5 t5 q5 hn5 acR h05 Vt).bind ?_;rintro m t6 ⟨gs6,a6,w6,sl6,q6,rfl,hn6,h06,acS,acT,XX⟩;have Pv:deafBehind (deafBehind 0 #[Go.ConcX.mk .disable]) #[Go.ConcX.mk .enable]=0:=by rfl
 rw[Pv]at XX;obtain⟨a,hg,h9,rfl,hl,EW⟩:=acS w6 (atRel_refl w6);have hsz:w6.heap.size=w0.heap.size+4:=hl.size;rw[←hsz]at XX;have FH:w0.heap.size+4≤w6.heap.size:=by omega
 have uq:prog.globals.size≤w6.heap.size:=by omega
 have Ye:=PV (P:=prog) (ty:=cv.tWg) (Q:=QG w0.heap.size) (Shun:=Shun) (Shun':=λl=>Shun l∨QG w0.heap.size l) (ch:=w0.heap.size+1) (Wg:=w0.heap.size+3) (n:=gs.size) (ro:=R3 w0.heap.size) (z:=aK tC) (w:=w6) (x:=Tr w0.heap.size w6.heap.size s FH) (y:=Ts w0.heap.size w6.heap.size FH)
  (After:=A3 (R3 w0.heap.size) w0.heap.size (w0.heap.size+2) (w0.heap.size+3) (w0.heap.size+1) (aH (s.length+1) s 0) (c::cs)) (vs:=(aH (s.length+1) s 0).map aK) (sl:=sl6)
  (Yc Ol hsz hS) (λl h=> .inl h) (by show w0.heap.size≠w0.heap.size+2;omega) (λa ha=>hZ a ha) (λa ha hz=>?_) hn6 acT h06 XX rfl (λw₁ _=>Mh h9 w₁) ⟨0,0,false,hl.chan⟩ EW (λw₁ h₁=>?_) (λw₁ h₁=>?_)
 rotate_left
 ·have hab:a.block=w0.heap.size+2:=ha;rcases hz with hz|hz|⟨a',ha',aep⟩
  ·have:a.block<w0.heap.size:=hS _ hz;omega
  ·cases hz
  ·cases ha';omega
 ·obtain⟨d,rfl⟩:=h₁;exact A5 (x:=Tr w0.heap.size w6.heap.size s FH) (y:=Ts w0.heap.size w6.heap.size FH) rfl rfl hg (by have:=uo (s.length+1) s 0;omega) uq FH hl.box
 ·obtain⟨d,rfl⟩:=h₁;exact Fx (x:=Tr w0.heap.size w6.heap.size s FH) (y:=Ts w0.heap.size w6.heap.size FH) (by show w0.heap.size≠w0.heap.size+1;omega) (by show w0.heap.size+2≠w0.heap.size+1;omega) (.inl rfl) (.inr rfl) hN hL (w6.at d) ⟨λb hb=>by
   rcases hb with h|h|h
   ·exact h.elim
   ·show b<w6.heap.size;omega
   ·show b<w6.heap.size;omega,λ_ _ h=>h⟩ uq ⟨hl.txt,hl.box⟩ (cell_of_one (w:=w6.at d) hl.txt) (cell_of_one (w:=w6.at d) hl.box)
 refine Ye.bind ?_;rintro m t7 ⟨w₁,⟨d1,rfl⟩,gs7,w',w7,sl7,q7,a7,own,rfl,hn7,h07,aec,⟨a',⟨hga,ρ,w,v,hA,h5,gz,hrow⟩,rfl,Jr⟩,aeq,acU,XZ,Yf,aed,Tu,ht7,acV,Yg⟩;refine(jC (Q:=λ_=>False) (Shun:=λl=>Shun l∨QG w0.heap.size l) (B:=w7.heap.size) (D:=DZ (λl=>(Shun l∨QG w0.heap.size l)∨False) w7.heap.size) (λ_ _ _ h=>h) 8 _ w7 (Jq (c:=c) (cs:=cs) hga.defers hga.size h5 w7) gs7 sl7 t7 q7 hn7 acU h07 (fp.He XZ λ_ _ _ h=>h)).mono ?_;rintro m t8 ⟨gs8,a8,w8,sl8,q8,rfl,hn8,h08,acW,acX,hP8⟩;obtain⟨rfl,d8,e8⟩:=acW w8 (atRel_refl w8);have lX:w8.heap=w7.heap:=by rw[e8];rfl
 have aer:w7.heap.size=w'.heap.size:=Jr.size;have A7:∀b,Touch Sc.d ρ w b→w0.heap.size+4≤b:=λb hb=>by have:=Yf b (hA.RM b hb);omega
 have hblk:∀b,Touch Sc.d ρ w b→w8.heap[b]?=w'.heap[b]?:=λb hb=>by
  have:=A7 b hb;rw[lX];exact Jr.block b (by omega) (by omega) (by omega)
 have KB:=hA.uH.grow (aG:=w8) (by rw[lX];omega) hblk;refine⟨gs8,w8,sl8,q8,_,w,v,λl=>Shun l∨QG w0.heap.size l,rfl,hn8,?_,acX,by rw[lX];exact hP8.past,λl hl'=>?_,λl eQ hl'=>?_,λl hl'=>?_,KB,gz,hrow,λb hb=>?_,by rw[lX];omega,λb hb=>?_,?_,?_,?_⟩
 ·rw[h08];have:rv (dT ρ w.heap.size w8.heap.size) v=rv ρ v:=gz.agree (λr hr=>aV hr) (Cu hA.uH KB);rw[this]
 ·have:=(Yc (Low:=w6.heap.size) Ol hsz hS).qV l hl';exact Loc.low_mono (by rw[lX];omega) this
 ·rcases hl' with h|rfl|⟨a,rfl,ha⟩
  ·exact h
  ·have:w0.heap.size+1<w0.heap.size:=eQ;omega
  ·have:a.block<w0.heap.size:=eQ;omega
 ·rw[dG]at hl';rintro (h|rfl|⟨a,rfl,ha⟩)
  ·have KE:=hS l h;cases l with
   |cell a=>have h1:=A7 _ hl';have h2:a.block<w0.heap.size:=KE;omega
   |obj r=>have h1:=A7 _ hl';have h2:r<w0.heap.size:=KE;omega
   |_=>exact hl'
  ·have h1:=A7 _ hl';omega
  ·have h1:=A7 _ hl';omega
 ·rw[dG]at hb;have:=A7 b hb;omega
 ·rw[lX,Jr.block b (by omega) (by omega) (by omega),Tu b (by omega) (by omega) (by omega)];exact hl.old b hb
 ·rw[e8];exact(Jr.tape.trans ht7).trans hl.tape
 ·rw[e8];exact(Jr.os.trans acV).trans hl.os
 ·rw[e8];exact(Jr.output.trans Yg).trans hl.output
end
end Go.Ren
namespace Go.Ren
open Go.Proofs.Tryz
open Go Go.Conc Go.ConcX Go.RowKit Go.Proofs Go.Loop
theorem Jy (s:List UInt8)(hs:s.length≤1000)(n:Nat)(w:Δ)(hn:n≤s.length):ζ prog 47 #[.string ⟨⟨s⟩⟩,.int .i64 n] w λe _=>∃v,e=.returned v∧v=aK (aO s n):=
 (Go.Proofs.YtlhimdjkkiflhaaGreat.Mu ⟨⟨s⟩⟩ n w (by show s.length≤_;omega) hn).mono λe w' h=>⟨_,h.1,rfl⟩
theorem Jz (t:Tok)(w:Δ):ζ prog 48 #[aK t] w λe _=>∃v,e=.returned v∧v=.bool t.lastB:=
 (Go.Proofs.YtlhimdjkkiflhaaGreat.Ml t w).mono λ_e _w' h=>⟨_,h,rfl⟩
theorem FQ {s:List UInt8}{c:Θ}{cs:List Θ}{Shun:Loc→Prop}{gs:Array Φ}{w0:Δ}{sl:Option (Nat×Nat)}{t:Ω}{q:Nat→Nat}(hlen:s.length≤1000)(hb:prog.globals.size≤w0.heap.size)(h0:gs[0]?=some (G (Θ.enter prog 13 #[.string ⟨⟨s⟩⟩] .normal) (c::cs)))(hLv:Leavers prog t gs q)(hP:Past Shun w0.heap.size t)(hS:∀l,Shun l→l.low w0.heap.size):Reach prog (crowd gs w0 sl) t (C0 Shun (aH (s.length+1) s 0) c cs gs.size w0):=
 A6 (λn w hn=>Jy s hlen n w hn) Jz hlen hb h0 hLv hP hS
section
variable {Ψ:dZ}{cs:List Θ}{w:Δ}{b:Θ}{a:Act}{ops:Array Oper}{i:Nat}{rest:List Nat}{kk:List Item}
theorem TH {o1 o2 o3:Nat→Prop}(h:∀x,o1 x→o2 x∨o3 x){l:Loc}(hl:jS o1 l):jS o2 l∨jS o3 l:=by
 cases l with
 |cell a=>exact h _ hl
 |obj r=>exact h _ hl
 |_=>exact .inl hl
theorem Di {o:Nat→Prop}{n:Nat}(h:∀x,o x→x<n){l:Loc}(hl:jS o l):l.low n:=by
 cases l with
 |cell a=>exact h _ hl
 |obj r=>exact h _ hl
 |_=>exact hl.elim
theorem ae.TJ {s:List UInt8}(hlen:s.length≤1000)(h:∀v w',Below w.heap.size w w'→w'.ownsRow w.heap.size 76 7 v (aH (s.length+1) s 0).length ((aH (s.length+1) s 0).flatMap λt=>(ek t).toList)→ae prog Sz Ψ (b.at (a.put ((ops[i]?).bind (·.dst)) v) (.inRegion ops rest::kk)) cs w'):ae prog Sz Ψ (Θ.enter prog 13 #[.string ⟨⟨s⟩⟩] .normal) (b.at a (.inRegion ops (i::rest)::kk)::cs) w:=by
 intro ρ W gs sl t q Shun hS hc hcs h0 hL hP hN hO hT TK yo;have e0:b8 ρ (Θ.enter prog 13 #[.string ⟨⟨s⟩⟩] .normal)=Θ.enter prog 13 #[.string ⟨⟨s⟩⟩] .normal:=by
  rw[←gU];simp[rv]
 rw[e0,zaC,zaV]at h0;refine(FQ hlen hS.px h0 hL hP hN.low).bind ?_;rintro m t' ⟨gs',W',sl',q',fS,w₂,v,Shun',rfl,_,I0,WI,WG,Yn,R4,Yo,Mv,gz,hrow,A7,hsz,hblk,Yp,TL,hout⟩;have R5:=hS.grow hsz λx hx=>hblk x (hN.Ey x hx);have FD:Touch Sz.d (dT ρ w.heap.size W'.heap.size) w=Touch Sz.d ρ w:=dG;have ac1:∀r,r<w.heap.size→dT ρ w.heap.size W'.heap.size r=ρ r:=λr hr=>aV hr;generalize dT ρ w.heap.size W'.heap.size=ct at *;have Mw:=iO.merge Pz R5 Mv (λx h1 h2=>by
  have k1:=hN.Ey x (by rw[←FD];exact h1);have k2:=A7 x h2;omega)
 have kI:=Mv.wr.big.p;have aee:=oN (w:=w) kI;have hrv:=WJ Pz R5 Mv gz;have htm:∀x,Touch Sz.d (zq ct fS prog.globals.size w.heap.size w₂.heap.size W'.heap.size) (E7 prog w w₂) x→Touch Sz.d ρ w x∨Touch Sc.d fS w₂ x:=λx hx=>by
  have:=Cy Pz kI hx;rwa[FD]at this
 have P3:∀r,r<w.heap.size→zq ct fS prog.globals.size w.heap.size w₂.heap.size W'.heap.size r=ρ r:=λr hr=>by
  rw[←ac1 r hr];simp only[zq,zac hr]
 generalize zq ct fS prog.globals.size w.heap.size w₂.heap.size W'.heap.size=Hm at *;have TM:Below w.heap.size w (E7 prog w w₂):=⟨rfl,rfl,rfl,by omega,λr hr=>E8 hr⟩;have hrow3:=S3 (w:=w) (zab _) hrow (λx hx=>by
  obtain⟨tk,_,hx⟩:=List.mem_flatMap.1 hx;simp[ek]at hx;rcases hx with rfl|rfl|rfl|rfl|rfl|rfl|rfl<;>simp[rv])
 have Tg:=WL Pz (w:=w) hS.wr.big.p kI gz;have hf3:∀x,Hm.f x=ρ.f x:=λx=>by rw[Mw.f,hS.f]
 refine h _ _ TM hrow3 Hm W' gs' sl' t' q' Shun' Mw ?_ (λf hf=>ix (by omega) (hcs f (zbm _ hf))) ?_ WI WG ⟨λx hx=>?_,λb hb=>zaH (hN.ko b hb) hsz,λl hl Dh=>?_,Yn⟩ ⟨Yp.trans hO.tape,TL.trans hO.os,hout.trans hO.output,zaj hO.size hsz,λr hr hm=>(hblk r (zaH hr hO.size)).trans (hO.block r hr hm)⟩ (λx hx=>(htm x hx).elim (hT x) λh2=> .inl (zaj hO.size (A7 x h2))) ⟨zaj TK.size (by omega),λr hr=>(P3 r (zaH hr TK.size)).trans (TK.same r hr)⟩ ⟨zaj yo.size (by omega),λr hr=>(P3 r (zaH hr yo.size)).trans (yo.same r hr)⟩
 ·have h1:Lu prog Sz w.heap.size a:=hcs _ zbt;exact Lu.put (P:=prog) (λx hx=>eJ (dO (by omega)).1 (dO (by omega)).2 x (h1 x hx)) _ Tg
 ·rw[I0];have e1:b8 ρ (b.at a (.inRegion ops (i::rest)::kk))=b8 Hm (b.at a (.inRegion ops (i::rest)::kk)):=eK (hcs _ zbt) (λr hr=>(P3 r hr).symm) (λx=>(hf3 x).symm);have e2:cs.map (b8 ρ)=cs.map (b8 Hm):=eV (λr hr=>(P3 r hr).symm) (λx=>(hf3 x).symm) λf hf=>hcs f (zbm _ hf);rw[e1,e2,p9,p9,zbT,←hrv,E4]
 ·obtain⟨r,h1,h2,rfl⟩:=hx;exact Mw.low h2
 ·rcases hl with hl|hl
  ·rcases TH htm hl with h1|h1
   ·exact hN.qV l (.inl h1) (R4 l (Di hN.Ey h1) Dh)
   ·exact Yo l h1 Dh
  ·exact hN.qV l (.inr hl) (R4 l (Di hN.ko hl) Dh)
end
end Go.Ren
namespace Go.Ren
open Go.Proofs.Tryz
open Go Go.Conc Go.ConcX Go.RowKit Go.Proofs Go.Loop Go.Proofs.YtlhimdjkkiflhaaGreat
def c8 (f:Func):Code:=f.body.getD .skip
def c8a (f:Func):Code:=Ren.cY (c8 f)
def VO (f:Func):Code:=Ren.cY (Ren.bS (c8 f))
def YI (f:Func):Code:=Ren.bS (Ren.bS (c8 f))
def o8 (f:Func):Array Oper:=Ren.ib (Ren.cY (YI f))
def Qs (f:Func):Code:=Ren.bS (YI f)
theorem MQ:prog.funcs[8]?=some Tryz.f8:=by kernel_rfl
theorem YJ:Tryz.f8.body=some (.seq (c8a Tryz.f8) (.seq (VO Tryz.f8) (.seq (.region 3 (o8 Tryz.f8) false) (Qs Tryz.f8)))):=by kernel_rfl
theorem nt8:Tryz.f8.ntmps=40:=by kernel_rfl
theorem t40 (x y:Λ):(#[x,y]++Array.replicate (40-#[x,y].size) Γ:Array Λ)=#[x,y,Γ,Γ,Γ,Γ,Γ,Γ,Γ,Γ,Γ,Γ,Γ,Γ,Γ,Γ,Γ,Γ,Γ,Γ,Γ,Γ,Γ,Γ,Γ,Γ,Γ,Γ,Γ,Γ,Γ,Γ,Γ,Γ,Γ,Γ,Γ,Γ,Γ,Γ]:=by
 generalize Γ=u;simp[Array.replicate,List.replicate]
theorem T2 (x y:Λ):Θ.enter prog 8 #[x,y] .normal=(base 8).at ⟨#[x,y,Γ,Γ,Γ,Γ,Γ,Γ,Γ,Γ,Γ,Γ,Γ,Γ,Γ,Γ,Γ,Γ,Γ,Γ,Γ,Γ,Γ,Γ,Γ,Γ,Γ,Γ,Γ,Γ,Γ,Γ,Γ,Γ,Γ,Γ,Γ,Γ,Γ,Γ],[]⟩ [.code (.seq (c8a Tryz.f8) (.seq (VO Tryz.f8) (.seq (.region 3 (o8 Tryz.f8) false) (Qs Tryz.f8))))]:=by
 rw[enter_at _ MQ YJ,nt8,t40]
theorem ac7:br prog Fz Sz (c8a Tryz.f8)=true:=by kernel_rfl
theorem YK:br prog Fz Sz (VO Tryz.f8)=true:=by kernel_rfl
theorem YL:br prog Fz Sz (Qs Tryz.f8)=true:=by kernel_rfl
def bm (w w':Δ):Prop:=w.heap.size≤w'.heap.size∧∀r,r<w.heap.size→w'.heap[r]?=w.heap[r]?
theorem bm.trans {a b c:Δ}(h:bm a b)(k:bm b c):bm a c:=⟨zaj h.1 k.1,λr hr=>(k.2 r (zaH hr h.1)).trans (h.2 r hr)⟩
theorem bm.of {w w':Δ}(h:Below w.heap.size w w'):bm w w':=⟨h.size,h.block⟩
def T3 (s:List UInt8)(dp:Nat)(w:Δ)(v:Λ):Prop:=∃lo K L E d s',aI (aH (s.length+1) s 0) dp 2000 ⟨0,false,[]⟩ ⟨0,0,[]⟩=.ok d s'∧bX lo K L w E d v∧(∀i j,i<K→j<K→E.α i=E.α j→i=j)∧bp d d=true
def DR (s:List UInt8)(dp:Nat)(w:Δ)(v:Λ)(w':Δ):Prop:=
 bm w w'∧((∃b e at_,v=.tuple #[.agg #[.nilIface,.slice none 0 0,.int .i64 0],ai b]∧dK w' b e at_∧fE s dp=some ([],at_,e))∨
  ∃ty y nv ay nodes jZ,v=.tuple #[.agg #[.iface ty y,nv,.int .i64 (jZ:Nat)],.pointer none]∧b9 w' 0 nv ay nodes∧fE s dp=some (nodes,jZ,0)∧T3 s dp w' (.iface ty y))
def VQ (T:List Tok)(dp:Nat):Prop:=((∃t∈T,t.kind=5)→∀g cap R M,Dp R M g cap T dp)∧((∃t∈T,t.kind=4)→∀g cap R M,Dq R M g cap T dp)
theorem T4 (T:List Tok)(dp:Nat):VQ T dp:=⟨λ_ _ _ _ _=>Yx,λ_ _ _ _ _=>Yz⟩
def om (s:List UInt8)(dp:Nat):Prop:=(∀d s',aI (aH (s.length+1) s 0) dp 2000 ⟨0,false,[]⟩ ⟨0,0,[]⟩=.ok d s'→bp d d=true∧∃k g,nj d 100000 d ⟨[],[]⟩=some (k,g)∧g.nodes.length≤999999)∧VQ (aH (s.length+1) s 0) dp
end Go.Ren
