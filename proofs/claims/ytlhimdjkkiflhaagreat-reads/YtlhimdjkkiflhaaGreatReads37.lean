import Derived.Deep.DeepAppendWide
import Derived.OneCell
import Derived.Test.YtlhimdjkkiflhaaGreatReads36
set_option maxHeartbeats 8000000
set_option maxRecDepth 100000
set_option linter.unusedSectionVars false
open Go renaming undef→Γ,World→Δ,execOp→Θ,Goroutine→Λ,typeInfo→Ξ,Value→Φ,Frame→Ω,zeroValue→ζ,stepG→η,yielded→θ,Operand→ι
namespace Go.Ren
open Go.Proofs.Tryz
open Go Go.Conc Go.ConcX Go.RowKit Go.Conc.Lib Go.ConcX.Gen Go.Proofs Go.Loop
theorem Te (t:Tok):Instr.fill (λi=>some (i*7,7)) (Array.map (λx=>(aK ⟨0,0,0,[],0,0,0⟩).cells[x%(aK ⟨0,0,0,[],0,0,0⟩).cells.size]!) (Array.range 7)) [(0,aK t)]=some (ek t):=by kernel_rfl
theorem PN (t:Tok)(w:Δ):(Instr.buildSlice 53 1 #[(0,aK t)]).run prog w=.ok (.slice (some ⟨w.heap.size,0,none⟩) 1 1) (w.alloc (.cells (ek t) 76)):=by
 obtain⟨i,hi,he⟩:=zav.1 qh;simp only[zah]at he;have hu:prog.underlying 53=some (.slice 76):=by kernel_rfl
 simp[Instr.buildSlice,run_underlying hu,sizeOf,Ξ,hi,he.1,he.2,ζ,newRow,Te]
theorem PO:(prog.info? 76).map (λi=>i.bytes)=some 64:=by kernel_rfl
theorem Mc {o:Oper}{x y:ι}(hop:o.op=.call { callee:= .builtin .append,args:=#[x,y],argTypes:=#[53,53] }){ev:ι→Φ}{w:Δ}{v:Φ}{n:Nat}{xs:List Φ}(hown:w.ownsRow prog.globals.size 76 7 v n xs)(hb:prog.globals.size≤w.heap.size)(hn:n+1≤1000000)
 {t:Tok}{r:Nat}(hr:w.heap[r]?=some (.cells (ek t) 76))(hx:ev x=v)(hy:ev y=.slice (some ⟨r,0,none⟩) 1 1):
 ∃v' w',(Θ ev o).run prog w=.ok (.value v') w'∧w'.ownsRow prog.globals.size 76 7 v' (n+1) (xs++(ek t).toList):=by
 obtain⟨i,hi,he⟩:=zav.1 qh;simp only[zah]at he;have hu:prog.underlying 53=some (.slice 76):=by kernel_rfl
 have hby:i.bytes=64:=by have:=PO;rw[hi]at this;simpa using this
 obtain⟨v',w',h1,h2,_⟩:=run_append_own_wide (P:=prog) (w:=w) prog.globals.size 53 o.type 76 i _ 7 64 hu hi he.2 he.1 hby rfl (by decide) v n xs hown ⟨r,0,none⟩ 1 1 (ek t).toList rfl (λj u hj=>by
  rw[Addr.add_mid];simp only[Δ.cell?,hr];simpa using hj) (λu hu=>by
   have:=L4 t;rw[zbQ]at this;exact this u (by simpa using hu)) (by simp only[maxLen];omega) (by omega) hb
 refine⟨v',w',?_,h2⟩;unfold Θ;simp only[hop,resolve,invoke,builtin,zbb,zbf,zbc,zbR,zaC,zbv,hx,hy,h1]
def dC:Nat→Code→Code
 |0,c=>c
 |n+1,c=>dC n (bS c)
def D5 (f:Func):Code:=dC 5 (yw f)
def D6 (f:Func):Code:=dC 6 (yw f)
def D10 (f:Func):Code:=dC 7 (yw f)
def Vw (f:Func):Code:=dC 8 (yw f)
def g5 (f:Func):Array Oper:=ib (cY (D5 f))
def g6 (f:Func):Array Oper:=ib (cY (cY (D6 f)))
def Lg (f:Func):Code:=XU (PG (bS (cY (D6 f))))
def g7 (f:Func):Array Oper:=ib (cY (Lg f))
def Mg (f:Func):Code:=PG (bS (bS (Lg f)))
def g8 (f:Func):Array Oper:=ib (cY (Mg f))
def g9 (f:Func):Array Oper:=ib (bS (Mg f))
def g10 (f:Func):Array Oper:=ib (cY (D10 f))
def g11 (f:Func):Array Oper:=ib (cY (Vw f))
def kG (f:Func):List Item:=[.inLoop (Lg f),.inBlock 0,.code (D10 f)]
def tC:Tok:=⟨0,0,0,[],0,0,0⟩
structure X2 (a:Act) (X Y Wg ch:Nat):Prop where
 size:a.tmps.size=20
 s1:a.eval (.tmp 1)=.pointer (some ⟨X,0,none⟩)
 s3:a.eval (.tmp 3)=.pointer (some ⟨Y,0,none⟩)
 s4:a.eval (.tmp 4)=.pointer (some ⟨Wg,0,none⟩)
 s10:a.eval (.tmp 10)=.chan (some ch)
 defers:a.defers=[]
variable {Wg Low ch X Y:Nat}{x y:tu Wg Low}{ro own:Nat→Prop}{cs:List Ω}
theorem X2.put {a:Act}(h:X2 a X Y Wg ch){t:Tmp}{v:Φ}(h1:t≠1)(h3:t≠3)(h4:t≠4)(h10:t≠10):X2 (a.put (some t) v) X Y Wg ch:=
 ⟨size_put.trans h.size,(aB h1).trans h.s1,(aB h3).trans h.s3,(aB h4).trans h.s4,(aB h10).trans h.s10,cD.trans h.defers⟩
structure GR (ro:Nat→Prop) (X Y Wg ch:Nat) (xs:List Tok) (own:Nat→Prop) (a:Act) (W:Δ):Prop where
 ga:X2 a X Y Wg ch
 row:∃ρ w v,At prog Sc ro ρ w W own∧a.eval (.tmp 5)=rv ρ v∧Cl prog Sc w v∧w.ownsRow prog.globals.size 76 7 v xs.length (xs.flatMap λt=>(ek t).toList)
theorem PQ (xs:List Tok)(t:Tok):(xs++[t]).flatMap (λt=>(ek t).toList)=xs.flatMap (λt=>(ek t).toList)++(ek t).toList:=by simp
theorem PR (a:Act)(W:Δ)(h:a.eval (.tmp 10)=.chan (some ch)):(Θ a.eval (g7 f13)[0]).run prog W=.ok (.comm #[rcase ch (aK tC)] true (.recv true)) W∧(Θ a.eval (g7 f13)[0]).events prog W #[]=#[]:=by
 obtain⟨i,hi,he⟩:=zav.1 qh;simp only[zah]at he;obtain⟨dir,hu⟩:∃dir,prog.underlying 77=some (.chan dir 76):=⟨_,underlying77⟩;have hop:(g7 f13)[0].op=.recv 77 (.tmp 10) true:=rfl;constructor
 ·unfold Θ;simp[hop,run_underlying hu,ζ,Ξ,hi,he.2,h,rcase,tC]
 ·unfold Θ;simp[hop,run_underlying hu,ζ,Ξ,hi,he.2]
theorem Hd (a:Act)(W:Δ)(h:a.eval (.tmp 10)=.chan (some ch)):η prog true (G ((base 13).at a (.inRegion (g7 f13) [0,1]::.code (bS (Lg f13))::kG f13)) cs) W=.comm (core (G ((base 13).at a (.inRegion (g7 f13) [0,1]::.code (bS (Lg f13))::kG f13)) cs)) #[rcase ch (aK tC)] true (.recv true) W #[]:=by
 obtain⟨h1,h2⟩:=PR a W h;rw[stepG_comm (ops:=g7 f13) (i:=0) (rest:=[1]) rfl rfl (by decide) h1,listed_none h2];rfl
theorem GR.rely {W aG:Δ}{xs:List Tok}{a:Act}(h:GR ro X Y Wg ch xs own a W)(hr:bW ro own W aG):GR ro X Y Wg ch xs own a aG:=by
 obtain⟨ρ,w,v,hA,h5,gz,hrow⟩:=h.row;obtain⟨PH,Fu⟩:=hA.rely hr;exact⟨h.ga,_,w,v,PH,by rw[h5];exact(gz.agree Fu.agree (Cu hA.uH PH.uH)).symm,gz,hrow⟩
theorem Jo {Fin:(Nat→Prop)→Λ→Δ→Prop}(ts:List Tok)
 :∀(xs:List Tok) (own:Nat→Prop) (a:Act) (W:Δ),GR ro X Y Wg ch xs own a W→xs.length+ts.length≤1000000→
  (∀own a W,GR ro X Y Wg ch (xs++ts) own a W→Fin own (G ((base 13).at (a.put (some 11) (.tuple #[aK tC,.bool false])) (.inRegion (g7 f13) [1]::.code (bS (Lg f13))::kG f13)) cs) W)→
  lF prog ro ch (aK tC) Fin (ts.map aK) own (G ((base 13).at a (.code (Lg f13)::kG f13)) cs) W:=by
 induction ts with
 |nil=>
  intro xs own a W h _ hF;rw[cE];refine af.silent rfl (λ_=>zaR (x:= .region 7 (g7 f13) false) (y:=bS (Lg f13))) ?_;refine af.silent rfl (λ_=>zaU) ?_;refine .stop λaG hr=>?_;have h1:=h.rely hr;refine⟨rfl,Hd a aG h.ga.s10,?_⟩;show Fin own (G (((base 13).at a (.inRegion (g7 f13) [0,1]::.code (bS (Lg f13))::kG f13)).finish _) cs) aG;rw[zbT];exact hF own a aG (by simpa using h1)
 |cons t ts ih=>
  intro xs own a W h hlen hF;rw[cE];refine af.silent rfl (λ_=>zaR (x:= .region 7 (g7 f13) false) (y:=bS (Lg f13))) ?_;refine af.silent rfl (λ_=>zaU) ?_;refine .stop λaG hr=>?_;have h1:=h.rely hr;refine⟨rfl,Hd a aG h.ga.s10,?_⟩;show lF _ _ _ _ _ _ own (G (((base 13).at a (.inRegion (g7 f13) [0,1]::.code (bS (Lg f13))::kG f13)).finish _) cs) aG;rw[zbT,cE];change af _ _ _ _ _ (G ((base 13).at (a.put (some 11) (.tuple #[aK t,.bool true])) (.inRegion (g7 f13) [1]::.code (bS (Lg f13))::kG f13)) cs) aG;clear h hr;obtain⟨hg,ρ,w,v,hA,h5,gz,hrow⟩:=h1;have hg1:=hg.put (t:=11) (v:= .tuple #[aK t,.bool true]) (by decide) (by decide) (by decide) (by decide);have KC:(a.put (some 11) (.tuple #[aK t,.bool true])).eval (.tmp 11)=.tuple #[aK t,.bool true]:=aW (by rw[hg.size];decide);have k5:(a.put (some 11) (.tuple #[aK t,.bool true])).eval (.tmp 5)=rv ρ v:=(aB (by decide)).trans h5;generalize a.put (some 11) (.tuple #[aK t,.bool true])=a1 at *;refine af.Wy (ops:=g7 f13) (i:=1) (rest:=[]) rfl rfl (by decide) (dd:=some 12) rfl rfl KC (v:= .bool true) rfl ?_;have hg2:=hg1.put (t:=12) (v:= .bool true) (by decide) (by decide) (by decide) (by decide);have k12:(a1.put (some 12) (.bool true)).eval (.tmp 12)=.bool true:=aW (by rw[hg1.size];decide);replace KC:(a1.put (some 12) (.bool true)).eval (.tmp 11)=.tuple #[aK t,.bool true]:=(aB (by decide)).trans KC;replace k5:(a1.put (some 12) (.bool true)).eval (.tmp 5)=rv ρ v:=(aB (by decide)).trans k5;generalize a1.put (some 12) (.bool true)=a2 at *;refine af.silent rfl (λ_=>zaX) ?_;refine af.silent rfl (λ_=>zaR (x:= .cond (.tmp 12) .skip (.exit 0)) (y:= .block 1 (Mg f13))) ?_;refine af.silent rfl (λ_=>stepG_cond k12) ?_;refine af.silent rfl (λ_=>stepG_skip) ?_;refine af.silent rfl (λ_=>stepG_block) ?_;refine af.silent rfl (λ_=>zaR (x:= .region 8 (g8 f13) false) (y:= .region 9 (g9 f13) false)) ?_;refine af.silent rfl (λ_=>zaU) ?_;refine af.Wy (ops:=g8 f13) (i:=0) (rest:=[1,2]) rfl rfl (by decide) (dd:=some 13) rfl rfl KC (v:=aK t) rfl ?_;have hg3:=hg2.put (t:=13) (v:=aK t) (by decide) (by decide) (by decide) (by decide);have k13:(a2.put (some 13) (aK t)).eval (.tmp 13)=aK t:=aW (by rw[hg2.size];decide);replace k5:(a2.put (some 13) (aK t)).eval (.tmp 5)=rv ρ v:=(aB (by decide)).trans k5;generalize a2.put (some 13) (aK t)=a3 at *;obtain⟨i76,Tc,L5⟩:=zav.1 qh;simp only[zah]at L5;have hgw:prog.globals.size≤w.heap.size:=hA.uH.wr.big.p;refine af.Lm l4 (ops:=g8 f13) (i:=1) (rest:=[2]) rfl rfl (by decide) (dd:=some 6) rfl rfl Tc L5.2 hA ?_;intro w1 wE W2 acr e1 PH Fu;have hs1:w1.heap.size=w.heap.size:=by rw[e1]
  have X3:rv wE v=rv ρ v:=gz.agree Fu.agree (Cu hA.uH PH.uH);have K8:Cl prog Sc w1 v:=by unfold Cl at gz ⊢;rw[hs1];exact gz
  have RZ:w1.ownsRow prog.globals.size 76 7 v xs.length (xs.flatMap λt=>(ek t).toList):=by unfold Δ.ownsRow at hrow ⊢;rw[e1];exact hrow
  rw[←hs1];have hg4:=hg3.put (t:=6) (v:= .pointer (some ⟨wE w1.heap.size,0,none⟩)) (by decide) (by decide) (by decide) (by decide);have k6:(a3.put (some 6) (.pointer (some ⟨wE w1.heap.size,0,none⟩))).eval (.tmp 6)=.pointer (some ⟨wE w1.heap.size,0,none⟩):=aW (by rw[hg3.size];decide);replace k13:(a3.put (some 6) (.pointer (some ⟨wE w1.heap.size,0,none⟩))).eval (.tmp 13)=aK t:=(aB (by decide)).trans k13;replace k5:(a3.put (some 6) (.pointer (some ⟨wE w1.heap.size,0,none⟩))).eval (.tmp 5)=rv wE v:=((aB (by decide)).trans k5).trans X3.symm;generalize a3.put (some 6) (.pointer (some ⟨wE w1.heap.size,0,none⟩))=a4 at *;have acA:prog.globals.size≤w1.heap.size:=by omega
  refine af.storeT l4 (ops:=g8 f13) (i:=2) (rest:=[]) rfl rfl (by decide) (dd:=none) rfl (s:=6) (t:=13) (by decide) rfl (c:=ek ⟨0,0,0,[],0,0,0⟩) (c':=ek t) (xa _) rfl (L4 _) PH k6 (by rw[k13];exact(eM _ _).symm) (eM _ _) acA ?_;intro w2 E0 W3 acs e2 Vr Vs;rw[wA];have hs2:w2.heap.size=w1.heap.size:=by rw[e2]
  have hr2:E0 w2.heap.size=wE w1.heap.size:=by rw[hs2];exact Vs.agree _ (by rw[bJ];omega)
  have hv2:rv E0 v=rv wE v:=K8.agree (λr hr=>Vs.agree r (by rw[bJ];omega)) (Cu PH.uH Vr.uH);have K9:Cl prog Sc w2 v:=by unfold Cl at K8 ⊢;rw[hs2];exact K8
  have hrow2:w2.ownsRow prog.globals.size 76 7 v xs.length (xs.flatMap λt=>(ek t).toList):=by unfold Δ.ownsRow at RZ ⊢;rw[e2];exact RZ
  rw[←hr2]at k6;rw[←hv2]at k5;have acB:prog.globals.size≤w2.heap.size:=by omega
  refine af.silent rfl (λ_=>zaX) ?_;refine af.silent rfl (λ_=>zaU) ?_;refine af.mv (ops:=g9 f13) (i:=0) (rest:=[1,2,3,4]) rfl rfl (by decide) (dd:=some 14) rfl (.inl rfl) k5 ?_;have Vu:=hg4.put (t:=14) (v:=rv E0 v) (by decide) (by decide) (by decide) (by decide);have Tf:(a4.put (some 14) (rv E0 v)).eval (.tmp 14)=rv E0 v:=aW (by rw[hg4.size];decide);replace k6:(a4.put (some 14) (rv E0 v)).eval (.tmp 6)=.pointer (some ⟨E0 w2.heap.size,0,none⟩):=(aB (by decide)).trans k6;generalize a4.put (some 14) (rv E0 v)=a5 at *;refine af.loadT l4 (ops:=g9 f13) (i:=1) (rest:=[2,3,4]) rfl rfl (by decide) (dd:=some 15) rfl (s:=6) rfl underlying76 rfl (xa _) Vr k6 acB ?_;intro w3 L6 W4 acu e3 PK XW;have hs3:w3.heap.size=w2.heap.size:=by rw[e3]
  have hv3:rv L6 v=rv E0 v:=K9.agree (λr hr=>XW.agree r (by rw[bJ];omega)) (Cu Vr.uH PK.uH);have Tg:Cl prog Sc w3 v:=by unfold Cl at K9 ⊢;rw[hs3];exact K9
  have hrow3:w3.ownsRow prog.globals.size 76 7 v xs.length (xs.flatMap λt=>(ek t).toList):=by unfold Δ.ownsRow at hrow2 ⊢;rw[e3];exact hrow2
  rw[←hv3]at Tf;have aeo:prog.globals.size≤w3.heap.size:=by omega
  rw[show rv L6 (.agg (ek t))=aK t from eM _ _];have hg6:=Vu.put (t:=15) (v:=aK t) (by decide) (by decide) (by decide) (by decide);have k15:(a5.put (some 15) (aK t)).eval (.tmp 15)=aK t:=aW (by rw[Vu.size];decide);replace Tf:(a5.put (some 15) (aK t)).eval (.tmp 14)=rv L6 v:=(aB (by decide)).trans Tf;generalize a5.put (some 15) (aK t)=a6 at *;have hrow4:(w3.alloc (.cells (ek t) 76)).ownsRow prog.globals.size 76 7 v xs.length (xs.flatMap λt=>(ek t).toList):=hrow3.alloc _;have Th:Cl prog Sc (w3.alloc (.cells (ek t) 76)) v:=Tg.mono (by rw[bJ];omega);have acC:prog.globals.size≤(w3.alloc (.cells (ek t) 76)).heap.size:=by rw[bJ];omega
  generalize w3.alloc (.cells (ek t) 76)=w4 at PK hrow4 Th acC;refine af.Ll l4 (ops:=g9 f13) (i:=2) (rest:=[3,4]) (by rw[show(g9 f13)[2].op=.buildSlice 53 1 #[(0,.tmp 15)] from rfl];simp[jx,gN]) rfl rfl (by decide) (T:=λ_=>aK t) (λ_=>eM _ _) PK ?_ (v:=λw₀=> .slice (some ⟨w₀.heap.size,0,none⟩) 1 1) (o':=λw₀=>w₀.alloc (.cells (ek t) 76)) ?_ ?_
  ·have hop:(g9 f13)[2].op=.buildSlice 53 1 #[(0,.tmp 15)]:=rfl;unfold Θ;rw[hop];simp only[zbR,zaC,zbv,fx,k15,eM t L6]
  ·intro τ d;have hop:(g9 f13)[2].op=.buildSlice 53 1 #[(0,.tmp 15)]:=rfl;unfold Θ;simp only[hop,zbR,zaC,zbv,fx,zbb,PN,zbc,zbf]
  intro w5 Hc W5 acw e5 PM hO5 X4;have hs5:w5.heap.size=w4.heap.size:=by rw[e5]
  have hv5:rv Hc v=rv L6 v:=Th.agree hO5.agree (Cu PK.uH PM.uH);have R1:(w5.alloc (.cells (ek t) 76)).ownsRow prog.globals.size 76 7 v xs.length (xs.flatMap λt=>(ek t).toList):=by
   refine zbL ?_ _;unfold Δ.ownsRow at hrow4 ⊢;rw[e5];exact hrow4
  have X5:Cl prog Sc (w5.alloc (.cells (ek t) 76)) v:=Th.mono (by rw[bJ];omega);rw[←hv5]at Tf;change af _ _ _ _ _ (G ((base 13).at (a6.put (some 16) (rv Hc (.slice (some ⟨w5.heap.size,0,none⟩) 1 1))) _) _) _;have hg7:=hg6.put (t:=16) (v:=rv Hc (.slice (some ⟨w5.heap.size,0,none⟩) 1 1)) (by decide) (by decide) (by decide) (by decide);have k16:(a6.put (some 16) (rv Hc (.slice (some ⟨w5.heap.size,0,none⟩) 1 1))).eval (.tmp 16)=rv Hc (.slice (some ⟨w5.heap.size,0,none⟩) 1 1):=aW (by rw[hg6.size];decide);replace Tf:(a6.put (some 16) (rv Hc (.slice (some ⟨w5.heap.size,0,none⟩) 1 1))).eval (.tmp 14)=rv Hc v:=(aB (by decide)).trans Tf;generalize a6.put (some 16) (rv Hc (.slice (some ⟨w5.heap.size,0,none⟩) 1 1))=a7 at *;have rr:(w5.alloc (.cells (ek t) 76)).heap[w5.heap.size]?=some (.cells (ek t) 76):=by
   show(w5.heap.push _)[w5.heap.size]?=_;simp
  have X6:prog.globals.size≤(w5.alloc (.cells (ek t) 76)).heap.size:=by rw[bJ];omega
  generalize sD:w5.heap.size=r0 at *;generalize w5.alloc (.cells (ek t) 76)=w6 at PM R1 X5 rr X4 X6;have aeb:xs.length+(ts.length+1)≤1000000:=by simpa using hlen
  refine af.IY l4 (ops:=g9 f13) (i:=3) (rest:=[4]) (by rw[show(g9 f13)[3].op=.call { callee:= .builtin .append,args:=#[.tmp 14,.tmp 16],argTypes:=#[53,53] } from rfl];simp[jx,gN,oJ]) rfl rfl (by decide) (T:=λs=>if s=14 then v else .slice (some ⟨r0,0,none⟩) 1 1) (λs=>?_) PM.uH PM.RM ?_ (Q:=λv' w'=>w'.ownsRow prog.globals.size 76 7 v' (xs.length+1) (xs.flatMap (λt=>(ek t).toList)++(ek t).toList)) (λτ d=>?_) ?_ PM.hold
  ·by_cases h:s=14
   ·simp only[h,if_true];exact X5
   ·simp only[h,if_false];exact X4
  ·have hop:(g9 f13)[3].op=.call { callee:= .builtin .append,args:=#[.tmp 14,.tmp 16],argTypes:=#[53,53] }:=rfl;unfold Θ;simp only[hop,resolve,zbR,zaC,zbv,fx,Tf,k16,if_true,show ¬(16=14) by decide,if_false]
  ·exact Mc (x:= .tmp 14) (y:= .tmp 16) rfl (w:=w6.re τ d) R1 X6 (by omega) rr rfl rfl
  intro v' w' ρ' W' own' hq Pj _ _ hc' ht' _ _ hH';change af _ _ _ _ _ (G ((base 13).at (a7.put (some 17) (rv ρ' v')) _) _) _;have hg8:=hg7.put (t:=17) (v:=rv ρ' v') (by decide) (by decide) (by decide) (by decide);have k17:(a7.put (some 17) (rv ρ' v')).eval (.tmp 17)=rv ρ' v':=aW (by rw[hg7.size];decide);generalize a7.put (some 17) (rv ρ' v')=a8 at *;refine af.mv (ops:=g9 f13) (i:=4) (rest:=[]) rfl rfl (by decide) (dd:=some 5) rfl (.inr rfl) k17 ?_;have hg9:=hg8.put (t:=5) (v:=rv ρ' v') (by decide) (by decide) (by decide) (by decide);have X7:(a8.put (some 5) (rv ρ' v')).eval (.tmp 5)=rv ρ' v':=aW (by rw[hg8.size];decide);generalize a8.put (some 5) (rv ρ' v')=a9 at *;refine af.silent rfl (λ_=>zaX) ?_;refine af.silent rfl (λ_=>stepG_inBlock) ?_;refine af.silent rfl (λ_=>stepG_inLoop) ?_;have Vl:GR ro X Y Wg ch (xs++[t]) own' a9 W':=⟨hg9,ρ',w',v',⟨Pj,ht',hH'⟩,X7,hc',by rw[PQ];simpa using hq⟩;have:=ih (xs++[t]) own' a9 W' Vl (by simp;omega) (by simpa using hF);rw[cE]at this;exact this
end Go.Ren
set_option linter.unusedSectionVars false
namespace Go.Ren
open Go.Proofs.Tryz
open Go Go.Conc Go.ConcX Go.RowKit Go.Conc.Lib Go.ConcX.Gen Go.Proofs Go.Loop
section
variable {P:Program}{main:Bool}{b:Ω}{a:Act}{ops:Array Oper}{i:Nat}{rest:List Nat}{o:Oper}{kk:List Item}{cs:List Ω}
theorem Fy (ho:ops[i]?=some o)(hw:Region.wanted o (θ ops a.tmps)=true)(hk:b.kind≠.early){dd:Option Tmp}(hdd:o.dst=dd){x:ι}{j:Nat}(hop:o.op=.extract x j){vs:Array Φ}{v:Φ}(hx:a.eval x=.tuple vs)(hv:vs[j]?=some v)(w:Δ):η P main (G (b.at a (.inRegion ops (i::rest)::kk)) cs) w=.go (G (b.at (a.put dd v) (.inRegion ops rest::kk)) cs) w #[]:=by
 subst hdd;have hr:(Θ a.eval o).run P w=.ok (.value v) w:=by
  unfold Θ;simp[hop,hx,Instr.extract,hv]
 have he:(Θ a.eval o).events P w #[]=#[]:=by
  unfold Θ;simp[hop,hx,Instr.extract,hv]
 rw[stepG_value ho hw hk hr,listed_none he]
theorem Goes.silent {R:Δ→Δ→Prop}{D:Δ→Δ→Array Event→Prop}{Stop:Λ→Δ→Prop}(tr:∀a b c,R a b→R b c→R a c)(hd:∀w,D w w #[]){n:Nat}{g g':Λ}{w:Δ}(hs:g.status=.running)(h:∀w₁,η P main g w₁=.go g' w₁ #[])(k:Goes P main R D Stop n g' w):Goes P main R D Stop (n+1) g w:=
 Goes.step hs λw₁ h₁=>by rw[h w₁];exact⟨hd w₁,k.rely tr h₁⟩
end
variable {Wg Low ch X Y:Nat}{x y:tu Wg Low}{ro own:Nat→Prop}{cs:List Ω}
structure Off (Wg X Y:Nat) (w w':Δ):Prop where
 tape:w'.tape=w.tape
 os:w'.os=w.os
 output:w'.output=w.output
 size:w'.heap.size=w.heap.size
 block:∀k,k≠X→k≠Y→k≠Wg→w'.heap[k]?=w.heap[k]?
def zF (f:Func)(a:Act)(cs:List Ω):Λ:=G ((base 13).at (a.put (some 18) (.tuple #[])) (.inRegion (g10 f) []::.code (Vw f)::[])) cs
def A2 (f:Func)(a:Act):Ω:=(base 13).at a (.inRegion (g10 f) [0]::.code (Vw f)::[])
theorem zG {pl:Payload}{ty:TypeId}{C:Nat} [Shy Wg C] {vals:List Φ}(a b c:Δ)(h:RPa ty Wg C vals a b)(k:RPa ty Wg C vals b c):RPa ty Wg C vals a c:=
 RPa.trans h k
theorem FA (Wg:Nat):Ω.enter prog 27 #[.pointer (some ⟨Wg,0,none⟩)] .normal=(base cv.wait).at ⟨#[.pointer (some ⟨Wg,0,none⟩),Γ,Γ,Γ,Γ,Γ,Γ,Γ,Γ,Γ,Γ,Γ,Γ,Γ,Γ,Γ,Γ,Γ,Γ,Γ,Γ,Γ,Γ,Γ,Γ,Γ,Γ,Γ,Γ,Γ,Γ,Γ,Γ,Γ,Γ,Γ,Γ,Γ,Γ,Γ,Γ,Γ,Γ,Γ,Γ,Γ,Γ,Γ,Γ,Γ,Γ,Γ,Γ,Γ,Γ,Γ,Γ,Γ,Γ,Γ,Γ,Γ,Γ,Γ,Γ,Γ,Γ,Γ,Γ,Γ,Γ,Γ,Γ,Γ,Γ,Γ,Γ,Γ,Γ,Γ,Γ,Γ,Γ,Γ],[]⟩ [.code (body_wait cv)]:=by
 rw[enter_at (P:=prog) (f:=27) (c:=body_wait cv) #[.pointer (some ⟨Wg,0,none⟩)] G7 (by kernel_rfl)];have:(#[Φ.pointer (some ⟨Wg,0,none⟩)]++Array.replicate ((waitFn cv).ntmps - (#[Φ.pointer (some ⟨Wg,0,none⟩)]:Array Φ).size) Γ)=#[.pointer (some ⟨Wg,0,none⟩),Γ,Γ,Γ,Γ,Γ,Γ,Γ,Γ,Γ,Γ,Γ,Γ,Γ,Γ,Γ,Γ,Γ,Γ,Γ,Γ,Γ,Γ,Γ,Γ,Γ,Γ,Γ,Γ,Γ,Γ,Γ,Γ,Γ,Γ,Γ,Γ,Γ,Γ,Γ,Γ,Γ,Γ,Γ,Γ,Γ,Γ,Γ,Γ,Γ,Γ,Γ,Γ,Γ,Γ,Γ,Γ,Γ,Γ,Γ,Γ,Γ,Γ,Γ,Γ,Γ,Γ,Γ,Γ,Γ,Γ,Γ,Γ,Γ,Γ,Γ,Γ,Γ,Γ,Γ,Γ,Γ,Γ,Γ]:=by kernel_rfl
 rw[this]
theorem Md (k:tu Wg Low){X Y:Nat}(hk:k.C=X∨k.C=Y)(a:Act)(h4:a.eval (.tmp 4)=.pointer (some ⟨Wg,0,none⟩))(W:Δ)(hK:k.Xb cv.tWg W):∃A,k.wait prog cv.tWg (λg w=>g=zF f13 a cs∧Off Wg X Y W w) A (G (A2 f13 a) cs) W:=by
 letI:=k.pl
 letI:=lZ Wg k.C Low (λg w=>g=zF f13 a cs∧Off Wg X Y W w) k.hW k.hC
 let F:Δ→Prop:=λw=>(∀b,b≠k.C→b≠Wg→w.heap[b]?=W.heap[b]?)∧w.heap.size=W.heap.size∧w.tape=W.tape∧w.os=W.os∧w.output=W.output;have hF2:∀w w',Aside2 k.C Wg w w'→F w→F w':=λw w' h f=>⟨λb h1 h2=>(h.block b h1 h2).trans (f.1 b h1 h2),h.size.trans f.2.1,h.tape.trans f.2.2.1,h.os.trans f.2.2.2.1,h.output.trans f.2.2.2.2⟩;refine⟨AnchW7 cv F Wg k.C k.vals (A2 f13 a) cs,⟨k.hC,k.hCW,?_,?_,λ_ h=>h⟩,4,?_⟩
 ·rintro g w ⟨T,rfl,_⟩;rfl
 ·intro g w h;exact waitRound (L:=cv) (Low:=Low) (Mine:=kL) (Post:=λ_ _=>True) (mT:=0) (b₀:=base 13) (a₀:=a) (ops₀:=g10 f13) (i₀:=0) (rest₀:=[]) (k₀:=[.code (Vw f13)]) wgz k.hCW hF2 (λw f _ _=>Goes.stop λw₁ h₁=>by
   obtain⟨d,rfl⟩:=h₁;refine⟨rfl,rfl,f.2.2.1,f.2.2.2.1,f.2.2.2.2,f.2.1,λb h1 h2 h3=>f.1 b ?_ h3⟩;rcases hk with e|e<;>rw[e]<;>assumption) g w h
 ·refine Goes.silent (g':=G (Ω.enter prog 27 #[.pointer (some ⟨Wg,0,none⟩)] .normal) (A2 f13 a::cs)) (λa b c=>zG a b c) (λw=>⟨λ_ _=>rfl,by simp⟩) rfl (λw₁=>jB (ops:=g10 f13) (i:=0) (rest:=[]) (f:=27) rfl rfl (by decide) rfl (by simp[h4])) ?_;rw[FA];exact waitStart (L:=cv) (Low:=Low) (F:=F) (Mine:=kL) (b₀:=base 13) (a₀:=a) (ops₀:=g10 f13) (i₀:=0) (rest₀:=[]) (k₀:=[.code (Vw f13)]) (cs:=cs) wgz hF2 W ⟨⟨λ_ _ _=>rfl,rfl,rfl,rfl,rfl⟩,hK⟩
theorem jf {k:tu Wg Low}{St A:Λ→Δ→Prop}{g g':Λ}{W:Δ}(hs:g.status=.running)(h:∀w₁,η prog true g w₁=.go g' w₁ #[])(hw:k.wait prog cv.tWg St A g' W):k.wait prog cv.tWg St A g W:=by
 letI:=k.pl
 letI:=lZ Wg k.C Low St k.hW k.hC
 obtain⟨h1,m,h2⟩:=hw;exact⟨h1,m+1,Goes.silent (λa b c=>zG a b c) (λw=>⟨λ_ _=>rfl,by simp⟩) hs h h2⟩
def A3 (ro:Nat→Prop)(X Y Wg ch:Nat)(ts:List Tok)(cs:List Ω)(own:Nat→Prop)(w':Δ)(g:Λ)(w:Δ):Prop:=
 ∃a,GR ro X Y Wg ch ts own a w'∧g=zF f13 a cs∧Off Wg X Y w' w
theorem FB {ts:List Tok}{a:Act}{W:Δ}(h:GR ro x.C y.C Wg ch ts own a W):LO prog cv.tWg x y (A3 ro x.C y.C Wg ch ts cs) own (G ((base 13).at (a.put (some 11) (.tuple #[aK tC,.bool false])) (.inRegion (g7 f13) [1]::.code (bS (Lg f13))::kG f13)) cs) W:=by
 intro hx hy;obtain⟨hg,ρ,w,v,hA,h5,gz,hrow⟩:=h;have hg1:=hg.put (t:=11) (v:= .tuple #[aK tC,.bool false]) (by decide) (by decide) (by decide) (by decide);have KC:(a.put (some 11) (.tuple #[aK tC,.bool false])).eval (.tmp 11)=.tuple #[aK tC,.bool false]:=aW (by rw[hg.size];decide);have k5:(a.put (some 11) (.tuple #[aK tC,.bool false])).eval (.tmp 5)=rv ρ v:=(aB (by decide)).trans h5;generalize a.put (some 11) (.tuple #[aK tC,.bool false])=a1 at *;have hg2:=hg1.put (t:=12) (v:= .bool false) (by decide) (by decide) (by decide) (by decide);have k12:(a1.put (some 12) (.bool false)).eval (.tmp 12)=.bool false:=aW (by rw[hg1.size];decide);have X7:(a1.put (some 12) (.bool false)).eval (.tmp 5)=rv ρ v:=(aB (by decide)).trans k5;have step:∀(k:tu Wg Low),(k.C=x.C∨k.C=y.C)→k.Xb cv.tWg W→∃A,k.wait prog cv.tWg (λg w=>g=zF f13 (a1.put (some 12) (.bool false)) cs∧Off Wg x.C y.C W w) A (G ((base 13).at a1 (.inRegion (g7 f13) [1]::.code (bS (Lg f13))::kG f13)) cs) W:=λk hk hK=>by
  obtain⟨A,hw⟩:=Md (cs:=cs) k hk (a1.put (some 12) (.bool false)) hg2.s4 W hK;refine⟨A,?_⟩;refine jf rfl (λw₁=>Fy (ops:=g7 f13) (i:=1) (rest:=[]) rfl rfl (by decide) (dd:=some 12) rfl rfl KC (v:= .bool false) rfl w₁) ?_;generalize a1.put (some 12) (.bool false)=a2 at *;refine jf rfl (λ_=>zaX) ?_;refine jf rfl (λ_=>zaR (x:= .cond (.tmp 12) .skip (.exit 0)) (y:= .block 1 (Mg f13))) ?_;refine jf rfl (λ_=>stepG_cond k12) ?_;refine jf rfl (λ_=>stepG_exit (id:=0) (k':=[.code (D10 f13)]) rfl) ?_;refine jf rfl (λ_=>zaR (x:= .region 10 (g10 f13) false) (y:=Vw f13)) ?_;refine jf rfl (λ_=>zaU) ?_;exact hw
 obtain⟨Ax,hwx⟩:=step x (.inl rfl) hx;obtain⟨Ay,hwy⟩:=step y (.inr rfl) hy;exact⟨_,Ax,Ay,hwx,hwy,λa' w' hst=>⟨Nat.le_of_eq hst.2.size.symm,_,⟨hg2,ρ,w,v,hA,X7,gz,hrow⟩,hst.1,hst.2⟩⟩
end Go.Ren
set_option linter.unusedSectionVars false
namespace Go.Ren
open Go.Proofs.Tryz
open Go Go.Conc Go.ConcX Go.RowKit Go.Conc.Lib Go.ConcX.Gen Go.Proofs Go.Loop
theorem Me:(prog.info? 77).map (λi=>(i.size,i.zero))=some (1,some (.chan none)):=by kernel_rfl
theorem Ti:(prog.info? 87).map (λi=>i.zero.map λz=>Obj.cells z.cells 87)=some (some (wgBlock cv.tWg 0 0)):=by kernel_rfl
theorem bx (s:ByteArray)(w:Δ):(Instr.box 9 (.string s)).run prog w=.ok (.pointer (some ⟨w.heap.size,0,none⟩)) (w.alloc (.cells #[.string s] 9))∧(Instr.box 9 (.string s)).events prog w #[]=#[]:=by
 constructor
 ·simp[Instr.box,newVar,newRow,go_sem,Φ.cells]
 ·simp[Instr.box,newVar,newRow,go_sem,Φ.cells]
theorem mkc (w:Δ):(Instr.makeChan 77 (.int .i64 0)).run prog w=.ok (.chan (some w.heap.size)) (w.alloc (.chan 0 #[] false 0 0 false))∧(Instr.makeChan 77 (.int .i64 0)).events prog w #[]=#[]:=by
 obtain⟨i,hi,he⟩:=zav.1 qh;obtain⟨dir,hu⟩:∃dir,prog.underlying 77=some (.chan dir 76):=⟨_,underlying77⟩;have h1:¬(IntKind.i64.max<0):=by decide
 constructor
 ·simp[Instr.makeChan,run_underlying hu,asInt,asIntOf,Ξ,hi]
 ·simp[Instr.makeChan,run_underlying hu,asInt,asIntOf,Ξ,hi]
theorem Vx {e:TypeId}{i:TypeInfo}{z:Φ}(hi:prog.info? e=some i)(hz:i.zero=some z)(w:Δ):(Instr.alloc e true (.tuple #[])).run prog w=.ok (.pointer (some ⟨w.heap.size,0,none⟩)) (w.alloc (.cells z.cells e))∧(Instr.alloc e true (.tuple #[])).events prog w #[]=#[]:=by
 constructor
 ·simp[Instr.alloc,ζ,Ξ,hi,hz,newVar,newRow]
 ·simp[Instr.alloc,ζ,Ξ,hi,hz,newVar,newRow]
theorem stz {w:Δ}{r c:Nat}(h:w.heap[r]?=some (.cells #[.chan none] 77)):(Instr.storeAt 77 (.pointer (some ⟨r,0,none⟩)) (.chan (some c))).run prog w=.ok () (w.setCell ⟨r,0,none⟩ (.chan (some c)))∧(Instr.storeAt 77 (.pointer (some ⟨r,0,none⟩)) (.chan (some c))).events prog w #[]=#[⟨.cell ⟨r,0,none⟩,true,false⟩]:=by
 obtain⟨i,hi,he⟩:=zav.1 Me;simp only[zah]at he;have hc:w.cell? ⟨r,0,none⟩=some (.chan none):=by simp[Δ.cell?,h]
 have hf:w.frozen? ⟨r,0,none⟩=false:=by simp[Δ.frozen?,h]
 constructor
 ·simp[Instr.storeAt,Instr.sureAddr,storeVar,sizeOf,Ξ,hi,he.1,Φ.cells,storeCells,go_sem,hc,hf,Addr.add]
 ·simp[Instr.storeAt,Instr.sureAddr,storeVar,sizeOf,Ξ,hi,he.1,Φ.cells,storeCells,go_sem,hc,hf,Addr.add]
section
variable {P:Program}{Stop:Λ→Δ→Prop}{Z:Loc→Prop}{B n:Nat}{w:Δ}{b:Ω}{a:Act}{ops:Array Oper}{i:Nat}{rest:List Nat}{o:Oper}{kk:List Item}{cs:List Ω}
def DZ (Z:Loc→Prop)(B:Nat)(_ _:Δ)(es:Array Event):Prop:=∀e∈es,EvL Z B e
theorem Goes.ctl {g g':Λ}(hs:g.status=.running)(h:∀w₁,η P true g w₁=.go g' w₁ #[])(k:Goes P true AtRel (DZ Z B) Stop n g' w):Goes P true AtRel (DZ Z B) Stop (n+1) g w:=
 Goes.silent atRel_trans (λ_=>by intro e he;simp at he) hs h k
theorem Goes.IY (ho:ops[i]?=some o)(hw:Region.wanted o (θ ops a.tmps)=true)(hk:b.kind≠.early){dd:Option Tmp}(hdd:o.dst=dd){v:Φ}{nw:Δ→Δ}(hr:∀d,(Θ a.eval o).run P (w.at d)=.ok (.value v) (nw (w.at d)))(he:∀d,(Θ a.eval o).events P (w.at d) #[]=#[])
 (k:∀d,Goes P true AtRel (DZ Z B) Stop n (G (b.at (a.put dd v) (.inRegion ops rest::kk)) cs) (nw (w.at d))):Goes P true AtRel (DZ Z B) Stop (n+1) (G (b.at a (.inRegion ops (i::rest)::kk)) cs) w:=by
 subst hdd;refine Goes.step rfl λw₁ h₁=>?_;obtain⟨d,rfl⟩:=h₁;rw[stepG_value ho hw hk (hr d),listed_none (he d)];exact⟨λe he=>by simp at he,k d⟩
theorem Goes.opn (ho:ops[i]?=some o)(hw:Region.wanted o (θ ops a.tmps)=true)(hk:b.kind≠.early){dd:Option Tmp}(hdd:o.dst=dd){nw:Δ→Δ}{es:Array Event}(hr:∀d,(Θ a.eval o).run P (w.at d)=.ok .skip (nw (w.at d)))(he:∀d,(Θ a.eval o).events P (w.at d) #[]=es)(hes:∀e∈es,EvL Z B e)
 (k:∀d,Goes P true AtRel (DZ Z B) Stop n (G (b.at (a.put dd Γ) (.inRegion ops rest::kk)) cs) (nw (w.at d))):Goes P true AtRel (DZ Z B) Stop (n+1) (G (b.at a (.inRegion ops (i::rest)::kk)) cs) w:=by
 subst hdd;refine Goes.step rfl λw₁ h₁=>?_;obtain⟨d,rfl⟩:=h₁;rw[stepG_none ho hw hk (hr d)];refine⟨λe hm=>hes e ?_,k d⟩;unfold listed at hm;rw[he d]at hm;exact mem_seen hm
end
structure Laid (s:List UInt8) (w0 w:Δ):Prop where
 size:w.heap.size=w0.heap.size+4
 old:∀b,b<w0.heap.size→w.heap[b]?=w0.heap[b]?
 txt:w.heap[w0.heap.size]?=some (.cells #[.string ⟨⟨s⟩⟩] 9)
 chan:w.heap[w0.heap.size+1]?=some (.chan 0 #[] false 0 0 false)
 box:w.heap[w0.heap.size+2]?=some (.cells #[.chan (some (w0.heap.size+1))] 77)
 tape:w.tape=w0.tape
 os:w.os=w0.os
 output:w.output=w0.output
structure GB (a:Act) (N:Nat):Prop where
 size:a.tmps.size=20
 s1:a.eval (.tmp 1)=.pointer (some ⟨N,0,none⟩)
 s3:a.eval (.tmp 3)=.pointer (some ⟨N+2,0,none⟩)
 s4:a.eval (.tmp 4)=.pointer (some ⟨N+3,0,none⟩)
 defers:a.defers=[]
def D1 (f:Func):Code:=dC 1 (yw f)
def D2 (f:Func):Code:=dC 2 (yw f)
def D3 (f:Func):Code:=dC 3 (yw f)
def D4 (f:Func):Code:=dC 4 (yw f)
def g0 (f:Func):Array Oper:=ib (cY (yw f))
def g1 (f:Func):Array Oper:=ib (cY (D1 f))
def g2 (f:Func):Array Oper:=ib (cY (D2 f))
def g3 (f:Func):Array Oper:=ib (cY (D3 f))
def g4 (f:Func):Array Oper:=ib (cY (D4 f))
def Tj (f:Func)(a:Act):Ω:=(base 13).at a (.inRegion (g3 f) [0]::.code (D4 f)::[])
def R2 (s:List UInt8)(w0:Δ)(cs:List Ω)(g:Λ)(w:Δ):Prop:=
 ∃a,GB a w0.heap.size∧g=G (Ω.enter prog 23 #[.pointer (some ⟨w0.heap.size+3,0,none⟩),.int .i64 1] .normal) (Tj f13 a::cs)∧Laid s w0 w∧WgAt cv.tWg (w0.heap.size+3) w 0 0
theorem X8:prog.funcs[13]?=some f13:=by kernel_rfl
def Tk (s:List UInt8):Act:=⟨#[.string ⟨⟨s⟩⟩]++Array.replicate 19 Γ,[]⟩
theorem gA {H:Array Obj}{o:Obj}{b:Nat}(h:b<H.size):(H.push o)[b]?=H[b]?:=by rw[zbl,zaa (by omega)]
theorem ru {H:Array Obj}{o:Obj}{b:Nat}(h:b=H.size):(H.push o)[b]?=some o:=by subst h;simp
variable {cs:List Ω}
theorem FC {Z:Loc→Prop}{B:Nat}(s:List UInt8)(w0:Δ)(hZ:¬Z (.cell ⟨w0.heap.size+2,0,none⟩))(hB:w0.heap.size+2<B):Goes prog true AtRel (DZ Z B) (R2 s w0 cs) 19 (G (Ω.enter prog 13 #[.string ⟨⟨s⟩⟩] .normal) cs) w0:=by
 rw[enter_at (P:=prog) (f:=13) (c:=yw f13) #[.string ⟨⟨s⟩⟩] X8 rfl];change Goes _ _ _ _ _ _ (G ((base 13).at (Tk s) [.code (yw f13)]) cs) _;have q0:(Tk s).eval (.tmp 0)=.string ⟨⟨s⟩⟩:=by simp[Tk,Act.eval]
 have qs:(Tk s).tmps.size=20:=by simp[Tk]
 have qd:(Tk s).defers=[]:=rfl;generalize Tk s=a at *;refine Goes.ctl rfl (λ_=>zaR (x:= .region 0 (g0 f13) false) (y:=D1 f13)) ?_;refine Goes.ctl rfl (λ_=>zaU) ?_;refine Goes.IY (ops:=g0 f13) (i:=0) (rest:=[1]) rfl rfl (by decide) (dd:=some 1) rfl (v:= .pointer (some ⟨w0.heap.size,0,none⟩)) (nw:=λw=>w.alloc (.cells #[.string ⟨⟨s⟩⟩] 9)) (λd=>?_) (λd=>?_) (λd=>?_)
 ·have hop:(g0 f13)[0].op=.box 9 (.tmp 0):=rfl;unfold Θ;simp only[hop,q0,zbb,(bx _ _).1,zbc,zbf];rfl
 ·have hop:(g0 f13)[0].op=.box 9 (.tmp 0):=rfl;unfold Θ;simp only[hop,q0,Sem.events_bind,(bx _ _).1,(bx _ _).2,Result.evThen_ok,Sem.events_pure]
 have hs1:((w0.at d).alloc (.cells #[.string ⟨⟨s⟩⟩] 9)).heap.size=w0.heap.size+1:=bJ _ _;have Vp:∀b,b<w0.heap.size→((w0.at d).alloc (.cells #[.string ⟨⟨s⟩⟩] 9)).heap[b]?=w0.heap[b]?:=λb h=>gA (H:=w0.heap) h;have hx1:((w0.at d).alloc (.cells #[.string ⟨⟨s⟩⟩] 9)).heap[w0.heap.size]?=some (.cells #[.string ⟨⟨s⟩⟩] 9):=ru (H:=w0.heap) rfl;have FD:((w0.at d).alloc (.cells #[.string ⟨⟨s⟩⟩] 9)).tape=w0.tape∧((w0.at d).alloc (.cells #[.string ⟨⟨s⟩⟩] 9)).os=w0.os∧((w0.at d).alloc (.cells #[.string ⟨⟨s⟩⟩] 9)).output=w0.output:=⟨rfl,rfl,rfl⟩;generalize (w0.at d).alloc (.cells #[.string ⟨⟨s⟩⟩] 9)=w1 at *;have p1:(a.put (some 1) (.pointer (some ⟨w0.heap.size,0,none⟩))).eval (.tmp 1)=.pointer (some ⟨w0.heap.size,0,none⟩):=aW (by rw[qs];decide);have qs1:(a.put (some 1) (.pointer (some ⟨w0.heap.size,0,none⟩))).tmps.size=20:=size_put.trans qs;have qd1:(a.put (some 1) (.pointer (some ⟨w0.heap.size,0,none⟩))).defers=[]:=cD.trans qd;generalize a.put (some 1) (.pointer (some ⟨w0.heap.size,0,none⟩))=a1 at *;refine Goes.IY (ops:=g0 f13) (i:=1) (rest:=[]) rfl rfl (by decide) (dd:=some 2) rfl (v:= .slice none 0 0) (nw:=λw=>w) (λd=>rfl) (λd=>rfl) (λd1=>?_);have p1':(a1.put (some 2) (.slice none 0 0)).eval (.tmp 1)=.pointer (some ⟨w0.heap.size,0,none⟩):=(aB (by decide)).trans p1;have qs2:(a1.put (some 2) (.slice none 0 0)).tmps.size=20:=size_put.trans qs1;have qd2:(a1.put (some 2) (.slice none 0 0)).defers=[]:=cD.trans qd1;generalize a1.put (some 2) (.slice none 0 0)=a2 at *;replace hs1:(w1.at d1).heap.size=w0.heap.size+1:=hs1;replace Vp:∀b,b<w0.heap.size→(w1.at d1).heap[b]?=w0.heap[b]?:=Vp;replace hx1:(w1.at d1).heap[w0.heap.size]?=some (.cells #[.string ⟨⟨s⟩⟩] 9):=hx1;replace FD:(w1.at d1).tape=w0.tape∧(w1.at d1).os=w0.os∧(w1.at d1).output=w0.output:=FD;generalize w1.at d1=w2 at *;refine Goes.ctl rfl (λ_=>zaX) ?_;refine Goes.ctl rfl (λ_=>zaR (x:= .region 1 (g1 f13) false) (y:=D2 f13)) ?_;refine Goes.ctl rfl (λ_=>zaU) ?_;refine Goes.IY (ops:=g1 f13) (i:=0) (rest:=[1,2]) rfl rfl (by decide) (dd:=some 7) rfl (v:= .chan (some w2.heap.size)) (nw:=λw=>w.alloc (.chan 0 #[] false 0 0 false)) (λd=>?_) (λd=>?_) (λd2=>?_)
 ·have hop:(g1 f13)[0].op=.makeChan 77 (.const (.int .i64 0)):=rfl;unfold Θ;simp only[hop,Act.eval,zbb,(mkc _).1,zbc,zbf];rfl
 ·have hop:(g1 f13)[0].op=.makeChan 77 (.const (.int .i64 0)):=rfl;unfold Θ;simp only[hop,Act.eval,Sem.events_bind,(mkc _).1,(mkc _).2,Result.evThen_ok,Sem.events_pure]
 rw[hs1];have p7:(a2.put (some 7) (.chan (some (w0.heap.size+1)))).eval (.tmp 7)=.chan (some (w0.heap.size+1)):=aW (by rw[qs2];decide);have p1a:(a2.put (some 7) (.chan (some (w0.heap.size+1)))).eval (.tmp 1)=.pointer (some ⟨w0.heap.size,0,none⟩):=(aB (by decide)).trans p1';have qs3:(a2.put (some 7) (.chan (some (w0.heap.size+1)))).tmps.size=20:=size_put.trans qs2;have qd3:(a2.put (some 7) (.chan (some (w0.heap.size+1)))).defers=[]:=cD.trans qd2;generalize a2.put (some 7) (.chan (some (w0.heap.size+1)))=a3 at *;have hs2:((w2.at d2).alloc (.chan 0 #[] false 0 0 false)).heap.size=w0.heap.size+2:=(bJ _ _).trans (zal (· + 1) hs1);have Vy:∀b,b<w0.heap.size→((w2.at d2).alloc (.chan 0 #[] false 0 0 false)).heap[b]?=w0.heap[b]?:=λb h=>(gA (H:=w2.heap) (by omega)).trans (Vp b h);have hx2:((w2.at d2).alloc (.chan 0 #[] false 0 0 false)).heap[w0.heap.size]?=some (.cells #[.string ⟨⟨s⟩⟩] 9):=(gA (H:=w2.heap) (by omega)).trans hx1;have hc2:((w2.at d2).alloc (.chan 0 #[] false 0 0 false)).heap[w0.heap.size+1]?=some (.chan 0 #[] false 0 0 false):=ru (H:=w2.heap) hs1.symm;have PS:((w2.at d2).alloc (.chan 0 #[] false 0 0 false)).tape=w0.tape∧((w2.at d2).alloc (.chan 0 #[] false 0 0 false)).os=w0.os∧((w2.at d2).alloc (.chan 0 #[] false 0 0 false)).output=w0.output:=FD;generalize (w2.at d2).alloc (.chan 0 #[] false 0 0 false)=w3 at *;obtain⟨i77,Tl,PT⟩:=zav.1 Me;simp only[zah]at PT;refine Goes.IY (ops:=g1 f13) (i:=1) (rest:=[2]) rfl rfl (by decide) (dd:=some 3) rfl (v:= .pointer (some ⟨w3.heap.size,0,none⟩)) (nw:=λw=>w.alloc (.cells #[.chan none] 77)) (λd=>?_) (λd=>?_) (λd3=>?_)
 ·have hop:(g1 f13)[1].op=.alloc 77:=rfl;unfold Θ;simp only[hop,zbb,(Vx Tl PT.2 _).1,zbc,zbf];rfl
 ·have hop:(g1 f13)[1].op=.alloc 77:=rfl;unfold Θ;simp only[hop,Sem.events_bind,(Vx Tl PT.2 _).1,(Vx Tl PT.2 _).2,Result.evThen_ok,Sem.events_pure]
 rw[hs2];have p3:(a3.put (some 3) (.pointer (some ⟨w0.heap.size+2,0,none⟩))).eval (.tmp 3)=.pointer (some ⟨w0.heap.size+2,0,none⟩):=aW (by rw[qs3];decide);have p7b:(a3.put (some 3) (.pointer (some ⟨w0.heap.size+2,0,none⟩))).eval (.tmp 7)=.chan (some (w0.heap.size+1)):=(aB (by decide)).trans p7;have p1b:(a3.put (some 3) (.pointer (some ⟨w0.heap.size+2,0,none⟩))).eval (.tmp 1)=.pointer (some ⟨w0.heap.size,0,none⟩):=(aB (by decide)).trans p1a;have qs4:(a3.put (some 3) (.pointer (some ⟨w0.heap.size+2,0,none⟩))).tmps.size=20:=size_put.trans qs3;have qd4:(a3.put (some 3) (.pointer (some ⟨w0.heap.size+2,0,none⟩))).defers=[]:=cD.trans qd3;generalize a3.put (some 3) (.pointer (some ⟨w0.heap.size+2,0,none⟩))=a4 at *;have hs3:((w3.at d3).alloc (.cells #[.chan none] 77)).heap.size=w0.heap.size+3:=(bJ _ _).trans (zal (· + 1) hs2);have ho3:∀b,b<w0.heap.size→((w3.at d3).alloc (.cells #[.chan none] 77)).heap[b]?=w0.heap[b]?:=λb h=>(gA (H:=w3.heap) (by omega)).trans (Vy b h);have hx3:((w3.at d3).alloc (.cells #[.chan none] 77)).heap[w0.heap.size]?=some (.cells #[.string ⟨⟨s⟩⟩] 9):=(gA (H:=w3.heap) (by omega)).trans hx2;have hc3:((w3.at d3).alloc (.cells #[.chan none] 77)).heap[w0.heap.size+1]?=some (.chan 0 #[] false 0 0 false):=(gA (H:=w3.heap) (by omega)).trans hc2;have hy3:((w3.at d3).alloc (.cells #[.chan none] 77)).heap[w0.heap.size+2]?=some (.cells #[.chan none] 77):=ru (H:=w3.heap) hs2.symm;have ht3:((w3.at d3).alloc (.cells #[.chan none] 77)).tape=w0.tape∧((w3.at d3).alloc (.cells #[.chan none] 77)).os=w0.os∧((w3.at d3).alloc (.cells #[.chan none] 77)).output=w0.output:=PS;generalize (w3.at d3).alloc (.cells #[.chan none] 77)=w4 at *;refine Goes.opn (ops:=g1 f13) (i:=2) (rest:=[]) rfl rfl (by decide) (dd:=none) rfl (nw:=λw=>w.setCell ⟨w0.heap.size+2,0,none⟩ (.chan (some (w0.heap.size+1)))) (es:=#[⟨.cell ⟨w0.heap.size+2,0,none⟩,true,false⟩]) (λd=>?_) (λd=>?_) (λe he=>?_) (λd4=>?_)
 ·have hop:(g1 f13)[2].op=.store 77 (.tmp 3) (.tmp 7):=rfl;have hq:(w4.at d).heap[w0.heap.size+2]?=some (.cells #[.chan none] 77):=hy3;unfold Θ;simp only[hop,p3,p7b,zbb,(stz hq).1,zbc,zbf]
 ·have hop:(g1 f13)[2].op=.store 77 (.tmp 3) (.tmp 7):=rfl;have hq:(w4.at d).heap[w0.heap.size+2]?=some (.cells #[.chan none] 77):=hy3;unfold Θ;simp only[hop,p3,p7b,Sem.events_bind,(stz hq).1,(stz hq).2,Result.evThen_ok,Sem.events_pure]
 ·simp only[zbX,zaI,zbY,or_false]at he;subst he;refine⟨λx hx hz=>?_,by simp,by simp,?_⟩
  ·simp only[MemAct.ofEvent,MemAct.touch?]at hx;cases hx;exact absurd hz hZ
  ·exact hB
 rw[wA];have KD:((w4.at d4).setCell ⟨w0.heap.size+2,0,none⟩ (.chan (some (w0.heap.size+1)))).heap.size=w0.heap.size+3:=by
  show(Array.modify w4.heap _ _).size=_;rw[Array.size_modify];exact hs3
 have ho4:∀b,b<w0.heap.size→((w4.at d4).setCell ⟨w0.heap.size+2,0,none⟩ (.chan (some (w0.heap.size+1)))).heap[b]?=w0.heap[b]?:=λb h=>(zay _ _ _ b (by show b≠w0.heap.size+2;omega)).trans (ho3 b h);have Vz:((w4.at d4).setCell ⟨w0.heap.size+2,0,none⟩ (.chan (some (w0.heap.size+1)))).heap[w0.heap.size]?=some (.cells #[.string ⟨⟨s⟩⟩] 9):=(zay _ _ _ _ (by show w0.heap.size≠w0.heap.size+2;omega)).trans hx3;have hc4:((w4.at d4).setCell ⟨w0.heap.size+2,0,none⟩ (.chan (some (w0.heap.size+1)))).heap[w0.heap.size+1]?=some (.chan 0 #[] false 0 0 false):=(zay _ _ _ _ (by show w0.heap.size+1≠w0.heap.size+2;omega)).trans hc3;have hy4:((w4.at d4).setCell ⟨w0.heap.size+2,0,none⟩ (.chan (some (w0.heap.size+1)))).heap[w0.heap.size+2]?=some (.cells #[.chan (some (w0.heap.size+1))] 77):=one_setCell (w:=w4.at d4) hy3;have ht4:((w4.at d4).setCell ⟨w0.heap.size+2,0,none⟩ (.chan (some (w0.heap.size+1)))).tape=w0.tape∧((w4.at d4).setCell ⟨w0.heap.size+2,0,none⟩ (.chan (some (w0.heap.size+1)))).os=w0.os∧((w4.at d4).setCell ⟨w0.heap.size+2,0,none⟩ (.chan (some (w0.heap.size+1)))).output=w0.output:=ht3;generalize (w4.at d4).setCell ⟨w0.heap.size+2,0,none⟩ (.chan (some (w0.heap.size+1)))=w5 at *;refine Goes.ctl rfl (λ_=>zaX) ?_;refine Goes.ctl rfl (λ_=>zaR (x:= .region 2 (g2 f13) false) (y:=D3 f13)) ?_;refine Goes.ctl rfl (λ_=>zaU) ?_;obtain⟨i87,Tn,acD⟩:=zav.1 Ti;obtain⟨z87,Tq,X9⟩:=zav.1 acD;refine Goes.IY (ops:=g2 f13) (i:=0) (rest:=[]) rfl rfl (by decide) (dd:=some 4) rfl (v:= .pointer (some ⟨w5.heap.size,0,none⟩)) (nw:=λw=>w.alloc (wgBlock cv.tWg 0 0)) (λd=>?_) (λd=>?_) (λd5=>?_)
 ·have hop:(g2 f13)[0].op=.alloc 87:=rfl;unfold Θ;simp only[hop,zbb,(Vx Tn Tq _).1,zbc,zbf,X9];rfl
 ·have hop:(g2 f13)[0].op=.alloc 87:=rfl;unfold Θ;simp only[hop,Sem.events_bind,(Vx Tn Tq _).1,(Vx Tn Tq _).2,Result.evThen_ok,Sem.events_pure]
 rw[KD];have gb:GB (a4.put (some 4) (.pointer (some ⟨w0.heap.size+3,0,none⟩))) w0.heap.size:=⟨size_put.trans qs4,(aB (by decide)).trans p1b,(aB (by decide)).trans p3,aW (by rw[qs4];decide),cD.trans qd4⟩;generalize a4.put (some 4) (.pointer (some ⟨w0.heap.size+3,0,none⟩))=a5 at *;have hl:Laid s w0 ((w5.at d5).alloc (wgBlock cv.tWg 0 0)):=⟨(bJ _ _).trans (zal (· + 1) KD),λb h=>(gA (H:=w5.heap) (by omega)).trans (ho4 b h),(gA (H:=w5.heap) (by omega)).trans Vz,(gA (H:=w5.heap) (by omega)).trans hc4,(gA (H:=w5.heap) (by omega)).trans hy4,ht4.1,ht4.2.1,ht4.2.2⟩;have EW:WgAt cv.tWg (w0.heap.size+3) ((w5.at d5).alloc (wgBlock cv.tWg 0 0)) 0 0:=ru (H:=w5.heap) KD.symm;generalize (w5.at d5).alloc (wgBlock cv.tWg 0 0)=w6 at *;refine Goes.ctl rfl (λ_=>zaX) ?_;refine Goes.ctl rfl (λ_=>zaR (x:= .region 3 (g3 f13) false) (y:=D4 f13)) ?_;refine Goes.ctl rfl (λ_=>zaU) ?_;refine Goes.ctl rfl (λ_=>jB (ops:=g3 f13) (i:=0) (rest:=[]) (f:=23) (args:=#[.pointer (some ⟨w0.heap.size+3,0,none⟩),.int .i64 1]) rfl rfl (by decide) rfl (by have h4:=gb.s4;simp only[zbR,zaC,zbv,h4];rfl)) ?_;refine Goes.stop λw₁ h₁=>?_;obtain⟨d6,rfl⟩:=h₁;exact⟨a5,gb,rfl,⟨hl.size,hl.old,hl.txt,hl.chan,hl.box,hl.tape,hl.os,hl.output⟩,EW⟩
end Go.Ren
