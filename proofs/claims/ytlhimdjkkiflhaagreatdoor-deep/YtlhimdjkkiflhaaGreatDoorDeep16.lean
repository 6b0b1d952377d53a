import Derived.Deep.DeepAppendWide
import Derived.Test.YtlhimdjkkiflhaaGreatDoorDeep15
set_option linter.unusedSectionVars false
namespace Go.Ren
open Go Go.Conc Go.ConcX Go.RowKit Go.Conc.Lib Go.ConcX.Gen Go.Proofs Go.Loop
theorem fill53 (t:Tok):Instr.fill (fun i=>some (i*7,7)) (Array.map (fun x=>(tokV ⟨0,0,0,[],0,0,0⟩).cells[x%(tokV ⟨0,0,0,[],0,0,0⟩).cells.size]!) (Array.range 7)) [(0,tokV t)]=some (tokC t):=by kernel_rfl
theorem build53 (t:Tok)(w:World):(Instr.buildSlice 85 1 #[(0,tokV t)]).run Tryz.prog w= .ok (.slice (some ⟨w.heap.size,0,none⟩) 1 1) (w.alloc (.cells (tokC t) 131)):=by
 obtain⟨i,hi,he⟩:=Option.map_eq_some_iff.1 info76
 simp only[Prod.mk.injEq] at he
 have hu:Tryz.prog.underlying 85=some (.slice 131):=by kernel_rfl
 simp[Instr.buildSlice,run_underlying hu,sizeOf,typeInfo,hi,he.1,he.2,zeroValue,newRow,fill53]
theorem bytes76:(Tryz.prog.info? 131).map (fun i=>i.bytes)=some 64:=by kernel_rfl
theorem append53 {o:Oper}{x y:Operand}(hop:o.op= .call { callee:= .builtin .append,args:=#[x,y],argTypes:=#[85,85] }){ev:Operand→Value}{w:World}{v:Value}{n:Nat}{xs:List Value}(hown:w.ownsRow Tryz.prog.globals.size 131 7 v n xs)(hb:Tryz.prog.globals.size≤w.heap.size)(hn:n+1≤1000000)
 {t:Tok}{r:Nat}(hr:w.heap[r]? =some (.cells (tokC t) 131))(hx:ev x=v)(hy:ev y= .slice (some ⟨r,0,none⟩) 1 1):
 ∃ v' w',(execOp ev o).run Tryz.prog w= .ok (.value v') w'∧w'.ownsRow Tryz.prog.globals.size 131 7 v' (n+1) (xs++(tokC t).toList):=by
 obtain⟨i,hi,he⟩:=Option.map_eq_some_iff.1 info76
 simp only[Prod.mk.injEq] at he
 have hu:Tryz.prog.underlying 85=some (.slice 131):=by kernel_rfl
 have hby:i.bytes=64:=by have:=bytes76;rw[hi] at this;simpa using this
 obtain⟨v',w',h1,h2,_⟩:=run_append_own_wide (P:=Tryz.prog) (w:=w) Tryz.prog.globals.size 85 o.type 131 i _ 7 64 hu hi he.2 he.1 hby rfl (by decide) v n xs hown ⟨r,0,none⟩ 1 1 (tokC t).toList rfl (fun j u hj=>by
  rw[Addr.add_mid]
  simp only[World.cell?,hr]
  simpa using hj) (fun u hu=>by
   have:=one76 t
   rw[Array.all_eq_true_iff_forall_mem] at this
   exact this u (by simpa using hu)) (by simp only[maxLen];omega) (by omega) hb
 refine⟨v',w',?_,h2⟩
 unfold execOp
 simp only[hop,resolve,invoke,builtin,Sem.run_bind,Sem.run_pure,Result.andThen_ok,List.map_toArray,List.map_cons,List.map_nil,hx,hy,h1]
def dC:Nat→Code→Code
 |0,c=>c
 |n+1,c=>dC n (sndC c)
def D5 (f:Func):Code:=dC 5 (c24 f)
def D6 (f:Func):Code:=dC 6 (c24 f)
def D10 (f:Func):Code:=dC 7 (c24 f)
def D11 (f:Func):Code:=dC 8 (c24 f)
def g5 (f:Func):Array Oper:=opsC (fstC (D5 f))
def g6 (f:Func):Array Oper:=opsC (fstC (fstC (D6 f)))
def Lg (f:Func):Code:=lopC (blkC (sndC (fstC (D6 f))))
def g7 (f:Func):Array Oper:=opsC (fstC (Lg f))
def Mg (f:Func):Code:=blkC (sndC (sndC (Lg f)))
def g8 (f:Func):Array Oper:=opsC (fstC (Mg f))
def g9 (f:Func):Array Oper:=opsC (sndC (Mg f))
def g10 (f:Func):Array Oper:=opsC (fstC (D10 f))
def g11 (f:Func):Array Oper:=opsC (fstC (D11 f))
def kG (f:Func):List Item:=[.inLoop (Lg f),.inBlock 0,.code (D10 f)]
def zTok:Tok:=⟨0,0,0,[],0,0,0⟩
structure GtA (a:Act) (X Y Wg ch:Nat):Prop where
 size:a.tmps.size=20
 s1:a.eval (.tmp 1)= .pointer (some ⟨X,0,none⟩)
 s3:a.eval (.tmp 3)= .pointer (some ⟨Y,0,none⟩)
 s4:a.eval (.tmp 4)= .pointer (some ⟨Wg,0,none⟩)
 s10:a.eval (.tmp 10)= .chan (some ch)
 defers:a.defers=[]
variable {Wg Low ch X Y:Nat} {x y:Pay Wg Low} {ro own:Nat→Prop} {cs:List Frame}
theorem GtA.put {a:Act}(h:GtA a X Y Wg ch){t:Tmp}{v:Value}(h1:t≠1)(h3:t≠3)(h4:t≠4)(h10:t≠10):GtA (a.put (some t) v) X Y Wg ch:=
 ⟨size_put.trans h.size,(ev_put_ne h1).trans h.s1,(ev_put_ne h3).trans h.s3,(ev_put_ne h4).trans h.s4,(ev_put_ne h10).trans h.s10,defers_put.trans h.defers⟩
structure GR (ro:Nat→Prop) (X Y Wg ch:Nat) (xs:List Tok) (own:Nat→Prop) (a:Act) (W:World):Prop where
 ga:GtA a X Y Wg ch
 row:∃ ρ w v,At Tryz.prog Sc ro ρ w W own∧a.eval (.tmp 5)=rv ρ v∧Cl Tryz.prog Sc w v∧w.ownsRow Tryz.prog.globals.size 131 7 v xs.length (xs.flatMap fun t=>(tokC t).toList)
theorem fl_snoc (xs:List Tok)(t:Tok):(xs++[t]).flatMap (fun t=>(tokC t).toList)=xs.flatMap (fun t=>(tokC t).toList)++(tokC t).toList:=by simp
theorem recv_op (a:Act)(W:World)(h:a.eval (.tmp 10)= .chan (some ch)):(execOp a.eval (g7 Tryz.f43)[0]).run Tryz.prog W= .ok (.comm #[rcase ch (tokV zTok)] true (.recv true)) W∧(execOp a.eval (g7 Tryz.f43)[0]).events Tryz.prog W #[]=#[]:=by
 obtain⟨i,hi,he⟩:=Option.map_eq_some_iff.1 info76
 simp only[Prod.mk.injEq] at he
 obtain⟨dir,hu⟩:∃ dir,Tryz.prog.underlying 132=some (.chan dir 131):=⟨_,Tryz.underlying132⟩
 have hop:(g7 Tryz.f43)[0].op= .recv 132 (.tmp 10) true:=rfl
 constructor
 ·unfold execOp
  simp[hop,run_underlying hu,zeroValue,typeInfo,hi,he.2,h,rcase,zTok]
 ·unfold execOp
  simp[hop,run_underlying hu,zeroValue,typeInfo,hi,he.2]
theorem recv_at (a:Act)(W:World)(h:a.eval (.tmp 10)= .chan (some ch)):stepG Tryz.prog true (G ((base 43).at a (.inRegion (g7 Tryz.f43) [0,1]:: .code (sndC (Lg Tryz.f43))::kG Tryz.f43)) cs) W= .comm (core (G ((base 43).at a (.inRegion (g7 Tryz.f43) [0,1]:: .code (sndC (Lg Tryz.f43))::kG Tryz.f43)) cs)) #[rcase ch (tokV zTok)] true (.recv true) W #[]:=by
 obtain⟨h1,h2⟩:=recv_op a W h
 rw[stepG_comm (ops:=g7 Tryz.f43) (i:=0) (rest:=[1]) rfl rfl (by decide) h1,listed_none h2]
 rfl
theorem GR.rely {W W₁:World}{xs:List Tok}{a:Act}(h:GR ro X Y Wg ch xs own a W)(hr:Rely ro own W W₁):GR ro X Y Wg ch xs own a W₁:=by
 obtain⟨ρ,w,v,hA,h5,hcl,hrow⟩:=h.row
 obtain⟨hA1,hO1⟩:=hA.rely hr
 exact⟨h.ga,_,w,v,hA1,by rw[h5];exact(hcl.agree hO1.agree (rv_f hA.sim hA1.sim)).symm,hcl,hrow⟩
set_option maxRecDepth 10000 in
theorem recv_loop {Fin:(Nat→Prop)→Goroutine→World→Prop}(ts:List Tok)
 :∀ (xs:List Tok) (own:Nat→Prop) (a:Act) (W:World),GR ro X Y Wg ch xs own a W→xs.length+ts.length≤1000000→
  (∀ own a W,GR ro X Y Wg ch (xs++ts) own a W→Fin own (G ((base 43).at (a.put (some 11) (.tuple #[tokV zTok,.bool false])) (.inRegion (g7 Tryz.f43) [1]:: .code (sndC (Lg Tryz.f43))::kG Tryz.f43)) cs) W)→
  RecvsW Tryz.prog ro ch (tokV zTok) Fin (ts.map tokV) own (G ((base 43).at a (.code (Lg Tryz.f43)::kG Tryz.f43)) cs) W:=by
 induction ts with
 |nil=>
  intro xs own a W h _ hF
  rw[recvsW_iff]
  refine Walks.silent rfl (fun _=>stepG_seq (x:= .region 7 (g7 Tryz.f43) false) (y:=sndC (Lg Tryz.f43))) ?_
  refine Walks.silent rfl (fun _=>stepG_region) ?_
  refine .stop fun W₁ hr=>?_
  have h1:=h.rely hr
  refine⟨rfl,recv_at a W₁ h.ga.s10,?_⟩
  show Fin own (G (((base 43).at a (.inRegion (g7 Tryz.f43) [0,1]:: .code (sndC (Lg Tryz.f43))::kG Tryz.f43)).finish _) cs) W₁
  rw[Frame.finish_at]
  exact hF own a W₁ (by simpa using h1)
 |cons t ts ih=>
  intro xs own a W h hlen hF
  rw[recvsW_iff]
  refine Walks.silent rfl (fun _=>stepG_seq (x:= .region 7 (g7 Tryz.f43) false) (y:=sndC (Lg Tryz.f43))) ?_
  refine Walks.silent rfl (fun _=>stepG_region) ?_
  refine .stop fun W₁ hr=>?_
  have h1:=h.rely hr
  refine⟨rfl,recv_at a W₁ h.ga.s10,?_⟩
  show RecvsW _ _ _ _ _ _ own (G (((base 43).at a (.inRegion (g7 Tryz.f43) [0,1]:: .code (sndC (Lg Tryz.f43))::kG Tryz.f43)).finish _) cs) W₁
  rw[Frame.finish_at,recvsW_iff]
  change Walks _ _ _ _ _ (G ((base 43).at (a.put (some 11) (.tuple #[tokV t,.bool true])) (.inRegion (g7 Tryz.f43) [1]:: .code (sndC (Lg Tryz.f43))::kG Tryz.f43)) cs) W₁
  clear h hr
  obtain⟨hg,ρ,w,v,hA,h5,hcl,hrow⟩:=h1
  have hg1:=hg.put (t:=11) (v:= .tuple #[tokV t,.bool true]) (by decide) (by decide) (by decide) (by decide)
  have k11:(a.put (some 11) (.tuple #[tokV t,.bool true])).eval (.tmp 11)= .tuple #[tokV t,.bool true]:=ev_put_eq (by rw[hg.size];decide)
  have k5:(a.put (some 11) (.tuple #[tokV t,.bool true])).eval (.tmp 5)=rv ρ v:=(ev_put_ne (by decide)).trans h5
  generalize a.put (some 11) (.tuple #[tokV t,.bool true])=a1 at *
  refine Walks.extr (ops:=g7 Tryz.f43) (i:=1) (rest:=[]) rfl rfl (by decide) (dd:=some 12) rfl rfl k11 (v:= .bool true) rfl ?_
  have hg2:=hg1.put (t:=12) (v:= .bool true) (by decide) (by decide) (by decide) (by decide)
  have k12:(a1.put (some 12) (.bool true)).eval (.tmp 12)= .bool true:=ev_put_eq (by rw[hg1.size];decide)
  replace k11:(a1.put (some 12) (.bool true)).eval (.tmp 11)= .tuple #[tokV t,.bool true]:=(ev_put_ne (by decide)).trans k11
  replace k5:(a1.put (some 12) (.bool true)).eval (.tmp 5)=rv ρ v:=(ev_put_ne (by decide)).trans k5
  generalize a1.put (some 12) (.bool true)=a2 at *
  refine Walks.silent rfl (fun _=>stepG_region_end) ?_
  refine Walks.silent rfl (fun _=>stepG_seq (x:= .cond (.tmp 12) .skip (.exit 0)) (y:= .block 1 (Mg Tryz.f43))) ?_
  refine Walks.silent rfl (fun _=>stepG_cond k12) ?_
  refine Walks.silent rfl (fun _=>stepG_skip) ?_
  refine Walks.silent rfl (fun _=>stepG_block) ?_
  refine Walks.silent rfl (fun _=>stepG_seq (x:= .region 8 (g8 Tryz.f43) false) (y:= .region 9 (g9 Tryz.f43) false)) ?_
  refine Walks.silent rfl (fun _=>stepG_region) ?_
  refine Walks.extr (ops:=g8 Tryz.f43) (i:=0) (rest:=[1,2]) rfl rfl (by decide) (dd:=some 13) rfl rfl k11 (v:=tokV t) rfl ?_
  have hg3:=hg2.put (t:=13) (v:=tokV t) (by decide) (by decide) (by decide) (by decide)
  have k13:(a2.put (some 13) (tokV t)).eval (.tmp 13)=tokV t:=ev_put_eq (by rw[hg2.size];decide)
  replace k5:(a2.put (some 13) (tokV t)).eval (.tmp 5)=rv ρ v:=(ev_put_ne (by decide)).trans k5
  generalize a2.put (some 13) (tokV t)=a3 at *
  obtain⟨i76,hi76,he76⟩:=Option.map_eq_some_iff.1 info76
  simp only[Prod.mk.injEq] at he76
  have hgw:Tryz.prog.globals.size≤w.heap.size:=hA.sim.wr.big.p
  refine Walks.allocT clozc (ops:=g8 Tryz.f43) (i:=1) (rest:=[2]) rfl rfl (by decide) (dd:=some 6) rfl rfl hi76 he76.2 hA ?_
  intro w1 ρ1 W2 own2 e1 hA1 hO1
  have hs1:w1.heap.size=w.heap.size:=by rw[e1]
  have hv1:rv ρ1 v=rv ρ v:=hcl.agree hO1.agree (rv_f hA.sim hA1.sim)
  have hcl1:Cl Tryz.prog Sc w1 v:=by unfold Cl at hcl ⊢;rw[hs1];exact hcl
  have hrow1:w1.ownsRow Tryz.prog.globals.size 131 7 v xs.length (xs.flatMap fun t=>(tokC t).toList):=by unfold World.ownsRow at hrow ⊢;rw[e1];exact hrow
  rw[←hs1]
  have hg4:=hg3.put (t:=6) (v:= .pointer (some ⟨ρ1 w1.heap.size,0,none⟩)) (by decide) (by decide) (by decide) (by decide)
  have k6:(a3.put (some 6) (.pointer (some ⟨ρ1 w1.heap.size,0,none⟩))).eval (.tmp 6)= .pointer (some ⟨ρ1 w1.heap.size,0,none⟩):=ev_put_eq (by rw[hg3.size];decide)
  replace k13:(a3.put (some 6) (.pointer (some ⟨ρ1 w1.heap.size,0,none⟩))).eval (.tmp 13)=tokV t:=(ev_put_ne (by decide)).trans k13
  replace k5:(a3.put (some 6) (.pointer (some ⟨ρ1 w1.heap.size,0,none⟩))).eval (.tmp 5)=rv ρ1 v:=((ev_put_ne (by decide)).trans k5).trans hv1.symm
  generalize a3.put (some 6) (.pointer (some ⟨ρ1 w1.heap.size,0,none⟩))=a4 at *
  have hgw1:Tryz.prog.globals.size≤w1.heap.size:=by omega
  refine Walks.storeT clozc (ops:=g8 Tryz.f43) (i:=2) (rest:=[]) rfl rfl (by decide) (dd:=none) rfl (s:=6) (t:=13) (by decide) rfl (c:=tokC ⟨0,0,0,[],0,0,0⟩) (c':=tokC t) (size76 _) rfl (one76 _) hA1 k6 (by rw[k13];exact(tokV_bare _ _).symm) (tokV_bare _ _) hgw1 ?_
  intro w2 ρ2 W3 own3 e2 hA2 hO2
  rw[put_none]
  have hs2:w2.heap.size=w1.heap.size:=by rw[e2]
  have hr2:ρ2 w2.heap.size=ρ1 w1.heap.size:=by rw[hs2];exact hO2.agree _ (by rw[alloc_size];omega)
  have hv2:rv ρ2 v=rv ρ1 v:=hcl1.agree (fun r hr=>hO2.agree r (by rw[alloc_size];omega)) (rv_f hA1.sim hA2.sim)
  have hcl2:Cl Tryz.prog Sc w2 v:=by unfold Cl at hcl1 ⊢;rw[hs2];exact hcl1
  have hrow2:w2.ownsRow Tryz.prog.globals.size 131 7 v xs.length (xs.flatMap fun t=>(tokC t).toList):=by unfold World.ownsRow at hrow1 ⊢;rw[e2];exact hrow1
  rw[←hr2] at k6
  rw[←hv2] at k5
  have hgw2:Tryz.prog.globals.size≤w2.heap.size:=by omega
  refine Walks.silent rfl (fun _=>stepG_region_end) ?_
  refine Walks.silent rfl (fun _=>stepG_region) ?_
  refine Walks.mv (ops:=g9 Tryz.f43) (i:=0) (rest:=[1,2,3,4]) rfl rfl (by decide) (dd:=some 14) rfl (.inl rfl) k5 ?_
  have hg5:=hg4.put (t:=14) (v:=rv ρ2 v) (by decide) (by decide) (by decide) (by decide)
  have k14:(a4.put (some 14) (rv ρ2 v)).eval (.tmp 14)=rv ρ2 v:=ev_put_eq (by rw[hg4.size];decide)
  replace k6:(a4.put (some 14) (rv ρ2 v)).eval (.tmp 6)= .pointer (some ⟨ρ2 w2.heap.size,0,none⟩):=(ev_put_ne (by decide)).trans k6
  generalize a4.put (some 14) (rv ρ2 v)=a5 at *
  refine Walks.loadT clozc (ops:=g9 Tryz.f43) (i:=1) (rest:=[2,3,4]) rfl rfl (by decide) (dd:=some 15) rfl (s:=6) rfl Tryz.underlying131 rfl (size76 _) hA2 k6 hgw2 ?_
  intro w3 ρ3 W4 own4 e3 hA3 hO3
  have hs3:w3.heap.size=w2.heap.size:=by rw[e3]
  have hv3:rv ρ3 v=rv ρ2 v:=hcl2.agree (fun r hr=>hO3.agree r (by rw[alloc_size];omega)) (rv_f hA2.sim hA3.sim)
  have hcl3:Cl Tryz.prog Sc w3 v:=by unfold Cl at hcl2 ⊢;rw[hs3];exact hcl2
  have hrow3:w3.ownsRow Tryz.prog.globals.size 131 7 v xs.length (xs.flatMap fun t=>(tokC t).toList):=by unfold World.ownsRow at hrow2 ⊢;rw[e3];exact hrow2
  rw[←hv3] at k14
  have hgw3:Tryz.prog.globals.size≤w3.heap.size:=by omega
  rw[show rv ρ3 (.agg (tokC t))=tokV t from tokV_bare _ _]
  have hg6:=hg5.put (t:=15) (v:=tokV t) (by decide) (by decide) (by decide) (by decide)
  have k15:(a5.put (some 15) (tokV t)).eval (.tmp 15)=tokV t:=ev_put_eq (by rw[hg5.size];decide)
  replace k14:(a5.put (some 15) (tokV t)).eval (.tmp 14)=rv ρ3 v:=(ev_put_ne (by decide)).trans k14
  generalize a5.put (some 15) (tokV t)=a6 at *
  have hrow4:(w3.alloc (.cells (tokC t) 131)).ownsRow Tryz.prog.globals.size 131 7 v xs.length (xs.flatMap fun t=>(tokC t).toList):=hrow3.alloc _
  have hcl4:Cl Tryz.prog Sc (w3.alloc (.cells (tokC t) 131)) v:=hcl3.mono (by rw[alloc_size];omega)
  have hgw4:Tryz.prog.globals.size≤(w3.alloc (.cells (tokC t) 131)).heap.size:=by rw[alloc_size];omega
  generalize w3.alloc (.cells (tokC t) 131)=w4 at hA3 hrow4 hcl4 hgw4
  refine Walks.opv' clozc (ops:=g9 Tryz.f43) (i:=2) (rest:=[3,4]) (by rw[show(g9 Tryz.f43)[2].op= .buildSlice 85 1 #[(0,.tmp 15)] from rfl];simp[okOp,okX]) rfl rfl (by decide) (T:=fun _=>tokV t) (fun _=>tokV_bare _ _) hA3 ?_ (v:=fun w₀=> .slice (some ⟨w₀.heap.size,0,none⟩) 1 1) (o':=fun w₀=>w₀.alloc (.cells (tokC t) 131)) ?_ ?_
  ·have hop:(g9 Tryz.f43)[2].op= .buildSlice 85 1 #[(0,.tmp 15)]:=rfl
   unfold execOp
   rw[hop]
   simp only[List.map_toArray,List.map_cons,List.map_nil,evOf,k15,tokV_bare t ρ3]
  ·intro τ d
   have hop:(g9 Tryz.f43)[2].op= .buildSlice 85 1 #[(0,.tmp 15)]:=rfl
   unfold execOp
   simp only[hop,List.map_toArray,List.map_cons,List.map_nil,evOf,Sem.run_bind,build53,Result.andThen_ok,Sem.run_pure]
  intro w5 ρ5 W5 own5 e5 hA5 hO5 hcl5
  have hs5:w5.heap.size=w4.heap.size:=by rw[e5]
  have hv5:rv ρ5 v=rv ρ3 v:=hcl4.agree hO5.agree (rv_f hA3.sim hA5.sim)
  have hrow5:(w5.alloc (.cells (tokC t) 131)).ownsRow Tryz.prog.globals.size 131 7 v xs.length (xs.flatMap fun t=>(tokC t).toList):=by
   refine World.ownsRow.alloc ?_ _
   unfold World.ownsRow at hrow4 ⊢;rw[e5];exact hrow4
  have hcl6:Cl Tryz.prog Sc (w5.alloc (.cells (tokC t) 131)) v:=hcl4.mono (by rw[alloc_size];omega)
  rw[←hv5] at k14
  change Walks _ _ _ _ _ (G ((base 43).at (a6.put (some 16) (rv ρ5 (.slice (some ⟨w5.heap.size,0,none⟩) 1 1))) _) _) _
  have hg7:=hg6.put (t:=16) (v:=rv ρ5 (.slice (some ⟨w5.heap.size,0,none⟩) 1 1)) (by decide) (by decide) (by decide) (by decide)
  have k16:(a6.put (some 16) (rv ρ5 (.slice (some ⟨w5.heap.size,0,none⟩) 1 1))).eval (.tmp 16)=rv ρ5 (.slice (some ⟨w5.heap.size,0,none⟩) 1 1):=ev_put_eq (by rw[hg6.size];decide)
  replace k14:(a6.put (some 16) (rv ρ5 (.slice (some ⟨w5.heap.size,0,none⟩) 1 1))).eval (.tmp 14)=rv ρ5 v:=(ev_put_ne (by decide)).trans k14
  generalize a6.put (some 16) (rv ρ5 (.slice (some ⟨w5.heap.size,0,none⟩) 1 1))=a7 at *
  have hlast:(w5.alloc (.cells (tokC t) 131)).heap[w5.heap.size]? =some (.cells (tokC t) 131):=by
   show(w5.heap.push _)[w5.heap.size]? =_
   simp
  have hgw6:Tryz.prog.globals.size≤(w5.alloc (.cells (tokC t) 131)).heap.size:=by rw[alloc_size];omega
  generalize hr0:w5.heap.size=r0 at *
  generalize w5.alloc (.cells (tokC t) 131)=w6 at hA5 hrow5 hcl6 hlast hcl5 hgw6
  have hlen':xs.length+(ts.length+1)≤1000000:=by simpa using hlen
  refine Walks.opv clozc (ops:=g9 Tryz.f43) (i:=3) (rest:=[4]) (by rw[show(g9 Tryz.f43)[3].op= .call { callee:= .builtin .append,args:=#[.tmp 14,.tmp 16],argTypes:=#[85,85] } from rfl];simp[okOp,okX,okBuiltin]) rfl rfl (by decide) (T:=fun s=>if s=14 then v else .slice (some ⟨r0,0,none⟩) 1 1) (fun s=>?_) hA5.sim hA5.tou ?_ (Q:=fun v' w'=>w'.ownsRow Tryz.prog.globals.size 131 7 v' (xs.length+1) (xs.flatMap (fun t=>(tokC t).toList)++(tokC t).toList)) (fun τ d=>?_) ?_ hA5.hold
  ·by_cases h:s=14
   ·simp only[h,if_true];exact hcl6
   ·simp only[h,if_false];exact hcl5
  ·have hop:(g9 Tryz.f43)[3].op= .call { callee:= .builtin .append,args:=#[.tmp 14,.tmp 16],argTypes:=#[85,85] }:=rfl
   unfold execOp
   simp only[hop,resolve,List.map_toArray,List.map_cons,List.map_nil,evOf,k14,k16,if_true,show ¬ (16=14) by decide,if_false]
  ·exact append53 (x:= .tmp 14) (y:= .tmp 16) rfl (w:=w6.re τ d) hrow5 hgw6 (by omega) hlast rfl rfl
  intro v' w' ρ' W' own' hq hS' _ _ hc' ht' _ _ hH'
  change Walks _ _ _ _ _ (G ((base 43).at (a7.put (some 17) (rv ρ' v')) _) _) _
  have hg8:=hg7.put (t:=17) (v:=rv ρ' v') (by decide) (by decide) (by decide) (by decide)
  have k17:(a7.put (some 17) (rv ρ' v')).eval (.tmp 17)=rv ρ' v':=ev_put_eq (by rw[hg7.size];decide)
  generalize a7.put (some 17) (rv ρ' v')=a8 at *
  refine Walks.mv (ops:=g9 Tryz.f43) (i:=4) (rest:=[]) rfl rfl (by decide) (dd:=some 5) rfl (.inr rfl) k17 ?_
  have hg9:=hg8.put (t:=5) (v:=rv ρ' v') (by decide) (by decide) (by decide) (by decide)
  have k5':(a8.put (some 5) (rv ρ' v')).eval (.tmp 5)=rv ρ' v':=ev_put_eq (by rw[hg8.size];decide)
  generalize a8.put (some 5) (rv ρ' v')=a9 at *
  refine Walks.silent rfl (fun _=>stepG_region_end) ?_
  refine Walks.silent rfl (fun _=>stepG_inBlock) ?_
  refine Walks.silent rfl (fun _=>stepG_inLoop) ?_
  have hGR:GR ro X Y Wg ch (xs++[t]) own' a9 W':=⟨hg9,ρ',w',v',⟨hS',ht',hH'⟩,k5',hc',by rw[fl_snoc];simpa using hq⟩
  have:=ih (xs++[t]) own' a9 W' hGR (by simp;omega) (by simpa using hF)
  rw[recvsW_iff] at this
  exact this
end Go.Ren
set_option linter.unusedSectionVars false
namespace Go.Ren
open Go Go.Conc Go.ConcX Go.RowKit Go.Conc.Lib Go.ConcX.Gen Go.Proofs Go.Loop
section
variable {P:Program} {main:Bool} {b:Frame} {a:Act} {ops:Array Oper} {i:Nat} {rest:List Nat} {o:Oper} {kk:List Item} {cs:List Frame}
theorem stepG_extr (ho:ops[i]? =some o)(hw:Region.wanted o (yielded ops a.tmps)=true)(hk:b.kind≠ .early){dd:Option Tmp}(hdd:o.dst=dd){x:Operand}{j:Nat}(hop:o.op= .extract x j){vs:Array Value}{v:Value}(hx:a.eval x= .tuple vs)(hv:vs[j]? =some v)(w:World):
 stepG P main (G (b.at a (.inRegion ops (i::rest)::kk)) cs) w= .go (G (b.at (a.put dd v) (.inRegion ops rest::kk)) cs) w #[]:=by
 subst hdd
 have hr:(execOp a.eval o).run P w= .ok (.value v) w:=by
  unfold execOp
  simp[hop,hx,Instr.extract,hv]
 have he:(execOp a.eval o).events P w #[]=#[]:=by
  unfold execOp
  simp[hop,hx,Instr.extract,hv]
 rw[stepG_value ho hw hk hr,listed_none he]
theorem Goes.silent {R:World→World→Prop}{D:World→World→Array Event→Prop}{Stop:Goroutine→World→Prop}(tr:∀ a b c,R a b→R b c→R a c)(hd:∀ w,D w w #[]){n:Nat}{g g':Goroutine}{w:World}(hs:g.status= .running)(h:∀ w₁,stepG P main g w₁= .go g' w₁ #[])(k:Goes P main R D Stop n g' w):Goes P main R D Stop (n+1) g w:=
 Goes.step hs fun w₁ h₁=>by rw[h w₁];exact⟨hd w₁,k.rely tr h₁⟩
end
variable {Wg Low ch X Y:Nat} {x y:Pay Wg Low} {ro own:Nat→Prop} {cs:List Frame}
structure Off (Wg X Y:Nat) (w w':World):Prop where
 tape:w'.tape=w.tape
 os:w'.os=w.os
 output:w'.output=w.output
 size:w'.heap.size=w.heap.size
 block:∀ k,k≠X→k≠Y→k≠Wg→w'.heap[k]? =w.heap[k]?
def goneG (f:Func)(a:Act)(cs:List Frame):Goroutine:=G ((base 43).at (a.put (some 18) (.tuple #[])) (.inRegion (g10 f) []:: .code (D11 f)::[])) cs
def AtWaitC (f:Func)(a:Act):Frame:=(base 43).at a (.inRegion (g10 f) [0]:: .code (D11 f)::[])
theorem rpa_trans {pl:Payload}{ty:TypeId}{C:Nat} [Shy Wg C] {vals:List Value}(a b c:World)(h:RPa ty Wg C vals a b)(k:RPa ty Wg C vals b c):RPa ty Wg C vals a c:=
 RPa.trans h k
theorem wait_enter (Wg:Nat):Frame.enter Tryz.prog 72 #[.pointer (some ⟨Wg,0,none⟩)] .normal=(base linkz.wait).at ⟨#[.pointer (some ⟨Wg,0,none⟩),undef,undef,undef,undef,undef,undef,undef,undef,undef,undef,undef,undef,undef,undef,undef,undef,undef,undef,undef,undef,undef,undef,undef,undef,undef,undef,undef,undef,undef,undef,undef,undef,undef,undef,undef,undef,undef,undef,undef,undef,undef,undef,undef,undef,undef,undef,undef,undef,undef,undef,undef,undef,undef,undef,undef,undef,undef,undef,undef,undef,undef,undef,undef,undef,undef,undef,undef,undef,undef,undef,undef,undef,undef,undef,undef,undef,undef,undef,undef,undef,undef,undef,undef],[]⟩ [.code (body_wait linkz)]:=by
 rw[enter_at (P:=Tryz.prog) (f:=72) (c:=body_wait linkz) #[.pointer (some ⟨Wg,0,none⟩)] wz_wait (by kernel_rfl)]
 have:(#[Value.pointer (some ⟨Wg,0,none⟩)]++Array.replicate ((waitFn linkz).ntmps - (#[Value.pointer (some ⟨Wg,0,none⟩)]:Array Value).size) undef)=#[.pointer (some ⟨Wg,0,none⟩),undef,undef,undef,undef,undef,undef,undef,undef,undef,undef,undef,undef,undef,undef,undef,undef,undef,undef,undef,undef,undef,undef,undef,undef,undef,undef,undef,undef,undef,undef,undef,undef,undef,undef,undef,undef,undef,undef,undef,undef,undef,undef,undef,undef,undef,undef,undef,undef,undef,undef,undef,undef,undef,undef,undef,undef,undef,undef,undef,undef,undef,undef,undef,undef,undef,undef,undef,undef,undef,undef,undef,undef,undef,undef,undef,undef,undef,undef,undef,undef,undef,undef,undef]:=by kernel_rfl
 rw[this]
set_option maxRecDepth 100000 in
theorem pay_wait (k:Pay Wg Low){X Y:Nat}(hk:k.C=X∨k.C=Y)(a:Act)(h4:a.eval (.tmp 4)= .pointer (some ⟨Wg,0,none⟩))(W:World)(hK:k.kpa linkz.tWg W):
 ∃ A,k.wait Tryz.prog linkz.tWg (fun g w=>g=goneG Tryz.f43 a cs∧Off Wg X Y W w) A (G (AtWaitC Tryz.f43 a) cs) W:=by
 letI:=k.pl
 letI:=shyR Wg k.C Low (fun g w=>g=goneG Tryz.f43 a cs∧Off Wg X Y W w) k.hW k.hC
 let F:World→Prop:=fun w=>(∀ b,b≠k.C→b≠Wg→w.heap[b]? =W.heap[b]?)∧w.heap.size=W.heap.size∧w.tape=W.tape∧w.os=W.os∧w.output=W.output
 have hF2:∀ w w',Aside2 k.C Wg w w'→F w→F w':=fun w w' h f=>⟨fun b h1 h2=>(h.block b h1 h2).trans (f.1 b h1 h2),h.size.trans f.2.1,h.tape.trans f.2.2.1,h.os.trans f.2.2.2.1,h.output.trans f.2.2.2.2⟩
 refine⟨AnchW7 linkz F Wg k.C k.vals (AtWaitC Tryz.f43 a) cs,⟨k.hC,k.hCW,?_,?_,fun _ h=>h⟩,4,?_⟩
 ·rintro g w ⟨T,rfl,_⟩;rfl
 ·intro g w h
  exact waitRound (L:=linkz) (Low:=Low) (Mine:=none3) (Post:=fun _ _=>True) (mT:=0) (b₀:=base 43) (a₀:=a) (ops₀:=g10 Tryz.f43) (i₀:=0) (rest₀:=[]) (k₀:=[.code (D11 Tryz.f43)]) wgz k.hCW hF2 (fun w f _ _=>Goes.stop fun w₁ h₁=>by
   obtain⟨d,rfl⟩:=h₁
   refine⟨rfl,rfl,f.2.2.1,f.2.2.2.1,f.2.2.2.2,f.2.1,fun b h1 h2 h3=>f.1 b ?_ h3⟩
   rcases hk with e|e<;>rw[e]<;>assumption) g w h
 ·refine Goes.silent (g':=G (Frame.enter Tryz.prog 72 #[.pointer (some ⟨Wg,0,none⟩)] .normal) (AtWaitC Tryz.f43 a::cs)) (fun a b c=>rpa_trans a b c) (fun w=>⟨fun _ _=>rfl,by simp⟩) rfl (fun w₁=>stepG_callz (ops:=g10 Tryz.f43) (i:=0) (rest:=[]) (f:=72) rfl rfl (by decide) rfl (by simp[h4])) ?_
  rw[wait_enter]
  exact waitStart (L:=linkz) (Low:=Low) (F:=F) (Mine:=none3) (b₀:=base 43) (a₀:=a) (ops₀:=g10 Tryz.f43) (i₀:=0) (rest₀:=[]) (k₀:=[.code (D11 Tryz.f43)]) (cs:=cs) wgz hF2 W ⟨⟨fun _ _ _=>rfl,rfl,rfl,rfl,rfl⟩,hK⟩
theorem wait_back {k:Pay Wg Low}{St A:Goroutine→World→Prop}{g g':Goroutine}{W:World}(hs:g.status= .running)(h:∀ w₁,stepG Tryz.prog true g w₁= .go g' w₁ #[])(hw:k.wait Tryz.prog linkz.tWg St A g' W):k.wait Tryz.prog linkz.tWg St A g W:=by
 letI:=k.pl
 letI:=shyR Wg k.C Low St k.hW k.hC
 obtain⟨h1,m,h2⟩:=hw
 exact⟨h1,m+1,Goes.silent (fun a b c=>rpa_trans a b c) (fun w=>⟨fun _ _=>rfl,by simp⟩) hs h h2⟩
def AfterG (ro:Nat→Prop)(X Y Wg ch:Nat)(ts:List Tok)(cs:List Frame)(own:Nat→Prop)(w':World)(g:Goroutine)(w:World):Prop:=
 ∃ a,GR ro X Y Wg ch ts own a w'∧g=goneG Tryz.f43 a cs∧Off Wg X Y w' w
set_option maxRecDepth 10000 in
theorem gather_fin {ts:List Tok}{a:Act}{W:World}(h:GR ro x.C y.C Wg ch ts own a W):
 FinM Tryz.prog linkz.tWg x y (AfterG ro x.C y.C Wg ch ts cs) own (G ((base 43).at (a.put (some 11) (.tuple #[tokV zTok,.bool false])) (.inRegion (g7 Tryz.f43) [1]:: .code (sndC (Lg Tryz.f43))::kG Tryz.f43)) cs) W:=by
 intro hx hy
 obtain⟨hg,ρ,w,v,hA,h5,hcl,hrow⟩:=h
 have hg1:=hg.put (t:=11) (v:= .tuple #[tokV zTok,.bool false]) (by decide) (by decide) (by decide) (by decide)
 have k11:(a.put (some 11) (.tuple #[tokV zTok,.bool false])).eval (.tmp 11)= .tuple #[tokV zTok,.bool false]:=ev_put_eq (by rw[hg.size];decide)
 have k5:(a.put (some 11) (.tuple #[tokV zTok,.bool false])).eval (.tmp 5)=rv ρ v:=(ev_put_ne (by decide)).trans h5
 generalize a.put (some 11) (.tuple #[tokV zTok,.bool false])=a1 at *
 have hg2:=hg1.put (t:=12) (v:= .bool false) (by decide) (by decide) (by decide) (by decide)
 have k12:(a1.put (some 12) (.bool false)).eval (.tmp 12)= .bool false:=ev_put_eq (by rw[hg1.size];decide)
 have k5':(a1.put (some 12) (.bool false)).eval (.tmp 5)=rv ρ v:=(ev_put_ne (by decide)).trans k5
 have step:∀ (k:Pay Wg Low),(k.C=x.C∨k.C=y.C)→k.kpa linkz.tWg W→∃ A,k.wait Tryz.prog linkz.tWg (fun g w=>g=goneG Tryz.f43 (a1.put (some 12) (.bool false)) cs∧Off Wg x.C y.C W w) A (G ((base 43).at a1 (.inRegion (g7 Tryz.f43) [1]:: .code (sndC (Lg Tryz.f43))::kG Tryz.f43)) cs) W:=fun k hk hK=>by
  obtain⟨A,hw⟩:=pay_wait (cs:=cs) k hk (a1.put (some 12) (.bool false)) hg2.s4 W hK
  refine⟨A,?_⟩
  refine wait_back rfl (fun w₁=>stepG_extr (ops:=g7 Tryz.f43) (i:=1) (rest:=[]) rfl rfl (by decide) (dd:=some 12) rfl rfl k11 (v:= .bool false) rfl w₁) ?_
  generalize a1.put (some 12) (.bool false)=a2 at *
  refine wait_back rfl (fun _=>stepG_region_end) ?_
  refine wait_back rfl (fun _=>stepG_seq (x:= .cond (.tmp 12) .skip (.exit 0)) (y:= .block 1 (Mg Tryz.f43))) ?_
  refine wait_back rfl (fun _=>stepG_cond k12) ?_
  refine wait_back rfl (fun _=>stepG_exit (id:=0) (k':=[.code (D10 Tryz.f43)]) rfl) ?_
  refine wait_back rfl (fun _=>stepG_seq (x:= .region 10 (g10 Tryz.f43) false) (y:=D11 Tryz.f43)) ?_
  refine wait_back rfl (fun _=>stepG_region) ?_
  exact hw
 obtain⟨Ax,hwx⟩:=step x (.inl rfl) hx
 obtain⟨Ay,hwy⟩:=step y (.inr rfl) hy
 exact⟨_,Ax,Ay,hwx,hwy,fun a' w' hst=>⟨Nat.le_of_eq hst.2.size.symm,_,⟨hg2,ρ,w,v,hA,k5',hcl,hrow⟩,hst.1,hst.2⟩⟩
end Go.Ren
