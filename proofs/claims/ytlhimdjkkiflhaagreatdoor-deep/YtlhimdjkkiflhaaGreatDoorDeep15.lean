import Derived.Test.YtlhimdjkkiflhaaGreatDoorDeep14
set_option linter.unusedSectionVars false
namespace Go.Ren
open Go Go.Conc Go.ConcX Go.RowKit Go.Conc.Lib Go.ConcX.Gen Go.Proofs Go.Loop
def tokC (t:Tok):Array Value:=#[.int .i64 t.kind,.int .i64 t.from_,.int .i64 t.to_,.string ⟨⟨t.text⟩⟩,.int .i64 t.n,.int .i64 t.d,.int .i64 t.fault]
def tokV (t:Tok):Value:= .agg (tokC t)
theorem tokV_bare (t:Tok):Bare (tokV t):=bare_agg fun x hx=>by
 simp only[tokC,List.mem_toArray,List.mem_cons,List.not_mem_nil,or_false] at hx
 rcases hx with rfl|rfl|rfl|rfl|rfl|rfl|rfl<;>intro ρ<;>simp[rv]
theorem str_bare (s:ByteArray):Bare (.string s):=fun ρ=>by simp[rv]
theorem int_bare (k:IntKind)(n:Int):Bare (.int k n):=fun ρ=>by simp[rv]
theorem bool_bare (t:Bool):Bare (.bool t):=fun ρ=>by simp[rv]
theorem info76:(Tryz.prog.info? 131).map (fun i=>(i.size,i.zero))=some (7,some (tokV ⟨0,0,0,[],0,0,0⟩)):=by kernel_rfl
theorem size76 (t:Tok):(Tryz.prog.info? 131).map (·.size)=some (tokC t).size:=by
 obtain⟨i,hi,he⟩:=Option.map_eq_some_iff.1 info76
 simp only[Prod.mk.injEq] at he
 rw[hi]
 simp[he.1,tokC]
theorem one76 (t:Tok):(tokC t).all (·.oneCell')=true:=by simp[tokC,Value.oneCell']
theorem field76 (w:World)(r:Nat):(Instr.fieldAt 131 (.pointer (some ⟨r,0,none⟩)) 2).run Tryz.prog w= .ok (.pointer (some ⟨r,2,none⟩)) w:=by
 simp[go_sem,Instr.fieldAt,Instr.sureAddr,fieldPlace,Addr.add]
theorem load3 (w:World)(a:Addr){v:Value}(h:w.cell? a=some v):(Instr.loadAt 3 (.pointer (some a))).run Tryz.prog w= .ok v w:=by
 simp[go_sem,Instr.loadAt,Instr.sureAddr,loadVar,isAgg,h]
theorem fz47:Fc 120=true:=by kernel_rfl
theorem fz48:Fc 121=true:=by kernel_rfl
def sndC:Code→Code| .seq _ c=>c|_=> .skip
def fstC:Code→Code| .seq c _=>c|_=> .skip
def blkC:Code→Code| .block _ c=>c|_=> .skip
def lopC:Code→Code| .loop c=>c|_=> .skip
def opsC:Code→Array Oper| .region _ o _=>o|_=>#[]
def bodyS (f:Func):Code:=lopC (blkC (sndC (sndC (f.body.getD .skip))))
def inS (f:Func):Code:=blkC (bodyS f)
def r2 (f:Func):Array Oper:=opsC (fstC (inS f))
def in3 (f:Func):Code:=sndC (inS f)
def r3 (f:Func):Array Oper:=opsC (fstC (in3 f))
def in4 (f:Func):Code:=sndC (in3 f)
def r4 (f:Func):Array Oper:=opsC (fstC (fstC (in4 f)))
def c4 (f:Func):Code:=sndC (fstC (in4 f))
def r5 (f:Func):Array Oper:=opsC (sndC (in4 f))
def kS (f:Func):List Item:=[.inBlock 1,.inLoop (bodyS f),.inBlock 0]
variable {Wg Low ch:Nat} {x y:Pay Wg Low} {ro own:Nat→Prop}
def csF (n:Nat)(f:Func)(Wg:Nat)(T:Array Value):List Frame:=[b24.at ⟨T,[dcall 70 #[.pointer (some ⟨Wg,0,none⟩)]]⟩ [.inRegion (opsF f) [2]],botN n]
structure SA (a:Act) (ch:Nat) (s:List UInt8) (n:Nat) (ty rt:TypeId) (bs:Array Bool):Prop where
 size:a.tmps.size=16
 txt:a.eval (.tmp 0)= .string ⟨⟨s⟩⟩
 chan:a.eval (.tmp 1)= .chan (some ch)
 here:a.eval (.tmp 4)= .int .i64 n
 defers:a.defers=[dclose (.chan (some ch)) ty rt bs]
theorem SA.put {a:Act}{s:List UInt8}{n:Nat}{ty rt:TypeId}{bs:Array Bool}(h:SA a ch s n ty rt bs){t:Tmp}{v:Value}(h0:t≠0)(h1:t≠1)(h4:t≠4):SA (a.put (some t) v) ch s n ty rt bs:=
 ⟨by rw[size_put];exact h.size,by rw[ev_put_ne h0];exact h.txt,by rw[ev_put_ne h1];exact h.chan,by rw[ev_put_ne h4];exact h.here,by rw[defers_put];exact h.defers⟩
def Hx (x y:Pay Wg Low)(W:World):Prop:=W.heap[x.C]? =some (.cells x.vals.toArray x.pl.ety)∧W.heap[y.C]? =some (.cells y.vals.toArray y.pl.ety)
theorem Hx.on {W W':World}(h:Hx x y W)(hx:ro x.C)(hy:ro y.C)(h':∀ b,ro b→W'.heap[b]? =W.heap[b]?):Hx x y W':=⟨(h' _ hx).trans h.1,(h' _ hy).trans h.2⟩
section
variable (hxc:x.C≠ch) (hyc:y.C≠ch) (hxr:ro x.C) (hyr:ro y.C) {s:List UInt8} {T:Array Value} {ty rt:TypeId} {bs:Array Bool}
 (hN:∀ (n:Nat) (w:World),n≤s.length→Calls Tryz.prog 120 #[.string ⟨⟨s⟩⟩,.int .i64 n] w fun e _=>∃ v,e= .returned v∧v=tokV (nextP s n))
 (hL:∀ (t:Tok) (w:World),Calls Tryz.prog 121 #[tokV t] w fun e _=>∃ v,e= .returned v∧v= .bool t.lastB)
theorem stepG_callz {main:Bool}{b:Frame}{a:Act}{ops:Array Oper}{i:Nat}{rest:List Nat}{o:Oper}{kk:List Item}{cs:List Frame}{w:World}(ho:ops[i]? =some o)(hw:Region.wanted o (yielded ops a.tmps)=true)(hk:b.kind≠ .early){f:FuncId}{xs:Array Operand}{ats:Array TypeId}{args:Array Value}(hop:o.op= .call { callee:= .value (.func f),args:=xs,argTypes:=ats })(ha:xs.map a.eval=args)(hbd:((Tryz.prog.funcs[f]?).any fun fn=>fn.body.isSome)=true:=by kernel_rfl)(hnm:((Tryz.prog.funcs[f]?).any fun fn=>fn.name== "runtime.NumGoroutine")=false:=by kernel_rfl):
 stepG Tryz.prog main (G (b.at a (.inRegion ops (i::rest)::kk)) cs) w= .go (G (Frame.enter Tryz.prog f args .normal) (b.at a (.inRegion ops (i::rest)::kk)::cs)) w #[]:=by
 subst ha
 cases hf:Tryz.prog.funcs[f]? with
 |none=>rw[hf] at hbd;simp at hbd
 |some fn=>
  rw[hf] at hbd hnm
  simp only[Option.any_some] at hbd hnm
  obtain⟨cc,hcc⟩:=Option.isSome_iff_exists.1 hbd
  have hne:¬ fn.name= "runtime.NumGoroutine" :=by simpa using hnm
  have hr:(execOp a.eval o).run Tryz.prog w= .ok (.enter f (xs.map a.eval)) w:=by
   unfold execOp
   simp[hop,resolve,invoke,callFunc,hf,hcc,hne,Act.eval,Deferred.ofValue,go_sem]
  have he:(execOp a.eval o).events Tryz.prog w #[]=#[]:=by
   unfold execOp
   simp[hop,resolve,invoke,callFunc,hf,hcc,hne,Act.eval,Deferred.ofValue,go_sem]
  rw[stepG_enter ho hw hk hr,listed_none he]
theorem bigZ (w:World):Tryz.prog.globals.size≤(pw0 Tryz.prog w).heap.size:=by rw[pw0_size];exact Nat.le_refl _
set_option maxRecDepth 10000 in
include hxc hyc hxr hyr hN hL in
theorem send_loop (m:Nat):∀ (n:Nat) (a:Act) (W:World) (own:Nat→Prop),n≤s.length→s.length-n<m→SA a ch s n ty rt bs→Hold ro own W→Tryz.prog.globals.size≤W.heap.size→Hx x y W→
 SendsW Tryz.prog ro ch (FinC Tryz.prog linkz.tWg x y) ((gatherP m s n).map tokV) own (G ((base 71).at a [.code (bodyS Tryz.f71),.inLoop (bodyS Tryz.f71),.inBlock 0]) (csF Tryz.prog.funcs.size Tryz.f69 Wg T)) W:=by
 induction m with
 |zero=>intro n a W own _ h;omega
 |succ m ih=>
  intro n a W own hn hm hS hH hb hP
  obtain⟨rest,hgp,hrest⟩:∃ rest,(gatherP (m+1) s n).map tokV=tokV (nextP s n)::rest∧rest=if(nextP s n).lastB then[] else(gatherP m s (nextP s n).to_).map tokV:=by
   refine⟨_,?_,rfl⟩
   rw[gatherP]
   split<;>simp
  rw[hgp,sendsW_iff]
  refine Walks.silent rfl (fun _=>stepG_block (id:=1) (c:=inS Tryz.f71)) ?_
  refine Walks.silent rfl (fun _=>stepG_seq (x:= .region 2 (r2 Tryz.f71) false) (y:=in3 Tryz.f71)) ?_
  refine Walks.silent rfl (fun _=>stepG_region) ?_
  refine Walks.mv (ops:=r2 Tryz.f71) (i:=0) (rest:=[1,2,3,4]) rfl rfl (by decide) (dd:=some 7) rfl (.inl rfl) hS.txt ?_
  have hS1:=hS.put (t:=7) (v:= .string ⟨⟨s⟩⟩) (by decide) (by decide) (by decide)
  have h7:(a.put (some 7) (.string ⟨⟨s⟩⟩)).eval (.tmp 7)= .string ⟨⟨s⟩⟩:=ev_put_eq (by rw[hS.size];decide)
  generalize a.put (some 7) (.string ⟨⟨s⟩⟩)=a1 at *
  refine Walks.mv (ops:=r2 Tryz.f71) (i:=1) (rest:=[2,3,4]) rfl rfl (by decide) (dd:=some 8) rfl (.inl rfl) hS1.here ?_
  have hS2:=hS1.put (t:=8) (v:= .int .i64 n) (by decide) (by decide) (by decide)
  have h8:(a1.put (some 8) (.int .i64 n)).eval (.tmp 8)= .int .i64 n:=ev_put_eq (by rw[hS1.size];decide)
  have h7':(a1.put (some 8) (.int .i64 n)).eval (.tmp 7)= .string ⟨⟨s⟩⟩:=(ev_put_ne (by decide)).trans h7
  generalize a1.put (some 8) (.int .i64 n)=a2 at *
  refine Walks.call' clozc (cs:=csF Tryz.prog.funcs.size Tryz.f69 Wg T) (f:=120) (args:=#[.string ⟨⟨s⟩⟩,.int .i64 n]) fz47 (fun v hv=>?_) (Qv:=fun v=>v=tokV (nextP s n)) (fun v hv=>hv▸tokV_bare _) (c:=(base 71).at a2 (.inRegion (r2 Tryz.f71) [2,3,4]:: .code (in3 Tryz.f71)::kS Tryz.f71)) rfl (fun w₁=>?_) hb hH (fun w' _=>hN n w' hn) ?_
  ·simp only[List.mem_toArray,List.mem_cons,List.not_mem_nil,or_false] at hv
   rcases hv with rfl|rfl
   ·exact str_bare _
   ·exact int_bare _ _
  ·exact stepG_callz (ops:=r2 Tryz.f71) (i:=2) rfl rfl (by decide) rfl (by simp[h7',h8])
  rintro _ W1 own1 rfl ho1 hH1 hro1 hsz1
  rw[Frame.finish_at]
  change Walks _ _ _ _ _ (G ((base 71).at (a2.put (some 9) (tokV (nextP s n))) _) _) _
  have hS3:=hS2.put (t:=9) (v:=tokV (nextP s n)) (by decide) (by decide) (by decide)
  have h9:(a2.put (some 9) (tokV (nextP s n))).eval (.tmp 9)=tokV (nextP s n):=ev_put_eq (by rw[hS2.size];decide)
  generalize a2.put (some 9) (tokV (nextP s n))=a3 at *
  have hb1:Tryz.prog.globals.size≤W1.heap.size:=Nat.le_trans hb hsz1
  have hP1:Hx x y W1:=hP.on hxr hyr fun b hb=>hro1 b (.inr hb)
  have hA0:=At.empty (S:=Sc) hH1 hb1
  obtain⟨i76,hi76,he76⟩:=Option.map_eq_some_iff.1 info76
  simp only[Prod.mk.injEq] at he76
  have hg0:=bigZ W1
  generalize extR idR Tryz.prog.globals.size W1.heap.size=ρ0 at hA0
  generalize pw0 Tryz.prog W1=w0 at hA0 hg0
  refine Walks.allocT clozc (ops:=r2 Tryz.f71) (i:=3) (rest:=[4]) rfl rfl (by decide) (dd:=some 5) rfl rfl hi76 he76.2 hA0 ?_
  intro w1 ρ1 W2 own2 e1 hA1 hO1
  have hs1:w1.heap.size=w0.heap.size:=by rw[e1]
  rw[←hs1]
  have hS4:=hS3.put (t:=5) (v:= .pointer (some ⟨ρ1 w1.heap.size,0,none⟩)) (by decide) (by decide) (by decide)
  have h5:(a3.put (some 5) (.pointer (some ⟨ρ1 w1.heap.size,0,none⟩))).eval (.tmp 5)= .pointer (some ⟨ρ1 w1.heap.size,0,none⟩):=ev_put_eq (by rw[hS3.size];decide)
  have h9':(a3.put (some 5) (.pointer (some ⟨ρ1 w1.heap.size,0,none⟩))).eval (.tmp 9)=tokV (nextP s n):=(ev_put_ne (by decide)).trans h9
  generalize a3.put (some 5) (.pointer (some ⟨ρ1 w1.heap.size,0,none⟩))=a4 at *
  have hg1:Tryz.prog.globals.size≤w1.heap.size:=by omega
  refine Walks.storeT clozc (ops:=r2 Tryz.f71) (i:=4) (rest:=[]) rfl rfl (by decide) (dd:=none) rfl (s:=5) (t:=9) (by decide) rfl (c:=tokC ⟨0,0,0,[],0,0,0⟩) (c':=tokC (nextP s n)) (size76 _) rfl (one76 _) hA1 h5 (by rw[h9'];exact(tokV_bare _ _).symm) (tokV_bare _ _) hg1 ?_
  intro w2 ρ2 W3 own3 e2 hA2 hO2
  rw[put_none]
  have hs2:w2.heap.size=w1.heap.size:=by rw[e2]
  have hr2:ρ2 w2.heap.size=ρ1 w1.heap.size:=by rw[hs2];exact hO2.agree _ (by rw[alloc_size];omega)
  rw[←hr2] at h5
  have hP3:Hx x y W3:=(hP1.on hxr hyr hO1.ro).on hxr hyr hO2.ro
  have hg2:Tryz.prog.globals.size≤w2.heap.size:=by omega
  refine Walks.silent rfl (fun _=>stepG_region_end) ?_
  refine Walks.silent rfl (fun _=>stepG_seq (x:= .region 3 (r3 Tryz.f71) false) (y:=in4 Tryz.f71)) ?_
  refine Walks.silent rfl (fun _=>stepG_region) ?_
  refine Walks.mv (ops:=r3 Tryz.f71) (i:=0) (rest:=[1,2]) rfl rfl (by decide) (dd:=some 10) rfl (.inl rfl) hS4.chan ?_
  have hS5:=hS4.put (t:=10) (v:= .chan (some ch)) (by decide) (by decide) (by decide)
  have h10:(a4.put (some 10) (.chan (some ch))).eval (.tmp 10)= .chan (some ch):=ev_put_eq (by rw[hS4.size];decide)
  have h5':(a4.put (some 10) (.chan (some ch))).eval (.tmp 5)= .pointer (some ⟨ρ2 w2.heap.size,0,none⟩):=(ev_put_ne (by decide)).trans h5
  generalize a4.put (some 10) (.chan (some ch))=a5 at *
  refine Walks.loadT clozc (ops:=r3 Tryz.f71) (i:=1) (rest:=[2]) rfl rfl (by decide) (dd:=some 11) rfl (s:=5) rfl Tryz.underlying131 rfl (size76 _) hA2 h5' hg2 ?_
  intro w3 ρ3 W4 own4 e3 hA3 hO3
  have hs3:w3.heap.size=w2.heap.size:=by rw[e3]
  have hr3:ρ3 w3.heap.size=ρ2 w2.heap.size:=by rw[hs3];exact hO3.agree _ (by rw[alloc_size];omega)
  rw[←hr3] at h5'
  have hP4:Hx x y W4:=hP3.on hxr hyr hO3.ro
  have hg3:Tryz.prog.globals.size≤w3.heap.size:=by omega
  rw[show rv ρ3 (.agg (tokC (nextP s n)))=tokV (nextP s n) from tokV_bare _ _]
  have hS6:=hS5.put (t:=11) (v:=tokV (nextP s n)) (by decide) (by decide) (by decide)
  have h11:(a5.put (some 11) (tokV (nextP s n))).eval (.tmp 11)=tokV (nextP s n):=ev_put_eq (by rw[hS5.size];decide)
  have h10':(a5.put (some 11) (tokV (nextP s n))).eval (.tmp 10)= .chan (some ch):=(ev_put_ne (by decide)).trans h10
  have h5'':(a5.put (some 11) (tokV (nextP s n))).eval (.tmp 5)= .pointer (some ⟨ρ3 w3.heap.size,0,none⟩):=(ev_put_ne (by decide)).trans h5'
  generalize a5.put (some 11) (tokV (nextP s n))=a6 at *
  refine .stop fun W₁ hr=>?_
  refine⟨rfl,.tuple #[],?_,?_⟩
  ·have hrr:(execOp a6.eval (r3 Tryz.f71)[2]).run Tryz.prog W₁= .ok (.comm #[scase ch (tokV (nextP s n)) (.tuple #[])] true .send) W₁:=by
    show(pure (.comm #[{ chan:=a6.eval (.tmp 10),send:=some (a6.eval (.tmp 11)),zero:= .tuple #[] }] true .send):Sem Next).run Tryz.prog W₁=_
    rw[h10',h11]
    rfl
   rw[stepG_comm (ops:=r3 Tryz.f71) (i:=2) rfl rfl (by decide) hrr,listed_none rfl]
   rfl
  show SendsW _ _ _ _ _ _ (G (((base 71).at a6 (.inRegion (r3 Tryz.f71) [2]:: .code (in4 Tryz.f71)::kS Tryz.f71)).finish undef) (csF Tryz.prog.funcs.size Tryz.f69 Wg T)) W₁
  rw[Frame.finish_at]
  change SendsW _ _ _ _ _ _ (G ((base 71).at a6 (.inRegion (r3 Tryz.f71) []:: .code (in4 Tryz.f71)::kS Tryz.f71)) (csF Tryz.prog.funcs.size Tryz.f69 Wg T)) W₁
  obtain⟨hA4,hO4⟩:=hA3.rely hr
  generalize extR ρ3 (w3.alloc (Obj.cells (tokC (nextP s n)) 131)).heap.size W₁.heap.size=ρ4 at hA4 hO4
  have hr4:ρ4 w3.heap.size=ρ3 w3.heap.size:=hO4.agree _ (by rw[alloc_size];omega)
  rw[←hr4] at h5''
  have hP5:Hx x y W₁:=hP4.on hxr hyr hO4.ro
  have hb5:Tryz.prog.globals.size≤W₁.heap.size:=hA4.sim.bigW
  clear hA0 hA1 hA2 hA3 hO1 hO2 hO3 hO4 hP hP1 hP3 hP4
  rw[sendsW_iff]
  refine Walks.silent rfl (fun _=>stepG_region_end) ?_
  refine Walks.silent rfl (fun _=>stepG_seq (x:=fstC (in4 Tryz.f71)) (y:= .region 5 (r5 Tryz.f71) false)) ?_
  refine Walks.silent rfl (fun _=>stepG_seq (x:= .region 4 (r4 Tryz.f71) false) (y:=c4 Tryz.f71)) ?_
  refine Walks.silent rfl (fun _=>stepG_region) ?_
  refine Walks.loadT clozc (ops:=r4 Tryz.f71) (i:=0) (rest:=[1]) rfl rfl (by decide) (dd:=some 12) rfl (s:=5) rfl Tryz.underlying131 rfl (size76 _) hA4 h5'' hg3 ?_
  intro w5 ρ5 W5 own5 e5 hA5 hO5
  have hs5:w5.heap.size=w3.heap.size:=by rw[e5]
  have hr5:ρ5 w5.heap.size=ρ4 w3.heap.size:=by rw[hs5];exact hO5.agree _ (by rw[alloc_size];omega)
  rw[←hr5] at h5''
  have hP6:Hx x y W5:=hP5.on hxr hyr hO5.ro
  have hg5:Tryz.prog.globals.size≤w5.heap.size:=by omega
  rw[show rv ρ5 (.agg (tokC (nextP s n)))=tokV (nextP s n) from tokV_bare _ _]
  have hS7:=hS6.put (t:=12) (v:=tokV (nextP s n)) (by decide) (by decide) (by decide)
  have h12:(a6.put (some 12) (tokV (nextP s n))).eval (.tmp 12)=tokV (nextP s n):=ev_put_eq (by rw[hS6.size];decide)
  have h5c:(a6.put (some 12) (tokV (nextP s n))).eval (.tmp 5)= .pointer (some ⟨ρ5 w5.heap.size,0,none⟩):=(ev_put_ne (by decide)).trans h5''
  generalize a6.put (some 12) (tokV (nextP s n))=a7 at *
  refine Walks.call' clozc (cs:=csF Tryz.prog.funcs.size Tryz.f69 Wg T) (f:=121) (args:=#[tokV (nextP s n)]) fz48 (fun v hv=>?_) (Qv:=fun v=>v= .bool (nextP s n).lastB) (fun v hv=>hv▸bool_bare _) (c:=(base 71).at a7 (.inRegion (r4 Tryz.f71) [1]:: .code (c4 Tryz.f71):: .code (.region 5 (r5 Tryz.f71) false)::kS Tryz.f71)) rfl (fun w₁=>?_) hA5.sim.bigW hA5.hold (fun w' _=>hL _ w') ?_
  ·simp only[List.mem_toArray,List.mem_cons,List.not_mem_nil,or_false] at hv
   subst hv
   exact tokV_bare _
  ·exact stepG_callz (ops:=r4 Tryz.f71) (i:=1) rfl rfl (by decide) rfl (by simp[h12])
  rintro _ W6 own6 rfl ho6 hH6 hro6 hsz6
  rw[Frame.finish_at]
  change Walks _ _ _ _ _ (G ((base 71).at (a7.put (some 13) (.bool (nextP s n).lastB)) _) _) _
  obtain⟨hA6,hO6⟩:=hA5.call hro6 hsz6 ho6 hH6
  generalize extR ρ5 (w5.alloc (Obj.cells (tokC (nextP s n)) 131)).heap.size W6.heap.size=ρ6 at hA6 hO6
  have hr6:ρ6 w5.heap.size=ρ5 w5.heap.size:=hO6.agree _ (by rw[alloc_size];omega)
  rw[←hr6] at h5c
  have hP7:Hx x y W6:=hP6.on hxr hyr hO6.ro
  have hS8:=hS7.put (t:=13) (v:= .bool (nextP s n).lastB) (by decide) (by decide) (by decide)
  have h13:(a7.put (some 13) (.bool (nextP s n).lastB)).eval (.tmp 13)= .bool (nextP s n).lastB:=ev_put_eq (by rw[hS7.size];decide)
  have h5d:(a7.put (some 13) (.bool (nextP s n).lastB)).eval (.tmp 5)= .pointer (some ⟨ρ6 w5.heap.size,0,none⟩):=(ev_put_ne (by decide)).trans h5c
  generalize a7.put (some 13) (.bool (nextP s n).lastB)=a8 at *
  refine Walks.silent rfl (fun _=>stepG_region_end) ?_
  refine Walks.silent rfl (fun _=>stepG_cond (c:= .tmp 13) (x:= .ret) (y:= .skip) h13) ?_
  by_cases hlast:(nextP s n).lastB=true
  ·rw[if_pos hlast] at hrest
   rw[hrest,hlast,←sendsW_iff]
   obtain⟨T8,D8⟩:=a8
   have hD:D8=[dclose (.chan (some ch)) ty rt bs]:=hS8.defers
   subst hD
   exact send_ret hxc hyc hxr hyr T T8 _ ty rt bs W6 hP7.1 hP7.2
  have hlast':(nextP s n).lastB=false:=by simpa using hlast
  rw[if_neg hlast] at hrest
  rw[hrest,hlast']
  refine Walks.silent rfl (fun _=>stepG_skip) ?_
  refine Walks.silent rfl (fun _=>stepG_region) ?_
  refine Walks.fieldT clozc (ops:=r5 Tryz.f71) (i:=0) (rest:=[1,2]) rfl rfl (by decide) (dd:=some 14) rfl (s:=5) (j:=2) (off:=2) rfl field76 hA6 h5d hg5 ?_
  intro w7 ρ7 W7 own7 e7 hA7 hO7
  have hs7:w7.heap.size=w5.heap.size:=by rw[e7]
  rw[←hs7]
  have hS9:=hS8.put (t:=14) (v:= .pointer (some ⟨ρ7 w7.heap.size,2,none⟩)) (by decide) (by decide) (by decide)
  have h14:(a8.put (some 14) (.pointer (some ⟨ρ7 w7.heap.size,2,none⟩))).eval (.tmp 14)= .pointer (some ⟨ρ7 w7.heap.size,2,none⟩):=ev_put_eq (by rw[hS8.size];decide)
  generalize a8.put (some 14) (.pointer (some ⟨ρ7 w7.heap.size,2,none⟩))=a9 at *
  have hP8:Hx x y W7:=hP7.on hxr hyr hO7.ro
  refine Walks.loadC clozc (ops:=r5 Tryz.f71) (i:=1) (rest:=[2]) rfl rfl (by decide) (dd:=some 15) rfl (s:=14) (off:=2) rfl (v:= .int .i64 (nextP s n).to_) (fun w a h=>load3 w a h) rfl hA7 h14 (by omega) ?_
  intro w8 ρ8 W8 own8 e8 hA8 hO8
  have hP9:Hx x y W8:=hP8.on hxr hyr hO8.ro
  rw[int_bare]
  have hS10:=hS9.put (t:=15) (v:= .int .i64 (nextP s n).to_) (by decide) (by decide) (by decide)
  have h15:(a9.put (some 15) (.int .i64 (nextP s n).to_)).eval (.tmp 15)= .int .i64 (nextP s n).to_:=ev_put_eq (by rw[hS9.size];decide)
  generalize a9.put (some 15) (.int .i64 (nextP s n).to_)=a10 at *
  refine Walks.mv (ops:=r5 Tryz.f71) (i:=2) (rest:=[]) rfl rfl (by decide) (dd:=some 4) rfl (.inr rfl) h15 ?_
  have hS11:SA (a10.put (some 4) (.int .i64 (nextP s n).to_)) ch s (nextP s n).to_ ty rt bs:=⟨by rw[size_put];exact hS10.size,by rw[ev_put_ne (by decide)];exact hS10.txt,by rw[ev_put_ne (by decide)];exact hS10.chan,ev_put_eq (by rw[hS10.size];decide),by rw[defers_put];exact hS10.defers⟩
  generalize a10.put (some 4) (.int .i64 (nextP s n).to_)=a11 at *
  refine Walks.silent rfl (fun _=>stepG_region_end) ?_
  refine Walks.silent rfl (fun _=>stepG_inBlock) ?_
  refine Walks.silent rfl (fun _=>stepG_inLoop) ?_
  obtain⟨f1,f2,f3⟩:=fine_next hn
  have f4:=f3 hlast'
  have:=ih (nextP s n).to_ a11 W8 own8 f2 (by omega) hS11 hA8.hold hA8.sim.bigW hP9
  rw[sendsW_iff] at this
  exact this
end
end Go.Ren
set_option linter.unusedSectionVars false
namespace Go.Ren
open Go Go.Conc Go.ConcX Go.RowKit Go.Conc.Lib Go.ConcX.Gen Go.Proofs Go.Loop
section
variable {P:Program} {main:Bool} {ro own:Nat→Prop} {Stop:(Nat→Prop)→Goroutine→World→Prop} {W:World} {b:Frame} {a:Act} {ops:Array Oper} {i:Nat} {rest:List Nat} {o:Oper} {kk:List Item} {cs:List Frame}
theorem Walks.loadRo (ho:ops[i]? =some o)(hw:Region.wanted o (yielded ops a.tmps)=true)(hk:b.kind≠ .early){dd:Option Tmp}(hdd:o.dst=dd){e:TypeId}{x:Operand}(hop:o.op= .load e x){ad:Addr}(hx:a.eval x= .pointer (some ad))(hr:ro ad.block){v:Value}(hv:W.cell? ad=some v)
 (hl:∀ (w:World),w.cell? ad=some v→(Instr.loadAt e (.pointer (some ad))).run P w= .ok v w∧∀ ev∈(Instr.loadAt e (.pointer (some ad))).events P w #[],ev.loc= .cell ad∧ev.write=false)
 (k:Walks P main ro Stop own (G (b.at (a.put dd v) (.inRegion ops rest::kk)) cs) W):Walks P main ro Stop own (G (b.at a (.inRegion ops (i::rest)::kk)) cs) W:=by
 subst hdd
 refine Walks.step' rfl fun W₁ hR=>?_
 have hc:W₁.cell? ad=some v:=by
  rw[←hv]
  simp only[World.cell?,hR.block _ (.inr hr)]
 obtain⟨h1,h2⟩:=hl W₁ hc
 have hrun:(execOp a.eval o).run P W₁= .ok (.value v) W₁:=by
  unfold execOp
  simp[hop,hx,h1]
 have hev:(execOp a.eval o).events P W₁ #[]=(Instr.loadAt e (.pointer (some ad))).events P W₁ #[]:=by
  unfold execOp
  simp[hop,hx]
 refine⟨_,W₁,_,stepG_value ho hw hk hrun,⟨rfl,rfl,rfl,Nat.le_refl _,fun _ _ _=>rfl,fun ev he=>?_⟩,?_⟩
 ·unfold listed at he
  rw[hev] at he
  obtain⟨h3,h4⟩:=h2 ev (mem_seen he)
  unfold EvG
  rw[h3]
  exact .inr ⟨hr,h4⟩
 ·rw[grow_same own rfl]
  exact k.rely hR
end
theorem loadz {e:TypeId}(he:e=9∨e=132)(w:World)(ad:Addr){v:Value}(h:w.cell? ad=some v):(Instr.loadAt e (.pointer (some ad))).run Tryz.prog w= .ok v w∧∀ ev∈(Instr.loadAt e (.pointer (some ad))).events Tryz.prog w #[],ev.loc= .cell ad∧ev.write=false:=by
 rcases he with rfl|rfl
 ·refine⟨by simp[go_sem,Instr.loadAt,Instr.sureAddr,loadVar,isAgg,h],fun ev he=>?_⟩
  have:(Instr.loadAt 9 (.pointer (some ad))).events Tryz.prog w #[]=(load ad).events Tryz.prog w #[]:=by simp[go_sem,Instr.loadAt,Instr.sureAddr,loadVar,isAgg]
  rw[this] at he
  exact(events_load_at w ad _ #[] h ev he).resolve_left (by simp)
 ·refine⟨by simp[go_sem,Instr.loadAt,Instr.sureAddr,loadVar,isAgg,h],fun ev he=>?_⟩
  have:(Instr.loadAt 132 (.pointer (some ad))).events Tryz.prog w #[]=(load ad).events Tryz.prog w #[]:=by simp[go_sem,Instr.loadAt,Instr.sureAddr,loadVar,isAgg]
  rw[this] at he
  exact(events_load_at w ad _ #[] h ev he).resolve_left (by simp)
def dchild (Wg X Y:Nat):Deferred:={ target:= .fn (.func 69) #[.pointer (some ⟨Wg,0,none⟩),.pointer (some ⟨X,0,none⟩),.pointer (some ⟨Y,0,none⟩)],args:=#[] }
def T24 (Wg X Y:Nat):Array Value:=#[.pointer (some ⟨Wg,0,none⟩),.pointer (some ⟨X,0,none⟩),.pointer (some ⟨Y,0,none⟩),undef,undef,undef]
def c24 (f:Func):Code:=f.body.getD .skip
theorem step_born (Wg X Y:Nat)(w:World):stepG Tryz.prog false (born Tryz.prog (dchild Wg X Y)) w= .go (G (b24.at ⟨T24 Wg X Y,[]⟩ [.code (c24 Tryz.f69)]) [(botN Tryz.prog.funcs.size)]) w #[]:=by
 simp[born,stepG,unwind,callDeferred,dchild,invoke,callFunc,Tryz.f69,GStep.after,G,Frame.enter,b24,baseD,Frame.at,T24,c24,botN,seen]
def r24 (f:Func):Array Oper:=opsC (fstC (c24 f))
def a26 (s:List UInt8)(ch:Nat):Act:=⟨#[.string ⟨⟨s⟩⟩,.chan (some ch)]++Array.replicate 14 undef,[]⟩
variable {Wg Low ch:Nat} {x y:Pay Wg Low} {ro:Nat→Prop}
section
variable (hxc:x.C≠ch) (hyc:y.C≠ch) (hxr:ro x.C) (hyr:ro y.C) {s:List UInt8}
 (hN:∀ (n:Nat) (w:World),n≤s.length→Calls Tryz.prog 120 #[.string ⟨⟨s⟩⟩,.int .i64 n] w fun e _=>∃ v,e= .returned v∧v=tokV (nextP s n))
 (hL:∀ (t:Tok) (w:World),Calls Tryz.prog 121 #[tokV t] w fun e _=>∃ v,e= .returned v∧v= .bool t.lastB)
set_option maxRecDepth 10000 in
include hxc hyc hxr hyr hN hL in
theorem born_sends (W:World)(hH:Hold ro (fun _=>False) W)(hb:Tryz.prog.globals.size≤W.heap.size)(hP:Hx x y W)(hx:W.cell? ⟨x.C,0,none⟩=some (.string ⟨⟨s⟩⟩))(hy:W.cell? ⟨y.C,0,none⟩=some (.chan (some ch))):
 SendsW Tryz.prog ro ch (FinC Tryz.prog linkz.tWg x y) ((gatherP (s.length+1) s 0).map tokV) (fun _=>False) (born Tryz.prog (dchild Wg x.C y.C)) W:=by
 rw[sendsW_iff]
 refine Walks.silent rfl (fun _=>step_born _ _ _ _) ?_
 refine Walks.silent rfl (fun _=>stepG_seq (x:= .region 0 (r24 Tryz.f69) false) (y:= .region 1 (opsF Tryz.f69) false)) ?_
 refine Walks.silent rfl (fun _=>stepG_region) ?_
 refine Walks.silent rfl (fun _=>stepG_defer (ops:=r24 Tryz.f69) (i:=0) (rest:=[]) rfl rfl (by decide) rfl) ?_
 refine Walks.silent rfl (fun _=>stepG_region_end) ?_
 refine Walks.silent rfl (fun _=>stepG_region) ?_
 have hm:Array.map (⟨T24 Wg x.C y.C,[]⟩:Act).eval #[Operand.tmp 0]=#[.pointer (some ⟨Wg,0,none⟩)]:=by simp[Act.eval,T24]
 rw[hm]
 change Walks _ _ _ _ _ (G (b24.at ⟨T24 Wg x.C y.C,[dcall 70 #[.pointer (some ⟨Wg,0,none⟩)]]⟩ [.inRegion (opsF Tryz.f69) [0,1,2]]) [(botN Tryz.prog.funcs.size)]) W
 refine Walks.loadRo (ops:=(opsF Tryz.f69)) (i:=0) (rest:=[1,2]) rfl rfl (by decide) (dd:=some 3) rfl (e:=9) (x:= .tmp 1) rfl (ad:=⟨x.C,0,none⟩) rfl hxr hx (fun w h=>loadz (.inl rfl) w _ h) ?_
 refine Walks.loadRo (ops:=(opsF Tryz.f69)) (i:=1) (rest:=[2]) rfl rfl (by decide) (dd:=some 4) rfl (e:=132) (x:= .tmp 2) rfl (ad:=⟨y.C,0,none⟩) rfl hyr hy (fun w h=>loadz (.inr rfl) w _ h) ?_
 refine Walks.silent rfl (fun _=>stepG_callz (ops:=(opsF Tryz.f69)) (i:=2) (rest:=[]) (f:=71) (args:=#[.string ⟨⟨s⟩⟩,.chan (some ch)]) rfl rfl (by decide) rfl (by simp[Act.eval,Act.put,T24])) ?_
 have he:=enter_at (P:=Tryz.prog) (f:=71) (c:=c24 Tryz.f71) #[.string ⟨⟨s⟩⟩,.chan (some ch)] fz26 rfl
 rw[he]
 obtain⟨T,hT⟩:∃ T:Array Value,T=(Act.put (Act.put ⟨T24 Wg x.C y.C,[dcall 70 #[.pointer (some ⟨Wg,0,none⟩)]]⟩ (some 3) (.string ⟨⟨s⟩⟩)) (some 4) (.chan (some ch))).tmps:=⟨_,rfl⟩
 change Walks _ _ _ _ _ (G ((base 71).at (a26 s ch) [.code (c24 Tryz.f71)]) [b24.at ⟨(Act.put (Act.put ⟨T24 Wg x.C y.C,[dcall 70 #[.pointer (some ⟨Wg,0,none⟩)]]⟩ (some 3) (.string ⟨⟨s⟩⟩)) (some 4) (.chan (some ch))).tmps,[dcall 70 #[.pointer (some ⟨Wg,0,none⟩)]]⟩ [.inRegion (opsF Tryz.f69) [2]],(botN Tryz.prog.funcs.size)]) W
 rw[←hT]
 change Walks _ _ _ _ _ (G ((base 71).at (a26 s ch) [.code (c24 Tryz.f71)]) (csF Tryz.prog.funcs.size Tryz.f69 Wg T)) W
 refine Walks.silent rfl (fun _=>stepG_seq (x:= .region 0 (r24 Tryz.f71) false) (y:=sndC (c24 Tryz.f71))) ?_
 refine Walks.silent rfl (fun _=>stepG_region) ?_
 have q0:(a26 s ch).eval (.tmp 0)= .string ⟨⟨s⟩⟩:=by simp[a26,Act.eval]
 have q1:(a26 s ch).eval (.tmp 1)= .chan (some ch):=by simp[a26,Act.eval]
 have qs:(a26 s ch).tmps.size=16:=by simp[a26]
 have qd:(a26 s ch).defers=[]:=rfl
 generalize a26 s ch=a at *
 refine Walks.mv (ops:=r24 Tryz.f71) (i:=0) (rest:=[1]) rfl rfl (by decide) (dd:=some 6) rfl (.inl rfl) q1 ?_
 have q6:(a.put (some 6) (.chan (some ch))).eval (.tmp 6)= .chan (some ch):=ev_put_eq (by rw[qs];decide)
 have q0':(a.put (some 6) (.chan (some ch))).eval (.tmp 0)= .string ⟨⟨s⟩⟩:=(ev_put_ne (by decide)).trans q0
 have q1':(a.put (some 6) (.chan (some ch))).eval (.tmp 1)= .chan (some ch):=(ev_put_ne (by decide)).trans q1
 have qs':(a.put (some 6) (.chan (some ch))).tmps.size=16:=size_put.trans qs
 have qd':(a.put (some 6) (.chan (some ch))).defers=[]:=defers_put.trans qd
 generalize a.put (some 6) (.chan (some ch))=a1 at *
 refine Walks.silent rfl (fun _=>stepG_defer_close (ops:=r24 Tryz.f71) (i:=1) (rest:=[]) (x:=6) (ty:=206) rfl rfl (by decide) rfl) ?_
 rw[q6,qd']
 change Walks _ _ _ _ _ (G ((base 71).at ⟨a1.tmps,[dclose (.chan (some ch)) 206 0 #[false]]⟩ _) _) _
 have p0:(⟨a1.tmps,[dclose (.chan (some ch)) 206 0 #[false]]⟩:Act).eval (.tmp 0)= .string ⟨⟨s⟩⟩:=q0'
 have p1:(⟨a1.tmps,[dclose (.chan (some ch)) 206 0 #[false]]⟩:Act).eval (.tmp 1)= .chan (some ch):=q1'
 have ps:(⟨a1.tmps,[dclose (.chan (some ch)) 206 0 #[false]]⟩:Act).tmps.size=16:=qs'
 have pd:(⟨a1.tmps,[dclose (.chan (some ch)) 206 0 #[false]]⟩:Act).defers=[dclose (.chan (some ch)) 206 0 #[false]]:=rfl
 generalize (⟨a1.tmps,[dclose (.chan (some ch)) 206 0 #[false]]⟩:Act)=a2 at *
 refine Walks.silent rfl (fun _=>stepG_region_end) ?_
 refine Walks.silent rfl (fun _=>stepG_seq (x:= .region 1 (opsC (fstC (sndC (c24 Tryz.f71)))) false) (y:=sndC (sndC (c24 Tryz.f71)))) ?_
 refine Walks.silent rfl (fun _=>stepG_region) ?_
 refine Walks.mv (ops:=opsC (fstC (sndC (c24 Tryz.f71)))) (i:=0) (rest:=[]) rfl rfl (by decide) (dd:=some 4) rfl (.inr rfl) (v:= .int .i64 0) rfl ?_
 have hSA:SA (a2.put (some 4) (.int .i64 0)) ch s 0 206 0 #[false]:=⟨size_put.trans ps,(ev_put_ne (by decide)).trans p0,(ev_put_ne (by decide)).trans p1,ev_put_eq (by rw[ps];decide),defers_put.trans pd⟩
 generalize a2.put (some 4) (.int .i64 0)=a3 at *
 refine Walks.silent rfl (fun _=>stepG_region_end) ?_
 refine Walks.silent rfl (fun _=>stepG_block (id:=0) (c:= .loop (bodyS Tryz.f71))) ?_
 refine Walks.silent rfl (fun _=>stepG_loop) ?_
 have:=send_loop hxc hyc hxr hyr (T:=T) hN hL (s.length+1) 0 a3 W (fun _=>False) (Nat.zero_le _) (by omega) hSA hH hb hP
 rw[sendsW_iff] at this
 exact this
end
end Go.Ren
