import Derived.Conc.TokenWalk
import Derived.Deep.MidRow
import Derived.Deep.WholeRow
import Derived.Conc.Beside
import Derived.Conc.CrowdComm
import Derived.Test.YtlhimdjkkiflhaaGreatDoorCut06
set_option maxHeartbeats 8000000
set_option maxRecDepth 100000
namespace Go.Ren
open Go Go.Conc
section
variable {P:Program}{F:FuncId→Bool}{S:Sd}{main:Bool}{ro own:Nat→Prop}{Stop:(Nat→Prop)→Goroutine→World→Prop}{w W:World}{ρ:Rn}{b:Frame}{a:Act}{ops:Array Oper}{i:Nat}{rest:List Nat}{o:Oper}{kk:List Item}{cs:List Frame}
theorem gp.XH {w₂:World}(h:gp P S ρ w W)(e:w₂.heap=w.heap):gp P S ρ w₂ W:=by
 obtain⟨⟨h1,h2,h3,h4,h5,h6,h7⟩,g1,g2,g3,g4⟩:=h;exact⟨⟨by rw[e];exact h1,by rw[e];exact h2,by rw[e];exact h3,by rw[e];exact h4,by rw[e];exact h5,by rw[e];exact h6,by rw[e];exact h7⟩,g1,g2,g3,g4⟩
theorem bX (w:World)(o:Obj):(w.alloc o).heap.size=w.heap.size+1:=by show(w.heap.push o).size=_;simp
structure At (P:Program) (S:Sd) (ro:Nat→Prop) (ρ:Rn) (w W:World) (own:Nat→Prop):Prop where
 uu:gp P S ρ w W
 Sg:∀x,Touch S.d ρ w x→own x
 hold:nC ro own W
structure On (ro:Nat→Prop) (ρ:Rn) (w W:World) (own:Nat→Prop) (ρ':Rn) (W':World) (own':Nat→Prop):Prop where
 agree:∀r,r<w.heap.size→ρ' r=ρ r
 own:∀x,own x→own' x
 ro:∀x,ro x→W'.heap[x]?=W.heap[x]?
theorem Aa {ρ':Rn}(h:gp P S ρ w W){w' W':World}(h':gp P S ρ' w' W'):∀x,ρ'.f x=ρ.f x:=λx=>by rw[h.f,h'.f]
theorem aj.KY (hC:jB P F S)(cC:eN P F S o.op=true)(ho:ops[i]?=some o)(hw:Region.wanted o (yielded ops a.tmps)=true)(hk:b.kind≠.early){T:Nat→Value}(hT:∀t,Cl P S w (T t))(hA:At P S ro ρ w W own)
 (hx:execOp a.eval o=execOp (fE λt=>rv ρ (T t)) o){v:World→Value}{o':World→World}(hrun:∀τ d,(execOp (fE T) o).run P (w.re τ d)=.ok (.value (v (w.re τ d))) (o' (w.re τ d)))
 (k:∀(w₀:World) ρ' W' own',w₀.heap=w.heap→At P S ro ρ' (o' w₀) W' own'→On ro ρ w W own ρ' W' own'→Cl P S (o' w₀) (v w₀)→aj P main ro Stop own' (G (b.at (a.put o.dst (rv ρ' (v w₀))) (.inRegion ops rest::kk)) cs) W'):
 aj P main ro Stop own (G (b.at a (.inRegion ops (i::rest)::kk)) cs) W:=
 aj.BP hC cC ho hw hk hT hA.uu hA.Sg hx (Q:=λx w'=>∃τ d,x=v (w.re τ d)∧w'=o' (w.re τ d)) (λτ d=>⟨_,_,hrun τ d,τ,d,rfl,rfl⟩)
  (λx w' ρ' W' own' hq hS h1 _ h3 h4 h5 h6 h7=>by
    obtain⟨τ,d,rfl,rfl⟩:=hq;exact k (w.re τ d) ρ' W' own' rfl ⟨hS,h4,h7⟩ ⟨h1,h5,h6⟩ h3) hA.hold
theorem aj.aav (hC:jB P F S)(cC:eN P F S o.op=true)(ho:ops[i]?=some o)(hw:Region.wanted o (yielded ops a.tmps)=true)(hk:b.kind≠.early){T:Nat→Value}(hT:∀t,Cl P S w (T t))(hA:At P S ro ρ w W own)
 (hx:execOp a.eval o=execOp (fE λt=>rv ρ (T t)) o){o':World→World}(hrun:∀τ d,(execOp (fE T) o).run P (w.re τ d)=.ok .skip (o' (w.re τ d)))
 (k:∀(w₀:World) ρ' W' own',w₀.heap=w.heap→At P S ro ρ' (o' w₀) W' own'→On ro ρ w W own ρ' W' own'→aj P main ro Stop own' (G (b.at (a.put o.dst undef) (.inRegion ops rest::kk)) cs) W'):
 aj P main ro Stop own (G (b.at a (.inRegion ops (i::rest)::kk)) cs) W:=
 aj.opn hC cC ho hw hk hT hA.uu hA.Sg hx (Q:=λw'=>∃τ d,w'=o' (w.re τ d)) (λτ d=>⟨_,hrun τ d,τ,d,rfl⟩)
  (λw' ρ' W' own' hq hS h1 _ h4 h5 h6 h7=>by
    obtain⟨τ,d,rfl⟩:=hq;exact k (w.re τ d) ρ' W' own' rfl ⟨hS,h4,h7⟩ ⟨h1,h5,h6⟩) hA.hold
theorem aj.mv (ho:ops[i]?=some o)(hw:Region.wanted o (yielded ops a.tmps)=true)(hk:b.kind≠.early){dd:Option Tmp}(hdd:o.dst=dd){x:Operand}(hop:o.op=.move x∨o.op=.assign x){v:Value}(hv:a.eval x=v)
 (k:aj P main ro Stop own (G (b.at (a.put dd v) (.inRegion ops rest::kk)) cs) W):aj P main ro Stop own (G (b.at a (.inRegion ops (i::rest)::kk)) cs) W:=by
 subst hdd;subst hv;refine aj.silent rfl (λw₁=>?_) k;have hr:(execOp a.eval o).run P w₁=.ok (.value (a.eval x)) w₁:=by
  unfold execOp;rcases hop with h|h<;>simp[h]
 have he:(execOp a.eval o).events P w₁ #[]=#[]:=by
  unfold execOp;rcases hop with h|h<;>simp[h]
 rw[stepG_value ho hw hk hr,listed_none he]
theorem aj.XI (ho:ops[i]?=some o)(hw:Region.wanted o (yielded ops a.tmps)=true)(hk:b.kind≠.early){dd:Option Tmp}(hdd:o.dst=dd){x:Operand}{j:Nat}(hop:o.op=.extract x j){vs:Array Value}{v:Value}(hx:a.eval x=.tuple vs)(hv:vs[j]?=some v)
 (k:aj P main ro Stop own (G (b.at (a.put dd v) (.inRegion ops rest::kk)) cs) W):aj P main ro Stop own (G (b.at a (.inRegion ops (i::rest)::kk)) cs) W:=by
 subst hdd;refine aj.silent rfl (λw₁=>?_) k;have hr:(execOp a.eval o).run P w₁=.ok (.value v) w₁:=by
  unfold execOp;simp[hop,hx,Instr.extract,hv]
 have he:(execOp a.eval o).events P w₁ #[]=#[]:=by
  unfold execOp;simp[hop,hx,Instr.extract,hv]
 rw[stepG_value ho hw hk hr,listed_none he]
theorem aj.KZ (hC:jB P F S)(ho:ops[i]?=some o)(hw:Region.wanted o (yielded ops a.tmps)=true)(hk:b.kind≠.early){dd:Option Tmp}(hdd:o.dst=dd){e:TypeId}(hop:o.op=.alloc e){ti:TypeInfo}{z:Value}(hi:P.info? e=some ti)(hz:ti.zero=some z)(hA:At P S ro ρ w W own)
 (k:∀(w₀:World) ρ' W' own',w₀.heap=w.heap→At P S ro ρ' (w₀.alloc (.cells z.cells e)) W' own'→On ro ρ w W own ρ' W' own'→aj P main ro Stop own' (G (b.at (a.put dd (.pointer (some ⟨ρ' w.heap.size,0,none⟩))) (.inRegion ops rest::kk)) cs) W'):
 aj P main ro Stop own (G (b.at a (.inRegion ops (i::rest)::kk)) cs) W:=by
 subst hdd;exact aj.KY hC (by rw[hop];rfl) ho hw hk (T:=λ_=>undef) (λ_=>dG) hA (by unfold execOp;rw[hop]) (v:=λ_=> .pointer (some ⟨w.heap.size,0,none⟩)) (o':=λw₀=>w₀.alloc (.cells z.cells e))
  (λτ d=>by unfold execOp;simp[hop,Instr.alloc,zeroValue,typeInfo,hi,hz,newVar,newRow,World.re])
  (λw₀ ρ' W' own' e0 hA' hO _=>by
    have:rv ρ' (.pointer (some ⟨w.heap.size,0,none⟩))=.pointer (some ⟨ρ' w.heap.size,0,none⟩):=by simp[rv,ra]
    rw[this];exact k w₀ ρ' W' own' e0 hA' hO)
theorem aj.storeT (hC:jB P F S)(ho:ops[i]?=some o)(hw:Region.wanted o (yielded ops a.tmps)=true)(hk:b.kind≠.early){dd:Option Tmp}(hdd:o.dst=dd){e:TypeId}{s t:Tmp}(hst:s≠t)(hop:o.op=.store e (.tmp s) (.tmp t)){c c':Array Value}(hi:(P.info? e).map (·.size)=some c'.size)(hs:c.size=c'.size)(h1:c'.all (·.oneCell')=true)
 (hA:At P S ro ρ (w.alloc (.cells c e)) W own)(hp:a.eval (.tmp s)=.pointer (some ⟨ρ w.heap.size,0,none⟩))(hv:a.eval (.tmp t)=rv ρ (.agg c'))(eG:Cl P S (w.alloc (.cells c e)) (.agg c'))(hg:P.globals.size≤w.heap.size)
 (k:∀(w₀:World) ρ' W' own',w₀.heap=w.heap→At P S ro ρ' (w₀.alloc (.cells c' e)) W' own'→On ro ρ (w.alloc (.cells c e)) W own ρ' W' own'→aj P main ro Stop own' (G (b.at (a.put dd undef) (.inRegion ops rest::kk)) cs) W'):
 aj P main ro Stop own (G (b.at a (.inRegion ops (i::rest)::kk)) cs) W:=by
 subst hdd;exact aj.aav hC (by rw[hop];rfl) ho hw hk (T:=λx=>if x=s then .pointer (some ⟨w.heap.size,0,none⟩)else .agg c') (λx=>by
  by_cases h:x=s
  ·simp only[h,if_true];unfold Cl;have:(sg S S.d (w.alloc (.cells c e)).heap.size) w.heap.size=w.heap.size:=bW.2 ⟨zad hA.uu.wr.big.dp hg,by rw[bX];omega⟩;simp only[rv,ra,zaM,this]
  ·simp only[h,if_false];exact eG) hA
  (by
    unfold execOp;rw[hop];simp only[fE,hp,hv,if_true,if_neg (Ne.symm hst)];simp[rv,ra]) (o':=λw₁=>{ w₁ with heap:=w.heap.push (.cells c' e) })
  (λτ d=>by
    unfold execOp;simp only[hop,fE,if_true,if_neg (Ne.symm hst)];have:=run_storeAt_new (P:=P) (w.re τ d) e c c' hi hs h1;have h2:(w.alloc (.cells c e)).re τ d=(w.re τ d).alloc (.cells c e):=rfl;have h3:(w.re τ d).heap.size=w.heap.size:=rfl;rw[h3]at this;rw[h2];simp only[Sem.run_bind,this,Result.andThen_ok,Sem.run_pure];rfl)
  (λw₀ ρ' W' own' e0 hA' hO=>k { w₀ with heap:=w.heap } ρ' W' own' rfl hA' hO)
theorem aj.loadT (hC:jB P F S)(ho:ops[i]?=some o)(hw:Region.wanted o (yielded ops a.tmps)=true)(hk:b.kind≠.early){dd:Option Tmp}(hdd:o.dst=dd){e:TypeId}{s:Tmp}(hop:o.op=.load e (.tmp s)){c:Array Value}{d:TypeDesc}(hu:P.underlying e=some d)(hd:d.isRow=true)(hi:(P.info? e).map (·.size)=some c.size)
 (hA:At P S ro ρ (w.alloc (.cells c e)) W own)(hp:a.eval (.tmp s)=.pointer (some ⟨ρ w.heap.size,0,none⟩))(hg:P.globals.size≤w.heap.size)
 (k:∀(w₀:World) ρ' W' own',w₀.heap=w.heap→At P S ro ρ' (w₀.alloc (.cells c e)) W' own'→On ro ρ (w.alloc (.cells c e)) W own ρ' W' own'→aj P main ro Stop own' (G (b.at (a.put dd (rv ρ' (.agg c))) (.inRegion ops rest::kk)) cs) W'):
 aj P main ro Stop own (G (b.at a (.inRegion ops (i::rest)::kk)) cs) W:=by
 subst hdd
 exact aj.KY hC (by rw[hop];rfl) ho hw hk (T:=λx=> .pointer (some ⟨w.heap.size,0,none⟩)) (λx=>by
       unfold Cl;have:(sg S S.d (w.alloc (.cells c e)).heap.size) w.heap.size=w.heap.size:=bW.2 ⟨zad hA.uu.wr.big.dp hg,by rw[bX];omega⟩;simp only[rv,ra,zaM,this]) hA
  (by
    unfold execOp;rw[hop];simp only[fE,hp];simp[rv,ra]) (v:=λ_=> .agg c) (o':=λw₁=>{ w₁ with heap:=w.heap.push (.cells c e) })
  (λτ dd=>by
    unfold execOp;simp only[hop,fE];have h2:(w.alloc (.cells c e)).re τ dd=(w.re τ dd).alloc (.cells c e):=rfl;have:=run_loadAt_mid (P:=P) ((w.re τ dd).alloc (.cells c e)) w.heap.size 0 e c.toList d (λj v hv=>by
     have hl:(w.re τ dd).heap.size=w.heap.size:=rfl;have:((w.re τ dd).heap.push (Obj.cells c e))[w.heap.size]?=some (.cells c e):=by rw[←hl];simp
     have h5:((w.re τ dd).alloc (.cells c e)).heap[w.heap.size]?=some (.cells c e):=this;simp only[World.cell?,h5];simpa using hv) hu hd (by simpa using hi)
    rw[h2];simp only[Sem.run_bind,this,Result.andThen_ok,Sem.run_pure];rfl)
  (λw₀ ρ' W' own' e0 hA' hO _=>k { w₀ with heap:=w.heap } ρ' W' own' rfl hA' hO)
end
section
variable {P:Program}{F:FuncId→Bool}{S:Sd}{main:Bool}{ro own:Nat→Prop}{Stop:(Nat→Prop)→Goroutine→World→Prop}{w W:World}{ρ:Rn}{b:Frame}{a:Act}{ops:Array Oper}{i:Nat}{rest:List Nat}{o:Oper}{kk:List Item}{cs:List Frame}
theorem K0 {n off:Nat}(hg:S.d≤n)(hn:n<w.heap.size):Cl P S w (.pointer (some ⟨n,off,none⟩)):=by
 unfold Cl;have:(sg S S.d w.heap.size) n=n:=bW.2 ⟨hg,hn⟩;simp only[rv,ra,zaM,this]
theorem aj.Tv (hC:jB P F S)(ho:ops[i]?=some o)(hw:Region.wanted o (yielded ops a.tmps)=true)(hk:b.kind≠.early){dd:Option Tmp}(hdd:o.dst=dd){e:TypeId}{s:Tmp}{j off:Nat}(hop:o.op=.fieldAddr e (.tmp s) j)
 (hf:∀(w:World) (r:Nat),(Instr.fieldAt e (.pointer (some ⟨r,0,none⟩)) j).run P w=.ok (.pointer (some ⟨r,off,none⟩)) w){x:Obj}
 (hA:At P S ro ρ (w.alloc x) W own)(hp:a.eval (.tmp s)=.pointer (some ⟨ρ w.heap.size,0,none⟩))(hg:P.globals.size≤w.heap.size)
 (k:∀(w₀:World) ρ' W' own',w₀.heap=w.heap→At P S ro ρ' (w₀.alloc x) W' own'→On ro ρ (w.alloc x) W own ρ' W' own'→aj P main ro Stop own' (G (b.at (a.put dd (.pointer (some ⟨ρ' w.heap.size,off,none⟩))) (.inRegion ops rest::kk)) cs) W'):
 aj P main ro Stop own (G (b.at a (.inRegion ops (i::rest)::kk)) cs) W:=by
 subst hdd;exact aj.KY hC (by rw[hop];rfl) ho hw hk (T:=λ_=> .pointer (some ⟨w.heap.size,0,none⟩)) (λ_=>K0 (zad hA.uu.wr.big.dp hg) (by rw[bX];omega)) hA
  (by
    unfold execOp;rw[hop];simp only[fE,hp];simp[rv,ra]) (v:=λ_=> .pointer (some ⟨w.heap.size,off,none⟩)) (o':=λw₁=>{ w₁ with heap:=w.heap.push x })
  (λτ dd=>by
    unfold execOp;simp only[hop,fE,Sem.run_bind,hf,Result.andThen_ok,Sem.run_pure];rfl)
  (λw₀ ρ' W' own' e0 hA' hO _=>by
    have:rv ρ' (.pointer (some ⟨w.heap.size,off,none⟩))=.pointer (some ⟨ρ' w.heap.size,off,none⟩):=by simp[rv,ra]
    rw[this];exact k { w₀ with heap:=w.heap } ρ' W' own' rfl hA' hO)
theorem aj.XJ (hC:jB P F S)(ho:ops[i]?=some o)(hw:Region.wanted o (yielded ops a.tmps)=true)(hk:b.kind≠.early){dd:Option Tmp}(hdd:o.dst=dd){e e':TypeId}{s:Tmp}{off:Nat}(hop:o.op=.load e (.tmp s)){c:Array Value}{v:Value}
 (hl:∀(w:World) (a:Addr),w.cell? a=some v→(Instr.loadAt e (.pointer (some a))).run P w=.ok v w)(hc:c[off]?=some v)
 (hA:At P S ro ρ (w.alloc (.cells c e')) W own)(hp:a.eval (.tmp s)=.pointer (some ⟨ρ w.heap.size,off,none⟩))(hg:P.globals.size≤w.heap.size)
 (k:∀(w₀:World) ρ' W' own',w₀.heap=w.heap→At P S ro ρ' (w₀.alloc (.cells c e')) W' own'→On ro ρ (w.alloc (.cells c e')) W own ρ' W' own'→aj P main ro Stop own' (G (b.at (a.put dd (rv ρ' v)) (.inRegion ops rest::kk)) cs) W'):
 aj P main ro Stop own (G (b.at a (.inRegion ops (i::rest)::kk)) cs) W:=by
 subst hdd;exact aj.KY hC (by rw[hop];rfl) ho hw hk (T:=λ_=> .pointer (some ⟨w.heap.size,off,none⟩)) (λ_=>K0 (zad hA.uu.wr.big.dp hg) (by rw[bX];omega)) hA
  (by
    unfold execOp;rw[hop];simp only[fE,hp];simp[rv,ra]) (v:=λ_=>v) (o':=λw₁=>{ w₁ with heap:=w.heap.push (.cells c e') })
  (λτ dd=>by
    have h2:(w.alloc (.cells c e')).re τ dd=(w.re τ dd).alloc (.cells c e'):=rfl;have hcell:((w.re τ dd).alloc (.cells c e')).cell? ⟨w.heap.size,off,none⟩=some v:=by
     have hl:(w.re τ dd).heap.size=w.heap.size:=rfl;have:((w.re τ dd).heap.push (Obj.cells c e'))[w.heap.size]?=some (.cells c e'):=by rw[←hl];simp
     have h5:((w.re τ dd).alloc (.cells c e')).heap[w.heap.size]?=some (.cells c e'):=this;simp only[World.cell?,h5];simpa using hc
    unfold execOp;simp only[hop,fE,Sem.run_bind,h2,hl _ _ hcell,Result.andThen_ok,Sem.run_pure];rfl)
  (λw₀ ρ' W' own' e0 hA' hO _=>k { w₀ with heap:=w.heap } ρ' W' own' rfl hA' hO)
theorem At.rely {aF:World}(hA:At P S ro ρ w W own)(hr:bV ro own W aF):At P S ro (cL ρ w.heap.size aF.heap.size) w aF own∧On ro ρ w W own (cL ρ w.heap.size aF.heap.size) aF own:=
 ⟨⟨hA.uu.grow hr.size λx hx=>hr.block x (.inl (hA.Sg x hx)),λx hx=>hA.Sg x (by rw[cv]at hx;exact hx),λb hb=>by have:=hA.hold.lt b hb;have:=hr.size;omega,hA.hold.ap⟩,
  λr h=>aR h,λx h=>h,λx h=>hr.block x (.inr h)⟩
theorem At.call {W':World}{own':Nat→Prop}(hA:At P S ro ρ w W own)(h1:∀b,own b∨ro b→W'.heap[b]?=W.heap[b]?)(h2:W.heap.size≤W'.heap.size)(h3:∀b,own b→own' b)(h4:nC ro own' W'):At P S ro (cL ρ w.heap.size W'.heap.size) w W' own'∧On ro ρ w W own (cL ρ w.heap.size W'.heap.size) W' own':=
 ⟨⟨hA.uu.grow h2 λx hx=>h1 x (.inl (hA.Sg x hx)),λx hx=>h3 x (hA.Sg x (by rw[cv]at hx;exact hx)),h4⟩,λr h=>aR h,h3,λx h=>h1 x (.inr h)⟩
theorem At.empty [Z:Shut P S] (hH:nC ro own W)(hb:P.globals.size≤W.heap.size):At P S ro (cL jD P.globals.size W.heap.size) (Em P W) W own:=
 ⟨Gm hb,λx hx=>by obtain⟨r,h1,h2,_⟩:=hx;rw[nW]at h2;rw[Z.d]at h1;omega,hH⟩
theorem aO {t k:Tmp}{v:Value}(h:t≠k):(Act.put a (some t) v).eval (.tmp k)=a.eval (.tmp k):=by
 simp only[Act.put,Act.eval,zaL,zan h]
theorem bk {k:Tmp}{v:Value}(h:k<a.tmps.size):(Act.put a (some k) v).eval (.tmp k)=v:=by
 simp only[Act.put,Act.eval,zaL,zaV h];rfl
theorem size_put {d:Option Tmp}{v:Value}:(Act.put a d v).tmps.size=a.tmps.size:=by
 cases d<;>simp[Act.put]
theorem cM {d:Option Tmp}{v:Value}:(Act.put a d v).defers=a.defers:=by
 cases d<;>simp[Act.put]
theorem vT {v:Value}:Act.put a none v=a:=rfl
end
def jR (X:Nat→Prop):Loc→Prop
 |.cell a=>X a.block
 |.obj r=>X r
 |_=>False
def K1 (ro own:Nat→Prop)(op:MemOp):Prop:=
 (∀x,op.act.touch? =some x→jR own x.loc∨(jR ro x.loc∧x.write=false))∧op.act≠.mark .disable∧op.act≠.mark .enable
structure TI (Q Shun:Loc→Prop) (c:Nat) (aS ro:Nat→Prop) (B:Nat) (t:Trace):Prop where
 clean:∀said,¬Race said t
 known:∀i a,touchAt t i=some a→a.loc.isMemory=true→Knows t 0 i∨(Shun a.loc∧a.kind=.atomic)∨(t.g? i=some c∧(jR aS a.loc∨(jR ro a.loc∧a.write=false)))
 Il:∀i a,touchAt t i=some a→jR aS a.loc→t.g? i=some c
 Wu:∀i a,touchAt t i=some a→jR ro a.loc→a.write=true→Knows t c i
 quiet:∀i a,touchAt t i=some a→Q a.loc→a.kind≠.plain∧(a.kind=.said→t.g? i=some 0)
 over:∀i g,t.g? i=some g→g≠0→g≠c→t.counts i→∃j,t.g? j=some 0∧HappensBefore t i j
 seen:∀op∈t,op.act.low B
theorem jR.mono {X Y:Nat→Prop}(h:∀b,X b→Y b):∀{l:Loc},jR X l→jR Y l
 |.cell _,x=>h _ x
 |.obj _,x=>h _ x
theorem jR.no {X Y:Nat→Prop}(h:∀b,X b→¬Y b):∀{l:Loc},jR X l→¬jR Y l
 |.cell _,x=>h _ x
 |.obj _,x=>h _ x
theorem yP {ro own:Nat→Prop}{e:Event}(h:yO ro own e):∀x,(MemAct.ofEvent e).touch? =some x→jR own x.loc∨(jR ro x.loc∧x.write=false):=by
 intro x hx;obtain⟨loc,wr,sy⟩:=e;cases loc with
 |cell a=>
  have:MemAct.ofEvent ⟨.cell a,wr,sy⟩=.access ⟨.cell a,wr,sy⟩:=by cases wr<;>cases sy<;>rfl
  rw[this]at hx;simp only[MemAct.touch?,zap]at hx;subst hx;exact h
 |obj r=>
  obtain⟨h1,h2⟩:=h;simp only at h2;subst h2;have:MemAct.ofEvent ⟨.obj r,wr,false⟩=.access ⟨.obj r,wr,false⟩:=by cases wr<;>rfl
  rw[this]at hx;simp only[MemAct.touch?,zap]at hx;subst hx;exact .inl h1
 |mark m=>
  have:MemAct.ofEvent ⟨.mark m,wr,sy⟩=.mark m:=by cases wr<;>cases sy<;>rfl
  rw[this]at hx;obtain⟨h1,_⟩:=h;cases m<;>first|exact h1.elim|cases hx
 |_=>exact h.elim
theorem nX {ro own:Nat→Prop}{e:Event}(h:yO ro own e):e.loc≠.mark .disable∧e.loc≠.mark .enable:=by
 obtain⟨loc,wr,sy⟩:=e;cases loc with
 |mark m=>obtain⟨h1,_⟩:=h;cases m<;>first|exact h1.elim|exact⟨by simp,by simp⟩
 |_=>exact⟨by simp,by simp⟩
theorem Gr {ro own:Nat→Prop}{B:Nat}(hB:∀b,own b→b<B)(hr:∀b,ro b→b<B){e:Event}(h:yO ro own e):(MemAct.ofEvent e).low B:=by
 obtain⟨loc,wr,sy⟩:=e;cases loc with
 |cell a=>
  have:MemAct.ofEvent ⟨.cell a,wr,sy⟩=.access ⟨.cell a,wr,sy⟩:=by cases wr<;>cases sy<;>rfl
  rw[this];exact h.elim (λx=>hB _ x) λx=>hr _ x.1
 |obj r=>
  obtain⟨h1,h2⟩:=h;simp only at h2;subst h2;have:MemAct.ofEvent ⟨.obj r,wr,false⟩=.access ⟨.obj r,wr,false⟩:=by cases wr<;>rfl
  rw[this];exact hB _ h1
 |mark m=>
  have:MemAct.ofEvent ⟨.mark m,wr,sy⟩=.mark m:=by cases wr<;>cases sy<;>rfl
  rw[this];obtain⟨h1,_⟩:=h;cases m<;>first|exact h1.elim|trivial
 |_=>exact h.elim
section
variable {Q Shun:Loc→Prop}{c:Nat}{aS ro own:Nat→Prop}{B:Nat}{t u:Trace}
theorem OI {X:Nat→Prop}{l:Loc}(h:jR X l)(hX:∀b,X b→¬b<B)(hl:l.low B):False:=by
 cases l<;>first|exact hX _ h hl|exact h.elim
theorem yQ {op:MemOp}{x:Go.Touch}(hl:op.act.low B)(hx:op.act.touch? =some x):x.loc.low B:=by
 obtain⟨g,fn,pos,act⟩:=op;cases act with
 |access e=>simp only[MemAct.touch?,zap]at hx;subst hx;exact hl
 |mark m=>cases m<;>simp only[MemAct.touch?,zap]at hx<;>first|(subst hx;exact hl)|cases hx
 |_=>cases hx
theorem qW (h:∀i g,t.g? i=some g→g≠0→g≠c→t.counts i→∃j,t.g? j=some 0∧HappensBefore t i j)(hu:∀op∈u,op.g=0∨op.g=c∨op.act.touch? =none):∀i g,(t++u).g? i=some g→g≠0→g≠c→(t++u).counts i→∃j,(t++u).g? j=some 0∧HappensBefore (t++u) i j:=by
 intro i g hg h0 hc Bn;obtain⟨x,hx,hm,hk⟩:=id Bn;obtain⟨op,hop,hox⟩:=touch_of hx;rcases getElem?_append_cases hop with⟨hi,acC⟩|⟨_,aaw⟩
 ·obtain⟨j,hj,hb⟩:=h i g (by rw[←g?_old (u:=u) hi];exact hg) h0 hc ((counts_old hi).1 Bn);have vU:j<t.size:=by
   unfold Trace.g? at hj;obtain⟨z,hz,_⟩:=zam.1 hj;exact lt_size_of_getElem? hz
  exact⟨j,by rw[g?_old vU];exact hj,hb_app u hb⟩
 ·have hgo:op.g=g:=by simpa[Trace.g?,hop]using hg
  rcases hu op aaw with h1|h1|h1
  ·exact absurd (hgo.symm.trans h1) h0
  ·exact absurd (hgo.symm.trans h1) hc
  ·rw[h1]at hox;cases hox
theorem TI.mono {B':Nat}(h:TI Q Shun c aS ro B t)(hB:B≤B'):TI Q Shun c aS ro B' t:=⟨h.clean,h.known,h.Il,h.Wu,h.quiet,h.over,λop hop=>MemAct.low_mono hB (h.seen op hop)⟩
theorem bU {i:Nat}{a:Go.Touch}(ha:touchAt (t++u) i=some a):(i<t.size∧touchAt t i=some a)∨(t.size≤i∧∃op∈u,(t++u)[i]?=some op∧op.act.touch? =some a):=by
 obtain⟨x,hx,hxa⟩:=touch_of ha;rcases getElem?_append_cases hx with⟨hi,Ab⟩|⟨hi,hxu⟩
 ·exact .inl ⟨hi,by rw[touchAt_of Ab];exact hxa⟩
 ·exact .inr ⟨hi,x,hxu,hx,hxa⟩
theorem TI.still (h:TI Q Shun c aS ro B t)(hn:∀op∈u,op.act.touch? =none)(hl:∀op∈u,op.act.low B):TI Q Shun c aS ro B (t++u):=by
 have old:∀{i a},touchAt (t++u) i=some a→i<t.size∧touchAt t i=some a:=λha=>by
  rcases bU ha with h|⟨_,op,hop,_,hx⟩
  ·exact h
  ·rw[hn op hop]at hx;cases hx
 refine⟨λsaid=>?_,λi a ha hm=>?_,λi a ha hg=>?_,λi a ha hg hw=>?_,λi a ha hq=>?_,qW h.over λop hop=> .inr (.inr (hn op hop)),seen_app h.seen hl⟩
 ·rintro ⟨i,j,hij,⟨a,b,ha,hb,hc⟩,n1,n2⟩;obtain⟨hi,ha'⟩:=old ha;obtain⟨hj,hb'⟩:=old hb;exact h.clean said ⟨i,j,hij,⟨a,b,ha',hb',hc⟩,λe=>n1 (hb_app u e),λe=>n2 (hb_app u e)⟩
 ·obtain⟨hi,ha'⟩:=old ha;rw[g?_old hi];exact(h.known i a ha' hm).imp (·.app u) id
 ·obtain⟨hi,ha'⟩:=old ha;rw[g?_old hi];exact h.Il i a ha' hg
 ·obtain⟨hi,ha'⟩:=old ha;exact(h.Wu i a ha' hg hw).app u
 ·obtain⟨hi,ha'⟩:=old ha;rw[g?_old hi];exact h.quiet i a ha' hq
theorem TI.app0 (_hc0:c≠0)(h:TI Q Shun c aS ro B t)(hu:∀op∈u,op.g=0∧K1 ro own op)(hl:∀op∈u,op.act.low B)
 (hS:∀l,jR own l∨jR ro l→¬Shun l)(hQ:∀l,jR own l∨jR ro l→¬Q l)(hG:∀b,own b→¬aS b)(hR:∀b,own b→¬ro b)(Wv:∀b,aS b→¬ro b):TI Q Shun c aS ro B (t++u):=by
 have place:∀op∈u,∀x,op.act.touch? =some x→jR own x.loc∨jR ro x.loc:=λop hop x hx=>((hu op hop).2.1 x hx).imp id (·.1);refine⟨λsaid=>noRace_append (h.clean said) (λop hop=>(hu op hop).1) λi a ha op hop b hb hc=>?_,λi a ha hm=>?_,λi a ha hg=>?_,λi a ha hg hw=>?_,λi a ha hq=>?_,qW h.over λop hop=> .inl (hu op hop).1,seen_app h.seen hl⟩
 ·rcases h.known i a ha hc.2.1 with hk|⟨hs,_⟩|⟨_,hg|⟨hr,hw⟩⟩
  ·exact hk
  ·exact absurd (hc.1▸hs) (hS _ (place op hop b hb))
  ·rcases place op hop b hb with h1|h1
   ·exact absurd (hc.1▸hg) (jR.no hG h1)
   ·exact absurd h1 (jR.no Wv (hc.1▸hg))
  ·rcases(hu op hop).2.1 b hb with h1|⟨_,h1⟩
   ·exact absurd (hc.1▸hr) (jR.no hR h1)
   ·have:=hc.2.2.1;rw[hw,h1]at this;simp at this
 ·rcases bU ha with⟨hi,ha'⟩|⟨_,op,hop,hx,_⟩
  ·rw[g?_old hi];exact(h.known i a ha' hm).imp (·.app u) id
  ·have:=knows_own hx;rw[(hu op hop).1]at this;exact .inl this
 ·rcases bU ha with⟨hi,ha'⟩|⟨_,op,hop,_,hb⟩
  ·rw[g?_old hi];exact h.Il i a ha' hg
  ·rcases place op hop a hb with h1|h1
   ·exact absurd hg (jR.no hG h1)
   ·exact absurd h1 (jR.no Wv hg)
 ·rcases bU ha with⟨hi,ha'⟩|⟨_,op,hop,_,hb⟩
  ·exact(h.Wu i a ha' hg hw).app u
  ·rcases(hu op hop).2.1 a hb with h1|⟨_,h1⟩
   ·exact absurd hg (jR.no hR h1)
   ·rw[h1]at hw;cases hw
 ·rcases bU ha with⟨hi,ha'⟩|⟨_,op,hop,_,hb⟩
  ·rw[g?_old hi];exact h.quiet i a ha' hq
  ·exact absurd hq (hQ _ (place op hop a hb))
theorem TI.aax {own':Nat→Prop}{B':Nat}(h:TI Q Shun c aS ro B t)(hB:B≤B')(hu:∀op∈u,op.g=c∧K1 ro own' op)(hl:∀op∈u,op.act.low B')
 (hown:∀b,own' b↔aS b∨(B≤b∧b<B'))(hQ:∀l,jR own' l∨jR ro l→¬Q l):TI Q Shun c own' ro B' (t++u):=by
 have place:∀op∈u,∀x,op.act.touch? =some x→jR own' x.loc∨jR ro x.loc:=λop hop x hx=>((hu op hop).2.1 x hx).imp id (·.1);have XK:∀i a,touchAt t i=some a→jR own' a.loc→jR aS a.loc:=λi a ha hi=>by
  obtain⟨x,hx,hxa⟩:=touch_of ha;have fW:=yQ (h.seen x (mem_of_getElem? hx)) hxa;generalize a.loc=l at hi fW;cases l with
  |cell ad=>exact((hown _).1 hi).resolve_right λh1=>by have:ad.block<B:=fW;omega
  |obj r=>exact((hown _).1 hi).resolve_right λh1=>by have:r<B:=fW;omega
  |_=>exact hi.elim
 refine⟨λsaid=>noRace_append (h.clean said) (λop hop=>(hu op hop).1) λi a ha op hop b hb hc=>?_,λi a ha hm=>?_,λi a ha hg=>?_,λi a ha hg hw=>?_,λi a ha hq=>?_,qW h.over λop hop=> .inr (.inl (hu op hop).1),seen_app (λop hop=>MemAct.low_mono hB (h.seen op hop)) hl⟩
 ·rcases(hu op hop).2.1 b hb with h1|⟨h1,h2⟩
  ·have hg:=h.Il i a ha (XK i a ha (hc.1▸h1));obtain⟨x,hx,_⟩:=touch_of ha;have:=knows_own hx;have e:x.g=c:=by simpa[Trace.g?,hx]using hg
   rwa[e]at this
  ·refine h.Wu i a ha (hc.1▸h1) ?_;rcases hc.2.2.1 with h3|h3
   ·exact h3
   ·rw[h2]at h3;cases h3
 ·rcases bU ha with⟨hi,ha'⟩|⟨_,op,hop,hx,hb⟩
  ·rw[g?_old hi];rcases h.known i a ha' hm with hk|hk|⟨hk,hk2⟩
   ·exact .inl (hk.app u)
   ·exact .inr (.inl hk)
   ·exact .inr (.inr ⟨hk,hk2.imp (jR.mono λb hb=>(hown b).2 (.inl hb)) id⟩)
  ·exact .inr (.inr ⟨by simp[Trace.g?,hx,(hu op hop).1],(hu op hop).2.1 a hb⟩)
 ·rcases bU ha with⟨hi,ha'⟩|⟨_,op,hop,hx,_⟩
  ·rw[g?_old hi];exact h.Il i a ha' (XK i a ha' hg)
  ·simp[Trace.g?,hx,(hu op hop).1]
 ·rcases bU ha with⟨hi,ha'⟩|⟨_,op,hop,hx,_⟩
  ·exact(h.Wu i a ha' hg hw).app u
  ·have:=knows_own hx;rwa[(hu op hop).1]at this
 ·rcases bU ha with⟨hi,ha'⟩|⟨_,op,hop,_,hb⟩
  ·rw[g?_old hi];exact h.quiet i a ha' hq
  ·exact absurd hq (hQ _ (place op hop a hb))
theorem TI.OJ {g:Nat}(h:TI Q Shun c aS ro B t)(hg:g=0∨g=c)(hu:∀op∈u,op.g=g∧∀x,op.act.touch? =some x→Q x.loc∧x.kind≠.plain∧(x.kind=.said→g=0))(hl:∀op∈u,op.act.low B)
 (Sh:∀l,Q l→Shun l)(XL:∀l,Q l→¬jR aS l∧¬jR ro l):TI Q Shun c aS ro B (t++u):=by
 refine⟨λsaid=>noRace_append (h.clean said) (λop hop=>(hu op hop).1) λi a ha op hop b hb hc=>?_,λi a ha hm=>?_,λi a ha hgo=>?_,λi a ha hr hw=>?_,λi a ha hq=>?_,qW h.over λop hop=>hg.elim (λe=> .inl ((hu op hop).1.trans e)) λe=> .inr (.inl ((hu op hop).1.trans e)),seen_app h.seen hl⟩
 ·obtain⟨q1,q2,q3⟩:=(hu op hop).2 b hb;obtain⟨p1,p2⟩:=h.quiet i a ha (hc.1▸q1);rcases hc.2.2.2 with h1|h1|⟨_,h1,h2⟩
  ·exact absurd h1 p1
  ·exact absurd h1 q2
  ·have e0:=q3 h2;subst e0;obtain⟨x,hx,_⟩:=touch_of ha;have:=knows_own hx;have e:x.g=0:=by simpa[Trace.g?,hx]using p2 h1
   rwa[e]at this
 ·rcases bU ha with⟨hi,ha'⟩|⟨_,op,hop,hx,hb⟩
  ·rw[g?_old hi];exact(h.known i a ha' hm).imp (·.app u) id
  ·obtain⟨q1,q2,q3⟩:=(hu op hop).2 a hb;by_cases hk:a.kind=.atomic
   ·exact .inr (.inl ⟨Sh _ q1,hk⟩)
   ·have XM:a.kind=.said:=by
     cases gU:a.kind<;>simp_all
    have:=knows_own hx;rw[(hu op hop).1,q3 XM]at this;exact .inl this
 ·rcases bU ha with⟨hi,ha'⟩|⟨_,op,hop,_,hb⟩
  ·rw[g?_old hi];exact h.Il i a ha' hgo
  ·exact absurd hgo (XL _ ((hu op hop).2 a hb).1).1
 ·rcases bU ha with⟨hi,ha'⟩|⟨_,op,hop,_,hb⟩
  ·exact(h.Wu i a ha' hr hw).app u
  ·exact absurd hr (XL _ ((hu op hop).2 a hb).1).2
 ·rcases bU ha with⟨hi,ha'⟩|⟨_,op,hop,hx,hb⟩
  ·rw[g?_old hi];exact h.quiet i a ha' hq
  ·obtain⟨_,q2,q3⟩:=(hu op hop).2 a hb;refine⟨q2,λhs=>?_⟩;rw[show(t++u).g? i=some op.g by simp[Trace.g?,hx],(hu op hop).1,q3 hs]
end
end Go.Ren
namespace Go.Ren
open Go Go.Conc
open Go.ConcN (sumTo upd sumTo_upd upd_ne upd_same)
def Reach (P:Program)(m:Machine)(t:Trace)(Q:Machine→Trace→Prop):Prop:=∃N m' t',runNT P N m t=(.next m',t')∧Q m' t'
section
variable {P:Program}{m m':Machine}{t:Trace}{Q Q':Machine→Trace→Prop}{ops:Trace}
theorem Reach.here (h:Q m t):Reach P m t Q:=⟨0,m,t,rfl,h⟩
theorem Reach.step (h:stepT P m=(.next m',ops))(k:Reach P m' (t++ops) Q):Reach P m t Q:=by
 obtain⟨N,a,b,h1,h2⟩:=k;exact⟨N+1,a,b,by simp only[runNT,h];exact h1,h2⟩
theorem Reach.bind (h:Reach P m t Q)(k:∀m t,Q m t→Reach P m t Q'):Reach P m t Q':=by
 obtain⟨N,a,b,h1,h2⟩:=h
 induction N generalizing m t with
 |zero=>
  simp only[runNT,zab,Stepped.next.injEq]at h1;obtain⟨rfl,rfl⟩:=h1;exact k _ _ h2
 |succ N ih=>
  simp only[runNT]at h1;cases hs:stepT P m with
  |mk e ops=>
   rw[hs]at h1;cases e with
   |next m1=>exact Reach.step hs (ih h1)
   |_=>simp at h1
theorem Reach.mono (h:Reach P m t Q)(k:∀m t,Q m t→Q' m t):Reach P m t Q':=h.bind λ_ _ hq=> .here (k _ _ hq)
end
def BQ (P:Program)(w:World)(a:Goroutine):Prop:=∀x x' d,woken P x x' (w.at d) a=a
theorem BQ.run {P:Program}{w:World}{a:Goroutine}(h:a.status=.running):BQ P w a:=λ_ _ _=>woken_run h
structure eJ (P:Program) (c:Nat) (t:Trace) (gs:Array Goroutine) (q:Nat→Nat):Prop where
 size:gs.size=c+1
 pos:0<c
 old:∀i g,0<i→i<c→gs[i]?=some g→QuitsD P (q i) (Deaf t i) g
 above:∀j,c<j→Deaf t j=0
section
variable {P:Program}{c:Nat}{t:Trace}{gs:Array Goroutine}{q:Nat→Nat}{a b a' b':Goroutine}{w w':World}{sl:Option (Nat×Nat)}{es:Array Event}
theorem ofEvents_g {g:Nat}{fn:FuncId}{pos:String}{es:Array Event}:∀op∈MemOp.ofEvents g fn pos es,op.g=g:=λop hop=>by obtain⟨e,_,rfl⟩:=Conc.mem_ofEvents hop;rfl
theorem pX {e:Event}(h:e.mute=true)(a:Addr):MemAct.ofEvent e≠.mark (.release a):=by
 obtain⟨loc,wr,sy⟩:=e;cases loc<;>simp_all [Event.mute];rename_i m;cases m<;>simp_all [MemAct.ofEvent]
theorem eJ.get (h:eJ P c t gs q){i:Nat}{g:Goroutine}(hi:gs[i]?=some g):i=0∨i=c∨(0<i∧i<c):=by
 have:=(zae.1 hi).1;have:=h.size;omega
theorem Eo (hC:eJ P c t gs q)(h0:gs[0]?=some a)(hc:gs[c]?=some b)(NP:awake a)(XN:awake b)(hrun:a.status=.running∨b.status=.running)(sa:BQ P w a)(sb:BQ P w b):(a.status=.running∧∃d sl',stepT P (crowd gs w sl)=runT P (crowd gs (w.at d) sl') 0)∨
 (b.status=.running∧∃d sl',stepT P (crowd gs w sl)=runT P (crowd gs (w.at d) sl') c)∨
 (∃gs' d sl' ops q',stepT P (crowd gs w sl)=(.next (crowd gs' (w.at d) sl'),ops)∧eJ P c (t++ops) gs' q'∧gs'[0]?=some a∧gs'[c]?=some b∧sumTo c q'<sumTo c q∧(∀op∈ops,op.act.touch? =none∧∀a,op.act≠.mark (.release a))∧(∀B,∀op∈ops,op.act.low B)∧Deaf (t++ops) 0=Deaf t 0∧Deaf (t++ops) c=Deaf t c):=by
 have jS:=hC.pos;have Tx:∀g∈gs,awake g:=by
  intro g hg;obtain⟨i,hi,rfl⟩:=zbp.1 hg;have hi':=zar hi;rcases hC.get hi' with rfl|rfl|⟨h1,h2⟩
  ·rw[h0]at hi';obtain rfl:=Option.some.inj hi';exact NP
  ·rw[hc]at hi';obtain rfl:=Option.some.inj hi';exact XN
  ·exact awake_of ((hC.old i _ h1 h2 hi').status.elim .inl λx=> .inr (.inr x))
 obtain⟨i,g,d,sl',hi,hg,hst⟩:=crowd_pick (P:=P) (w:=w) (sl:=sl) Tx (hrun.elim (λh=>⟨0,a,h0,h⟩) λh=>⟨c,b,hc,h⟩);rcases hC.get hi with rfl|rfl|⟨h1,h2⟩
 ·rw[h0]at hi;obtain rfl:=Option.some.inj hi;exact .inl ⟨hg,d,sl',hst⟩
 ·rw[hc]at hi;obtain rfl:=Option.some.inj hi;exact .inr (.inl ⟨hg,d,sl',hst⟩)
 ·right;right;have hq:=hC.old i g h1 h2 hi;have Ty:(i==0)=false:=by simp;omega
  have hlt:i<gs.size:=(zae.1 hi).1;cases Ep:q i with
  |zero=>rw[Ep]at hq;rw[hq.1]at hg;cases hg
  |succ k=>
   rw[Ep]at hq;rcases hq with⟨hf,_⟩|⟨_,g',es,hm,Er,hq'⟩
   ·rw[hf]at hg;cases hg
   have qX:=runT_crowd_go (P:=P) (sl:=sl') (i:=i) hi (by rw[Ty];exact Er (w.at d));have Tz:sumTo c (upd q i k)+(k+1)=sumTo c q+k:=by
    have:=sumTo_upd q k id h2;simpa[Ep]using this
   refine⟨_,d,sl',_,upd q i k,hst.trans qX,⟨by simp[hC.size],jS,λj x hj TA hx=>?_,λj hj=>?_⟩,?_,?_,by omega,λop hop=>?_,λB op hop=>?_,Deaf_other t (by omega) _ ofEvents_g,Deaf_other t (by omega) _ ofEvents_g⟩
   ·by_cases Ac:i=j
    ·subst Ac;rw[zaV (by simpa using hlt)]at hx;obtain rfl:=Option.some.inj hx;rw[upd_same,Deaf_own];exact hq'
    ·rw[zan Ac,zal]at hx;obtain⟨y,hy,rfl⟩:=zam.1 hx;have K2:=hC.old j y hj TA hy;rw[woken_quitsD K2,upd_ne q k (Ne.symm Ac),Deaf_other t Ac _ ofEvents_g];exact K2
   ·rw[Deaf_other t (g':=i) (by omega) _ ofEvents_g];exact hC.above j hj
   ·rw[zan (by omega),zal,h0];simp[sa g g' d]
   ·rw[zan (by omega),zal,hc];simp[sb g g' d]
   ·obtain⟨e,he,rfl⟩:=Conc.mem_ofEvents hop;exact⟨touch_mute (hm e he),λa=>pX (hm e he) a⟩
   ·obtain⟨e,he,rfl⟩:=Conc.mem_ofEvents hop;exact low_mute (hm e he) B
theorem qY (hC:eJ P c t gs q)(h0:gs[0]?=some a)(hc:gs[c]?=some b)(hs:stepG P true a w=.go a' w' es):∃gs',runT P (crowd gs w sl) 0=(.next (crowd gs' w' sl),MemOp.ofEvents 0 a.frame.fn a.frame.place es)∧eJ P c (t++MemOp.ofEvents 0 a.frame.fn a.frame.place es) gs' q∧gs'[0]?=some a'∧gs'[c]?=some (woken P a a' w' b):=by
 have jS:=hC.pos;have hlt:0<gs.size:=(zae.1 h0).1;refine⟨_,runT_crowd_go (P:=P) (sl:=sl) (i:=0) h0 (show stepG P (0==0) a w=_ from hs),⟨by simp[hC.size],jS,λj x hj TA hx=>?_,λj hj=>?_⟩,by simp[hlt],?_⟩
 ·rw[zan (by omega),zal]at hx;obtain⟨y,hy,rfl⟩:=zam.1 hx;have hq:=hC.old j y hj TA hy;rw[woken_quitsD hq,Deaf_other t (by omega) _ ofEvents_g];exact hq
 ·rw[Deaf_other t (by omega) _ ofEvents_g];exact hC.above j hj
 ·rw[zan (by omega),zal,hc];rfl
theorem kD (hC:eJ P c t gs q)(h0:gs[0]?=some a)(hc:gs[c]?=some b)(hs:stepG P false b w=.go b' w' es):∃gs',runT P (crowd gs w sl) c=(.next (crowd gs' w' sl),MemOp.ofEvents c b.frame.fn b.frame.place es)∧eJ P c (t++MemOp.ofEvents c b.frame.fn b.frame.place es) gs' q∧gs'[0]?=some (woken P b b' w' a)∧gs'[c]?=some b':=by
 have jS:=hC.pos;have hlt:c<gs.size:=(zae.1 hc).1;have hc0:(c==0)=false:=by simp;omega
 refine⟨_,runT_crowd_go (P:=P) (sl:=sl) (i:=c) hc (by rw[hc0];exact hs),⟨by simp[hC.size],jS,λj x hj TA hx=>?_,λj hj=>?_⟩,?_,by simp[hlt]⟩
 ·rw[zan (by omega),zal]at hx;obtain⟨y,hy,rfl⟩:=zam.1 hx;have hq:=hC.old j y hj TA hy;rw[woken_quitsD hq,Deaf_other t (by omega) _ ofEvents_g];exact hq
 ·rw[Deaf_other t (by omega) _ ofEvents_g];exact hC.above j hj
 ·rw[zan (by omega),zal,h0];rfl
theorem dK (t:Trace)(g:Nat)(u:Trace)(hu:∀op∈u,∀m,op.act≠.mark m):Deaf (t++u) g=Deaf t g:=by
 obtain⟨l⟩:=u;rw[Deaf_append];generalize Deaf t g=d
 induction l generalizing d with
 |nil=>rfl
 |cons y l ih=>
  have e1:deafStep g d y=d:=by
   unfold deafStep;split
   ·exact absurd ‹_› (hu y (by simp) _)
   ·exact absurd ‹_› (hu y (by simp) _)
   ·rfl
  rw[List.foldl_cons,e1];exact ih (λop hop=>hu op (by simp at hop ⊢;exact .inr hop)) d
theorem eJ.comm (hC:eJ P c t gs q){gs':Array Goroutine}{u:Trace}(hu:∀op∈u,∀m,op.act≠.mark m)(hsz:gs'.size=gs.size)(hg:∀i,i≠0→i≠c→gs'[i]?=gs[i]?):eJ P c (t++u) gs' q:=
 ⟨hsz.trans hC.size,hC.pos,λi g h1 h2 hi=>by rw[dK t i u hu];exact hC.old i g h1 h2 (by rw[←hg i (by omega) (by omega)];exact hi),λj hj=>by rw[dK t j u hu];exact hC.above j hj⟩
theorem eJ.offers (hC:eJ P c t gs q){i ch:Nat}{send:Bool}{g:Goroutine}(h1:0<i)(h2:i<c)(hi:gs[i]?=some g):offersAt g ch send=[]:=
 offersAt_of_not_blocked (by rcases(hC.old i g h1 h2 hi).status with h|h<;>simp[h]) _ _
theorem kE (hC:eJ P c t gs q)(hc:gs[c]?=some b){ch:Nat}{send:Bool}:partners (gs.setIfInBounds 0 ph) ch send=(offersAt b ch send).map λk=>(c,k):=by
 have jS:=hC.pos;refine partners_one (by rw[zan (by omega)];exact hc) λk x hk hx=>?_;rcases getElem?_stand gs 0 k x hx with⟨_,rfl⟩|⟨h1,h2⟩
 ·rfl
 ·rcases hC.get h2 with h|h|⟨h3,h4⟩
  ·exact absurd h h1
  ·exact absurd h hk
  ·exact hC.offers h3 h4 h2
theorem nY (hC:eJ P c t gs q)(h0:gs[0]?=some a){ch:Nat}{send:Bool}:partners (gs.setIfInBounds c ph) ch send=(offersAt a ch send).map λk=>(0,k):=by
 have jS:=hC.pos;refine partners_one (by rw[zan (by omega)];exact h0) λk x hk hx=>?_;rcases getElem?_stand gs c k x hx with⟨_,rfl⟩|⟨h1,h2⟩
 ·rfl
 ·rcases hC.get h2 with h|h|⟨h3,h4⟩
  ·exact absurd h hk
  ·exact absurd h h1
  ·exact hC.offers h3 h4 h2
variable {ch s r:Nat}{tm:Bool}{z z' v:Value}{a₂ sH:Goroutine}
theorem ofEvents_none (g:Nat)(fn:FuncId)(pos:String):MemOp.ofEvents g fn pos #[]=#[]:=rfl
theorem uv (hC:eJ P c t gs q)(h0:gs[0]?=some a)(hc:gs[c]?=some b)(hb:b.status≠.blocked)(hs:stepG P true a w=.comm a₂ #[rcase ch z] true (.recv true) w #[])(hch:w.heap[ch]?=some (.chan 0 #[] false s r tm)):∃gs',runT P (crowd gs w sl) 0=(.next (crowd gs' w sl),#[])∧eJ P c (t++#[]) gs' q∧gs'[0]?=some (parked a₂ #[rcase ch z] (.recv true))∧gs'[c]?=some b:=by
 have jS:=hC.pos;have hlt:0<gs.size:=(zae.1 h0).1;have:=crowd_waits (P:=P) (sl:=sl) (i:=0) h0 (show stepG P (0==0) a w=_ from hs) λcc hcc=>by
  simp only[zbb,zas,zbc,or_false]at hcc;subst hcc;exact ways_recv_none hch (by rw[kE hC hc,offersAt_of_not_blocked hb];rfl)
 refine⟨_,this,hC.comm (by simp) (by simp) λi h1 h2=>?_,by simp[hlt],?_⟩
 ·rw[zan (Ne.symm h1)]
 ·rw[zan (by omega)];exact hc
theorem uw (hC:eJ P c t gs q)(h0:gs[0]?=some a)(hc:gs[c]?=some b)(ha:a.status≠.blocked)(hs:stepG P false b w=.comm sH #[scase ch v z'] true .send w #[])(hch:w.heap[ch]?=some (.chan 0 #[] false s r tm)):∃gs',runT P (crowd gs w sl) c=(.next (crowd gs' w sl),#[])∧eJ P c (t++#[]) gs' q∧gs'[0]?=some a∧gs'[c]?=some (parked sH #[scase ch v z'] .send):=by
 have jS:=hC.pos;have hlt:c<gs.size:=(zae.1 hc).1;have hc0:(c==0)=false:=by simp;omega
 have:=crowd_waits (P:=P) (sl:=sl) (i:=c) hc (by rw[hc0];exact hs) λcc hcc=>by
  simp only[zbb,zas,zbc,or_false]at hcc;subst hcc;exact ways_send_none hch (by simp) (by rw[nY hC h0,offersAt_of_not_blocked ha];rfl)
 refine⟨_,this,hC.comm (by simp) (by simp) λi h1 h2=>?_,?_,by simp[hlt]⟩
 ·rw[zan (Ne.symm h2)]
 ·rw[zan (by omega)];exact h0
def K3 (ch:Nat)(u:Trace):Prop:=∀op∈u,op.act.touch? =none∧(∀m,op.act≠.mark m)∧∀B,ch<B→op.act.low B
theorem ux (hC:eJ P c t gs q)(h0:gs[0]?=some a)(hc:gs[c]?=some (parked sH #[scase ch v z'] .send))(hs:stepG P true a w=.comm a₂ #[rcase ch z] true (.recv true) w #[])(hch:w.heap[ch]?=some (.chan 0 #[] false s r tm)):∃gs' u,runT P (crowd gs w sl) 0=(.next (crowd gs' (w.setChan ch 0 #[] false (s+1) (r+1) tm) sl),u)∧K3 ch u∧eJ P c (t++u) gs' q∧gs'[0]?=some (Conc.served a₂ (.tuple #[v,.bool true]))∧gs'[c]?=some (Conc.served sH undef):=by
 have jS:=hC.pos;have hlt:0<gs.size:=(zae.1 h0).1;have TB:c<gs.size:=(zae.1 hc).1;have:=crowd_recv_meets (P:=P) (sl:=sl) (i:=0) h0 (show stepG P (0==0) a w=_ from hs) hch (by omega) hc (by rw[kE hC hc,offersAt_parked_send,if_pos rfl];rfl);rw[ofEvents_none]at this;refine⟨_,_,this,λop hop=>?_,hC.comm (λop hop m e=>?_) (by simp) λi h1 h2=>?_,?_,?_⟩
 ·simp at hop;rcases hop with rfl|rfl|rfl|rfl<;>exact⟨rfl,by simp,λB h=>h⟩
 ·simp at hop;rcases hop with rfl|rfl|rfl|rfl<;>simp at e
 ·rw[zan (Ne.symm h1),zan (Ne.symm h2)]
 ·simp[hlt,finishComm_recv,recvd]
 ·rw[zan (by omega),zaV TB,finishComm_send]
theorem uy (hC:eJ P c t gs q)(h0:gs[0]?=some (parked a₂ #[rcase ch z] (.recv true)))(hc:gs[c]?=some b)(hs:stepG P false b w=.comm sH #[scase ch v z'] true .send w #[])(hch:w.heap[ch]?=some (.chan 0 #[] false s r tm)):∃gs' u,runT P (crowd gs w sl) c=(.next (crowd gs' (w.setChan ch 0 #[] false (s+1) (r+1) tm) sl),u)∧K3 ch u∧eJ P c (t++u) gs' q∧gs'[0]?=some (Conc.served a₂ (.tuple #[v,.bool true]))∧gs'[c]?=some (Conc.served sH undef):=by
 have jS:=hC.pos;have hlt:0<gs.size:=(zae.1 h0).1;have TB:c<gs.size:=(zae.1 hc).1;have hc0:(c==0)=false:=by simp;omega
 have:=crowd_send_meets (P:=P) (sl:=sl) (i:=c) (j:=0) hc (by rw[hc0];exact hs) hch (by omega) h0 (by rw[nY hC h0,offersAt_parked_recv,if_pos rfl];rfl);rw[ofEvents_none]at this;refine⟨_,_,this,λop hop=>?_,hC.comm (λop hop m e=>?_) (by simp) λi h1 h2=>?_,?_,?_⟩
 ·simp at hop;rcases hop with rfl|rfl|rfl|rfl<;>exact⟨rfl,by simp,λB h=>h⟩
 ·simp at hop;rcases hop with rfl|rfl|rfl|rfl<;>simp at e
 ·rw[zan (Ne.symm h2),zan (Ne.symm h1)]
 ·rw[zan (by omega),zaV hlt,finishComm_recv];rfl
 ·rw[zaV (by simpa using TB),finishComm_send]
theorem sI (hC:eJ P c t gs q)(h0:gs[0]?=some a)(hc:gs[c]?=some b)(hb:b.status≠.blocked)(hs:stepG P true a w=.comm a₂ #[rcase ch z] true (.recv true) w #[])(hch:w.heap[ch]?=some (.chan 0 #[] true s r tm)):∃gs' fn pos,runT P (crowd gs w sl) 0=(.next (crowd gs' w sl),#[{ g:=0,fn:=fn,pos:=pos,act:= .recvClosed ch }])∧eJ P c (t++#[{ g:=0,fn:=fn,pos:=pos,act:= .recvClosed ch }]) gs' q∧gs'[0]?=some (Conc.served a₂ (.tuple #[z,.bool false]))∧gs'[c]?=some b:=by
 have jS:=hC.pos;have hlt:0<gs.size:=(zae.1 h0).1;have:=crowd_recv_closed (P:=P) (sl:=sl) (i:=0) h0 (show stepG P (0==0) a w=_ from hs) hch (by rw[kE hC hc,offersAt_of_not_blocked hb];rfl);rw[ofEvents_none,Array.empty_append]at this;refine⟨_,_,_,this,hC.comm (λop hop m e=>?_) (by simp) λi h1 h2=>?_,?_,?_⟩
 ·simp at hop;subst hop;simp at e
 ·rw[zan (Ne.symm h1)]
 ·simp[hlt,finishComm_recv,recvd]
 ·rw[zan (by omega)];exact hc
end
end Go.Ren
