import Derived.Conc.TokenWalk
import Derived.Deep.MidRow
import Derived.Deep.WholeRow
import Derived.Conc.CrowdComm
import Derived.Test.YtlhimdjkkiflhaaGreatReads06
set_option maxHeartbeats 8000000
set_option maxRecDepth 100000
open Go renaming World→Γ,execOp→Δ,Goroutine→Λ,Value→Φ,yielded→Ω,Program→ζ,Trace→θ,stepG→ξ,TypeId→υ,Event→φ,undef→χ,FuncId→ψ,Frame→ω
open Go.MemAct renaming ofEvent→Θ
open Go.Region renaming wanted→Ξ
open Go.MemOp renaming ofEvents→η
open Go.Conc renaming crowd→ι
open Go.Act renaming put→π
namespace Go.Ren
open Go Go.Conc
section
variable {P:ζ}{F:ψ→Bool}{S:Sd}{main:Bool}{ro own:Nat→Prop}{Stop:(Nat→Prop)→Λ→Γ→Prop}{w W:Γ}{ρ:Rn}{b:ω}{a:Act}{ops:Array Oper}{i:Nat}{rest:List Nat}{o:Oper}{kk:List Item}{cs:List ω}
theorem iO.aa3 {w₂:Γ}(h:iO P S ρ w W)(e:w₂.heap=w.heap):iO P S ρ w₂ W:=by
 obtain⟨⟨h1,h2,h3,h4,h5,h6,h7⟩,g1,g2,g3,g4⟩:=h;exact⟨⟨by rw[e];exact h1,by rw[e];exact h2,by rw[e];exact h3,by rw[e];exact h4,by rw[e];exact h5,by rw[e];exact h6,by rw[e];exact h7⟩,g1,g2,g3,g4⟩
theorem bJ (w:Γ)(o:Obj):(w.alloc o).heap.size=w.heap.size+1:=by show(w.heap.push o).size=_;simp
structure At (P:ζ) (S:Sd) (ro:Nat→Prop) (ρ:Rn) (w W:Γ) (own:Nat→Prop):Prop where
 uH:iO P S ρ w W
 RM:∀x,Touch S.d ρ w x→own x
 hold:py ro own W
structure On (ro:Nat→Prop) (ρ:Rn) (w W:Γ) (own:Nat→Prop) (ρ':Rn) (W':Γ) (own':Nat→Prop):Prop where
 agree:∀r,r<w.heap.size→ρ' r=ρ r
 own:∀x,own x→own' x
 ro:∀x,ro x→W'.heap[x]?=W.heap[x]?
theorem Cu {ρ':Rn}(h:iO P S ρ w W){w' W':Γ}(h':iO P S ρ' w' W'):∀x,ρ'.f x=ρ.f x:=λx=>by rw[h.f,h'.f]
theorem af.Ll (hC:kZ P F S)(bM:jx P F S o.op=true)(ho:ops[i]?=some o)(hw:Ξ o (Ω ops a.tmps)=true)(hk:b.kind≠.early){T:Nat→Φ}(hT:∀t,Cl P S w (T t))(hA:At P S ro ρ w W own)
 (hx:Δ a.eval o=Δ (fx λt=>rv ρ (T t)) o){v:Γ→Φ}{o':Γ→Γ}(hrun:∀τ d,(Δ (fx T) o).run P (w.re τ d)=.ok (.value (v (w.re τ d))) (o' (w.re τ d)))
 (k:∀(w₀:Γ) ρ' W' own',w₀.heap=w.heap→At P S ro ρ' (o' w₀) W' own'→On ro ρ w W own ρ' W' own'→Cl P S (o' w₀) (v w₀)→af P main ro Stop own' (G (b.at (a.put o.dst (rv ρ' (v w₀))) (.inRegion ops rest::kk)) cs) W'):
 af P main ro Stop own (G (b.at a (.inRegion ops (i::rest)::kk)) cs) W:=
 af.IY hC bM ho hw hk hT hA.uH hA.RM hx (Q:=λx w'=>∃τ d,x=v (w.re τ d)∧w'=o' (w.re τ d)) (λτ d=>⟨_,_,hrun τ d,τ,d,rfl,rfl⟩)
  (λx w' ρ' W' own' hq hS h1 _ h3 h4 h5 h6 h7=>by
    obtain⟨τ,d,rfl,rfl⟩:=hq;exact k (w.re τ d) ρ' W' own' rfl ⟨hS,h4,h7⟩ ⟨h1,h5,h6⟩ h3) hA.hold
theorem af.aa4 (hC:kZ P F S)(bM:jx P F S o.op=true)(ho:ops[i]?=some o)(hw:Ξ o (Ω ops a.tmps)=true)(hk:b.kind≠.early){T:Nat→Φ}(hT:∀t,Cl P S w (T t))(hA:At P S ro ρ w W own)
 (hx:Δ a.eval o=Δ (fx λt=>rv ρ (T t)) o){o':Γ→Γ}(hrun:∀τ d,(Δ (fx T) o).run P (w.re τ d)=.ok .skip (o' (w.re τ d)))
 (k:∀(w₀:Γ) ρ' W' own',w₀.heap=w.heap→At P S ro ρ' (o' w₀) W' own'→On ro ρ w W own ρ' W' own'→af P main ro Stop own' (G (b.at (a.put o.dst χ) (.inRegion ops rest::kk)) cs) W'):
 af P main ro Stop own (G (b.at a (.inRegion ops (i::rest)::kk)) cs) W:=
 af.opn hC bM ho hw hk hT hA.uH hA.RM hx (Q:=λw'=>∃τ d,w'=o' (w.re τ d)) (λτ d=>⟨_,hrun τ d,τ,d,rfl⟩)
  (λw' ρ' W' own' hq hS h1 _ h4 h5 h6 h7=>by
    obtain⟨τ,d,rfl⟩:=hq;exact k (w.re τ d) ρ' W' own' rfl ⟨hS,h4,h7⟩ ⟨h1,h5,h6⟩) hA.hold
theorem af.mv (ho:ops[i]?=some o)(hw:Ξ o (Ω ops a.tmps)=true)(hk:b.kind≠.early){dd:Option Tmp}(hdd:o.dst=dd){x:Operand}(hop:o.op=.move x∨o.op=.assign x){v:Φ}(hv:a.eval x=v)
 (k:af P main ro Stop own (G (b.at (a.put dd v) (.inRegion ops rest::kk)) cs) W):af P main ro Stop own (G (b.at a (.inRegion ops (i::rest)::kk)) cs) W:=by
 subst hdd;subst hv;refine af.silent rfl (λw₁=>?_) k;have hr:(Δ a.eval o).run P w₁=.ok (.value (a.eval x)) w₁:=by
  unfold Δ;rcases hop with h|h<;>simp[h]
 have he:(Δ a.eval o).events P w₁ #[]=#[]:=by
  unfold Δ;rcases hop with h|h<;>simp[h]
 rw[stepG_value ho hw hk hr,listed_none he]
theorem af.Wy (ho:ops[i]?=some o)(hw:Ξ o (Ω ops a.tmps)=true)(hk:b.kind≠.early){dd:Option Tmp}(hdd:o.dst=dd){x:Operand}{j:Nat}(hop:o.op=.extract x j){vs:Array Φ}{v:Φ}(hx:a.eval x=.tuple vs)(hv:vs[j]?=some v)
 (k:af P main ro Stop own (G (b.at (a.put dd v) (.inRegion ops rest::kk)) cs) W):af P main ro Stop own (G (b.at a (.inRegion ops (i::rest)::kk)) cs) W:=by
 subst hdd;refine af.silent rfl (λw₁=>?_) k;have hr:(Δ a.eval o).run P w₁=.ok (.value v) w₁:=by
  unfold Δ;simp[hop,hx,Instr.extract,hv]
 have he:(Δ a.eval o).events P w₁ #[]=#[]:=by
  unfold Δ;simp[hop,hx,Instr.extract,hv]
 rw[stepG_value ho hw hk hr,listed_none he]
theorem af.Lm (hC:kZ P F S)(ho:ops[i]?=some o)(hw:Ξ o (Ω ops a.tmps)=true)(hk:b.kind≠.early){dd:Option Tmp}(hdd:o.dst=dd){e:υ}(hop:o.op=.alloc e){ti:TypeInfo}{z:Φ}(hi:P.info? e=some ti)(hz:ti.zero=some z)(hA:At P S ro ρ w W own)
 (k:∀(w₀:Γ) ρ' W' own',w₀.heap=w.heap→At P S ro ρ' (w₀.alloc (.cells z.cells e)) W' own'→On ro ρ w W own ρ' W' own'→af P main ro Stop own' (G (b.at (a.put dd (.pointer (some ⟨ρ' w.heap.size,0,none⟩))) (.inRegion ops rest::kk)) cs) W'):
 af P main ro Stop own (G (b.at a (.inRegion ops (i::rest)::kk)) cs) W:=by
 subst hdd;exact af.Ll hC (by rw[hop];rfl) ho hw hk (T:=λ_=>χ) (λ_=>dY) hA (by unfold Δ;rw[hop]) (v:=λ_=> .pointer (some ⟨w.heap.size,0,none⟩)) (o':=λw₀=>w₀.alloc (.cells z.cells e))
  (λτ d=>by unfold Δ;simp[hop,Instr.alloc,zeroValue,typeInfo,hi,hz,newVar,newRow,Γ.re])
  (λw₀ ρ' W' own' e0 hA' hO _=>by
    have:rv ρ' (.pointer (some ⟨w.heap.size,0,none⟩))=.pointer (some ⟨ρ' w.heap.size,0,none⟩):=by simp[rv,ra]
    rw[this];exact k w₀ ρ' W' own' e0 hA' hO)
theorem af.storeT (hC:kZ P F S)(ho:ops[i]?=some o)(hw:Ξ o (Ω ops a.tmps)=true)(hk:b.kind≠.early){dd:Option Tmp}(hdd:o.dst=dd){e:υ}{s t:Tmp}(hst:s≠t)(hop:o.op=.store e (.tmp s) (.tmp t)){c c':Array Φ}(hi:(P.info? e).map (·.size)=some c'.size)(hs:c.size=c'.size)(h1:c'.all (·.oneCell')=true)
 (hA:At P S ro ρ (w.alloc (.cells c e)) W own)(hp:a.eval (.tmp s)=.pointer (some ⟨ρ w.heap.size,0,none⟩))(hv:a.eval (.tmp t)=rv ρ (.agg c'))(gz:Cl P S (w.alloc (.cells c e)) (.agg c'))(hg:P.globals.size≤w.heap.size)
 (k:∀(w₀:Γ) ρ' W' own',w₀.heap=w.heap→At P S ro ρ' (w₀.alloc (.cells c' e)) W' own'→On ro ρ (w.alloc (.cells c e)) W own ρ' W' own'→af P main ro Stop own' (G (b.at (a.put dd χ) (.inRegion ops rest::kk)) cs) W'):
 af P main ro Stop own (G (b.at a (.inRegion ops (i::rest)::kk)) cs) W:=by
 subst hdd;exact af.aa4 hC (by rw[hop];rfl) ho hw hk (T:=λx=>if x=s then .pointer (some ⟨w.heap.size,0,none⟩)else .agg c') (λx=>by
  by_cases h:x=s
  ·simp only[h,if_true];unfold Cl;have:(sg S S.d (w.alloc (.cells c e)).heap.size) w.heap.size=w.heap.size:=bO.2 ⟨zaj hA.uH.wr.big.dp hg,by rw[bJ];omega⟩;simp only[rv,ra,zbA,this]
  ·simp only[h,if_false];exact gz) hA
  (by
    unfold Δ;rw[hop];simp only[fx,hp,hv,if_true,zaa (Ne.symm hst)];simp[rv,ra]) (o':=λw₁=>{ w₁ with heap:=w.heap.push (.cells c' e) })
  (λτ d=>by
    unfold Δ;simp only[hop,fx,if_true,zaa (Ne.symm hst)];have:=run_storeAt_new (P:=P) (w.re τ d) e c c' hi hs h1;have h2:(w.alloc (.cells c e)).re τ d=(w.re τ d).alloc (.cells c e):=rfl;have h3:(w.re τ d).heap.size=w.heap.size:=rfl;rw[h3]at this;rw[h2];simp only[zbb,this,zbc,zbf];rfl)
  (λw₀ ρ' W' own' e0 hA' hO=>k { w₀ with heap:=w.heap } ρ' W' own' rfl hA' hO)
theorem af.loadT (hC:kZ P F S)(ho:ops[i]?=some o)(hw:Ξ o (Ω ops a.tmps)=true)(hk:b.kind≠.early){dd:Option Tmp}(hdd:o.dst=dd){e:υ}{s:Tmp}(hop:o.op=.load e (.tmp s)){c:Array Φ}{d:TypeDesc}(hu:P.underlying e=some d)(hd:d.isRow=true)(hi:(P.info? e).map (·.size)=some c.size)
 (hA:At P S ro ρ (w.alloc (.cells c e)) W own)(hp:a.eval (.tmp s)=.pointer (some ⟨ρ w.heap.size,0,none⟩))(hg:P.globals.size≤w.heap.size)
 (k:∀(w₀:Γ) ρ' W' own',w₀.heap=w.heap→At P S ro ρ' (w₀.alloc (.cells c e)) W' own'→On ro ρ (w.alloc (.cells c e)) W own ρ' W' own'→af P main ro Stop own' (G (b.at (a.put dd (rv ρ' (.agg c))) (.inRegion ops rest::kk)) cs) W'):
 af P main ro Stop own (G (b.at a (.inRegion ops (i::rest)::kk)) cs) W:=by
 subst hdd
 exact af.Ll hC (by rw[hop];rfl) ho hw hk (T:=λx=> .pointer (some ⟨w.heap.size,0,none⟩)) (λx=>by
       unfold Cl;have:(sg S S.d (w.alloc (.cells c e)).heap.size) w.heap.size=w.heap.size:=bO.2 ⟨zaj hA.uH.wr.big.dp hg,by rw[bJ];omega⟩;simp only[rv,ra,zbA,this]) hA
  (by
    unfold Δ;rw[hop];simp only[fx,hp];simp[rv,ra]) (v:=λ_=> .agg c) (o':=λw₁=>{ w₁ with heap:=w.heap.push (.cells c e) })
  (λτ dd=>by
    unfold Δ;simp only[hop,fx];have h2:(w.alloc (.cells c e)).re τ dd=(w.re τ dd).alloc (.cells c e):=rfl;have:=run_loadAt_mid (P:=P) ((w.re τ dd).alloc (.cells c e)) w.heap.size 0 e c.toList d (λj v hv=>by
     have hl:(w.re τ dd).heap.size=w.heap.size:=rfl;have:((w.re τ dd).heap.push (Obj.cells c e))[w.heap.size]?=some (.cells c e):=by rw[←hl];simp
     have h5:((w.re τ dd).alloc (.cells c e)).heap[w.heap.size]?=some (.cells c e):=this;simp only[Γ.cell?,h5];simpa using hv) hu hd (by simpa using hi)
    rw[h2];simp only[zbb,this,zbc,zbf];rfl)
  (λw₀ ρ' W' own' e0 hA' hO _=>k { w₀ with heap:=w.heap } ρ' W' own' rfl hA' hO)
end
section
variable {P:ζ}{F:ψ→Bool}{S:Sd}{main:Bool}{ro own:Nat→Prop}{Stop:(Nat→Prop)→Λ→Γ→Prop}{w W:Γ}{ρ:Rn}{b:ω}{a:Act}{ops:Array Oper}{i:Nat}{rest:List Nat}{o:Oper}{kk:List Item}{cs:List ω}
theorem Ln {n off:Nat}(hg:S.d≤n)(hn:n<w.heap.size):Cl P S w (.pointer (some ⟨n,off,none⟩)):=by
 unfold Cl;have:(sg S S.d w.heap.size) n=n:=bO.2 ⟨hg,hn⟩;simp only[rv,ra,zbA,this]
theorem af.SR (hC:kZ P F S)(ho:ops[i]?=some o)(hw:Ξ o (Ω ops a.tmps)=true)(hk:b.kind≠.early){dd:Option Tmp}(hdd:o.dst=dd){e:υ}{s:Tmp}{j off:Nat}(hop:o.op=.fieldAddr e (.tmp s) j)
 (hf:∀(w:Γ) (r:Nat),(Instr.fieldAt e (.pointer (some ⟨r,0,none⟩)) j).run P w=.ok (.pointer (some ⟨r,off,none⟩)) w){x:Obj}
 (hA:At P S ro ρ (w.alloc x) W own)(hp:a.eval (.tmp s)=.pointer (some ⟨ρ w.heap.size,0,none⟩))(hg:P.globals.size≤w.heap.size)
 (k:∀(w₀:Γ) ρ' W' own',w₀.heap=w.heap→At P S ro ρ' (w₀.alloc x) W' own'→On ro ρ (w.alloc x) W own ρ' W' own'→af P main ro Stop own' (G (b.at (a.put dd (.pointer (some ⟨ρ' w.heap.size,off,none⟩))) (.inRegion ops rest::kk)) cs) W'):
 af P main ro Stop own (G (b.at a (.inRegion ops (i::rest)::kk)) cs) W:=by
 subst hdd;exact af.Ll hC (by rw[hop];rfl) ho hw hk (T:=λ_=> .pointer (some ⟨w.heap.size,0,none⟩)) (λ_=>Ln (zaj hA.uH.wr.big.dp hg) (by rw[bJ];omega)) hA
  (by
    unfold Δ;rw[hop];simp only[fx,hp];simp[rv,ra]) (v:=λ_=> .pointer (some ⟨w.heap.size,off,none⟩)) (o':=λw₁=>{ w₁ with heap:=w.heap.push x })
  (λτ dd=>by
    unfold Δ;simp only[hop,fx,zbb,hf,zbc,zbf];rfl)
  (λw₀ ρ' W' own' e0 hA' hO _=>by
    have:rv ρ' (.pointer (some ⟨w.heap.size,off,none⟩))=.pointer (some ⟨ρ' w.heap.size,off,none⟩):=by simp[rv,ra]
    rw[this];exact k { w₀ with heap:=w.heap } ρ' W' own' rfl hA' hO)
theorem af.Wz (hC:kZ P F S)(ho:ops[i]?=some o)(hw:Ξ o (Ω ops a.tmps)=true)(hk:b.kind≠.early){dd:Option Tmp}(hdd:o.dst=dd){e e':υ}{s:Tmp}{off:Nat}(hop:o.op=.load e (.tmp s)){c:Array Φ}{v:Φ}
 (hl:∀(w:Γ) (a:Addr),w.cell? a=some v→(Instr.loadAt e (.pointer (some a))).run P w=.ok v w)(hc:c[off]?=some v)
 (hA:At P S ro ρ (w.alloc (.cells c e')) W own)(hp:a.eval (.tmp s)=.pointer (some ⟨ρ w.heap.size,off,none⟩))(hg:P.globals.size≤w.heap.size)
 (k:∀(w₀:Γ) ρ' W' own',w₀.heap=w.heap→At P S ro ρ' (w₀.alloc (.cells c e')) W' own'→On ro ρ (w.alloc (.cells c e')) W own ρ' W' own'→af P main ro Stop own' (G (b.at (a.put dd (rv ρ' v)) (.inRegion ops rest::kk)) cs) W'):
 af P main ro Stop own (G (b.at a (.inRegion ops (i::rest)::kk)) cs) W:=by
 subst hdd;exact af.Ll hC (by rw[hop];rfl) ho hw hk (T:=λ_=> .pointer (some ⟨w.heap.size,off,none⟩)) (λ_=>Ln (zaj hA.uH.wr.big.dp hg) (by rw[bJ];omega)) hA
  (by
    unfold Δ;rw[hop];simp only[fx,hp];simp[rv,ra]) (v:=λ_=>v) (o':=λw₁=>{ w₁ with heap:=w.heap.push (.cells c e') })
  (λτ dd=>by
    have h2:(w.alloc (.cells c e')).re τ dd=(w.re τ dd).alloc (.cells c e'):=rfl;have hcell:((w.re τ dd).alloc (.cells c e')).cell? ⟨w.heap.size,off,none⟩=some v:=by
     have hl:(w.re τ dd).heap.size=w.heap.size:=rfl;have:((w.re τ dd).heap.push (Obj.cells c e'))[w.heap.size]?=some (.cells c e'):=by rw[←hl];simp
     have h5:((w.re τ dd).alloc (.cells c e')).heap[w.heap.size]?=some (.cells c e'):=this;simp only[Γ.cell?,h5];simpa using hc
    unfold Δ;simp only[hop,fx,zbb,h2,hl _ _ hcell,zbc,zbf];rfl)
  (λw₀ ρ' W' own' e0 hA' hO _=>k { w₀ with heap:=w.heap } ρ' W' own' rfl hA' hO)
theorem At.rely {aG:Γ}(hA:At P S ro ρ w W own)(hr:bW ro own W aG):At P S ro (dT ρ w.heap.size aG.heap.size) w aG own∧On ro ρ w W own (dT ρ w.heap.size aG.heap.size) aG own:=
 ⟨⟨hA.uH.grow hr.size λx hx=>hr.block x (.inl (hA.RM x hx)),λx hx=>hA.RM x (by rw[dG]at hx;exact hx),λb hb=>by have:=hA.hold.lt b hb;have:=hr.size;omega,hA.hold.ap⟩,
  λr h=>aV h,λx h=>h,λx h=>hr.block x (.inr h)⟩
theorem At.call {W':Γ}{own':Nat→Prop}(hA:At P S ro ρ w W own)(h1:∀b,own b∨ro b→W'.heap[b]?=W.heap[b]?)(h2:W.heap.size≤W'.heap.size)(h3:∀b,own b→own' b)(h4:py ro own' W'):At P S ro (dT ρ w.heap.size W'.heap.size) w W' own'∧On ro ρ w W own (dT ρ w.heap.size W'.heap.size) W' own':=
 ⟨⟨hA.uH.grow h2 λx hx=>h1 x (.inl (hA.RM x hx)),λx hx=>h3 x (hA.RM x (by rw[dG]at hx;exact hx)),h4⟩,λr h=>aV h,h3,λx h=>h1 x (.inr h)⟩
theorem At.empty [Z:Shut P S] (hH:py ro own W)(hb:P.globals.size≤W.heap.size):At P S ro (dT jR P.globals.size W.heap.size) (EU P W) W own:=
 ⟨GI hb,λx hx=>by obtain⟨r,h1,h2,_⟩:=hx;rw[nJ]at h2;rw[Z.d]at h1;omega,hH⟩
theorem aB {t k:Tmp}{v:Φ}(h:t≠k):(π a (some t) v).eval (.tmp k)=a.eval (.tmp k):=by
 simp only[π,Act.eval,zby,zax h]
theorem aW {k:Tmp}{v:Φ}(h:k<a.tmps.size):(π a (some k) v).eval (.tmp k)=v:=by
 simp only[π,Act.eval,zby,zbB h];rfl
theorem size_put {d:Option Tmp}{v:Φ}:(π a d v).tmps.size=a.tmps.size:=by
 cases d<;>simp[π]
theorem cD {d:Option Tmp}{v:Φ}:(π a d v).defers=a.defers:=by
 cases d<;>simp[π]
theorem wA {v:Φ}:π a none v=a:=rfl
end
def jS (X:Nat→Prop):Loc→Prop
 |.cell a=>X a.block
 |.obj r=>X r
 |_=>False
def Lp (ro own:Nat→Prop)(op:MemOp):Prop:=
 (∀x,op.act.touch? =some x→jS own x.loc∨(jS ro x.loc∧x.write=false))∧op.act≠.mark .disable∧op.act≠.mark .enable
structure TI (Q Shun:Loc→Prop) (c:Nat) (aL ro:Nat→Prop) (B:Nat) (t:θ):Prop where
 clean:∀said,¬Race said t
 known:∀i a,touchAt t i=some a→a.loc.isMemory=true→Knows t 0 i∨(Shun a.loc∧a.kind=.atomic)∨(t.g? i=some c∧(jS aL a.loc∨(jS ro a.loc∧a.write=false)))
 IZ:∀i a,touchAt t i=some a→jS aL a.loc→t.g? i=some c
 Vk:∀i a,touchAt t i=some a→jS ro a.loc→a.write=true→Knows t c i
 quiet:∀i a,touchAt t i=some a→Q a.loc→a.kind≠.plain∧(a.kind=.said→t.g? i=some 0)
 over:∀i g,t.g? i=some g→g≠0→g≠c→t.counts i→∃j,t.g? j=some 0∧HappensBefore t i j
 seen:∀op∈t,op.act.low B
theorem jS.mono {X Y:Nat→Prop}(h:∀b,X b→Y b):∀{l:Loc},jS X l→jS Y l
 |.cell _,x=>h _ x
 |.obj _,x=>h _ x
theorem jS.no {X Y:Nat→Prop}(h:∀b,X b→¬Y b):∀{l:Loc},jS X l→¬jS Y l
 |.cell _,x=>h _ x
 |.obj _,x=>h _ x
theorem zm {ro own:Nat→Prop}{e:φ}(h:B4 ro own e):∀x,(Θ e).touch? =some x→jS own x.loc∨(jS ro x.loc∧x.write=false):=by
 intro x hx;obtain⟨loc,wr,sy⟩:=e;cases loc with
 |cell a=>
  have:Θ ⟨.cell a,wr,sy⟩=.access ⟨.cell a,wr,sy⟩:=by cases wr<;>cases sy<;>rfl
  rw[this]at hx;simp only[MemAct.touch?,zaG]at hx;subst hx;exact h
 |obj r=>
  obtain⟨h1,h2⟩:=h;simp only at h2;subst h2;have:Θ ⟨.obj r,wr,false⟩=.access ⟨.obj r,wr,false⟩:=by cases wr<;>rfl
  rw[this]at hx;simp only[MemAct.touch?,zaG]at hx;subst hx;exact .inl h1
 |mark m=>
  have:Θ ⟨.mark m,wr,sy⟩=.mark m:=by cases wr<;>cases sy<;>rfl
  rw[this]at hx;obtain⟨h1,_⟩:=h;cases m<;>first|exact h1.elim|cases hx
 |_=>exact h.elim
theorem nK {ro own:Nat→Prop}{e:φ}(h:B4 ro own e):e.loc≠.mark .disable∧e.loc≠.mark .enable:=by
 obtain⟨loc,wr,sy⟩:=e;cases loc with
 |mark m=>obtain⟨h1,_⟩:=h;cases m<;>first|exact h1.elim|exact⟨by simp,by simp⟩
 |_=>exact⟨by simp,by simp⟩
theorem GM {ro own:Nat→Prop}{B:Nat}(hB:∀b,own b→b<B)(hr:∀b,ro b→b<B){e:φ}(h:B4 ro own e):(Θ e).low B:=by
 obtain⟨loc,wr,sy⟩:=e;cases loc with
 |cell a=>
  have:Θ ⟨.cell a,wr,sy⟩=.access ⟨.cell a,wr,sy⟩:=by cases wr<;>cases sy<;>rfl
  rw[this];exact h.elim (λx=>hB _ x) λx=>hr _ x.1
 |obj r=>
  obtain⟨h1,h2⟩:=h;simp only at h2;subst h2;have:Θ ⟨.obj r,wr,false⟩=.access ⟨.obj r,wr,false⟩:=by cases wr<;>rfl
  rw[this];exact hB _ h1
 |mark m=>
  have:Θ ⟨.mark m,wr,sy⟩=.mark m:=by cases wr<;>cases sy<;>rfl
  rw[this];obtain⟨h1,_⟩:=h;cases m<;>first|exact h1.elim|trivial
 |_=>exact h.elim
section
variable {Q Shun:Loc→Prop}{c:Nat}{aL ro own:Nat→Prop}{B:Nat}{t u:θ}
theorem Pk {X:Nat→Prop}{l:Loc}(h:jS X l)(hX:∀b,X b→¬b<B)(hl:l.low B):False:=by
 cases l<;>first|exact hX _ h hl|exact h.elim
theorem zn {op:MemOp}{x:Go.Touch}(hl:op.act.low B)(hx:op.act.touch? =some x):x.loc.low B:=by
 obtain⟨g,fn,pos,act⟩:=op;cases act with
 |access e=>simp only[MemAct.touch?,zaG]at hx;subst hx;exact hl
 |mark m=>cases m<;>simp only[MemAct.touch?,zaG]at hx<;>first|(subst hx;exact hl)|cases hx
 |_=>cases hx
theorem qR (h:∀i g,t.g? i=some g→g≠0→g≠c→t.counts i→∃j,t.g? j=some 0∧HappensBefore t i j)(hu:∀op∈u,op.g=0∨op.g=c∨op.act.touch? =none):∀i g,(t++u).g? i=some g→g≠0→g≠c→(t++u).counts i→∃j,(t++u).g? j=some 0∧HappensBefore (t++u) i j:=by
 intro i g hg h0 hc B3;obtain⟨x,hx,hm,hk⟩:=id B3;obtain⟨op,hop,hox⟩:=touch_of hx;rcases getElem?_append_cases hop with⟨hi,aek⟩|⟨_,aa5⟩
 ·obtain⟨j,hj,hb⟩:=h i g (by rw[←g?_old (u:=u) hi];exact hg) h0 hc ((counts_old hi).1 B3);have yi:j<t.size:=by
   unfold Trace.g? at hj;obtain⟨z,hz,_⟩:=zav.1 hj;exact lt_size_of_getElem? hz
  exact⟨j,by rw[g?_old yi];exact hj,hb_app u hb⟩
 ·have hgo:op.g=g:=by simpa[Trace.g?,hop]using hg
  rcases hu op aa5 with h1|h1|h1
  ·exact absurd (hgo.symm.trans h1) h0
  ·exact absurd (hgo.symm.trans h1) hc
  ·rw[h1]at hox;cases hox
theorem TI.mono {B':Nat}(h:TI Q Shun c aL ro B t)(hB:B≤B'):TI Q Shun c aL ro B' t:=⟨h.clean,h.known,h.IZ,h.Vk,h.quiet,h.over,λop hop=>MemAct.low_mono hB (h.seen op hop)⟩
theorem bI {i:Nat}{a:Go.Touch}(ha:touchAt (t++u) i=some a):(i<t.size∧touchAt t i=some a)∨(t.size≤i∧∃op∈u,(t++u)[i]?=some op∧op.act.touch? =some a):=by
 obtain⟨x,hx,hxa⟩:=touch_of ha;rcases getElem?_append_cases hx with⟨hi,AP⟩|⟨hi,hxu⟩
 ·exact .inl ⟨hi,by rw[touchAt_of AP];exact hxa⟩
 ·exact .inr ⟨hi,x,hxu,hx,hxa⟩
theorem TI.still (h:TI Q Shun c aL ro B t)(hn:∀op∈u,op.act.touch? =none)(hl:∀op∈u,op.act.low B):TI Q Shun c aL ro B (t++u):=by
 have old:∀{i a},touchAt (t++u) i=some a→i<t.size∧touchAt t i=some a:=λha=>by
  rcases bI ha with h|⟨_,op,hop,_,hx⟩
  ·exact h
  ·rw[hn op hop]at hx;cases hx
 refine⟨λsaid=>?_,λi a ha hm=>?_,λi a ha hg=>?_,λi a ha hg hw=>?_,λi a ha hq=>?_,qR h.over λop hop=> .inr (.inr (hn op hop)),seen_app h.seen hl⟩
 ·rintro ⟨i,j,hij,⟨a,b,ha,hb,hc⟩,n1,n2⟩;obtain⟨hi,ha'⟩:=old ha;obtain⟨hj,hb'⟩:=old hb;exact h.clean said ⟨i,j,hij,⟨a,b,ha',hb',hc⟩,λe=>n1 (hb_app u e),λe=>n2 (hb_app u e)⟩
 ·obtain⟨hi,ha'⟩:=old ha;rw[g?_old hi];exact(h.known i a ha' hm).imp (·.app u) id
 ·obtain⟨hi,ha'⟩:=old ha;rw[g?_old hi];exact h.IZ i a ha' hg
 ·obtain⟨hi,ha'⟩:=old ha;exact(h.Vk i a ha' hg hw).app u
 ·obtain⟨hi,ha'⟩:=old ha;rw[g?_old hi];exact h.quiet i a ha' hq
theorem TI.app0 (_hc0:c≠0)(h:TI Q Shun c aL ro B t)(hu:∀op∈u,op.g=0∧Lp ro own op)(hl:∀op∈u,op.act.low B)
 (hS:∀l,jS own l∨jS ro l→¬Shun l)(hQ:∀l,jS own l∨jS ro l→¬Q l)(hG:∀b,own b→¬aL b)(hR:∀b,own b→¬ro b)(Vl:∀b,aL b→¬ro b):TI Q Shun c aL ro B (t++u):=by
 have place:∀op∈u,∀x,op.act.touch? =some x→jS own x.loc∨jS ro x.loc:=λop hop x hx=>((hu op hop).2.1 x hx).imp id (·.1);refine⟨λsaid=>noRace_append (h.clean said) (λop hop=>(hu op hop).1) λi a ha op hop b hb hc=>?_,λi a ha hm=>?_,λi a ha hg=>?_,λi a ha hg hw=>?_,λi a ha hq=>?_,qR h.over λop hop=> .inl (hu op hop).1,seen_app h.seen hl⟩
 ·rcases h.known i a ha hc.2.1 with hk|⟨hs,_⟩|⟨_,hg|⟨hr,hw⟩⟩
  ·exact hk
  ·exact absurd (hc.1▸hs) (hS _ (place op hop b hb))
  ·rcases place op hop b hb with h1|h1
   ·exact absurd (hc.1▸hg) (jS.no hG h1)
   ·exact absurd h1 (jS.no Vl (hc.1▸hg))
  ·rcases(hu op hop).2.1 b hb with h1|⟨_,h1⟩
   ·exact absurd (hc.1▸hr) (jS.no hR h1)
   ·have:=hc.2.2.1;rw[hw,h1]at this;simp at this
 ·rcases bI ha with⟨hi,ha'⟩|⟨_,op,hop,hx,_⟩
  ·rw[g?_old hi];exact(h.known i a ha' hm).imp (·.app u) id
  ·have:=knows_own hx;rw[(hu op hop).1]at this;exact .inl this
 ·rcases bI ha with⟨hi,ha'⟩|⟨_,op,hop,_,hb⟩
  ·rw[g?_old hi];exact h.IZ i a ha' hg
  ·rcases place op hop a hb with h1|h1
   ·exact absurd hg (jS.no hG h1)
   ·exact absurd h1 (jS.no Vl hg)
 ·rcases bI ha with⟨hi,ha'⟩|⟨_,op,hop,_,hb⟩
  ·exact(h.Vk i a ha' hg hw).app u
  ·rcases(hu op hop).2.1 a hb with h1|⟨_,h1⟩
   ·exact absurd hg (jS.no hR h1)
   ·rw[h1]at hw;cases hw
 ·rcases bI ha with⟨hi,ha'⟩|⟨_,op,hop,_,hb⟩
  ·rw[g?_old hi];exact h.quiet i a ha' hq
  ·exact absurd hq (hQ _ (place op hop a hb))
theorem TI.aa6 {own':Nat→Prop}{B':Nat}(h:TI Q Shun c aL ro B t)(hB:B≤B')(hu:∀op∈u,op.g=c∧Lp ro own' op)(hl:∀op∈u,op.act.low B')
 (hown:∀b,own' b↔aL b∨(B≤b∧b<B'))(hQ:∀l,jS own' l∨jS ro l→¬Q l):TI Q Shun c own' ro B' (t++u):=by
 have place:∀op∈u,∀x,op.act.touch? =some x→jS own' x.loc∨jS ro x.loc:=λop hop x hx=>((hu op hop).2.1 x hx).imp id (·.1);have WA:∀i a,touchAt t i=some a→jS own' a.loc→jS aL a.loc:=λi a ha hi=>by
  obtain⟨x,hx,hxa⟩:=touch_of ha;have eQ:=zn (h.seen x (mem_of_getElem? hx)) hxa;generalize a.loc=l at hi eQ;cases l with
  |cell ad=>exact((hown _).1 hi).resolve_right λh1=>by have:ad.block<B:=eQ;omega
  |obj r=>exact((hown _).1 hi).resolve_right λh1=>by have:r<B:=eQ;omega
  |_=>exact hi.elim
 refine⟨λsaid=>noRace_append (h.clean said) (λop hop=>(hu op hop).1) λi a ha op hop b hb hc=>?_,λi a ha hm=>?_,λi a ha hg=>?_,λi a ha hg hw=>?_,λi a ha hq=>?_,qR h.over λop hop=> .inr (.inl (hu op hop).1),seen_app (λop hop=>MemAct.low_mono hB (h.seen op hop)) hl⟩
 ·rcases(hu op hop).2.1 b hb with h1|⟨h1,h2⟩
  ·have hg:=h.IZ i a ha (WA i a ha (hc.1▸h1));obtain⟨x,hx,_⟩:=touch_of ha;have:=knows_own hx;have e:x.g=c:=by simpa[Trace.g?,hx]using hg
   rwa[e]at this
  ·refine h.Vk i a ha (hc.1▸h1) ?_;rcases hc.2.2.1 with h3|h3
   ·exact h3
   ·rw[h2]at h3;cases h3
 ·rcases bI ha with⟨hi,ha'⟩|⟨_,op,hop,hx,hb⟩
  ·rw[g?_old hi];rcases h.known i a ha' hm with hk|hk|⟨hk,hk2⟩
   ·exact .inl (hk.app u)
   ·exact .inr (.inl hk)
   ·exact .inr (.inr ⟨hk,hk2.imp (jS.mono λb hb=>(hown b).2 (.inl hb)) id⟩)
  ·exact .inr (.inr ⟨by simp[Trace.g?,hx,(hu op hop).1],(hu op hop).2.1 a hb⟩)
 ·rcases bI ha with⟨hi,ha'⟩|⟨_,op,hop,hx,_⟩
  ·rw[g?_old hi];exact h.IZ i a ha' (WA i a ha' hg)
  ·simp[Trace.g?,hx,(hu op hop).1]
 ·rcases bI ha with⟨hi,ha'⟩|⟨_,op,hop,hx,_⟩
  ·exact(h.Vk i a ha' hg hw).app u
  ·have:=knows_own hx;rwa[(hu op hop).1]at this
 ·rcases bI ha with⟨hi,ha'⟩|⟨_,op,hop,_,hb⟩
  ·rw[g?_old hi];exact h.quiet i a ha' hq
  ·exact absurd hq (hQ _ (place op hop a hb))
theorem TI.Pm {g:Nat}(h:TI Q Shun c aL ro B t)(hg:g=0∨g=c)(hu:∀op∈u,op.g=g∧∀x,op.act.touch? =some x→Q x.loc∧x.kind≠.plain∧(x.kind=.said→g=0))(hl:∀op∈u,op.act.low B)
 (RN:∀l,Q l→Shun l)(WB:∀l,Q l→¬jS aL l∧¬jS ro l):TI Q Shun c aL ro B (t++u):=by
 refine⟨λsaid=>noRace_append (h.clean said) (λop hop=>(hu op hop).1) λi a ha op hop b hb hc=>?_,λi a ha hm=>?_,λi a ha hgo=>?_,λi a ha hr hw=>?_,λi a ha hq=>?_,qR h.over λop hop=>hg.elim (λe=> .inl ((hu op hop).1.trans e)) λe=> .inr (.inl ((hu op hop).1.trans e)),seen_app h.seen hl⟩
 ·obtain⟨q1,q2,q3⟩:=(hu op hop).2 b hb;obtain⟨p1,p2⟩:=h.quiet i a ha (hc.1▸q1);rcases hc.2.2.2 with h1|h1|⟨_,h1,h2⟩
  ·exact absurd h1 p1
  ·exact absurd h1 q2
  ·have e0:=q3 h2;subst e0;obtain⟨x,hx,_⟩:=touch_of ha;have:=knows_own hx;have e:x.g=0:=by simpa[Trace.g?,hx]using p2 h1
   rwa[e]at this
 ·rcases bI ha with⟨hi,ha'⟩|⟨_,op,hop,hx,hb⟩
  ·rw[g?_old hi];exact(h.known i a ha' hm).imp (·.app u) id
  ·obtain⟨q1,q2,q3⟩:=(hu op hop).2 a hb;by_cases hk:a.kind=.atomic
   ·exact .inr (.inl ⟨RN _ q1,hk⟩)
   ·have WC:a.kind=.said:=by
     cases kX:a.kind<;>simp_all
    have:=knows_own hx;rw[(hu op hop).1,q3 WC]at this;exact .inl this
 ·rcases bI ha with⟨hi,ha'⟩|⟨_,op,hop,_,hb⟩
  ·rw[g?_old hi];exact h.IZ i a ha' hgo
  ·exact absurd hgo (WB _ ((hu op hop).2 a hb).1).1
 ·rcases bI ha with⟨hi,ha'⟩|⟨_,op,hop,_,hb⟩
  ·exact(h.Vk i a ha' hr hw).app u
  ·exact absurd hr (WB _ ((hu op hop).2 a hb).1).2
 ·rcases bI ha with⟨hi,ha'⟩|⟨_,op,hop,hx,hb⟩
  ·rw[g?_old hi];exact h.quiet i a ha' hq
  ·obtain⟨_,q2,q3⟩:=(hu op hop).2 a hb;refine⟨q2,λhs=>?_⟩;rw[show(t++u).g? i=some op.g by simp[Trace.g?,hx],(hu op hop).1,q3 hs]
end
end Go.Ren
namespace Go.Ren
open Go Go.Conc
open Go.ConcN (sumTo upd sumTo_upd upd_ne upd_same)
def Reach (P:ζ)(m:Machine)(t:θ)(Q:Machine→θ→Prop):Prop:=∃N m' t',runNT P N m t=(.next m',t')∧Q m' t'
section
variable {P:ζ}{m m':Machine}{t:θ}{Q Q':Machine→θ→Prop}{ops:θ}
theorem Reach.here (h:Q m t):Reach P m t Q:=⟨0,m,t,rfl,h⟩
theorem Reach.step (h:stepT P m=(.next m',ops))(k:Reach P m' (t++ops) Q):Reach P m t Q:=by
 obtain⟨N,a,b,h1,h2⟩:=k;exact⟨N+1,a,b,by simp only[runNT,h];exact h1,h2⟩
theorem Reach.bind (h:Reach P m t Q)(k:∀m t,Q m t→Reach P m t Q'):Reach P m t Q':=by
 obtain⟨N,a,b,h1,h2⟩:=h
 induction N generalizing m t with
 |zero=>
  simp only[runNT,zah,zbx]at h1;obtain⟨rfl,rfl⟩:=h1;exact k _ _ h2
 |succ N ih=>
  simp only[runNT]at h1;cases hs:stepT P m with
  |mk e ops=>
   rw[hs]at h1;cases e with
   |next m1=>exact Reach.step hs (ih h1)
   |_=>simp at h1
theorem Reach.mono (h:Reach P m t Q)(k:∀m t,Q m t→Q' m t):Reach P m t Q':=h.bind λ_ _ hq=> .here (k _ _ hq)
end
def Cv (P:ζ)(w:Γ)(a:Λ):Prop:=∀x x' d,woken P x x' (w.at d) a=a
theorem Cv.run {P:ζ}{w:Γ}{a:Λ}(h:a.status=.running):Cv P w a:=λ_ _ _=>woken_run h
structure ew (P:ζ) (c:Nat) (t:θ) (gs:Array Λ) (q:Nat→Nat):Prop where
 size:gs.size=c+1
 pos:0<c
 old:∀i g,0<i→i<c→gs[i]?=some g→QuitsD P (q i) (Deaf t i) g
 above:∀j,c<j→Deaf t j=0
section
variable {P:ζ}{c:Nat}{t:θ}{gs:Array Λ}{q:Nat→Nat}{a b a' b':Λ}{w w':Γ}{sl:Option (Nat×Nat)}{es:Array φ}
theorem ofEvents_g {g:Nat}{fn:ψ}{pos:String}{es:Array φ}:∀op∈η g fn pos es,op.g=g:=λop hop=>by obtain⟨e,_,rfl⟩:=zbd hop;rfl
theorem p8 {e:φ}(h:e.mute=true)(a:Addr):Θ e≠.mark (.release a):=by
 obtain⟨loc,wr,sy⟩:=e;cases loc<;>simp_all [Event.mute];rename_i m;cases m<;>simp_all [Θ]
theorem ew.get (h:ew P c t gs q){i:Nat}{g:Λ}(hi:gs[i]?=some g):i=0∨i=c∨(0<i∧i<c):=by
 have:=(zag.1 hi).1;have:=h.size;omega
theorem EX (hC:ew P c t gs q)(h0:gs[0]?=some a)(hc:gs[c]?=some b)(WD:awake a)(WE:awake b)(hrun:a.status=.running∨b.status=.running)(sa:Cv P w a)(sb:Cv P w b):(a.status=.running∧∃d sl',stepT P (ι gs w sl)=runT P (ι gs (w.at d) sl') 0)∨
 (b.status=.running∧∃d sl',stepT P (ι gs w sl)=runT P (ι gs (w.at d) sl') c)∨
 (∃gs' d sl' ops q',stepT P (ι gs w sl)=(.next (ι gs' (w.at d) sl'),ops)∧ew P c (t++ops) gs' q'∧gs'[0]?=some a∧gs'[c]?=some b∧sumTo c q'<sumTo c q∧(∀op∈ops,op.act.touch? =none∧∀a,op.act≠.mark (.release a))∧(∀B,∀op∈ops,op.act.low B)∧Deaf (t++ops) 0=Deaf t 0∧Deaf (t++ops) c=Deaf t c):=by
 have jT:=hC.pos;have SS:∀g∈gs,awake g:=by
  intro g hg;obtain⟨i,hi,rfl⟩:=zbV.1 hg;have hi':=zaE hi;rcases hC.get hi' with rfl|rfl|⟨h1,h2⟩
  ·rw[h0]at hi';obtain rfl:=zaY hi';exact WD
  ·rw[hc]at hi';obtain rfl:=zaY hi';exact WE
  ·exact awake_of ((hC.old i _ h1 h2 hi').status.elim .inl λx=> .inr (.inr x))
 obtain⟨i,g,d,sl',hi,hg,hst⟩:=crowd_pick (P:=P) (w:=w) (sl:=sl) SS (hrun.elim (λh=>⟨0,a,h0,h⟩) λh=>⟨c,b,hc,h⟩);rcases hC.get hi with rfl|rfl|⟨h1,h2⟩
 ·rw[h0]at hi;obtain rfl:=zaY hi;exact .inl ⟨hg,d,sl',hst⟩
 ·rw[hc]at hi;obtain rfl:=zaY hi;exact .inr (.inl ⟨hg,d,sl',hst⟩)
 ·right;right;have hq:=hC.old i g h1 h2 hi;have SU:(i==0)=false:=by simp;omega
  have hlt:i<gs.size:=(zag.1 hi).1;cases EY:q i with
  |zero=>rw[EY]at hq;rw[hq.1]at hg;cases hg
  |succ k=>
   rw[EY]at hq;rcases hq with⟨hf,_⟩|⟨_,g',es,hm,EZ,hq'⟩
   ·rw[hf]at hg;cases hg
   have qT:=runT_crowd_go (P:=P) (sl:=sl') (i:=i) hi (by rw[SU];exact EZ (w.at d));have SV:sumTo c (upd q i k)+(k+1)=sumTo c q+k:=by
    have:=sumTo_upd q k id h2;simpa[EY]using this
   refine⟨_,d,sl',_,upd q i k,hst.trans qT,⟨by simp[hC.size],jT,λj x hj SX hx=>?_,λj hj=>?_⟩,?_,?_,by omega,λop hop=>?_,λB op hop=>?_,zaF t (by omega) _ ofEvents_g,zaF t (by omega) _ ofEvents_g⟩
   ·by_cases AQ:i=j
    ·subst AQ;rw[zbB (by simpa using hlt)]at hx;obtain rfl:=zaY hx;rw[upd_same,Deaf_own];exact hq'
    ·rw[zax AQ,zaw]at hx;obtain⟨y,hy,rfl⟩:=zav.1 hx;have Lq:=hC.old j y hj SX hy;rw[woken_quitsD Lq,upd_ne q k (Ne.symm AQ),zaF t AQ _ ofEvents_g];exact Lq
   ·rw[zaF t (g':=i) (by omega) _ ofEvents_g];exact hC.above j hj
   ·rw[zax (by omega),zaw,h0];simp[sa g g' d]
   ·rw[zax (by omega),zaw,hc];simp[sb g g' d]
   ·obtain⟨e,he,rfl⟩:=zbd hop;exact⟨touch_mute (hm e he),λa=>p8 (hm e he) a⟩
   ·obtain⟨e,he,rfl⟩:=zbd hop;exact low_mute (hm e he) B
theorem qU (hC:ew P c t gs q)(h0:gs[0]?=some a)(hc:gs[c]?=some b)(hs:ξ P true a w=.go a' w' es):∃gs',runT P (ι gs w sl) 0=(.next (ι gs' w' sl),η 0 a.frame.fn a.frame.place es)∧ew P c (t++η 0 a.frame.fn a.frame.place es) gs' q∧gs'[0]?=some a'∧gs'[c]?=some (woken P a a' w' b):=by
 have jT:=hC.pos;have hlt:0<gs.size:=(zag.1 h0).1;refine⟨_,runT_crowd_go (P:=P) (sl:=sl) (i:=0) h0 (show ξ P (0==0) a w=_ from hs),⟨by simp[hC.size],jT,λj x hj SX hx=>?_,λj hj=>?_⟩,by simp[hlt],?_⟩
 ·rw[zax (by omega),zaw]at hx;obtain⟨y,hy,rfl⟩:=zav.1 hx;have hq:=hC.old j y hj SX hy;rw[woken_quitsD hq,zaF t (by omega) _ ofEvents_g];exact hq
 ·rw[zaF t (by omega) _ ofEvents_g];exact hC.above j hj
 ·rw[zax (by omega),zaw,hc];rfl
theorem kF (hC:ew P c t gs q)(h0:gs[0]?=some a)(hc:gs[c]?=some b)(hs:ξ P false b w=.go b' w' es):∃gs',runT P (ι gs w sl) c=(.next (ι gs' w' sl),η c b.frame.fn b.frame.place es)∧ew P c (t++η c b.frame.fn b.frame.place es) gs' q∧gs'[0]?=some (woken P b b' w' a)∧gs'[c]?=some b':=by
 have jT:=hC.pos;have hlt:c<gs.size:=(zag.1 hc).1;have hc0:(c==0)=false:=by simp;omega
 refine⟨_,runT_crowd_go (P:=P) (sl:=sl) (i:=c) hc (by rw[hc0];exact hs),⟨by simp[hC.size],jT,λj x hj SX hx=>?_,λj hj=>?_⟩,?_,by simp[hlt]⟩
 ·rw[zax (by omega),zaw]at hx;obtain⟨y,hy,rfl⟩:=zav.1 hx;have hq:=hC.old j y hj SX hy;rw[woken_quitsD hq,zaF t (by omega) _ ofEvents_g];exact hq
 ·rw[zaF t (by omega) _ ofEvents_g];exact hC.above j hj
 ·rw[zax (by omega),zaw,h0];rfl
theorem dH (t:θ)(g:Nat)(u:θ)(hu:∀op∈u,∀m,op.act≠.mark m):Deaf (t++u) g=Deaf t g:=by
 obtain⟨l⟩:=u;rw[Deaf_append];generalize Deaf t g=d
 induction l generalizing d with
 |nil=>rfl
 |cons y l ih=>
  have e1:deafStep g d y=d:=by
   unfold deafStep;split
   ·exact absurd ‹_› (hu y (by simp) _)
   ·exact absurd ‹_› (hu y (by simp) _)
   ·rfl
  rw[List.foldl_cons,e1];exact ih (λop hop=>hu op (by simp at hop ⊢;exact .inr hop)) d
theorem ew.comm (hC:ew P c t gs q){gs':Array Λ}{u:θ}(hu:∀op∈u,∀m,op.act≠.mark m)(hsz:gs'.size=gs.size)(hg:∀i,i≠0→i≠c→gs'[i]?=gs[i]?):ew P c (t++u) gs' q:=
 ⟨hsz.trans hC.size,hC.pos,λi g h1 h2 hi=>by rw[dH t i u hu];exact hC.old i g h1 h2 (by rw[←hg i (by omega) (by omega)];exact hi),λj hj=>by rw[dH t j u hu];exact hC.above j hj⟩
theorem ew.offers (hC:ew P c t gs q){i ch:Nat}{send:Bool}{g:Λ}(h1:0<i)(h2:i<c)(hi:gs[i]?=some g):offersAt g ch send=[]:=
 offersAt_of_not_blocked (by rcases(hC.old i g h1 h2 hi).status with h|h<;>simp[h]) _ _
theorem kH (hC:ew P c t gs q)(hc:gs[c]?=some b){ch:Nat}{send:Bool}:partners (gs.setIfInBounds 0 ph) ch send=(offersAt b ch send).map λk=>(c,k):=by
 have jT:=hC.pos;refine partners_one (by rw[zax (by omega)];exact hc) λk x hk hx=>?_;rcases getElem?_stand gs 0 k x hx with⟨_,rfl⟩|⟨h1,h2⟩
 ·rfl
 ·rcases hC.get h2 with h|h|⟨h3,h4⟩
  ·exact absurd h h1
  ·exact absurd h hk
  ·exact hC.offers h3 h4 h2
theorem nL (hC:ew P c t gs q)(h0:gs[0]?=some a){ch:Nat}{send:Bool}:partners (gs.setIfInBounds c ph) ch send=(offersAt a ch send).map λk=>(0,k):=by
 have jT:=hC.pos;refine partners_one (by rw[zax (by omega)];exact h0) λk x hk hx=>?_;rcases getElem?_stand gs c k x hx with⟨_,rfl⟩|⟨h1,h2⟩
 ·rfl
 ·rcases hC.get h2 with h|h|⟨h3,h4⟩
  ·exact absurd h hk
  ·exact absurd h h1
  ·exact hC.offers h3 h4 h2
variable {ch s r:Nat}{tm:Bool}{z z' v:Φ}{a₂ sY:Λ}
theorem ofEvents_none (g:Nat)(fn:ψ)(pos:String):η g fn pos #[]=#[]:=rfl
theorem uI (hC:ew P c t gs q)(h0:gs[0]?=some a)(hc:gs[c]?=some b)(hb:b.status≠.blocked)(hs:ξ P true a w=.comm a₂ #[rcase ch z] true (.recv true) w #[])(hch:w.heap[ch]?=some (.chan 0 #[] false s r tm)):∃gs',runT P (ι gs w sl) 0=(.next (ι gs' w sl),#[])∧ew P c (t++#[]) gs' q∧gs'[0]?=some (parked a₂ #[rcase ch z] (.recv true))∧gs'[c]?=some b:=by
 have jT:=hC.pos;have hlt:0<gs.size:=(zag.1 h0).1;have:=crowd_waits (P:=P) (sl:=sl) (i:=0) h0 (show ξ P (0==0) a w=_ from hs) λcc hcc=>by
  simp only[zbX,zaI,zbY,or_false]at hcc;subst hcc;exact ways_recv_none hch (by rw[kH hC hc,offersAt_of_not_blocked hb];rfl)
 refine⟨_,this,hC.comm (by simp) (by simp) λi h1 h2=>?_,by simp[hlt],?_⟩
 ·rw[zax (Ne.symm h1)]
 ·rw[zax (by omega)];exact hc
theorem uJ (hC:ew P c t gs q)(h0:gs[0]?=some a)(hc:gs[c]?=some b)(ha:a.status≠.blocked)(hs:ξ P false b w=.comm sY #[scase ch v z'] true .send w #[])(hch:w.heap[ch]?=some (.chan 0 #[] false s r tm)):∃gs',runT P (ι gs w sl) c=(.next (ι gs' w sl),#[])∧ew P c (t++#[]) gs' q∧gs'[0]?=some a∧gs'[c]?=some (parked sY #[scase ch v z'] .send):=by
 have jT:=hC.pos;have hlt:c<gs.size:=(zag.1 hc).1;have hc0:(c==0)=false:=by simp;omega
 have:=crowd_waits (P:=P) (sl:=sl) (i:=c) hc (by rw[hc0];exact hs) λcc hcc=>by
  simp only[zbX,zaI,zbY,or_false]at hcc;subst hcc;exact ways_send_none hch (by simp) (by rw[nL hC h0,offersAt_of_not_blocked ha];rfl)
 refine⟨_,this,hC.comm (by simp) (by simp) λi h1 h2=>?_,?_,by simp[hlt]⟩
 ·rw[zax (Ne.symm h2)]
 ·rw[zax (by omega)];exact h0
def Lr (ch:Nat)(u:θ):Prop:=∀op∈u,op.act.touch? =none∧(∀m,op.act≠.mark m)∧∀B,ch<B→op.act.low B
theorem uK (hC:ew P c t gs q)(h0:gs[0]?=some a)(hc:gs[c]?=some (parked sY #[scase ch v z'] .send))(hs:ξ P true a w=.comm a₂ #[rcase ch z] true (.recv true) w #[])(hch:w.heap[ch]?=some (.chan 0 #[] false s r tm)):∃gs' u,runT P (ι gs w sl) 0=(.next (ι gs' (w.setChan ch 0 #[] false (s+1) (r+1) tm) sl),u)∧Lr ch u∧ew P c (t++u) gs' q∧gs'[0]?=some (Conc.served a₂ (.tuple #[v,.bool true]))∧gs'[c]?=some (Conc.served sY χ):=by
 have jT:=hC.pos;have hlt:0<gs.size:=(zag.1 h0).1;have SY:c<gs.size:=(zag.1 hc).1;have:=crowd_recv_meets (P:=P) (sl:=sl) (i:=0) h0 (show ξ P (0==0) a w=_ from hs) hch (by omega) hc (by rw[kH hC hc,offersAt_parked_send,zac rfl];rfl);rw[ofEvents_none]at this;refine⟨_,_,this,λop hop=>?_,hC.comm (λop hop m e=>?_) (by simp) λi h1 h2=>?_,?_,?_⟩
 ·simp at hop;rcases hop with rfl|rfl|rfl|rfl<;>exact⟨rfl,by simp,λB h=>h⟩
 ·simp at hop;rcases hop with rfl|rfl|rfl|rfl<;>simp at e
 ·rw[zax (Ne.symm h1),zax (Ne.symm h2)]
 ·simp[hlt,finishComm_recv,recvd]
 ·rw[zax (by omega),zbB SY,finishComm_send]
theorem uL (hC:ew P c t gs q)(h0:gs[0]?=some (parked a₂ #[rcase ch z] (.recv true)))(hc:gs[c]?=some b)(hs:ξ P false b w=.comm sY #[scase ch v z'] true .send w #[])(hch:w.heap[ch]?=some (.chan 0 #[] false s r tm)):∃gs' u,runT P (ι gs w sl) c=(.next (ι gs' (w.setChan ch 0 #[] false (s+1) (r+1) tm) sl),u)∧Lr ch u∧ew P c (t++u) gs' q∧gs'[0]?=some (Conc.served a₂ (.tuple #[v,.bool true]))∧gs'[c]?=some (Conc.served sY χ):=by
 have jT:=hC.pos;have hlt:0<gs.size:=(zag.1 h0).1;have SY:c<gs.size:=(zag.1 hc).1;have hc0:(c==0)=false:=by simp;omega
 have:=crowd_send_meets (P:=P) (sl:=sl) (i:=c) (j:=0) hc (by rw[hc0];exact hs) hch (by omega) h0 (by rw[nL hC h0,offersAt_parked_recv,zac rfl];rfl);rw[ofEvents_none]at this;refine⟨_,_,this,λop hop=>?_,hC.comm (λop hop m e=>?_) (by simp) λi h1 h2=>?_,?_,?_⟩
 ·simp at hop;rcases hop with rfl|rfl|rfl|rfl<;>exact⟨rfl,by simp,λB h=>h⟩
 ·simp at hop;rcases hop with rfl|rfl|rfl|rfl<;>simp at e
 ·rw[zax (Ne.symm h2),zax (Ne.symm h1)]
 ·rw[zax (by omega),zbB hlt,finishComm_recv];rfl
 ·rw[zbB (by simpa using SY),finishComm_send]
theorem sZ (hC:ew P c t gs q)(h0:gs[0]?=some a)(hc:gs[c]?=some b)(hb:b.status≠.blocked)(hs:ξ P true a w=.comm a₂ #[rcase ch z] true (.recv true) w #[])(hch:w.heap[ch]?=some (.chan 0 #[] true s r tm)):∃gs' fn pos,runT P (ι gs w sl) 0=(.next (ι gs' w sl),#[{ g:=0,fn:=fn,pos:=pos,act:= .recvClosed ch }])∧ew P c (t++#[{ g:=0,fn:=fn,pos:=pos,act:= .recvClosed ch }]) gs' q∧gs'[0]?=some (Conc.served a₂ (.tuple #[z,.bool false]))∧gs'[c]?=some b:=by
 have jT:=hC.pos;have hlt:0<gs.size:=(zag.1 h0).1;have:=crowd_recv_closed (P:=P) (sl:=sl) (i:=0) h0 (show ξ P (0==0) a w=_ from hs) hch (by rw[kH hC hc,offersAt_of_not_blocked hb];rfl);rw[ofEvents_none,Array.empty_append]at this;refine⟨_,_,_,this,hC.comm (λop hop m e=>?_) (by simp) λi h1 h2=>?_,?_,?_⟩
 ·simp at hop;subst hop;simp at e
 ·rw[zax (Ne.symm h1)]
 ·simp[hlt,finishComm_recv,recvd]
 ·rw[zax (by omega)];exact hc
end
end Go.Ren
