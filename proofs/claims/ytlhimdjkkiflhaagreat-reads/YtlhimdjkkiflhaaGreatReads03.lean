import GoSem.Step
import Derived.Test.YtlhimdjkkiflhaaGreatReads02
set_option maxHeartbeats 8000000
set_option maxRecDepth 100000
open Option renaming map→Γ
open Go renaming Value→Δ,TypeId→Λ,undef→Ξ,Operand→Φ,World→Ω,FuncId→ζ,Program→η,execOp→ι
open Go.Conv renaming bytesToString→Θ
open Go.Deferred renaming ofValue→θ
namespace Go.Ren
open Go
theorem bt {f:Δ→Δ}{cs:Array Δ}:cs.map f=cs↔∀x∈cs,f x=x:=by
 constructor
 ·intro h x hx;obtain⟨i,hi,rfl⟩:=zbV.1 hx;have:(cs.map f)[i]'(by simpa using hi)=cs[i]:=by simp only[h]
  simpa using this
 ·intro h;apply Array.ext
  ·simp
  ·intro i h1 h2;simp only[zbM];exact h _ (Array.getElem_mem h2)
theorem dX {f g:Δ→Δ}{cs:Array Δ}(h:∀x∈cs,f x=g x):cs.map f=cs.map g:=by
 apply Array.ext
 ·simp
 ·intro i h1 h2;simp only[zbM];exact h _ (Array.getElem_mem (by simpa using h1))
section
variable {σ Vf:Rn}
theorem eJ (hb:∀r,σ r=r→Vf r=r)(hf:∀x,σ.f x=x→Vf.f x=x):∀v:Δ,rv σ v=v→rv Vf v=v
 |.pointer none,_=>by simp[rv]
 |.pointer (some a),h=>by
  simp only[rv,Γ,Δ.pointer.injEq,zaG,ra]at h ⊢;obtain⟨b,o,s⟩:=a;simp only[Addr.mk.injEq,zat]at h ⊢;exact hb _ h
 |.slice none _ _,_=>by simp[rv]
 |.slice (some a) l c,h=>by
  simp only[rv,Γ,Δ.slice.injEq,zaG,ra,zat]at h ⊢;obtain⟨b,o,s⟩:=a;simp only[Addr.mk.injEq,zat]at h ⊢;exact hb _ h
 |.map none,_=>by simp[rv]
 |.map (some r),h=>by
  simp only[rv,Γ,Δ.map.injEq,zaG]at h ⊢;exact hb _ h
 |.chan none,_=>by simp[rv]
 |.chan (some r),h=>by
  simp only[rv,Γ,Δ.chan.injEq,zaG]at h ⊢;exact hb _ h
 |.func fn first captured,h=>by
  simp only[rv,Δ.func.injEq]at h ⊢;refine⟨hf _ h.1,bt.2 λx hx=>?_,bt.2 λx hx=>?_⟩
  ·have:=zbi hx;exact eJ hb hf x (bt.1 h.2.1 x hx)
  ·have:=zbi hx;exact eJ hb hf x (bt.1 h.2.2 x hx)
 |.iface t v,h=>by
  simp only[rv,Δ.iface.injEq,true_and]at h ⊢;exact eJ hb hf v h
 |.agg cs,h=>by
  simp only[rv,Δ.agg.injEq]at h ⊢;refine bt.2 λx hx=>?_;have:=zbi hx;exact eJ hb hf x (bt.1 h x hx)
 |.tuple cs,h=>by
  simp only[rv,Δ.tuple.injEq]at h ⊢;refine bt.2 λx hx=>?_;have:=zbi hx;exact eJ hb hf x (bt.1 h x hx)
 |.bool _,_=>by simp[rv]
 |.int _ _,_=>by simp[rv]
 |.float _ _,_=>by simp[rv]
 |.complex _ _ _,_=>by simp[rv]
 |.string _,_=>by simp[rv]
 |.nilFunc,_=>by simp[rv]
 |.nilIface,_=>by simp[rv]
termination_by v=>SizeOf.sizeOf v
theorem agree {ρ ρ':Rn}(hb:∀r,σ r=r→ρ r=ρ' r)(hf:∀x,σ.f x=x→ρ.f x=ρ'.f x):∀v:Δ,rv σ v=v→rv ρ v=rv ρ' v
 |.pointer none,_=>by simp[rv]
 |.pointer (some a),h=>by
  simp only[rv,Γ,Δ.pointer.injEq,zaG,ra]at h ⊢;obtain⟨b,o,s⟩:=a;simp only[Addr.mk.injEq,zat]at h ⊢;exact hb _ h
 |.slice none _ _,_=>by simp[rv]
 |.slice (some a) l c,h=>by
  simp only[rv,Γ,Δ.slice.injEq,zaG,ra,zat]at h ⊢;obtain⟨b,o,s⟩:=a;simp only[Addr.mk.injEq,zat]at h ⊢;exact hb _ h
 |.map none,_=>by simp[rv]
 |.map (some r),h=>by
  simp only[rv,Γ,Δ.map.injEq,zaG]at h ⊢;exact hb _ h
 |.chan none,_=>by simp[rv]
 |.chan (some r),h=>by
  simp only[rv,Γ,Δ.chan.injEq,zaG]at h ⊢;exact hb _ h
 |.func fn first captured,h=>by
  simp only[rv,Δ.func.injEq]at h ⊢;refine⟨hf _ h.1,dX λx hx=>?_,dX λx hx=>?_⟩
  ·have:=zbi hx;exact agree hb hf x (bt.1 h.2.1 x hx)
  ·have:=zbi hx;exact agree hb hf x (bt.1 h.2.2 x hx)
 |.iface t v,h=>by
  simp only[rv,Δ.iface.injEq,true_and]at h ⊢;exact agree hb hf v h
 |.agg cs,h=>by
  simp only[rv,Δ.agg.injEq]at h ⊢;refine dX λx hx=>?_;have:=zbi hx;exact agree hb hf x (bt.1 h x hx)
 |.tuple cs,h=>by
  simp only[rv,Δ.tuple.injEq]at h ⊢;refine dX λx hx=>?_;have:=zbi hx;exact agree hb hf x (bt.1 h x hx)
 |.bool _,_=>by simp[rv]
 |.int _ _,_=>by simp[rv]
 |.float _ _,_=>by simp[rv]
 |.complex _ _ _,_=>by simp[rv]
 |.string _,_=>by simp[rv]
 |.nilFunc,_=>by simp[rv]
 |.nilIface,_=>by simp[rv]
termination_by v=>SizeOf.sizeOf v
theorem gM {a:Addr}:ra σ a=a↔σ a.block=a.block:=by
 obtain⟨b,o,s⟩:=a;simp[ra]
theorem oI (hb:∀r,σ r=r→Vf r=r)(hf:∀x,σ.f x=x→Vf.f x=x){o:Obj}(h:ro σ o=o):ro Vf o=o:=by
 have hv:=eJ hb hf;cases o with
 |cells c t f=>simp only[ro,Obj.cells.injEq,zat]at h ⊢;exact bt.2 λx hx=>hv x (bt.1 h x hx)
 |pending c t=>simp only[ro,Obj.pending.injEq,zat]at h ⊢;exact bt.2 λx hx=>hv x (bt.1 h x hx)
 |chan a b c d e f=>simp only[ro,Obj.chan.injEq,zat,true_and]at h ⊢;exact bt.2 λx hx=>hv x (bt.1 h x hx)
 |view a t=>simp only[ro,Obj.view.injEq,zat]at h ⊢;exact gM.2 (hb _ (gM.1 h))
 |number a t=>simp only[ro,Obj.number.injEq,zat]at h ⊢;exact gM.2 (hb _ (gM.1 h))
 |map es c=>
  simp only[ro,Obj.map.injEq,zat]at h ⊢;apply Array.ext
  ·simp
  ·intro i h1 h2;have e:(es.map λe=>{ e with key:=rv σ e.key,val:=rv σ e.val }:Array MapEntry)[i]'(by simpa using h2)=es[i]:=by simp only[h]
   simp only[zbM]at e ⊢;generalize es[i]=x at e ⊢;obtain⟨k,v,b⟩:=x;simp only[MapEntry.mk.injEq,zat]at e ⊢;exact⟨hv _ e.1,hv _ e.2⟩
 |_=>rfl
theorem sM {ρ ρ':Rn}(hb:∀r,σ r=r→ρ r=ρ' r)(hf:∀x,σ.f x=x→ρ.f x=ρ'.f x){o:Obj}(h:ro σ o=o):ro ρ o=ro ρ' o:=by
 have hv:=agree hb hf;cases o with
 |cells c t f=>simp only[ro,Obj.cells.injEq,zat]at h ⊢;exact dX λx hx=>hv x (bt.1 h x hx)
 |pending c t=>simp only[ro,Obj.pending.injEq,zat]at h ⊢;exact dX λx hx=>hv x (bt.1 h x hx)
 |chan a b c d e f=>simp only[ro,Obj.chan.injEq,zat,true_and]at h ⊢;exact dX λx hx=>hv x (bt.1 h x hx)
 |view a t=>simp only[ro,Obj.view.injEq,zat]at h ⊢;obtain⟨b,o,s⟩:=a;simp only[ra,Addr.mk.injEq,zat]at h ⊢;exact hb _ h
 |number a t=>simp only[ro,Obj.number.injEq,zat]at h ⊢;obtain⟨b,o,s⟩:=a;simp only[ra,Addr.mk.injEq,zat]at h ⊢;exact hb _ h
 |map es c=>
  simp only[ro,Obj.map.injEq,zat]at h ⊢;apply Array.ext
  ·simp
  ·intro i h1 h2;have hi:i<es.size:=by simpa using h1
   have e:(es.map λe=>{ e with key:=rv σ e.key,val:=rv σ e.val }:Array MapEntry)[i]'(by simpa using hi)=es[i]:=by simp only[h]
   simp only[zbM]at e ⊢;generalize es[i]=x at e ⊢;obtain⟨k,v,b⟩:=x;simp only[MapEntry.mk.injEq,zat]at e ⊢;exact⟨hv _ e.1,hv _ e.2⟩
 |_=>rfl
end
structure Sd where
 f:ζ→Bool
 d:Nat
 g:Nat
instance:CoeFun Sd (λ_=>ζ→Bool):=⟨Sd.f⟩
structure qJ (S:Sd) (ρ:Rn):Prop where
 f:∀g,S g=true→ρ.f (.func g)=.func g
 g:∀g,S.d≤g→g<S.g→ρ g=g
 l:∀g,g<S.d→g<ρ.d∨ρ g=g
def sg (S:Sd)(b0 n:Nat):Rn where
 d:=b0
 b:=λr=>if b0≤r∧r<n then r else r+n+1
 f:=λ
  |.func g=>if S g then .func g else .method ""
  |.method _=> .yield 0
  |.methodOf _ _=> .yield 0
  |.via _ _ _ _=> .yield 0
  |.yield _=> .method ""
section
variable {S:Sd}{b0 n m:Nat}
theorem bO {r:Nat}:sg S b0 n r=r↔b0≤r∧r<n:=by
 show(if b0≤r∧r<n then r else r+n+1)=r↔_;split
 ·rename_i h;simp[h]
 ·rename_i h;constructor
  ·intro e;omega
  ·intro e;exact absurd e h
theorem iq {x:Fn}:(sg S b0 n).f x=x↔∃g,x=.func g∧S g=true:=by
 cases x with
 |func g=>
  show(if S g then Fn.func g else .method "")=.func g↔_;split
  ·rename_i h;simp[h]
  ·rename_i h;simp[h]
 |_=>simp[sg]
theorem vd {S:Sd}(h:S.g≤n):qJ S (sg S S.d n):=⟨λg hg=>iq.2 ⟨g,rfl,hg⟩,λ_ h1 h2=>bO.2 ⟨h1,by omega⟩,λ_ h=> .inl h⟩
theorem SM (a b:Nat)(h:sg S b0 n a=sg S b0 n b):a=b:=by
 simp only[sg]at h;split at h<;>split at h<;>omega
theorem dO (h:n≤m):(∀r,sg S b0 n r=r→sg S b0 m r=r)∧∀x,(sg S b0 n).f x=x→(sg S b0 m).f x=x:=
 ⟨λr hr=>bO.2 (by have:=bO.1 hr;omega),λx hx=>iq.2 (iq.1 hx)⟩
end
def lC:Δ→Bool
 |.bool _|.int _ _|.float _ _|.complex _ _ _|.string _|.nilFunc |.nilIface=>true
 |.pointer none|.slice none _ _|.map none|.chan none=>true
 |_=>false
theorem gT {v:Δ}(h:lC v=true):∀ρ:Rn,rv ρ v=v:=by
 intro ρ;cases v with
 |pointer a=>cases a<;>simp_all [lC,rv]
 |slice a=>cases a<;>simp_all [lC,rv]
 |map a=>cases a<;>simp_all [lC,rv]
 |chan a=>cases a<;>simp_all [lC,rv]
 |_=>simp_all [lC,rv]
def gN (S:Sd):Φ→Bool
 |.tmp _=>true
 |.const v=>lC v
 |.global g=>decide (S.d≤g)&&decide (g<S.g)
 |.func f=>S f
def oJ:Builtin→Bool
 |.append |.copy |.len |.max |.min |.unsafeSliceData |.unsafeString=>true
 |_=>false
def EN (P:η)(src dst:Λ):Bool:=
 match P.underlying src,P.underlying dst with
 |some (.int _),some (.int _)=>true
 |some (.int _),some .string=>true
 |some (.slice e),some .string=>match P.underlying e with|some (.int .u8)=>true|_=>false
 |some (.pointer _),some .unsafePointer=>true
 |some .unsafePointer,some (.pointer _)=>true
 |_,_=>false
def jx (P:η)(F:ζ→Bool)(S:Sd):Op→Bool
 |.move x|.assign x|.box _ x|.nilCheck x|.unOp _ _ x|.makeInterface _ x|.field _ x _|.fieldAddr _ x _|.extract x _=>gN S x
 |.pick c a b=>gN S c&&gN S a&&gN S b
 |.alloc _=>true
 |.build _ parts=>parts.all λp=>gN S p.2
 |.buildSlice _ _ parts=>parts.all λp=>gN S p.2
 |.load _ (.global g)=>decide (g<S.d)||(decide (S.d≤g)&&decide (g<S.g))
 |.load _ a=>gN S a
 |.store _ a x=>gN S a&&gN S x
 |.binOp _ _ x y _=>gN S x&&gN S y
 |.convert src dst x=>gN S x&&EN P src dst
 |.makeMap _ r=>r.all (gN S)
 |.makeSlice _ l c=>gN S l&&gN S c
 |.slice _ x lo hi mx=>gN S x&&lo.all (gN S)&&hi.all (gN S)&&mx.all (gN S)
 |.indexAddr _ x i|.index _ x i=>gN S x&&gN S i
 |.lookup _ x i _=>gN S x&&gN S i
 |.mapUpdate _ m k x=>gN S m&&gN S k&&gN S x
 |.typeAssert x _ _ ok=>gN S x&&ok
 |.panic x=>gN S x
 |.call c=>(c.args.all (gN S))&&match c.callee with
  |.value (.func f)=>F f
  |.value (.tmp _)=>true
  |.builtin b=>oJ b
  |_=>false
 |_=>false
def FV (S:Sd)(v:Δ):Prop:=∀fn a b,v=.func fn a b→∃g,fn=.func g∧S g=true
def Gw (P:η)(S:Sd)(f:ζ):Prop:=∃fn,P.funcs[f]?=some fn∧(fn.name== "runtime.NumGoroutine")=false∧(fn.body.isNone=false∨(fn.body.isNone=true∧Extern.findNext fn=none∧∃e,Extern.find fn=some e∧∀(ρ:Rn) (args:Array Δ),Plain P ρ→qJ S ρ→aa P ρ (VV ρ) (e args) (e (args.map (rv ρ)))))
def NN (F:ζ→Bool)(ρ:Rn):Next→Next→Prop
 |.value v,n=>n=.value (rv ρ v)
 |.skip,n=>n=.skip
 |.enter f args,n=>F f=true∧n=.enter f (args.map (rv ρ))
 |_,_=>False
section
variable {P:η}{ρ:Rn}{F:ζ→Bool}{S:Sd}{α β:Type}
theorem qK {s s':Sem Δ}(h:aa P ρ (VV ρ) s s'):aa P ρ (NN F ρ) (do pure (.value (←s))) (do pure (.value (←s'))):=by
 refine aa.bind h ?_;rintro v _ rfl;exact aa.pure rfl
theorem e_u {s s':Sem Unit}(h:aa P ρ Eq s s'):aa P ρ (NN F ρ) (do s;pure .skip) (do s';pure .skip):=by
 refine aa.bind h ?_;rintro v _ rfl;exact aa.pure rfl
theorem vT (hp:Plain P ρ)(hx:qJ S ρ)(f:ζ)(args:Array Δ)(hF:F f=true)(hf:Gw P S f):aa P ρ (NN F ρ) (callFunc f args) (callFunc f (args.map (rv ρ))):=by
 obtain⟨fn,h1,h2,h3⟩:=hf;unfold callFunc;refine aa.bind cz ?_;rintro _ _ ⟨rfl,rfl⟩;rw[h1];simp only[h2,zaN,if_false];rcases h3 with h3|⟨h3,h4,e,h5,h6⟩
 ·simp only[h3,zaN,if_false];exact aa.pure ⟨hF,rfl⟩
 ·simp only[h3,if_true,h4,h5];refine aa.bind (Aj (.extern f) trivial) ?_;rintro _ _ rfl;exact qK (h6 ρ args hp hx)
theorem Ci (a:Addr):aa P ρ (AA ρ) (Conv.seenAt a) (Conv.seenAt (ra ρ a)):=by
 unfold Conv.seenAt;refine aa.bind (qE a.block) ?_;rintro x _ rfl;cases x with
 |none=>exact aa.pure rfl
 |some z=>
  obtain⟨s,u⟩:=z;simp only[Γ];have e1:(ra ρ a).off=a.off:=rfl;have e2:(ra ρ a).spot=a.spot:=rfl;have e3:(ra ρ s).spot=s.spot:=rfl;have e4:(ra ρ s).off=s.off:=rfl;rw[e1,e2,e3,e4];refine aa.aj (λ_=>aa.pure rfl) (λ_=>?_);refine aa.aj (λ_=>jv (aa.unsupported _)) (λ_=>?_);refine aa.bind cz ?_;rintro _ _ ⟨rfl,rfl⟩;split
  ·refine aa.bind (gH s.block) ?_;rintro sh _ rfl;cases sh with
   |none=>exact aa.unsupported _
   |some y=>
    obtain⟨e,m⟩:=y;dsimp only;refine aa.aj (λ_=>jv (aa.unsupported _)) (λ_=>?_);split
    ·exact aa.pure rfl
    ·exact aa.unsupported _
  ·exact aa.unsupported _
theorem IL (r:Nat):aa P ρ Eq (cellsIn r) (cellsIn (ρ r)):=by
 unfold cellsIn;refine aa.bind (gH r) ?_;rintro sh _ rfl;cases sh with
 |some x=>exact aa.pure rfl
 |none=>
  refine aa.bind (lS r) ?_;rintro o _ ⟨rfl,_⟩;cases o<;>simp only[ro]<;>first|exact aa.pure rfl|(simp only[Array.size_map];exact aa.pure rfl)
theorem sN (t:Λ)(src dst:Λ)(x:Δ)(hs:P.underlying src=some (.pointer t))(hd:P.underlying dst=some .unsafePointer):aa P ρ (VV ρ) (Conv.unsafePointer src dst x) (Conv.unsafePointer src dst (rv ρ x)):=by
 unfold Conv.unsafePointer;refine aa.bind (aq src) ?_;rintro d d' ⟨e,h⟩;subst e;rw[hs]at h;cases h;refine aa.bind (aq dst) ?_;rintro d d' ⟨e,h⟩;subst e;rw[hd]at h;cases h;cases x with
 |pointer a=>
  cases a with
  |none=>simp only[rv,Γ];exact aa.pure (by simp[VV,rv])
  |some a=>
   simp only[rv,Γ];refine aa.bind (Ci a) ?_;rintro s _ rfl;refine aa.bind (IL s.block) ?_;rintro q _ rfl;have e1:(ra ρ s).off=s.off:=rfl;have e2:(ra ρ s).spot=s.spot:=rfl;rw[e1,e2];refine aa.bind (cd t) ?_;rintro n _ rfl;refine aa.aj (λ_=>?_) (λ_=>aa.pure (by simp[VV,rv]));refine aa.bind (lQ (.view s t)) ?_;rintro r _ rfl;exact aa.pure (by simp[VV,rv,ra])
 |_=>simp only[rv];exact aa.stuck _
theorem sP (t:Λ)(src dst:Λ)(x:Δ)(hs:P.underlying src=some .unsafePointer)(hd:P.underlying dst=some (.pointer t)):aa P ρ (VV ρ) (Conv.unsafePointer src dst x) (Conv.unsafePointer src dst (rv ρ x)):=by
 unfold Conv.unsafePointer;refine aa.bind (aq src) ?_;rintro d d' ⟨e,h⟩;subst e;rw[hs]at h;cases h;refine aa.bind (aq dst) ?_;rintro d d' ⟨e,h⟩;subst e;rw[hd]at h;cases h;cases x with
 |pointer a=>
  cases a with
  |none=>simp only[rv,Γ];exact aa.pure (by simp[VV,rv])
  |some a=>
   simp only[rv,Γ];refine aa.bind (Ci a) ?_;rintro s _ rfl;refine aa.bind (cd t) ?_;rintro n _ rfl;refine aa.bind (pJ s t 1) ?_;rintro b _ rfl;refine aa.aj (λ_=>aa.pure (by simp[VV,rv])) (λ_=>?_);refine aa.bind (gH s.block) ?_;rintro sh _ rfl;cases sh with
   |none=>exact aa.unsupported _
   |some y=>
    obtain⟨e,m⟩:=y;dsimp only;refine aa.bind cz ?_;rintro _ _ ⟨rfl,rfl⟩;refine aa.bind cz ?_;rintro _ _ ⟨rfl,rfl⟩;refine aa.aj (λ_=>jv (aa.unsupported _)) (λ_=>?_);refine aa.bind (lQ (.view s t)) ?_;rintro r _ rfl;exact aa.pure (by simp[VV,rv,ra])
 |_=>simp only[rv];exact aa.stuck _
theorem uG (x:Δ):aa P ρ (VV ρ) (Θ x) (Θ (rv ρ x)):=by
 unfold Θ;cases x with
 |slice a n c=>
  cases a with
  |none=>simp only[rv,Γ];exact aa.pure (by simp[VV,rv])
  |some a=>
   simp only[rv,Γ];refine aa.bind (ny a n) ?_;rintro cs _ rfl;refine aa.bind (R:=Eq) ?_ (by rintro s _ rfl;exact aa.pure (by simp[VV,rv]))
   haveI:=lawful
   rw[←zbF,←zbF,zbk];generalize ByteArray.empty=s0
   induction cs.toList generalizing s0 with
   |nil=>exact aa.pure rfl
   |cons v l ih=>
    simp only[zaC,List.forIn_cons];cases v with
    |int k m=>
     simp only[rv];cases k<;>first|exact jv (aa.stuck _)|exact ih _
    |_=>simp only[rv];exact jv (aa.stuck _)
 |_=>simp only[rv];exact aa.stuck _
theorem vU (k:FloatKind)(b:Nat)(d:IntKind):eI P fR (Conv.floatToInt k b d):=by
 have bi:∀k n,fR (.int k n):=λk n ρ=>by simp[rv]
 unfold Conv.floatToInt;split
 ·dsimp only;split
  ·exact bi _ _
  ·exact λn=>bi _ _
 ·exact λn=>bi _ _
theorem IM (src dst:Λ)(x:Δ)(h:EN P src dst=true):aa P ρ (VV ρ) (convert src dst x) (convert src dst (rv ρ x)):=by
 unfold EN at h;split at h
 ·rename_i k k' hs hd;unfold convert;refine aa.bind (aq src) ?_;rintro d d' ⟨e,h1⟩;subst e;rw[hs]at h1;cases h1;refine aa.bind (aq dst) ?_;rintro d d' ⟨e,h1⟩;subst e;rw[hd]at h1;cases h1;cases x with
  |int k2 n=>simp only[rv];exact aa.pure (by simp[VV,rv])
  |float k2 n=>simp only[rv];exact nC (vU _ _ _)
  |pointer a=>cases a<;>simp only[rv,Γ]<;>exact aa.unsupported _
  |_=>simp only[rv];exact aa.unsupported _
 ·rename_i k hs hd;unfold convert;refine aa.bind (aq src) ?_;rintro d d' ⟨e,h1⟩;subst e;rw[hs]at h1;cases h1;refine aa.bind (aq dst) ?_;rintro d d' ⟨e,h1⟩;subst e;rw[hd]at h1;cases h1;cases x with
  |int k2 n=>simp only[rv];exact aa.pure (by simp[VV,rv])
  |string b=>simp only[rv];exact aa.pure (by simp[VV,rv])
  |pointer a=>cases a<;>simp only[rv,Γ]<;>exact aa.unsupported _
  |_=>simp only[rv];exact aa.unsupported _
 ·rename_i e1 hs hd;unfold convert;refine aa.bind (aq src) ?_;rintro d d' ⟨e,h1⟩;subst e;rw[hs]at h1;cases h1;refine aa.bind (aq dst) ?_;rintro d d' ⟨e,h1⟩;subst e;rw[hd]at h1;cases h1;have he:P.underlying e1=some (.int .u8):=by
   split at h
   ·assumption
   ·cases h
  have tail:∀y y':Δ,aa P ρ (VV ρ) (Θ y) (Θ y')→aa P ρ (VV ρ)
   (underlying e1>>=λd=>match d with|.int .u8=>Θ y|.int .i32=>Conv.runesToString y|_=>stuck "Convert: a slice of what to string?")
   (underlying e1>>=λd=>match d with|.int .u8=>Θ y'|.int .i32=>Conv.runesToString y'|_=>stuck "Convert: a slice of what to string?"):=λy y' hy=>by
   refine aa.bind (aq e1) ?_;rintro d d' ⟨e,h1⟩;subst e;rw[he]at h1;cases h1;exact hy
  have hb:=uG (P:=P) (ρ:=ρ) x;cases x<;>simp only[rv]at hb ⊢<;>first|exact aa.pure (by simp[VV,rv])|exact tail _ _ hb
 ·rename_i t hs hd;have:=sN (ρ:=ρ) t src dst x hs hd;unfold convert;refine aa.bind (aq src) ?_;rintro d d' ⟨e,h1⟩;subst e;rw[hs]at h1;cases h1;refine aa.bind (aq dst) ?_;rintro d d' ⟨e,h1⟩;subst e;rw[hd]at h1;cases h1;cases x<;>simp only[rv]at this ⊢<;>exact this
 ·rename_i t hs hd;have:=sP (ρ:=ρ) t src dst x hs hd;unfold convert;refine aa.bind (aq src) ?_;rintro d d' ⟨e,h1⟩;subst e;rw[hs]at h1;cases h1;refine aa.bind (aq dst) ?_;rintro d d' ⟨e,h1⟩;subst e;rw[hd]at h1;cases h1;cases x<;>simp only[rv]at this ⊢<;>exact this
 ·cases h
variable {ev ev':Φ→Δ}
theorem parts_eq {parts:Array (Nat×Φ)}(h:parts.all (λp=>gN S p.2)=true)(he:∀x,gN S x=true→ev' x=rv ρ (ev x)):(parts.map λ(p:Nat×Φ)=>(p.1,ev' p.2))=(parts.map λ(p:Nat×Φ)=>(p.1,ev p.2)).map λx=>(x.1,rv ρ x.2):=by
 rw[zbU];apply Array.ext
 ·simp
 ·intro i h1 h2;simp only[zbM,Function.comp];rw[he _ (by have:=Array.all_eq_true.1 h i (by simpa using h1);simpa using this)]
theorem Pa {args:Array Φ}(h:args.all (gN S)=true)(he:∀x,gN S x=true→ev' x=rv ρ (ev x)):args.map ev'=(args.map ev).map (rv ρ):=by
 rw[zbU];apply Array.ext
 ·simp
 ·intro i h1 h2;simp only[zbM,Function.comp];exact he _ (Array.all_eq_true.1 h i (by simpa using h1))
theorem Ar {x:Option Φ}(h:x.all (gN S)=true)(he:∀x,gN S x=true→ev' x=rv ρ (ev x)):x.map ev'=(x.map ev).map (rv ρ):=by
 cases x with
 |none=>rfl
 |some x=>simp only[Γ,Option.all_some]at h ⊢;rw[he x h]
theorem Au (t:Λ)(g:Nat)(hg:g<ρ.d∨ρ g=g):aa P ρ (VV ρ) (Instr.loadAt t (.pointer (some ⟨g,0,none⟩))) (Instr.loadAt t (.pointer (some ⟨g,0,none⟩))):=by
 rcases hg.symm with hg|hg
 ·have e:rv ρ (.pointer (some ⟨g,0,none⟩))=.pointer (some ⟨g,0,none⟩):=by simp[rv,ra,hg]
  have:=B9 (P:=P) (ρ:=ρ) t (.pointer (some ⟨g,0,none⟩));rwa[e]at this
 unfold Instr.loadAt;refine aa.bind (R:=λa b=>a=⟨g,0,none⟩∧b=⟨g,0,none⟩) ⟨_,rfl,rfl,rfl⟩ ?_;rintro _ _ ⟨rfl,rfl⟩;unfold loadVar;refine aa.bind (u7 t) ?_;rintro b _ rfl;refine aa.aj (λ_=>?_) (λ_=>Or.inl hg);refine aa.bind (cd t) ?_;rintro n _ rfl;refine aa.bind (R:=λx y=>x=#[]∧y=#[]) ?_ ?_
 ·unfold loadCells;cases n with
  |zero=>exact aa.pure ⟨rfl,rfl⟩
  |succ n=>exact Or.inl (by simpa[Addr.add]using hg)
 ·rintro _ _ ⟨rfl,rfl⟩;exact aa.pure (by simp[VV,rv])
theorem Aw {β:Type}{R:Δ→β→Prop}(x:Δ){s':Sem β}:aa P ρ R (Instr.panic x) s':=by
 unfold Instr.panic;cases x with
 |iface t v=>exact mo _
 |nilIface=>
  refine λy=>?_;have hp:Tm (λ_:Δ=>False) (runtimePanic .panicNil):=by
   unfold runtimePanic;refine Tm.bind (Q:=λ_=>True) (λq _=>?_) (λp=>trivial);dsimp only;refine Tm.bind (Q:=λ_=>True) (λt _=>?_) ?_
   ·unfold newVar newRow;refine Tm.bind (Q:=λ_=>True) ?_ ?_
    ·intro r _;show B8 (.panic _);trivial
    ·exact λr=>trivial
   ·unfold elemOf underlying;refine Tm.bind (Q:=λ_=>True) (λd _=>?_) (Tm.bind (Q:=λ_=>True) (λp' _=>?_) (λp=>trivial))
    ·cases d<;>trivial
    ·split<;>trivial
  cases y with
  |strings env=>
   intro p;show Tm _ (if _ then _ else _);split
   ·trivial
   ·exact hp
  |_=>trivial
 |_=>exact aa.stuck _
theorem nE (hp:Plain P ρ)(hf:qJ S ρ)(hSF:∀g,S g=true→F g=true)(hF:∀f,F f=true→Gw P S f)(o:Oper)(ho:jx P F S o.op=true)
 (he:∀x,gN S x=true→ev' x=rv ρ (ev x))(hg:∀x,gN S x=true→GV P ρ (ev x))(hv:∀x,gN S x=true→FV S (ev x))
 (IP:∀g,ev (.global g)=.pointer (some ⟨g,0,none⟩))(aa2:∀g,ev' (.global g)=.pointer (some ⟨g,0,none⟩))(hfn:∀f,ev (.func f)=.func (.func f) #[] #[])(SN:∀f,ev' (.func f)=.func (.func f) #[] #[]):
 aa P ρ (NN F ρ) (ι ev o) (ι ev' o):=by
 obtain⟨dst,op,type,pos,after,guard⟩:=o;simp only at ho;unfold ι;dsimp only;cases op<;>simp only[jx,zai,zaN]at ho<;>dsimp only
 case move x=>rw[he x ho];exact aa.pure rfl
 case assign x=>rw[he x ho];exact aa.pure rfl
 case pick c a b=>
  rw[he c ho.1.1,he a ho.1.2,he b ho.2];refine aa.bind (vF _) ?_;rintro q _ rfl;exact aa.pure (by cases q<;>rfl)
 case alloc t=>exact qK (OV hp t)
 case box t x=>rw[he x ho];exact qK (Wc t _)
 case build t parts=>rw[parts_eq ho he];exact qK (OX hp t _)
 case buildSlice t n parts=>rw[parts_eq ho he];exact qK (Ak hp t n _)
 case load t a=>
  cases a with
  |global g=>rw[IP,aa2];exact qK (Au t g (by
    simp only[Bool.or_eq_true,zai,zbj]at ho;rcases ho with h|h
    ·exact hf.l g h
    ·exact .inr (hf.g g h.1 h.2)))
  |_=>rw[he _ (by simpa[jx]using ho)];exact qK (B9 t _)
 case store t a x=>rw[he a ho.1,he x ho.2];exact e_u (Iz t _ _)
 case nilCheck x=>
  rw[he x ho];have hx:=hv x ho;generalize ev x=v at hx;cases v with
  |pointer a=>cases a<;>simp only[rv,Γ]<;>first|exact aN _|exact aa.pure (by simp[NN,rv])
  |func fn a b=>
   obtain⟨g,rfl,hS⟩:=hx fn a b rfl;simp only[rv,hf.f g hS];exact aa.pure (by simp[NN,rv,hf.f g hS])
  |nilFunc=>simp only[rv];exact aN _
  |nilIface=>simp only[rv];exact aN _
  |_=>simp only[rv];exact aa.pure (by simp[NN,rv])
 case binOp op t x y t2=>
  rw[he x ho.1,he y ho.2];refine qK (aa.bind (IG op t x y _ _) ?_);rintro _ _ rfl;exact O7 hp op t _ _ (hg x ho.1) (hg y ho.2)
 case unOp op t x=>rw[he x ho];exact qK (O3 op _)
 case convert src dst x=>rw[he x ho.1];exact qK (IM src dst _ ho.2)
 case makeInterface t x=>rw[he x ho];exact qK (uD t _)
 case makeMap t r=>rw[Ar ho he];exact qK (IK t _)
 case makeSlice t l c=>rw[he l ho.1,he c ho.2];exact qK (Cc hp t _ _)
 case slice t x lo hi mx=>rw[he x ho.1.1.1,Ar ho.1.1.2 he,Ar ho.1.2 he,Ar ho.2 he];exact qK (IB hp t _ _ _ _)
 case fieldAddr t x f=>rw[he x ho];exact qK (IE t _ f)
 case field t x f=>rw[he x ho];exact qK (O1 t _ f)
 case indexAddr t x i=>rw[he x ho.1,he i ho.2];exact qK (IC hp t _ _)
 case index t x i=>rw[he x ho.1,he i ho.2];exact qK (O0 hp t _ _)
 case lookup t x i ok=>rw[he x ho.1,he i ho.2];exact qK (K4 hp t _ _ ok (hg i ho.2))
 case mapUpdate t m k x=>rw[he m ho.1.1,he k ho.1.2,he x ho.2];exact e_u (Ch hp t _ _ _ (hg k ho.1.2))
 case typeAssert x t u ok=>
  obtain rfl:=ho.2;rw[he x ho.1];exact qK (Aq hp _ t u)
 case extract x i=>rw[he x ho];exact qK (IA _ i)
 case panic x=>exact qK (Aw _)
 case call c=>
  obtain⟨callee,args,ats⟩:=c;simp only at ho;unfold resolve;dsimp only;rw[Pa ho.1 he];cases callee with
  |builtin b=>
   refine aa.bind (R:=λd d'=>d.target=d'.target∧(∃ts ty cs,d.target=.builtin b ts ty cs)∧d'.args=d.args.map (rv ρ)) (aa.pure ⟨rfl,⟨_,_,_,rfl⟩,rfl⟩) ?_;rintro ⟨d1,d2⟩ ⟨e1,e2⟩ ⟨h1,⟨ts,ty,cs,h2⟩,h3⟩;simp only at h1 h2 h3;subst h3;rw[←h1,h2];have hb:oJ b=true:=ho.2;unfold invoke;dsimp only;unfold builtin;dsimp only;cases b<;>simp only[oJ,zaN]at hb
   ·exact qK (K0 hp _ _ _)
   ·exact qK (SH _ _ _)
   ·exact qK (Wd _ _ _)
   ·exact qK (Wh _ _ _)
   ·exact qK (We _ _ _)
   ·exact qK (qH _ _ _)
   ·exact qK (vQ _ _ _)
  |invoke r n=>exact absurd ho.2 (by simp)
  |value f=>
   cases f with
   |func f=>
    have hff:F f=true:=ho.2;dsimp only;rw[hfn,SN];simp only[θ];refine aa.bind (R:=λd d'=>d.target=.fn (.func f) #[]∧d'.target=.fn (.func f) #[]∧d'.args=d.args.map (rv ρ)) (aa.pure ⟨rfl,rfl,by simp⟩) ?_;rintro ⟨d1,d2⟩ ⟨e1,e2⟩ ⟨h1,h2,h3⟩;simp only at h1 h2 h3;subst h1 h2 h3;unfold invoke;dsimp only;have:=vT (F:=F) (S:=S) hp hf f (d2++#[]) hff (hF f hff);rw[Array.map_append,zcd]at this;exact this
   |tmp t=>
    dsimp only;rw[he (.tmp t) rfl];have hx:=hv (.tmp t) rfl;generalize ev (.tmp t)=v at hx;cases v with
    |func fn a b=>
     obtain⟨g,rfl,hS⟩:=hx fn a b rfl;simp only[rv,hf.f g hS,θ];refine aa.bind (R:=λd d'=>d.target=.fn (.func g) b∧d'.target=.fn (.func g) (b.map (rv ρ))∧d'.args=d.args.map (rv ρ)) (aa.pure ⟨rfl,rfl,by simp⟩) ?_;rintro ⟨d1,d2⟩ ⟨e1,e2⟩ ⟨h1,h2,h3⟩;simp only at h1 h2 h3;subst h1 h2 h3;unfold invoke;dsimp only;rw[←Array.map_append];exact vT (S:=S) hp hf g _ (hSF g hS) (hF g (hSF g hS))
    |nilFunc=>
     simp only[rv,θ];refine aa.bind (R:=λd d'=>d.target=.nil∧d'.target=.nil) (aa.pure ⟨rfl,rfl⟩) ?_;rintro ⟨d1,d2⟩ ⟨e1,e2⟩ ⟨h1,h2⟩;simp only at h1 h2;subst h1 h2;unfold invoke;exact aN _
    |_=>simp only[rv,θ];exact jv (aa.stuck _)
   |const v=>exact absurd ho.2 (by simp)
   |global g=>exact absurd ho.2 (by simp)
theorem ja (hp:Plain P ρ)(fn:Func)(tmps:Array Δ)(hu:rv ρ Ξ=Ξ):aa P ρ (VV ρ) (results fn tmps) (results fn (tmps.map (rv ρ))):=by
 unfold results;have Cj:∀t:Nat,(tmps.map (rv ρ)).getD t Ξ=rv ρ (tmps.getD t Ξ):=λt=>by
  simp only[zby,zaw];cases tmps[t]?<;>simp[hu]
 have one:∀r:ResultVar,aa P ρ (VV ρ)
  (match r with|.tmp t=>pure (tmps.getD t Ξ)|.cell a t=>do loadVar t (←asAddr (tmps.getD a Ξ)):Sem Δ)
  (match r with|.tmp t=>pure ((tmps.map (rv ρ)).getD t Ξ)|.cell a t=>do loadVar t (←asAddr ((tmps.map (rv ρ)).getD a Ξ)):Sem Δ):=λr=>by
  cases r with
  |tmp t=>dsimp only;rw[Cj];exact aa.pure rfl
  |cell a t=>
   dsimp only;rw[Cj];refine aa.bind (Ca hp _) ?_;rintro ad _ rfl;exact yZ t ad
 have all:∀l:List ResultVar,aa P ρ (λx y=>y=x.map (rv ρ))
  (l.mapM λr=>(match r with|.tmp t=>pure (tmps.getD t Ξ)|.cell a t=>do loadVar t (←asAddr (tmps.getD a Ξ)):Sem Δ))
  (l.mapM λr=>(match r with|.tmp t=>pure ((tmps.map (rv ρ)).getD t Ξ)|.cell a t=>do loadVar t (←asAddr ((tmps.map (rv ρ)).getD a Ξ)):Sem Δ)):=λl=>by
  haveI:=lawful
  induction l with
  |nil=>simp only[List.mapM_nil];exact aa.pure rfl
  |cons r l ih=>
   simp only[List.mapM_cons];refine aa.bind (one r) ?_;rintro v _ rfl;refine aa.bind ih ?_;rintro vs _ rfl;exact aa.pure rfl
 refine aa.bind (R:=λx y=>y=x.map (rv ρ)) ?_ ?_
 ·haveI:=lawful
  rw[zcs,zcs];refine aa.bind (f:=λl=>pure l.toArray) (f':=λl=>pure l.toArray) (all fn.results.toList) ?_;rintro l _ rfl;exact aa.pure (by simp)
 ·rintro vs _ rfl;refine aa.pure ?_;by_cases h:vs.size=1
  ·simp[VV,h]
  ·simp[VV,h,rv]
end
structure Live (b0:Nat) (ρ:Rn) (w W:Ω):Prop where
 live:∀(r:Nat) (o:Obj),b0≤r→w.heap[r]?=some o→W.heap[ρ r]?=some (ro ρ o)
section
variable {P:η}{b0:Nat}{ρ σ:Rn}{w W:Ω}
theorem Ck (v:Δ):(rv ρ v).bytes? =v.bytes?:=by cases v<;>simp[rv,Δ.bytes?]
theorem EO (v:Δ)(bs:List UInt8):(rv ρ v).ofBytes bs=v.ofBytes bs:=by cases v<;>simp[rv,Δ.ofBytes]
theorem pK {v u:Δ}{bs:List UInt8}(h:v.ofBytes bs=some u):rv ρ u=u:=by
 cases v<;>simp only[Δ.ofBytes]at h<;>(try cases h)
 ·split at h<;>(try cases h)<;>simp[rv]
 ·split at h<;>(try cases h);simp[rv]
 ·split at h<;>(try cases h);simp[rv]
 ·split at h<;>(try cases h);simp[rv]
theorem qL (c:Array Δ)(e:Λ):∀(f x stop:Nat),seenCells P (c.map (rv ρ)) e f x stop=seenCells P c e f x stop
 |0,x,stop=>rfl
 |f+1,x,stop=>by
  unfold seenCells;split
  ·rfl
  ·dsimp only;split
   ·rfl
   ·split
    ·rfl
    ·rename_i i s _;rw[zaw];cases c[i]? with
     |none=>rfl
     |some v=>
      simp only[Γ,Ck];split
      ·rfl
      ·rfl
      ·rw[qL c e f]
theorem zg (h:Live b0 ρ w W){a:Addr}{v:Δ}(hl:b0≤a.block)(hc:w.cell? a=some v):W.cell? (ra ρ a)=some (rv ρ v):=by
 unfold Ω.cell? at hc ⊢;cases hh:w.heap[a.block]? with
 |none=>rw[hh]at hc;cases hc
 |some o=>
  rw[hh]at hc;have:=h.live _ o hl hh;cases o<;>simp only at hc<;>try cases hc
  simp only[ra,ro]at this ⊢;rw[this];simp only;split at hc
  ·cases hc
  ·rename_i hs;simp only[hs,zaN,if_false,zaw,hc,Γ]
theorem Cm {at_:Addr}{u:Λ}{k:Addr}{atomic:Bool}{c:Array Δ}{e:Λ}{fz:Nat×Nat}(h1:w.heap[at_.block]?=some (.cells c e fz))(h2:W.heap[ρ at_.block]?=some (.cells (c.map (rv ρ)) e fz)):W.seen P (ra ρ at_) u (ra ρ k) atomic=(w.seen P at_ u k atomic).map λx=>(x.1.map (rv ρ),x.2):=by
 unfold Ω.seen;simp only[ra,h1,h2,qL];split
 ·rfl
 ·cases plainCell P P.depth u k.off with
  |none=>rfl
  |some like=>
   simp only;cases like.bytes? with
   |none=>rfl
   |some bs=>
    simp only[Γ];cases byteOfCell P P.depth u k.off with
    |none=>rfl
    |some β=>
     simp only;split
     ·rfl
     ·cases byteOfCell P P.depth e (at_.off%P.cellsOf e)with
      |none=>rfl
      |some b0=>
       simp only[bind,Except.bind];cases seenCells P c e (bs.length+1) (at_.off/P.cellsOf e*P.bytesOf e+b0+β) (at_.off/P.cellsOf e*P.bytesOf e+b0+β+bs.length)with
       |error m=>rfl
       |ok cells=>
        simp only;cases atomic with
        |false=>rfl
        |true=>
         simp only[if_true];split
         ·rename_i s1 bs1;by_cases q1:s1=at_.off/P.cellsOf e*P.bytesOf e+b0+β<;>by_cases q2:bs1.length=bs.length<;>simp[q1,q2,Except.map,pure,Except.pure]<;>rfl
         ·rfl
theorem Gx {at_:Addr}{u:Λ}{k:Addr}{atomic:Bool}{x:Array Δ×Λ×(Nat×Nat)×Nat×Δ×List (Nat×Nat×List UInt8)}(hx:w.seen P at_ u k atomic=.ok x):∃c e fz,w.heap[at_.block]?=some (.cells c e fz):=by
 cases hh:w.heap[at_.block]? with
 |none=>
  exfalso;unfold Ω.seen at hx;simp only[hh]at hx;split at hx
  ·cases hx
  ·cases h1:plainCell P P.depth u k.off with
   |none=>rw[h1]at hx;cases hx
   |some like=>
    rw[h1]at hx;simp only at hx;cases h2:like.bytes? with
    |none=>rw[h2]at hx;cases hx
    |some bs=>
     rw[h2]at hx;simp only[Γ]at hx;cases h3:byteOfCell P P.depth u k.off with
     |none=>rw[h3]at hx;cases hx
     |some β=>rw[h3]at hx;cases hx
 |some o=>
  cases o with
  |cells c e fz=>exact⟨c,e,fz,rfl⟩
  |_=>
   exfalso;unfold Ω.seen at hx;simp only[hh]at hx;split at hx
   ·cases hx
   ·cases h1:plainCell P P.depth u k.off with
    |none=>rw[h1]at hx;cases hx
    |some like=>
     rw[h1]at hx;simp only at hx;cases h2:like.bytes? with
     |none=>rw[h2]at hx;cases hx
     |some bs=>
      rw[h2]at hx;simp only[Γ]at hx;cases h3:byteOfCell P P.depth u k.off with
      |none=>rw[h3]at hx;cases hx
      |some β=>rw[h3]at hx;cases hx
theorem seen_cells {at_:Addr}{u:Λ}{k:Addr}{atomic:Bool}{x:Array Δ×Λ×(Nat×Nat)×Nat×Δ×List (Nat×Nat×List UInt8)}{c:Array Δ}{e:Λ}{fz:Nat×Nat}(h1:w.heap[at_.block]?=some (.cells c e fz))(hx:w.seen P at_ u k atomic=.ok x):x.1=c∧x.2.1=e∧x.2.2.1=fz:=by
 unfold Ω.seen at hx;simp only[h1]at hx;split at hx
 ·cases hx
 ·cases h1:plainCell P P.depth u k.off with
  |none=>rw[h1]at hx;cases hx
  |some like=>
   rw[h1]at hx;simp only at hx;cases h2:like.bytes? with
   |none=>rw[h2]at hx;cases hx
   |some bs=>
    rw[h2]at hx;simp only[Γ]at hx;cases h3:byteOfCell P P.depth u k.off with
    |none=>rw[h3]at hx;cases hx
    |some β=>
     rw[h3]at hx;simp only at hx;split at hx
     ·cases hx
     ·cases h4:byteOfCell P P.depth e (at_.off%P.cellsOf e)with
      |none=>rw[h4]at hx;cases hx
      |some b0=>
       rw[h4]at hx;simp only[bind,Except.bind]at hx;cases h5:seenCells P c e (bs.length+1) (at_.off/P.cellsOf e*P.bytesOf e+b0+β) (at_.off/P.cellsOf e*P.bytesOf e+b0+β+bs.length)with
       |error m=>rw[h5]at hx;cases hx
       |ok cells=>
        rw[h5]at hx;simp only at hx;cases atomic with
        |false=>simp only[zaN,if_false,pure,Except.pure,zbE]at hx;subst hx;exact⟨rfl,rfl,rfl⟩
        |true=>
         simp only[if_true]at hx;split at hx
         ·split at hx
          ·cases hx
          ·simp only[pure,Except.pure,zbE]at hx;subst hx;exact⟨rfl,rfl,rfl⟩
         ·cases hx
theorem qN (h:Live b0 ρ w W){at_:Addr}{u:Λ}{k:Addr}{atomic:Bool}{v:Δ}{ts:List Addr}(hl:b0≤at_.block)(hx:w.viewLoad P at_ u k atomic=.ok (v,ts)):∃yn,W.viewLoad P (ra ρ at_) u (ra ρ k) atomic=.ok (v,yn)∧(∀t∈yn,t.block=ρ at_.block)∧(∀τ:Rn,rv τ v=v)∧at_.block<w.heap.size:=by
 unfold Ω.viewLoad at hx ⊢;simp only[bind,Except.bind]at hx;cases hs:w.seen P at_ u k atomic with
 |error m=>rw[hs]at hx;cases hx
 |ok x=>
  rw[hs]at hx;obtain⟨c,e,fz,hc⟩:=Gx hs;have hW:=h.live _ _ hl hc;simp only[ro]at hW;rw[Cm hc hW,hs];simp only[Except.map,bind,Except.bind]at hx ⊢;obtain⟨x1,x2,x3,first,like,cells⟩:=x;simp only at hx ⊢;cases ho:like.ofBytes (cells.flatMap λ(x:Nat×Nat×List UInt8)=>(x.2.2.drop (first-x.2.1)).take (first+(like.bytes?.map (·.length)).getD 0-max first x.2.1))with
  |none=>rw[ho]at hx;cases hx
  |some v'=>
   rw[ho]at hx;simp only[pure,Except.pure,zbE,zah]at hx;obtain⟨rfl,rfl⟩:=hx;refine⟨_,rfl,λt ht=>?_,λτ=>pK ho,(zag.1 hc).1⟩;simp only[zbN]at ht;obtain⟨y,_,rfl⟩:=ht;rfl
theorem ub {γ:Type}{F:Array Δ→γ→Except String (Array Δ)}(hF:∀c c' x,F c x=.ok c'→F (c.map (rv ρ)) x=.ok (c'.map (rv ρ))):∀(xs:List γ) {c c':Array Δ},xs.foldlM F c=.ok c'→xs.foldlM F (c.map (rv ρ))=.ok (c'.map (rv ρ))
 |[],c,c',h=>by
  simp only[List.foldlM,pure,Except.pure,zbE]at h ⊢;rw[h]
 |x::xs,c,c',h=>by
  simp only[List.foldlM,bind,Except.bind]at h ⊢;cases h1:F c x with
  |error m=>rw[h1]at h;cases h
  |ok c1=>
   rw[h1]at h;rw[hF _ _ _ h1];exact ub hF xs h
theorem pL (h:Live b0 ρ w W){at_:Addr}{u:Λ}{k:Addr}{atomic:Bool}{v:Δ}{w1:Ω}{ts:List Addr}(hl:b0≤at_.block)(hx:w.viewStore P at_ u k v atomic=.ok (w1,ts)):∃c c' e fz yn,w.heap[at_.block]?=some (.cells c e fz)∧w1={ w with heap:=w.heap.setIfInBounds at_.block (.cells c' e fz) }∧(∀τ:Rn,c.map (rv τ)=c→c'.map (rv τ)=c')∧W.viewStore P (ra ρ at_) u (ra ρ k) (rv ρ v) atomic=.ok ({ W with heap:=W.heap.setIfInBounds (ρ at_.block) (.cells (c'.map (rv ρ)) e fz) },yn)∧∀t∈yn,t.block=ρ at_.block:=by
 unfold Ω.viewStore at hx ⊢;by_cases ht:(!tight P P.depth u)=true
 ·rw[zac ht]at hx;cases hx
 rw[zaa ht]at hx ⊢;simp only[bind,Except.bind,Ck]at hx ⊢;cases hs:w.seen P at_ u k atomic with
 |error m=>rw[hs]at hx;cases hx
 |ok x=>
  rw[hs]at hx;obtain⟨c,e,fz,hc⟩:=Gx hs;have hW:=h.live _ _ hl hc;simp only[ro]at hW;obtain⟨e1,e2,e3⟩:=seen_cells hc hs;rw[Cm hc hW,hs];simp only[Except.map]at hx ⊢;obtain⟨x1,x2,x3,first,like,cells⟩:=x;simp only at hx e1 e2 e3 ⊢;subst e1;subst e2;subst e3;cases hb:v.bytes? with
  |none=>rw[hb]at hx;cases hx
  |some bytes=>
   rw[hb]at hx;simp only at hx ⊢;by_cases hsz:some bytes.length≠Γ (λx=>x.length) like.bytes?
   ·rw[zac hsz]at hx;cases hx
   rw[zaa hsz]at hx ⊢;split at hx
   ·cases hx
   ·rename_i c' hf;simp only[pure,Except.pure,zbE,zah]at hx;obtain⟨rfl,rfl⟩:=hx;have hF:∀τ:Rn,_:=λτ=>ub (ρ:=τ) (λc c' x hq=>by
     obtain⟨i,s,bs⟩:=x;simp only at hq ⊢;by_cases h1:(decide (s<first)||decide (s+bs.length>first+bytes.length))=true
     ·rw[zac h1]at hq;cases hq
     rw[zaa h1]at hq ⊢;by_cases h2:(decide (x3.1≤i)&&decide (i<x3.2))=true
     ·rw[zac h2]at hq;cases hq
     rw[zaa h2]at hq ⊢;rw[zaw];cases hc:c[i]? with
     |none=>rw[hc]at hq;cases hq
     |some old=>
      rw[hc]at hq;simp only[Γ,EO]at hq ⊢;cases ho:old.ofBytes ((bytes.drop (s-first)).take bs.length)with
      |none=>rw[ho]at hq;cases hq
      |some new=>
       rw[ho]at hq;simp only[pure,Except.pure,zbE]at hq ⊢;subst hq;rw[zce,pK ho]) cells hf
    refine⟨x1,c',x2,x3,cells.map λy=>{ block:=ρ at_.block,off:=y.1 },hc,rfl,λτ Wj=>?_,?_,λt ht=>?_⟩
    ·have:=hF τ;rw[Wj,hf]at this;exact(Except.ok.inj this).symm
    ·rw[hF ρ];rfl
    ·simp only[zbN]at ht;obtain⟨y,_,rfl⟩:=ht;rfl
end
end Go.Ren
