import GoSem.Step
import Derived.Test.YtlhimdjkkiflhaaGreatDoorKnown02
set_option maxHeartbeats 8000000
set_option maxRecDepth 100000
namespace Go.Ren
open Go
theorem bj {f:Value→Value}{cs:Array Value}:cs.map f=cs↔∀x∈cs,f x=x:=by
 constructor
 ·intro h x hx;obtain⟨i,hi,rfl⟩:=zbn.1 hx;have:(cs.map f)[i]'(by simpa using hi)=cs[i]:=by simp only[h]
  simpa using this
 ·intro h;apply Array.ext
  ·simp
  ·intro i h1 h2;simp only[zbd];exact h _ (Array.getElem_mem h2)
theorem dF {f g:Value→Value}{cs:Array Value}(h:∀x∈cs,f x=g x):cs.map f=cs.map g:=by
 apply Array.ext
 ·simp
 ·intro i h1 h2;simp only[zbd];exact h _ (Array.getElem_mem (by simpa using h1))
section
variable {σ WA:Rn}
theorem eu (hb:∀r,σ r=r→WA r=r)(hf:∀x,σ.f x=x→WA.f x=x):∀v:Value,rv σ v=v→rv WA v=v
 |.pointer none,_=>by simp[rv]
 |.pointer (some a),h=>by
  simp only[rv,Option.map,Value.pointer.injEq,zam,ra]at h ⊢;obtain⟨b,o,s⟩:=a;simp only[Addr.mk.injEq,and_true]at h ⊢;exact hb _ h
 |.slice none _ _,_=>by simp[rv]
 |.slice (some a) l c,h=>by
  simp only[rv,Option.map,Value.slice.injEq,zam,ra,and_true]at h ⊢;obtain⟨b,o,s⟩:=a;simp only[Addr.mk.injEq,and_true]at h ⊢;exact hb _ h
 |.map none,_=>by simp[rv]
 |.map (some r),h=>by
  simp only[rv,Option.map,Value.map.injEq,zam]at h ⊢;exact hb _ h
 |.chan none,_=>by simp[rv]
 |.chan (some r),h=>by
  simp only[rv,Option.map,Value.chan.injEq,zam]at h ⊢;exact hb _ h
 |.func fn first captured,h=>by
  simp only[rv,Value.func.injEq]at h ⊢;refine⟨hf _ h.1,bj.2 λx hx=>?_,bj.2 λx hx=>?_⟩
  ·have:=zaB hx;exact eu hb hf x (bj.1 h.2.1 x hx)
  ·have:=zaB hx;exact eu hb hf x (bj.1 h.2.2 x hx)
 |.iface t v,h=>by
  simp only[rv,Value.iface.injEq,true_and]at h ⊢;exact eu hb hf v h
 |.agg cs,h=>by
  simp only[rv,Value.agg.injEq]at h ⊢;refine bj.2 λx hx=>?_;have:=zaB hx;exact eu hb hf x (bj.1 h x hx)
 |.tuple cs,h=>by
  simp only[rv,Value.tuple.injEq]at h ⊢;refine bj.2 λx hx=>?_;have:=zaB hx;exact eu hb hf x (bj.1 h x hx)
 |.bool _,_=>by simp[rv]
 |.int _ _,_=>by simp[rv]
 |.float _ _,_=>by simp[rv]
 |.complex _ _ _,_=>by simp[rv]
 |.string _,_=>by simp[rv]
 |.nilFunc,_=>by simp[rv]
 |.nilIface,_=>by simp[rv]
termination_by v=>SizeOf.sizeOf v
theorem agree {ρ ρ':Rn}(hb:∀r,σ r=r→ρ r=ρ' r)(hf:∀x,σ.f x=x→ρ.f x=ρ'.f x):∀v:Value,rv σ v=v→rv ρ v=rv ρ' v
 |.pointer none,_=>by simp[rv]
 |.pointer (some a),h=>by
  simp only[rv,Option.map,Value.pointer.injEq,zam,ra]at h ⊢;obtain⟨b,o,s⟩:=a;simp only[Addr.mk.injEq,and_true]at h ⊢;exact hb _ h
 |.slice none _ _,_=>by simp[rv]
 |.slice (some a) l c,h=>by
  simp only[rv,Option.map,Value.slice.injEq,zam,ra,and_true]at h ⊢;obtain⟨b,o,s⟩:=a;simp only[Addr.mk.injEq,and_true]at h ⊢;exact hb _ h
 |.map none,_=>by simp[rv]
 |.map (some r),h=>by
  simp only[rv,Option.map,Value.map.injEq,zam]at h ⊢;exact hb _ h
 |.chan none,_=>by simp[rv]
 |.chan (some r),h=>by
  simp only[rv,Option.map,Value.chan.injEq,zam]at h ⊢;exact hb _ h
 |.func fn first captured,h=>by
  simp only[rv,Value.func.injEq]at h ⊢;refine⟨hf _ h.1,dF λx hx=>?_,dF λx hx=>?_⟩
  ·have:=zaB hx;exact agree hb hf x (bj.1 h.2.1 x hx)
  ·have:=zaB hx;exact agree hb hf x (bj.1 h.2.2 x hx)
 |.iface t v,h=>by
  simp only[rv,Value.iface.injEq,true_and]at h ⊢;exact agree hb hf v h
 |.agg cs,h=>by
  simp only[rv,Value.agg.injEq]at h ⊢;refine dF λx hx=>?_;have:=zaB hx;exact agree hb hf x (bj.1 h x hx)
 |.tuple cs,h=>by
  simp only[rv,Value.tuple.injEq]at h ⊢;refine dF λx hx=>?_;have:=zaB hx;exact agree hb hf x (bj.1 h x hx)
 |.bool _,_=>by simp[rv]
 |.int _ _,_=>by simp[rv]
 |.float _ _,_=>by simp[rv]
 |.complex _ _ _,_=>by simp[rv]
 |.string _,_=>by simp[rv]
 |.nilFunc,_=>by simp[rv]
 |.nilIface,_=>by simp[rv]
termination_by v=>SizeOf.sizeOf v
theorem gF {a:Addr}:ra σ a=a↔σ a.block=a.block:=by
 obtain⟨b,o,s⟩:=a;simp[ra]
theorem oF (hb:∀r,σ r=r→WA r=r)(hf:∀x,σ.f x=x→WA.f x=x){o:Obj}(h:ro σ o=o):ro WA o=o:=by
 have hv:=eu hb hf;cases o with
 |cells c t f=>simp only[ro,Obj.cells.injEq,and_true]at h ⊢;exact bj.2 λx hx=>hv x (bj.1 h x hx)
 |pending c t=>simp only[ro,Obj.pending.injEq,and_true]at h ⊢;exact bj.2 λx hx=>hv x (bj.1 h x hx)
 |chan a b c d e f=>simp only[ro,Obj.chan.injEq,and_true,true_and]at h ⊢;exact bj.2 λx hx=>hv x (bj.1 h x hx)
 |view a t=>simp only[ro,Obj.view.injEq,and_true]at h ⊢;exact gF.2 (hb _ (gF.1 h))
 |number a t=>simp only[ro,Obj.number.injEq,and_true]at h ⊢;exact gF.2 (hb _ (gF.1 h))
 |map es c=>
  simp only[ro,Obj.map.injEq,and_true]at h ⊢;apply Array.ext
  ·simp
  ·intro i h1 h2;have e:(es.map λe=>{ e with key:=rv σ e.key,val:=rv σ e.val }:Array MapEntry)[i]'(by simpa using h2)=es[i]:=by simp only[h]
   simp only[zbd]at e ⊢;generalize es[i]=x at e ⊢;obtain⟨k,v,b⟩:=x;simp only[MapEntry.mk.injEq,and_true]at e ⊢;exact⟨hv _ e.1,hv _ e.2⟩
 |_=>rfl
theorem sB {ρ ρ':Rn}(hb:∀r,σ r=r→ρ r=ρ' r)(hf:∀x,σ.f x=x→ρ.f x=ρ'.f x){o:Obj}(h:ro σ o=o):ro ρ o=ro ρ' o:=by
 have hv:=agree hb hf;cases o with
 |cells c t f=>simp only[ro,Obj.cells.injEq,and_true]at h ⊢;exact dF λx hx=>hv x (bj.1 h x hx)
 |pending c t=>simp only[ro,Obj.pending.injEq,and_true]at h ⊢;exact dF λx hx=>hv x (bj.1 h x hx)
 |chan a b c d e f=>simp only[ro,Obj.chan.injEq,and_true,true_and]at h ⊢;exact dF λx hx=>hv x (bj.1 h x hx)
 |view a t=>simp only[ro,Obj.view.injEq,and_true]at h ⊢;obtain⟨b,o,s⟩:=a;simp only[ra,Addr.mk.injEq,and_true]at h ⊢;exact hb _ h
 |number a t=>simp only[ro,Obj.number.injEq,and_true]at h ⊢;obtain⟨b,o,s⟩:=a;simp only[ra,Addr.mk.injEq,and_true]at h ⊢;exact hb _ h
 |map es c=>
  simp only[ro,Obj.map.injEq,and_true]at h ⊢;apply Array.ext
  ·simp
  ·intro i h1 h2;have hi:i<es.size:=by simpa using h1
   have e:(es.map λe=>{ e with key:=rv σ e.key,val:=rv σ e.val }:Array MapEntry)[i]'(by simpa using hi)=es[i]:=by simp only[h]
   simp only[zbd]at e ⊢;generalize es[i]=x at e ⊢;obtain⟨k,v,b⟩:=x;simp only[MapEntry.mk.injEq,and_true]at e ⊢;exact⟨hv _ e.1,hv _ e.2⟩
 |_=>rfl
end
structure Sd where
 f:FuncId→Bool
 d:Nat
 g:Nat
instance:CoeFun Sd (λ_=>FuncId→Bool):=⟨Sd.f⟩
structure qE (S:Sd) (ρ:Rn):Prop where
 f:∀g,S g=true→ρ.f (.func g)=.func g
 g:∀g,S.d≤g→g<S.g→ρ g=g
 l:∀g,g<S.d→g<ρ.d∨ρ g=g
def sg (S:Sd)(b0 n:Nat):Rn where
 d:=b0
 b:=λr=>if b0≤r∧r<n then r else r+n+1
 f:=λ
  |.func g=>if S g then .func g else .method ""
  |.method _=> .yield 0
  |.methodOf _ _=> .yield 0
  |.via _ _ _ _=> .yield 0
  |.yield _=> .method ""
section
variable {S:Sd}{b0 n m:Nat}
theorem bH {r:Nat}:sg S b0 n r=r↔b0≤r∧r<n:=by
 show(if b0≤r∧r<n then r else r+n+1)=r↔_;split
 ·rename_i h;simp[h]
 ·rename_i h;constructor
  ·intro e;omega
  ·intro e;exact absurd e h
theorem gY {x:Fn}:(sg S b0 n).f x=x↔∃g,x=.func g∧S g=true:=by
 cases x with
 |func g=>
  show(if S g then Fn.func g else .method "")=.func g↔_;split
  ·rename_i h;simp[h]
  ·rename_i h;simp[h]
 |_=>simp[sg]
theorem uT {S:Sd}(h:S.g≤n):qE S (sg S S.d n):=⟨λg hg=>gY.2 ⟨g,rfl,hg⟩,λ_ h1 h2=>bH.2 ⟨h1,by omega⟩,λ_ h=> .inl h⟩
theorem Ug (a b:Nat)(h:sg S b0 n a=sg S b0 n b):a=b:=by
 simp only[sg]at h;split at h<;>split at h<;>omega
theorem dv (h:n≤m):(∀r,sg S b0 n r=r→sg S b0 m r=r)∧∀x,(sg S b0 n).f x=x→(sg S b0 m).f x=x:=
 ⟨λr hr=>bH.2 (by have:=bH.1 hr;omega),λx hx=>gY.2 (gY.1 hx)⟩
end
def gZ:Value→Bool
 |.bool _|.int _ _|.float _ _|.complex _ _ _|.string _|.nilFunc |.nilIface=>true
 |.pointer none|.slice none _ _|.map none|.chan none=>true
 |_=>false
theorem gK {v:Value}(h:gZ v=true):∀ρ:Rn,rv ρ v=v:=by
 intro ρ;cases v with
 |pointer a=>cases a<;>simp_all [gZ,rv]
 |slice a=>cases a<;>simp_all [gZ,rv]
 |map a=>cases a<;>simp_all [gZ,rv]
 |chan a=>cases a<;>simp_all [gZ,rv]
 |_=>simp_all [gZ,rv]
def fV (S:Sd):Operand→Bool
 |.tmp _=>true
 |.const v=>gZ v
 |.global g=>decide (S.d≤g)&&decide (g<S.g)
 |.func f=>S f
def oG:Builtin→Bool
 |.append |.copy |.len |.max |.min |.unsafeSliceData |.unsafeString=>true
 |_=>false
def E8 (P:Program)(src dst:TypeId):Bool:=
 match P.underlying src,P.underlying dst with
 |some (.int _),some (.int _)=>true
 |some (.int _),some .string=>true
 |some (.slice e),some .string=>match P.underlying e with|some (.int .u8)=>true|_=>false
 |some (.pointer _),some .unsafePointer=>true
 |some .unsafePointer,some (.pointer _)=>true
 |_,_=>false
def fw (P:Program)(F:FuncId→Bool)(S:Sd):Op→Bool
 |.move x|.assign x|.box _ x|.nilCheck x|.unOp _ _ x|.makeInterface _ x|.field _ x _|.fieldAddr _ x _|.extract x _=>fV S x
 |.pick c a b=>fV S c&&fV S a&&fV S b
 |.alloc _=>true
 |.build _ parts=>parts.all λp=>fV S p.2
 |.buildSlice _ _ parts=>parts.all λp=>fV S p.2
 |.load _ (.global g)=>decide (g<S.d)||(decide (S.d≤g)&&decide (g<S.g))
 |.load _ a=>fV S a
 |.store _ a x=>fV S a&&fV S x
 |.binOp _ _ x y _=>fV S x&&fV S y
 |.convert src dst x=>fV S x&&E8 P src dst
 |.makeMap _ r=>r.all (fV S)
 |.makeSlice _ l c=>fV S l&&fV S c
 |.slice _ x lo hi mx=>fV S x&&lo.all (fV S)&&hi.all (fV S)&&mx.all (fV S)
 |.indexAddr _ x i|.index _ x i=>fV S x&&fV S i
 |.lookup _ x i _=>fV S x&&fV S i
 |.mapUpdate _ m k x=>fV S m&&fV S k&&fV S x
 |.typeAssert x _ _ ok=>fV S x&&ok
 |.panic x=>fV S x
 |.call c=>(c.args.all (fV S))&&match c.callee with
  |.value (.func f)=>F f
  |.value (.tmp _)=>true
  |.builtin b=>oG b
  |_=>false
 |_=>false
def FV (S:Sd)(v:Value):Prop:=∀fn a b,v=.func fn a b→∃g,fn=.func g∧S g=true
def Hc (P:Program)(S:Sd)(f:FuncId):Prop:=∃fn,P.funcs[f]?=some fn∧(fn.name== "runtime.NumGoroutine")=false∧(fn.body.isNone=false∨(fn.body.isNone=true∧Extern.findNext fn=none∧∃e,Extern.find fn=some e∧∀(ρ:Rn) (args:Array Value),Plain P ρ→qE S ρ→ae P ρ (VV ρ) (e args) (e (args.map (rv ρ)))))
def NN (F:FuncId→Bool)(ρ:Rn):Next→Next→Prop
 |.value v,n=>n=.value (rv ρ v)
 |.skip,n=>n=.skip
 |.enter f args,n=>F f=true∧n=.enter f (args.map (rv ρ))
 |_,_=>False
section
variable {P:Program}{ρ:Rn}{F:FuncId→Bool}{S:Sd}{α β:Type}
theorem qF {s s':Sem Value}(h:ae P ρ (VV ρ) s s'):ae P ρ (NN F ρ) (do pure (.value (←s))) (do pure (.value (←s'))):=by
 refine ae.bind h ?_;rintro v _ rfl;exact ae.pure rfl
theorem e_u {s s':Sem Unit}(h:ae P ρ Eq s s'):ae P ρ (NN F ρ) (do s;pure .skip) (do s';pure .skip):=by
 refine ae.bind h ?_;rintro v _ rfl;exact ae.pure rfl
theorem vM (hp:Plain P ρ)(hx:qE S ρ)(f:FuncId)(args:Array Value)(hF:F f=true)(hf:Hc P S f):ae P ρ (NN F ρ) (callFunc f args) (callFunc f (args.map (rv ρ))):=by
 obtain⟨fn,h1,h2,h3⟩:=hf;unfold callFunc;refine ae.bind cn ?_;rintro _ _ ⟨rfl,rfl⟩;rw[h1];simp only[h2,zau,if_false];rcases h3 with h3|⟨h3,h4,e,h5,h6⟩
 ·simp only[h3,zau,if_false];exact ae.pure ⟨hF,rfl⟩
 ·simp only[h3,if_true,h4,h5];refine ae.bind (z7 (.extern f) trivial) ?_;rintro _ _ rfl;exact qF (h6 ρ args hp hx)
theorem B2 (a:Addr):ae P ρ (AA ρ) (Conv.seenAt a) (Conv.seenAt (ra ρ a)):=by
 unfold Conv.seenAt;refine ae.bind (qz a.block) ?_;rintro x _ rfl;cases x with
 |none=>exact ae.pure rfl
 |some z=>
  obtain⟨s,u⟩:=z;simp only[Option.map];have e1:(ra ρ a).off=a.off:=rfl;have e2:(ra ρ a).spot=a.spot:=rfl;have e3:(ra ρ s).spot=s.spot:=rfl;have e4:(ra ρ s).off=s.off:=rfl;rw[e1,e2,e3,e4];refine ae.ar (λ_=>ae.pure rfl) (λ_=>?_);refine ae.ar (λ_=>jb (ae.unsupported _)) (λ_=>?_);refine ae.bind cn ?_;rintro _ _ ⟨rfl,rfl⟩;split
  ·refine ae.bind (gp s.block) ?_;rintro sh _ rfl;cases sh with
   |none=>exact ae.unsupported _
   |some y=>
    obtain⟨e,m⟩:=y;dsimp only;refine ae.ar (λ_=>jb (ae.unsupported _)) (λ_=>?_);split
    ·exact ae.pure rfl
    ·exact ae.unsupported _
  ·exact ae.unsupported _
theorem Jk (r:Nat):ae P ρ Eq (cellsIn r) (cellsIn (ρ r)):=by
 unfold cellsIn;refine ae.bind (gp r) ?_;rintro sh _ rfl;cases sh with
 |some x=>exact ae.pure rfl
 |none=>
  refine ae.bind (ly r) ?_;rintro o _ ⟨rfl,_⟩;cases o<;>simp only[ro]<;>first|exact ae.pure rfl|(simp only[Array.size_map];exact ae.pure rfl)
theorem sD (t:TypeId)(src dst:TypeId)(x:Value)(hs:P.underlying src=some (.pointer t))(hd:P.underlying dst=some .unsafePointer):ae P ρ (VV ρ) (Conv.unsafePointer src dst x) (Conv.unsafePointer src dst (rv ρ x)):=by
 unfold Conv.unsafePointer;refine ae.bind (aw src) ?_;rintro d d' ⟨e,h⟩;subst e;rw[hs]at h;cases h;refine ae.bind (aw dst) ?_;rintro d d' ⟨e,h⟩;subst e;rw[hd]at h;cases h;cases x with
 |pointer a=>
  cases a with
  |none=>simp only[rv,Option.map];exact ae.pure (by simp[VV,rv])
  |some a=>
   simp only[rv,Option.map];refine ae.bind (B2 a) ?_;rintro s _ rfl;refine ae.bind (Jk s.block) ?_;rintro q _ rfl;have e1:(ra ρ s).off=s.off:=rfl;have e2:(ra ρ s).spot=s.spot:=rfl;rw[e1,e2];refine ae.bind (bU t) ?_;rintro n _ rfl;refine ae.ar (λ_=>?_) (λ_=>ae.pure (by simp[VV,rv]));refine ae.bind (lu (.view s t)) ?_;rintro r _ rfl;exact ae.pure (by simp[VV,rv,ra])
 |_=>simp only[rv];exact ae.stuck _
theorem sG (t:TypeId)(src dst:TypeId)(x:Value)(hs:P.underlying src=some .unsafePointer)(hd:P.underlying dst=some (.pointer t)):ae P ρ (VV ρ) (Conv.unsafePointer src dst x) (Conv.unsafePointer src dst (rv ρ x)):=by
 unfold Conv.unsafePointer;refine ae.bind (aw src) ?_;rintro d d' ⟨e,h⟩;subst e;rw[hs]at h;cases h;refine ae.bind (aw dst) ?_;rintro d d' ⟨e,h⟩;subst e;rw[hd]at h;cases h;cases x with
 |pointer a=>
  cases a with
  |none=>simp only[rv,Option.map];exact ae.pure (by simp[VV,rv])
  |some a=>
   simp only[rv,Option.map];refine ae.bind (B2 a) ?_;rintro s _ rfl;refine ae.bind (bU t) ?_;rintro n _ rfl;refine ae.bind (pn s t 1) ?_;rintro b _ rfl;refine ae.ar (λ_=>ae.pure (by simp[VV,rv])) (λ_=>?_);refine ae.bind (gp s.block) ?_;rintro sh _ rfl;cases sh with
   |none=>exact ae.unsupported _
   |some y=>
    obtain⟨e,m⟩:=y;dsimp only;refine ae.bind cn ?_;rintro _ _ ⟨rfl,rfl⟩;refine ae.bind cn ?_;rintro _ _ ⟨rfl,rfl⟩;refine ae.ar (λ_=>jb (ae.unsupported _)) (λ_=>?_);refine ae.bind (lu (.view s t)) ?_;rintro r _ rfl;exact ae.pure (by simp[VV,rv,ra])
 |_=>simp only[rv];exact ae.stuck _
theorem ux (x:Value):ae P ρ (VV ρ) (Conv.bytesToString x) (Conv.bytesToString (rv ρ x)):=by
 unfold Conv.bytesToString;cases x with
 |slice a n c=>
  cases a with
  |none=>simp only[rv,Option.map];exact ae.pure (by simp[VV,rv])
  |some a=>
   simp only[rv,Option.map];refine ae.bind (np a n) ?_;rintro cs _ rfl;refine ae.bind (R:=Eq) ?_ (by rintro s _ rfl;exact ae.pure (by simp[VV,rv]))
   haveI:=lawful
   rw[←zaW,←zaW,zaD];generalize ByteArray.empty=s0
   induction cs.toList generalizing s0 with
   |nil=>exact ae.pure rfl
   |cons v l ih=>
    simp only[zan,List.forIn_cons];cases v with
    |int k m=>
     simp only[rv];cases k<;>first|exact jb (ae.stuck _)|exact ih _
    |_=>simp only[rv];exact jb (ae.stuck _)
 |_=>simp only[rv];exact ae.stuck _
theorem vN (k:FloatKind)(b:Nat)(d:IntKind):eo P fN (Conv.floatToInt k b d):=by
 have bi:∀k n,fN (.int k n):=λk n ρ=>by simp[rv]
 unfold Conv.floatToInt;split
 ·dsimp only;split
  ·exact bi _ _
  ·exact λn=>bi _ _
 ·exact λn=>bi _ _
theorem Jl (src dst:TypeId)(x:Value)(h:E8 P src dst=true):ae P ρ (VV ρ) (convert src dst x) (convert src dst (rv ρ x)):=by
 unfold E8 at h;split at h
 ·rename_i k k' hs hd;unfold convert;refine ae.bind (aw src) ?_;rintro d d' ⟨e,h1⟩;subst e;rw[hs]at h1;cases h1;refine ae.bind (aw dst) ?_;rintro d d' ⟨e,h1⟩;subst e;rw[hd]at h1;cases h1;cases x with
  |int k2 n=>simp only[rv];exact ae.pure (by simp[VV,rv])
  |float k2 n=>simp only[rv];exact nz (vN _ _ _)
  |pointer a=>cases a<;>simp only[rv,Option.map]<;>exact ae.unsupported _
  |_=>simp only[rv];exact ae.unsupported _
 ·rename_i k hs hd;unfold convert;refine ae.bind (aw src) ?_;rintro d d' ⟨e,h1⟩;subst e;rw[hs]at h1;cases h1;refine ae.bind (aw dst) ?_;rintro d d' ⟨e,h1⟩;subst e;rw[hd]at h1;cases h1;cases x with
  |int k2 n=>simp only[rv];exact ae.pure (by simp[VV,rv])
  |string b=>simp only[rv];exact ae.pure (by simp[VV,rv])
  |pointer a=>cases a<;>simp only[rv,Option.map]<;>exact ae.unsupported _
  |_=>simp only[rv];exact ae.unsupported _
 ·rename_i e1 hs hd;unfold convert;refine ae.bind (aw src) ?_;rintro d d' ⟨e,h1⟩;subst e;rw[hs]at h1;cases h1;refine ae.bind (aw dst) ?_;rintro d d' ⟨e,h1⟩;subst e;rw[hd]at h1;cases h1;have he:P.underlying e1=some (.int .u8):=by
   split at h
   ·assumption
   ·cases h
  have tail:∀y y':Value,ae P ρ (VV ρ) (Conv.bytesToString y) (Conv.bytesToString y')→ae P ρ (VV ρ)
   (underlying e1>>=λd=>match d with|.int .u8=>Conv.bytesToString y|.int .i32=>Conv.runesToString y|_=>stuck "Convert: a slice of what to string?")
   (underlying e1>>=λd=>match d with|.int .u8=>Conv.bytesToString y'|.int .i32=>Conv.runesToString y'|_=>stuck "Convert: a slice of what to string?"):=λy y' hy=>by
   refine ae.bind (aw e1) ?_;rintro d d' ⟨e,h1⟩;subst e;rw[he]at h1;cases h1;exact hy
  have hb:=ux (P:=P) (ρ:=ρ) x;cases x<;>simp only[rv]at hb ⊢<;>first|exact ae.pure (by simp[VV,rv])|exact tail _ _ hb
 ·rename_i t hs hd;have:=sD (ρ:=ρ) t src dst x hs hd;unfold convert;refine ae.bind (aw src) ?_;rintro d d' ⟨e,h1⟩;subst e;rw[hs]at h1;cases h1;refine ae.bind (aw dst) ?_;rintro d d' ⟨e,h1⟩;subst e;rw[hd]at h1;cases h1;cases x<;>simp only[rv]at this ⊢<;>exact this
 ·rename_i t hs hd;have:=sG (ρ:=ρ) t src dst x hs hd;unfold convert;refine ae.bind (aw src) ?_;rintro d d' ⟨e,h1⟩;subst e;rw[hs]at h1;cases h1;refine ae.bind (aw dst) ?_;rintro d d' ⟨e,h1⟩;subst e;rw[hd]at h1;cases h1;cases x<;>simp only[rv]at this ⊢<;>exact this
 ·cases h
variable {ev ev':Operand→Value}
theorem parts_eq {parts:Array (Nat×Operand)}(h:parts.all (λp=>fV S p.2)=true)(he:∀x,fV S x=true→ev' x=rv ρ (ev x)):(parts.map λ(p:Nat×Operand)=>(p.1,ev' p.2))=(parts.map λ(p:Nat×Operand)=>(p.1,ev p.2)).map λx=>(x.1,rv ρ x.2):=by
 rw[zbm];apply Array.ext
 ·simp
 ·intro i h1 h2;simp only[zbd,Function.comp];rw[he _ (by have:=Array.all_eq_true.1 h i (by simpa using h1);simpa using this)]
theorem Qx {args:Array Operand}(h:args.all (fV S)=true)(he:∀x,fV S x=true→ev' x=rv ρ (ev x)):args.map ev'=(args.map ev).map (rv ρ):=by
 rw[zbm];apply Array.ext
 ·simp
 ·intro i h1 h2;simp only[zbd,Function.comp];exact he _ (Array.all_eq_true.1 h i (by simpa using h1))
theorem Af {x:Option Operand}(h:x.all (fV S)=true)(he:∀x,fV S x=true→ev' x=rv ρ (ev x)):x.map ev'=(x.map ev).map (rv ρ):=by
 cases x with
 |none=>rfl
 |some x=>simp only[Option.map,Option.all_some]at h ⊢;rw[he x h]
theorem Ag (t:TypeId)(g:Nat)(hg:g<ρ.d∨ρ g=g):ae P ρ (VV ρ) (Instr.loadAt t (.pointer (some ⟨g,0,none⟩))) (Instr.loadAt t (.pointer (some ⟨g,0,none⟩))):=by
 rcases hg.symm with hg|hg
 ·have e:rv ρ (.pointer (some ⟨g,0,none⟩))=.pointer (some ⟨g,0,none⟩):=by simp[rv,ra,hg]
  have:=BS (P:=P) (ρ:=ρ) t (.pointer (some ⟨g,0,none⟩));rwa[e]at this
 unfold Instr.loadAt;refine ae.bind (R:=λa b=>a=⟨g,0,none⟩∧b=⟨g,0,none⟩) ⟨_,rfl,rfl,rfl⟩ ?_;rintro _ _ ⟨rfl,rfl⟩;unfold loadVar;refine ae.bind (uR t) ?_;rintro b _ rfl;refine ae.ar (λ_=>?_) (λ_=>Or.inl hg);refine ae.bind (bU t) ?_;rintro n _ rfl;refine ae.bind (R:=λx y=>x=#[]∧y=#[]) ?_ ?_
 ·unfold loadCells;cases n with
  |zero=>exact ae.pure ⟨rfl,rfl⟩
  |succ n=>exact Or.inl (by simpa[Addr.add]using hg)
 ·rintro _ _ ⟨rfl,rfl⟩;exact ae.pure (by simp[VV,rv])
theorem Ah {β:Type}{R:Value→β→Prop}(x:Value){s':Sem β}:ae P ρ R (Instr.panic x) s':=by
 unfold Instr.panic;cases x with
 |iface t v=>exact mb _
 |nilIface=>
  refine λy=>?_;have hp:Tm (λ_:Value=>False) (runtimePanic .panicNil):=by
   unfold runtimePanic;refine Tm.bind (Q:=λ_=>True) (λq _=>?_) (λp=>trivial);dsimp only;refine Tm.bind (Q:=λ_=>True) (λt _=>?_) ?_
   ·unfold newVar newRow;refine Tm.bind (Q:=λ_=>True) ?_ ?_
    ·intro r _;show BR (.panic _);trivial
    ·exact λr=>trivial
   ·unfold elemOf underlying;refine Tm.bind (Q:=λ_=>True) (λd _=>?_) (Tm.bind (Q:=λ_=>True) (λp' _=>?_) (λp=>trivial))
    ·cases d<;>trivial
    ·split<;>trivial
  cases y with
  |strings env=>
   intro p;show Tm _ (if _ then _ else _);split
   ·trivial
   ·exact hp
  |_=>trivial
 |_=>exact ae.stuck _
theorem nB (hp:Plain P ρ)(hf:qE S ρ)(hSF:∀g,S g=true→F g=true)(hF:∀f,F f=true→Hc P S f)(o:Oper)(ho:fw P F S o.op=true)
 (he:∀x,fV S x=true→ev' x=rv ρ (ev x))(hg:∀x,fV S x=true→GV P ρ (ev x))(hv:∀x,fV S x=true→FV S (ev x))
 (E9:∀g,ev (.global g)=.pointer (some ⟨g,0,none⟩))(ack:∀g,ev' (.global g)=.pointer (some ⟨g,0,none⟩))(hfn:∀f,ev (.func f)=.func (.func f) #[] #[])(Uh:∀f,ev' (.func f)=.func (.func f) #[] #[]):
 ae P ρ (NN F ρ) (execOp ev o) (execOp ev' o):=by
 obtain⟨dst,op,type,pos,after,guard⟩:=o;simp only at ho;unfold execOp;dsimp only;cases op<;>simp only[fw,zae,zau]at ho<;>dsimp only
 case move x=>rw[he x ho];exact ae.pure rfl
 case assign x=>rw[he x ho];exact ae.pure rfl
 case pick c a b=>
  rw[he c ho.1.1,he a ho.1.2,he b ho.2];refine ae.bind (vv _) ?_;rintro q _ rfl;exact ae.pure (by cases q<;>rfl)
 case alloc t=>exact qF (Qh hp t)
 case box t x=>rw[he x ho];exact qF (XM t _)
 case build t parts=>rw[parts_eq ho he];exact qF (Qj hp t _)
 case buildSlice t n parts=>rw[parts_eq ho he];exact qF (z8 hp t n _)
 case load t a=>
  cases a with
  |global g=>rw[E9,ack];exact qF (Ag t g (by
    simp only[Bool.or_eq_true,zae,decide_eq_true_eq]at ho;rcases ho with h|h
    ·exact hf.l g h
    ·exact .inr (hf.g g h.1 h.2)))
  |_=>rw[he _ (by simpa[fw]using ho)];exact qF (BS t _)
 case store t a x=>rw[he a ho.1,he x ho.2];exact e_u (Ja t _ _)
 case nilCheck x=>
  rw[he x ho];have hx:=hv x ho;generalize ev x=v at hx;cases v with
  |pointer a=>cases a<;>simp only[rv,Option.map]<;>first|exact aM _|exact ae.pure (by simp[NN,rv])
  |func fn a b=>
   obtain⟨g,rfl,hS⟩:=hx fn a b rfl;simp only[rv,hf.f g hS];exact ae.pure (by simp[NN,rv,hf.f g hS])
  |nilFunc=>simp only[rv];exact aM _
  |nilIface=>simp only[rv];exact aM _
  |_=>simp only[rv];exact ae.pure (by simp[NN,rv])
 case binOp op t x y t2=>
  rw[he x ho.1,he y ho.2];refine qF (ae.bind (Jg op t x y _ _) ?_);rintro _ _ rfl;exact Qt hp op t _ _ (hg x ho.1) (hg y ho.2)
 case unOp op t x=>rw[he x ho];exact qF (Qp op _)
 case convert src dst x=>rw[he x ho.1];exact qF (Jl src dst _ ho.2)
 case makeInterface t x=>rw[he x ho];exact qF (uu t _)
 case makeMap t r=>rw[Af ho he];exact qF (Jj t _)
 case makeSlice t l c=>rw[he l ho.1,he c ho.2];exact qF (BW hp t _ _)
 case slice t x lo hi mx=>rw[he x ho.1.1.1,Af ho.1.1.2 he,Af ho.1.2 he,Af ho.2 he];exact qF (Jc hp t _ _ _ _)
 case fieldAddr t x f=>rw[he x ho];exact qF (Jf t _ f)
 case field t x f=>rw[he x ho];exact qF (Qn t _ f)
 case indexAddr t x i=>rw[he x ho.1,he i ho.2];exact qF (Jd hp t _ _)
 case index t x i=>rw[he x ho.1,he i ho.2];exact qF (Qm hp t _ _)
 case lookup t x i ok=>rw[he x ho.1,he i ho.2];exact qF (Md hp t _ _ ok (hg i ho.2))
 case mapUpdate t m k x=>rw[he m ho.1.1,he k ho.1.2,he x ho.2];exact e_u (B1 hp t _ _ _ (hg k ho.1.2))
 case typeAssert x t u ok=>
  obtain rfl:=ho.2;rw[he x ho.1];exact qF (Ae hp _ t u)
 case extract x i=>rw[he x ho];exact qF (Jb _ i)
 case panic x=>exact qF (Ah _)
 case call c=>
  obtain⟨callee,args,ats⟩:=c;simp only at ho;unfold resolve;dsimp only;rw[Qx ho.1 he];cases callee with
  |builtin b=>
   refine ae.bind (R:=λd d'=>d.target=d'.target∧(∃ts ty cs,d.target=.builtin b ts ty cs)∧d'.args=d.args.map (rv ρ)) (ae.pure ⟨rfl,⟨_,_,_,rfl⟩,rfl⟩) ?_;rintro ⟨d1,d2⟩ ⟨e1,e2⟩ ⟨h1,⟨ts,ty,cs,h2⟩,h3⟩;simp only at h1 h2 h3;subst h3;rw[←h1,h2];have hb:oG b=true:=ho.2;unfold invoke;dsimp only;unfold builtin;dsimp only;cases b<;>simp only[oG,zau]at hb
   ·exact qF (L9 hp _ _ _)
   ·exact qF (Ub _ _ _)
   ·exact qF (XN _ _ _)
   ·exact qF (XP _ _ _)
   ·exact qF (XO _ _ _)
   ·exact qF (qC _ _ _)
   ·exact qF (vJ _ _ _)
  |invoke r n=>exact absurd ho.2 (by simp)
  |value f=>
   cases f with
   |func f=>
    have hff:F f=true:=ho.2;dsimp only;rw[hfn,Uh];simp only[Deferred.ofValue];refine ae.bind (R:=λd d'=>d.target=.fn (.func f) #[]∧d'.target=.fn (.func f) #[]∧d'.args=d.args.map (rv ρ)) (ae.pure ⟨rfl,rfl,by simp⟩) ?_;rintro ⟨d1,d2⟩ ⟨e1,e2⟩ ⟨h1,h2,h3⟩;simp only at h1 h2 h3;subst h1 h2 h3;unfold invoke;dsimp only;have:=vM (F:=F) (S:=S) hp hf f (d2++#[]) hff (hF f hff);rw[Array.map_append,zbq]at this;exact this
   |tmp t=>
    dsimp only;rw[he (.tmp t) rfl];have hx:=hv (.tmp t) rfl;generalize ev (.tmp t)=v at hx;cases v with
    |func fn a b=>
     obtain⟨g,rfl,hS⟩:=hx fn a b rfl;simp only[rv,hf.f g hS,Deferred.ofValue];refine ae.bind (R:=λd d'=>d.target=.fn (.func g) b∧d'.target=.fn (.func g) (b.map (rv ρ))∧d'.args=d.args.map (rv ρ)) (ae.pure ⟨rfl,rfl,by simp⟩) ?_;rintro ⟨d1,d2⟩ ⟨e1,e2⟩ ⟨h1,h2,h3⟩;simp only at h1 h2 h3;subst h1 h2 h3;unfold invoke;dsimp only;rw[←Array.map_append];exact vM (S:=S) hp hf g _ (hSF g hS) (hF g (hSF g hS))
    |nilFunc=>
     simp only[rv,Deferred.ofValue];refine ae.bind (R:=λd d'=>d.target=.nil∧d'.target=.nil) (ae.pure ⟨rfl,rfl⟩) ?_;rintro ⟨d1,d2⟩ ⟨e1,e2⟩ ⟨h1,h2⟩;simp only at h1 h2;subst h1 h2;unfold invoke;exact aM _
    |_=>simp only[rv,Deferred.ofValue];exact jb (ae.stuck _)
   |const v=>exact absurd ho.2 (by simp)
   |global g=>exact absurd ho.2 (by simp)
theorem iM (hp:Plain P ρ)(fn:Func)(tmps:Array Value)(hu:rv ρ undef=undef):ae P ρ (VV ρ) (results fn tmps) (results fn (tmps.map (rv ρ))):=by
 unfold results;have XS:∀t:Nat,(tmps.map (rv ρ)).getD t undef=rv ρ (tmps.getD t undef):=λt=>by
  simp only[zaV,zal];cases tmps[t]?<;>simp[hu]
 have one:∀r:ResultVar,ae P ρ (VV ρ)
  (match r with|.tmp t=>pure (tmps.getD t undef)|.cell a t=>do loadVar t (←asAddr (tmps.getD a undef)):Sem Value)
  (match r with|.tmp t=>pure ((tmps.map (rv ρ)).getD t undef)|.cell a t=>do loadVar t (←asAddr ((tmps.map (rv ρ)).getD a undef)):Sem Value):=λr=>by
  cases r with
  |tmp t=>dsimp only;rw[XS];exact ae.pure rfl
  |cell a t=>
   dsimp only;rw[XS];refine ae.bind (BU hp _) ?_;rintro ad _ rfl;exact yN t ad
 have all:∀l:List ResultVar,ae P ρ (λx y=>y=x.map (rv ρ))
  (l.mapM λr=>(match r with|.tmp t=>pure (tmps.getD t undef)|.cell a t=>do loadVar t (←asAddr (tmps.getD a undef)):Sem Value))
  (l.mapM λr=>(match r with|.tmp t=>pure ((tmps.map (rv ρ)).getD t undef)|.cell a t=>do loadVar t (←asAddr ((tmps.map (rv ρ)).getD a undef)):Sem Value)):=λl=>by
  haveI:=lawful
  induction l with
  |nil=>simp only[List.mapM_nil];exact ae.pure rfl
  |cons r l ih=>
   simp only[List.mapM_cons];refine ae.bind (one r) ?_;rintro v _ rfl;refine ae.bind ih ?_;rintro vs _ rfl;exact ae.pure rfl
 refine ae.bind (R:=λx y=>y=x.map (rv ρ)) ?_ ?_
 ·haveI:=lawful
  rw[zbI,zbI];refine ae.bind (f:=λl=>pure l.toArray) (f':=λl=>pure l.toArray) (all fn.results.toList) ?_;rintro l _ rfl;exact ae.pure (by simp)
 ·rintro vs _ rfl;refine ae.pure ?_;by_cases h:vs.size=1
  ·simp[VV,h]
  ·simp[VV,h,rv]
end
structure Live (b0:Nat) (ρ:Rn) (w W:World):Prop where
 live:∀(r:Nat) (o:Obj),b0≤r→w.heap[r]?=some o→W.heap[ρ r]?=some (ro ρ o)
section
variable {P:Program}{b0:Nat}{ρ σ:Rn}{w W:World}
theorem B3 (v:Value):(rv ρ v).bytes? =v.bytes?:=by cases v<;>simp[rv,Value.bytes?]
theorem Fa (v:Value)(bs:List UInt8):(rv ρ v).ofBytes bs=v.ofBytes bs:=by cases v<;>simp[rv,Value.ofBytes]
theorem px {v u:Value}{bs:List UInt8}(h:v.ofBytes bs=some u):rv ρ u=u:=by
 cases v<;>simp only[Value.ofBytes]at h<;>(try cases h)
 ·split at h<;>(try cases h)<;>simp[rv]
 ·split at h<;>(try cases h);simp[rv]
 ·split at h<;>(try cases h);simp[rv]
 ·split at h<;>(try cases h);simp[rv]
theorem qH (c:Array Value)(e:TypeId):∀(f x stop:Nat),seenCells P (c.map (rv ρ)) e f x stop=seenCells P c e f x stop
 |0,x,stop=>rfl
 |f+1,x,stop=>by
  unfold seenCells;split
  ·rfl
  ·dsimp only;split
   ·rfl
   ·split
    ·rfl
    ·rename_i i s _;rw[zal];cases c[i]? with
     |none=>rfl
     |some v=>
      simp only[Option.map,B3];split
      ·rfl
      ·rfl
      ·rw[qH c e f]
theorem yT (h:Live b0 ρ w W){a:Addr}{v:Value}(hl:b0≤a.block)(hc:w.cell? a=some v):W.cell? (ra ρ a)=some (rv ρ v):=by
 unfold World.cell? at hc ⊢;cases hh:w.heap[a.block]? with
 |none=>rw[hh]at hc;cases hc
 |some o=>
  rw[hh]at hc;have:=h.live _ o hl hh;cases o<;>simp only at hc<;>try cases hc
  simp only[ra,ro]at this ⊢;rw[this];simp only;split at hc
  ·cases hc
  ·rename_i hs;simp only[hs,zau,if_false,zal,hc,Option.map]
theorem B4 {at_:Addr}{u:TypeId}{k:Addr}{atomic:Bool}{c:Array Value}{e:TypeId}{fz:Nat×Nat}(h1:w.heap[at_.block]?=some (.cells c e fz))(h2:W.heap[ρ at_.block]?=some (.cells (c.map (rv ρ)) e fz)):W.seen P (ra ρ at_) u (ra ρ k) atomic=(w.seen P at_ u k atomic).map λx=>(x.1.map (rv ρ),x.2):=by
 unfold World.seen;simp only[ra,h1,h2,qH];split
 ·rfl
 ·cases plainCell P P.depth u k.off with
  |none=>rfl
  |some like=>
   simp only;cases like.bytes? with
   |none=>rfl
   |some bs=>
    simp only[Option.map];cases byteOfCell P P.depth u k.off with
    |none=>rfl
    |some β=>
     simp only;split
     ·rfl
     ·cases byteOfCell P P.depth e (at_.off%P.cellsOf e)with
      |none=>rfl
      |some b0=>
       simp only[bind,Except.bind];cases seenCells P c e (bs.length+1) (at_.off/P.cellsOf e*P.bytesOf e+b0+β) (at_.off/P.cellsOf e*P.bytesOf e+b0+β+bs.length)with
       |error m=>rfl
       |ok cells=>
        simp only;cases atomic with
        |false=>rfl
        |true=>
         simp only[if_true];split
         ·rename_i s1 bs1;by_cases q1:s1=at_.off/P.cellsOf e*P.bytesOf e+b0+β<;>by_cases q2:bs1.length=bs.length<;>simp[q1,q2,Except.map,pure,Except.pure]<;>rfl
         ·rfl
theorem Hd {at_:Addr}{u:TypeId}{k:Addr}{atomic:Bool}{x:Array Value×TypeId×(Nat×Nat)×Nat×Value×List (Nat×Nat×List UInt8)}(hx:w.seen P at_ u k atomic=.ok x):∃c e fz,w.heap[at_.block]?=some (.cells c e fz):=by
 cases hh:w.heap[at_.block]? with
 |none=>
  exfalso;unfold World.seen at hx;simp only[hh]at hx;split at hx
  ·cases hx
  ·cases h1:plainCell P P.depth u k.off with
   |none=>rw[h1]at hx;cases hx
   |some like=>
    rw[h1]at hx;simp only at hx;cases h2:like.bytes? with
    |none=>rw[h2]at hx;cases hx
    |some bs=>
     rw[h2]at hx;simp only[Option.map]at hx;cases h3:byteOfCell P P.depth u k.off with
     |none=>rw[h3]at hx;cases hx
     |some β=>rw[h3]at hx;cases hx
 |some o=>
  cases o with
  |cells c e fz=>exact⟨c,e,fz,rfl⟩
  |_=>
   exfalso;unfold World.seen at hx;simp only[hh]at hx;split at hx
   ·cases hx
   ·cases h1:plainCell P P.depth u k.off with
    |none=>rw[h1]at hx;cases hx
    |some like=>
     rw[h1]at hx;simp only at hx;cases h2:like.bytes? with
     |none=>rw[h2]at hx;cases hx
     |some bs=>
      rw[h2]at hx;simp only[Option.map]at hx;cases h3:byteOfCell P P.depth u k.off with
      |none=>rw[h3]at hx;cases hx
      |some β=>rw[h3]at hx;cases hx
theorem seen_cells {at_:Addr}{u:TypeId}{k:Addr}{atomic:Bool}{x:Array Value×TypeId×(Nat×Nat)×Nat×Value×List (Nat×Nat×List UInt8)}{c:Array Value}{e:TypeId}{fz:Nat×Nat}(h1:w.heap[at_.block]?=some (.cells c e fz))(hx:w.seen P at_ u k atomic=.ok x):x.1=c∧x.2.1=e∧x.2.2.1=fz:=by
 unfold World.seen at hx;simp only[h1]at hx;split at hx
 ·cases hx
 ·cases h1:plainCell P P.depth u k.off with
  |none=>rw[h1]at hx;cases hx
  |some like=>
   rw[h1]at hx;simp only at hx;cases h2:like.bytes? with
   |none=>rw[h2]at hx;cases hx
   |some bs=>
    rw[h2]at hx;simp only[Option.map]at hx;cases h3:byteOfCell P P.depth u k.off with
    |none=>rw[h3]at hx;cases hx
    |some β=>
     rw[h3]at hx;simp only at hx;split at hx
     ·cases hx
     ·cases h4:byteOfCell P P.depth e (at_.off%P.cellsOf e)with
      |none=>rw[h4]at hx;cases hx
      |some b0=>
       rw[h4]at hx;simp only[bind,Except.bind]at hx;cases h5:seenCells P c e (bs.length+1) (at_.off/P.cellsOf e*P.bytesOf e+b0+β) (at_.off/P.cellsOf e*P.bytesOf e+b0+β+bs.length)with
       |error m=>rw[h5]at hx;cases hx
       |ok cells=>
        rw[h5]at hx;simp only at hx;cases atomic with
        |false=>simp only[zau,if_false,pure,Except.pure,Except.ok.injEq]at hx;subst hx;exact⟨rfl,rfl,rfl⟩
        |true=>
         simp only[if_true]at hx;split at hx
         ·split at hx
          ·cases hx
          ·simp only[pure,Except.pure,Except.ok.injEq]at hx;subst hx;exact⟨rfl,rfl,rfl⟩
         ·cases hx
theorem qI (h:Live b0 ρ w W){at_:Addr}{u:TypeId}{k:Addr}{atomic:Bool}{v:Value}{ts:List Addr}(hl:b0≤at_.block)(hx:w.viewLoad P at_ u k atomic=.ok (v,ts)):∃yg,W.viewLoad P (ra ρ at_) u (ra ρ k) atomic=.ok (v,yg)∧(∀t∈yg,t.block=ρ at_.block)∧(∀τ:Rn,rv τ v=v)∧at_.block<w.heap.size:=by
 unfold World.viewLoad at hx ⊢;simp only[bind,Except.bind]at hx;cases hs:w.seen P at_ u k atomic with
 |error m=>rw[hs]at hx;cases hx
 |ok x=>
  rw[hs]at hx;obtain⟨c,e,fz,hc⟩:=Hd hs;have hW:=h.live _ _ hl hc;simp only[ro]at hW;rw[B4 hc hW,hs];simp only[Except.map,bind,Except.bind]at hx ⊢;obtain⟨x1,x2,x3,first,like,cells⟩:=x;simp only at hx ⊢;cases ho:like.ofBytes (cells.flatMap λ(x:Nat×Nat×List UInt8)=>(x.2.2.drop (first-x.2.1)).take (first+(like.bytes?.map (·.length)).getD 0-max first x.2.1))with
  |none=>rw[ho]at hx;cases hx
  |some v'=>
   rw[ho]at hx;simp only[pure,Except.pure,Except.ok.injEq,zab]at hx;obtain⟨rfl,rfl⟩:=hx;refine⟨_,rfl,λt ht=>?_,λτ=>px ho,(zac.1 hc).1⟩;simp only[zaP]at ht;obtain⟨y,_,rfl⟩:=ht;rfl
theorem tT {γ:Type}{F:Array Value→γ→Except String (Array Value)}(hF:∀c c' x,F c x=.ok c'→F (c.map (rv ρ)) x=.ok (c'.map (rv ρ))):∀(xs:List γ) {c c':Array Value},xs.foldlM F c=.ok c'→xs.foldlM F (c.map (rv ρ))=.ok (c'.map (rv ρ))
 |[],c,c',h=>by
  simp only[List.foldlM,pure,Except.pure,Except.ok.injEq]at h ⊢;rw[h]
 |x::xs,c,c',h=>by
  simp only[List.foldlM,bind,Except.bind]at h ⊢;cases h1:F c x with
  |error m=>rw[h1]at h;cases h
  |ok c1=>
   rw[h1]at h;rw[hF _ _ _ h1];exact tT hF xs h
theorem py (h:Live b0 ρ w W){at_:Addr}{u:TypeId}{k:Addr}{atomic:Bool}{v:Value}{w1:World}{ts:List Addr}(hl:b0≤at_.block)(hx:w.viewStore P at_ u k v atomic=.ok (w1,ts)):∃c c' e fz yg,w.heap[at_.block]?=some (.cells c e fz)∧w1={ w with heap:=w.heap.setIfInBounds at_.block (.cells c' e fz) }∧(∀τ:Rn,c.map (rv τ)=c→c'.map (rv τ)=c')∧W.viewStore P (ra ρ at_) u (ra ρ k) (rv ρ v) atomic=.ok ({ W with heap:=W.heap.setIfInBounds (ρ at_.block) (.cells (c'.map (rv ρ)) e fz) },yg)∧∀t∈yg,t.block=ρ at_.block:=by
 unfold World.viewStore at hx ⊢;by_cases ht:(!tight P P.depth u)=true
 ·rw[if_pos ht]at hx;cases hx
 rw[if_neg ht]at hx ⊢;simp only[bind,Except.bind,B3]at hx ⊢;cases hs:w.seen P at_ u k atomic with
 |error m=>rw[hs]at hx;cases hx
 |ok x=>
  rw[hs]at hx;obtain⟨c,e,fz,hc⟩:=Hd hs;have hW:=h.live _ _ hl hc;simp only[ro]at hW;obtain⟨e1,e2,e3⟩:=seen_cells hc hs;rw[B4 hc hW,hs];simp only[Except.map]at hx ⊢;obtain⟨x1,x2,x3,first,like,cells⟩:=x;simp only at hx e1 e2 e3 ⊢;subst e1;subst e2;subst e3;cases hb:v.bytes? with
  |none=>rw[hb]at hx;cases hx
  |some bytes=>
   rw[hb]at hx;simp only at hx ⊢;by_cases hsz:some bytes.length≠Option.map (λx=>x.length) like.bytes?
   ·rw[if_pos hsz]at hx;cases hx
   rw[if_neg hsz]at hx ⊢;split at hx
   ·cases hx
   ·rename_i c' hf;simp only[pure,Except.pure,Except.ok.injEq,zab]at hx;obtain⟨rfl,rfl⟩:=hx;have hF:∀τ:Rn,_:=λτ=>tT (ρ:=τ) (λc c' x hq=>by
     obtain⟨i,s,bs⟩:=x;simp only at hq ⊢;by_cases h1:(decide (s<first)||decide (s+bs.length>first+bytes.length))=true
     ·rw[if_pos h1]at hq;cases hq
     rw[if_neg h1]at hq ⊢;by_cases h2:(decide (x3.1≤i)&&decide (i<x3.2))=true
     ·rw[if_pos h2]at hq;cases hq
     rw[if_neg h2]at hq ⊢;rw[zal];cases hc:c[i]? with
     |none=>rw[hc]at hq;cases hq
     |some old=>
      rw[hc]at hq;simp only[Option.map,Fa]at hq ⊢;cases ho:old.ofBytes ((bytes.drop (s-first)).take bs.length)with
      |none=>rw[ho]at hq;cases hq
      |some new=>
       rw[ho]at hq;simp only[pure,Except.pure,Except.ok.injEq]at hq ⊢;subst hq;rw[zbr,px ho]) cells hf
    refine⟨x1,c',x2,x3,cells.map λy=>{ block:=ρ at_.block,off:=y.1 },hc,rfl,λτ XT=>?_,?_,λt ht=>?_⟩
    ·have:=hF τ;rw[XT,hf]at this;exact(Except.ok.inj this).symm
    ·rw[hF ρ];rfl
    ·simp only[zaP]at ht;obtain⟨y,_,rfl⟩:=ht;rfl
end
end Go.Ren
