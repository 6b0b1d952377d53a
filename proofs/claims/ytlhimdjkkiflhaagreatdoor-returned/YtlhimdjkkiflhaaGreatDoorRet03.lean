import GoSem.Step
import Derived.Test.YtlhimdjkkiflhaaGreatDoorRet02
set_option maxHeartbeats 8000000
set_option maxRecDepth 100000
open Go.Sem renaming runT→Γ
open Go renaming World→Δ,Value→Θ,TypeId→Φ,Program→Ω,Event→ζ,undef→η,Operand→θ,FuncId→ι,execOp→π
open Option renaming map→Λ
open Go.Conv renaming bytesToString→Ξ
open Go.Deferred renaming ofValue→ξ
namespace Go.Ren
open Go
def jl:Θ→Bool
 |.bool _|.int _ _|.float _ _|.complex _ _ _|.string _|.nilFunc |.nilIface=>true
 |.pointer none|.slice none _ _|.map none|.chan none=>true
 |_=>false
theorem ik {v:Θ}(h:jl v=true):∀ρ:Rn,rv ρ v=v:=by
 intro ρ;cases v with
 |pointer a=>cases a<;>simp_all [jl,rv]
 |slice a=>cases a<;>simp_all [jl,rv]
 |map a=>cases a<;>simp_all [jl,rv]
 |chan a=>cases a<;>simp_all [jl,rv]
 |_=>simp_all [jl,rv]
def gD (S:Sd):θ→Bool
 |.tmp _=>true
 |.const v=>jl v
 |.global g=>decide (S.d≤g)&&decide (g<S.g)
 |.func f=>S f
def pC:Builtin→Bool
 |.append |.copy |.len |.max |.min |.unsafeSliceData |.unsafeString=>true
 |_=>false
def Hg (P:Ω)(src dst:Φ):Bool:=
 match P.underlying src,P.underlying dst with
 |some (.int _),some (.int _)=>true
 |some (.int _),some .string=>true
 |some (.slice e),some .string=>match P.underlying e with|some (.int .u8)=>true|_=>false
 |some (.pointer _),some .unsafePointer=>true
 |some .unsafePointer,some (.pointer _)=>true
 |_,_=>false
def fo (P:Ω)(F:ι→Bool)(S:Sd):Op→Bool
 |.move x|.assign x|.box _ x|.nilCheck x|.unOp _ _ x|.makeInterface _ x|.field _ x _|.fieldAddr _ x _|.extract x _=>gD S x
 |.pick c a b=>gD S c&&gD S a&&gD S b
 |.alloc _=>true
 |.build _ parts=>parts.all λp=>gD S p.2
 |.buildSlice _ _ parts=>parts.all λp=>gD S p.2
 |.load _ (.global g)=>decide (g<S.d)||(decide (S.d≤g)&&decide (g<S.g))
 |.load _ a=>gD S a
 |.store _ a x=>gD S a&&gD S x
 |.binOp _ _ x y _=>gD S x&&gD S y
 |.convert src dst x=>gD S x&&Hg P src dst
 |.makeMap _ r=>r.all (gD S)
 |.makeSlice _ l c=>gD S l&&gD S c
 |.slice _ x lo hi mx=>gD S x&&lo.all (gD S)&&hi.all (gD S)&&mx.all (gD S)
 |.indexAddr _ x i|.index _ x i=>gD S x&&gD S i
 |.lookup _ x i _=>gD S x&&gD S i
 |.mapUpdate _ m k x=>gD S m&&gD S k&&gD S x
 |.typeAssert x _ _ ok=>gD S x&&ok
 |.panic x=>gD S x
 |.call c=>(c.args.all (gD S))&&match c.callee with
  |.value (.func f)=>F f
  |.value (.tmp _)=>true
  |.builtin b=>pC b
  |_=>false
 |_=>false
def FV (S:Sd)(v:Θ):Prop:=∀fn a b,v=.func fn a b→∃g,fn=.func g∧S g=true
def JI (P:Ω)(S:Sd)(f:ι):Prop:=∃fn,P.funcs[f]?=some fn∧(fn.name== "runtime.NumGoroutine")=false∧(fn.body.isNone=false∨(fn.body.isNone=true∧Extern.findNext fn=none∧∃e,Extern.find fn=some e∧∀(ρ:Rn) (args:Array Θ),Plain P ρ→rV S ρ→ae P ρ (VV ρ) (e args) (e (args.map (rv ρ)))))
def NN (F:ι→Bool)(ρ:Rn):Next→Next→Prop
 |.value v,n=>n=.value (rv ρ v)
 |.skip,n=>n=.skip
 |.enter f args,n=>F f=true∧n=.enter f (args.map (rv ρ))
 |_,_=>False
section
variable {P:Ω}{ρ:Rn}{F:ι→Bool}{S:Sd}{α β:Type}
theorem rW {s s':Sem Θ}(h:ae P ρ (VV ρ) s s'):ae P ρ (NN F ρ) (do pure (.value (←s))) (do pure (.value (←s'))):=by
 refine ae.bind h ?_;rintro v _ rfl;exact ae.pure rfl
theorem e_u {s s':Sem Unit}(h:ae P ρ Eq s s'):ae P ρ (NN F ρ) (do s;pure .skip) (do s';pure .skip):=by
 refine ae.bind h ?_;rintro v _ rfl;exact ae.pure rfl
theorem xu (hp:Plain P ρ)(hx:rV S ρ)(f:ι)(args:Array Θ)(hF:F f=true)(hf:JI P S f):ae P ρ (NN F ρ) (callFunc f args) (callFunc f (args.map (rv ρ))):=by
 obtain⟨fn,h1,h2,h3⟩:=hf;unfold callFunc;refine ae.bind cL ?_;rintro _ _ ⟨rfl,rfl⟩;rw[h1];simp only[h2,zaU,if_false];rcases h3 with h3|⟨h3,h4,e,h5,h6⟩
 ·simp only[h3,zaU,if_false];exact ae.pure ⟨hF,rfl⟩
 ·simp only[h3,if_true,h4,h5];refine ae.bind (Co (.extern f) trivial) ?_;rintro _ _ rfl;exact rW (h6 ρ args hp hx)
theorem Ee (a:Addr):ae P ρ (AA ρ) (Conv.seenAt a) (Conv.seenAt (ra ρ a)):=by
 unfold Conv.seenAt;refine ae.bind (rP a.block) ?_;rintro x _ rfl;cases x with
 |none=>exact ae.pure rfl
 |some z=>
  obtain⟨s,u⟩:=z;simp only[Λ];have e1:(ra ρ a).off=a.off:=rfl;have e2:(ra ρ a).spot=a.spot:=rfl;have e3:(ra ρ s).spot=s.spot:=rfl;have e4:(ra ρ s).off=s.off:=rfl;rw[e1,e2,e3,e4];refine ae.aj (λ_=>ae.pure rfl) (λ_=>?_);refine ae.aj (λ_=>jG (ae.unsupported _)) (λ_=>?_);refine ae.bind cL ?_;rintro _ _ ⟨rfl,rfl⟩;split
  ·refine ae.bind (gT s.block) ?_;rintro sh _ rfl;cases sh with
   |none=>exact ae.unsupported _
   |some y=>
    obtain⟨e,m⟩:=y;dsimp only;refine ae.aj (λ_=>jG (ae.unsupported _)) (λ_=>?_);split
    ·exact ae.pure rfl
    ·exact ae.unsupported _
  ·exact ae.unsupported _
theorem Li (r:Nat):ae P ρ Eq (cellsIn r) (cellsIn (ρ r)):=by
 unfold cellsIn;refine ae.bind (gT r) ?_;rintro sh _ rfl;cases sh with
 |some x=>exact ae.pure rfl
 |none=>
  refine ae.bind (l9 r) ?_;rintro o _ ⟨rfl,_⟩;cases o<;>simp only[ro]<;>first|exact ae.pure rfl|(simp only[Array.size_map];exact ae.pure rfl)
theorem tP (t:Φ)(src dst:Φ)(x:Θ)(hs:P.underlying src=some (.pointer t))(hd:P.underlying dst=some .unsafePointer):ae P ρ (VV ρ) (Conv.unsafePointer src dst x) (Conv.unsafePointer src dst (rv ρ x)):=by
 unfold Conv.unsafePointer;refine ae.bind (ax src) ?_;rintro d d' ⟨e,h⟩;subst e;rw[hs]at h;cases h;refine ae.bind (ax dst) ?_;rintro d d' ⟨e,h⟩;subst e;rw[hd]at h;cases h;cases x with
 |pointer a=>
  cases a with
  |none=>simp only[rv,Λ];exact ae.pure (by simp[VV,rv])
  |some a=>
   simp only[rv,Λ];refine ae.bind (Ee a) ?_;rintro s _ rfl;refine ae.bind (Li s.block) ?_;rintro q _ rfl;have e1:(ra ρ s).off=s.off:=rfl;have e2:(ra ρ s).spot=s.spot:=rfl;rw[e1,e2];refine ae.bind (cC t) ?_;rintro n _ rfl;refine ae.aj (λ_=>?_) (λ_=>ae.pure (by simp[VV,rv]));refine ae.bind (l7 (.view s t)) ?_;rintro r _ rfl;exact ae.pure (by simp[VV,rv,ra])
 |_=>simp only[rv];exact ae.stuck _
theorem tQ (t:Φ)(src dst:Φ)(x:Θ)(hs:P.underlying src=some .unsafePointer)(hd:P.underlying dst=some (.pointer t)):ae P ρ (VV ρ) (Conv.unsafePointer src dst x) (Conv.unsafePointer src dst (rv ρ x)):=by
 unfold Conv.unsafePointer;refine ae.bind (ax src) ?_;rintro d d' ⟨e,h⟩;subst e;rw[hs]at h;cases h;refine ae.bind (ax dst) ?_;rintro d d' ⟨e,h⟩;subst e;rw[hd]at h;cases h;cases x with
 |pointer a=>
  cases a with
  |none=>simp only[rv,Λ];exact ae.pure (by simp[VV,rv])
  |some a=>
   simp only[rv,Λ];refine ae.bind (Ee a) ?_;rintro s _ rfl;refine ae.bind (cC t) ?_;rintro n _ rfl;refine ae.bind (qu s t 1) ?_;rintro b _ rfl;refine ae.aj (λ_=>ae.pure (by simp[VV,rv])) (λ_=>?_);refine ae.bind (gT s.block) ?_;rintro sh _ rfl;cases sh with
   |none=>exact ae.unsupported _
   |some y=>
    obtain⟨e,m⟩:=y;dsimp only;refine ae.bind cL ?_;rintro _ _ ⟨rfl,rfl⟩;refine ae.bind cL ?_;rintro _ _ ⟨rfl,rfl⟩;refine ae.aj (λ_=>jG (ae.unsupported _)) (λ_=>?_);refine ae.bind (l7 (.view s t)) ?_;rintro r _ rfl;exact ae.pure (by simp[VV,rv,ra])
 |_=>simp only[rv];exact ae.stuck _
theorem vF (x:Θ):ae P ρ (VV ρ) (Ξ x) (Ξ (rv ρ x)):=by
 unfold Ξ;cases x with
 |slice a n c=>
  cases a with
  |none=>simp only[rv,Λ];exact ae.pure (by simp[VV,rv])
  |some a=>
   simp only[rv,Λ];refine ae.bind (od a n) ?_;rintro cs _ rfl;refine ae.bind (R:=Eq) ?_ (by rintro s _ rfl;exact ae.pure (by simp[VV,rv]))
   haveI:=lawful
   rw[←zbP,←zbP,zbl];generalize ByteArray.empty=s0
   induction cs.toList generalizing s0 with
   |nil=>exact ae.pure rfl
   |cons v l ih=>
    simp only[zaB,List.forIn_cons];cases v with
    |int k m=>
     simp only[rv];cases k<;>first|exact jG (ae.stuck _)|exact ih _
    |_=>simp only[rv];exact jG (ae.stuck _)
 |_=>simp only[rv];exact ae.stuck _
theorem xv (k:FloatKind)(b:Nat)(d:IntKind):eX P gq (Conv.floatToInt k b d):=by
 have bi:∀k n,gq (.int k n):=λk n ρ=>by simp[rv]
 unfold Conv.floatToInt;split
 ·dsimp only;split
  ·exact bi _ _
  ·exact λn=>bi _ _
 ·exact λn=>bi _ _
theorem Lj (src dst:Φ)(x:Θ)(h:Hg P src dst=true):ae P ρ (VV ρ) (convert src dst x) (convert src dst (rv ρ x)):=by
 unfold Hg at h;split at h
 ·rename_i k k' hs hd;unfold convert;refine ae.bind (ax src) ?_;rintro d d' ⟨e,h1⟩;subst e;rw[hs]at h1;cases h1;refine ae.bind (ax dst) ?_;rintro d d' ⟨e,h1⟩;subst e;rw[hd]at h1;cases h1;cases x with
  |int k2 n=>simp only[rv];exact ae.pure (by simp[VV,rv])
  |float k2 n=>simp only[rv];exact oq (xv _ _ _)
  |pointer a=>cases a<;>simp only[rv,Λ]<;>exact ae.unsupported _
  |_=>simp only[rv];exact ae.unsupported _
 ·rename_i k hs hd;unfold convert;refine ae.bind (ax src) ?_;rintro d d' ⟨e,h1⟩;subst e;rw[hs]at h1;cases h1;refine ae.bind (ax dst) ?_;rintro d d' ⟨e,h1⟩;subst e;rw[hd]at h1;cases h1;cases x with
  |int k2 n=>simp only[rv];exact ae.pure (by simp[VV,rv])
  |string b=>simp only[rv];exact ae.pure (by simp[VV,rv])
  |pointer a=>cases a<;>simp only[rv,Λ]<;>exact ae.unsupported _
  |_=>simp only[rv];exact ae.unsupported _
 ·rename_i e1 hs hd;unfold convert;refine ae.bind (ax src) ?_;rintro d d' ⟨e,h1⟩;subst e;rw[hs]at h1;cases h1;refine ae.bind (ax dst) ?_;rintro d d' ⟨e,h1⟩;subst e;rw[hd]at h1;cases h1;have he:P.underlying e1=some (.int .u8):=by
   split at h
   ·assumption
   ·cases h
  have tail:∀y y':Θ,ae P ρ (VV ρ) (Ξ y) (Ξ y')→ae P ρ (VV ρ)
   (underlying e1>>=λd=>match d with|.int .u8=>Ξ y|.int .i32=>Conv.runesToString y|_=>stuck "Convert: a slice of what to string?")
   (underlying e1>>=λd=>match d with|.int .u8=>Ξ y'|.int .i32=>Conv.runesToString y'|_=>stuck "Convert: a slice of what to string?"):=λy y' hy=>by
   refine ae.bind (ax e1) ?_;rintro d d' ⟨e,h1⟩;subst e;rw[he]at h1;cases h1;exact hy
  have hb:=vF (P:=P) (ρ:=ρ) x;cases x<;>simp only[rv]at hb ⊢<;>first|exact ae.pure (by simp[VV,rv])|exact tail _ _ hb
 ·rename_i t hs hd;have:=tP (ρ:=ρ) t src dst x hs hd;unfold convert;refine ae.bind (ax src) ?_;rintro d d' ⟨e,h1⟩;subst e;rw[hs]at h1;cases h1;refine ae.bind (ax dst) ?_;rintro d d' ⟨e,h1⟩;subst e;rw[hd]at h1;cases h1;cases x<;>simp only[rv]at this ⊢<;>exact this
 ·rename_i t hs hd;have:=tQ (ρ:=ρ) t src dst x hs hd;unfold convert;refine ae.bind (ax src) ?_;rintro d d' ⟨e,h1⟩;subst e;rw[hs]at h1;cases h1;refine ae.bind (ax dst) ?_;rintro d d' ⟨e,h1⟩;subst e;rw[hd]at h1;cases h1;cases x<;>simp only[rv]at this ⊢<;>exact this
 ·cases h
variable {ev ev':θ→Θ}
theorem parts_eq {parts:Array (Nat×θ)}(h:parts.all (λp=>gD S p.2)=true)(he:∀x,gD S x=true→ev' x=rv ρ (ev x)):(parts.map λ(p:Nat×θ)=>(p.1,ev' p.2))=(parts.map λ(p:Nat×θ)=>(p.1,ev p.2)).map λx=>(x.1,rv ρ x.2):=by
 rw[zcl];apply Array.ext
 ·simp
 ·intro i h1 h2;simp only[zbX,Function.comp];rw[he _ (by have:=Array.all_eq_true.1 h i (by simpa using h1);simpa using this)]
theorem Tu {args:Array θ}(h:args.all (gD S)=true)(he:∀x,gD S x=true→ev' x=rv ρ (ev x)):args.map ev'=(args.map ev).map (rv ρ):=by
 rw[zcl];apply Array.ext
 ·simp
 ·intro i h1 h2;simp only[zbX,Function.comp];exact he _ (Array.all_eq_true.1 h i (by simpa using h1))
theorem Cv {x:Option θ}(h:x.all (gD S)=true)(he:∀x,gD S x=true→ev' x=rv ρ (ev x)):x.map ev'=(x.map ev).map (rv ρ):=by
 cases x with
 |none=>rfl
 |some x=>simp only[Λ,Option.all_some]at h ⊢;rw[he x h]
theorem Cw (t:Φ)(g:Nat)(hg:g<ρ.d∨ρ g=g):ae P ρ (VV ρ) (Instr.loadAt t (.pointer (some ⟨g,0,none⟩))) (Instr.loadAt t (.pointer (some ⟨g,0,none⟩))):=by
 rcases hg.symm with hg|hg
 ·have e:rv ρ (.pointer (some ⟨g,0,none⟩))=.pointer (some ⟨g,0,none⟩):=by simp[rv,ra,hg]
  have:=DX (P:=P) (ρ:=ρ) t (.pointer (some ⟨g,0,none⟩));rwa[e]at this
 unfold Instr.loadAt;refine ae.bind (R:=λa b=>a=⟨g,0,none⟩∧b=⟨g,0,none⟩) ⟨_,rfl,rfl,rfl⟩ ?_;rintro _ _ ⟨rfl,rfl⟩;unfold loadVar;refine ae.bind (wA t) ?_;rintro b _ rfl;refine ae.aj (λ_=>?_) (λ_=>Or.inl hg);refine ae.bind (cC t) ?_;rintro n _ rfl;refine ae.bind (R:=λx y=>x=#[]∧y=#[]) ?_ ?_
 ·unfold loadCells;cases n with
  |zero=>exact ae.pure ⟨rfl,rfl⟩
  |succ n=>exact Or.inl (by simpa[Addr.add]using hg)
 ·rintro _ _ ⟨rfl,rfl⟩;exact ae.pure (by simp[VV,rv])
theorem Cx {β:Type}{R:Θ→β→Prop}(x:Θ){s':Sem β}:ae P ρ R (Instr.panic x) s':=by
 unfold Instr.panic;cases x with
 |iface t v=>exact mJ _
 |nilIface=>
  refine λy=>?_;have hp:Tm (λ_:Θ=>False) (runtimePanic .panicNil):=by
   unfold runtimePanic;refine Tm.bind (Q:=λ_=>True) (λq _=>?_) (λp=>trivial);dsimp only;refine Tm.bind (Q:=λ_=>True) (λt _=>?_) ?_
   ·unfold newVar newRow;refine Tm.bind (Q:=λ_=>True) ?_ ?_
    ·intro r _;show DW (.panic _);trivial
    ·exact λr=>trivial
   ·unfold elemOf underlying;refine Tm.bind (Q:=λ_=>True) (λd _=>?_) (Tm.bind (Q:=λ_=>True) (λp' _=>?_) (λp=>trivial))
    ·cases d<;>trivial
    ·split<;>trivial
  cases y with
  |strings env=>
   intro p;show Tm _ (if _ then _ else _);split
   ·trivial
   ·exact hp
  |_=>trivial
 |_=>exact ae.stuck _
theorem ou (hp:Plain P ρ)(hf:rV S ρ)(hSF:∀g,S g=true→F g=true)(hF:∀f,F f=true→JI P S f)(o:Oper)(ho:fo P F S o.op=true)
 (he:∀x,gD S x=true→ev' x=rv ρ (ev x))(hg:∀x,gD S x=true→GV P ρ (ev x))(hv:∀x,gD S x=true→FV S (ev x))
 (SH:∀g,ev (.global g)=.pointer (some ⟨g,0,none⟩))(acH:∀g,ev' (.global g)=.pointer (some ⟨g,0,none⟩))(hfn:∀f,ev (.func f)=.func (.func f) #[] #[])(XZ:∀f,ev' (.func f)=.func (.func f) #[] #[]):
 ae P ρ (NN F ρ) (π ev o) (π ev' o):=by
 obtain⟨dst,op,type,pos,after,guard⟩:=o;simp only at ho;unfold π;dsimp only;cases op<;>simp only[fo,zae,zaU]at ho<;>dsimp only
 case move x=>rw[he x ho];exact ae.pure rfl
 case assign x=>rw[he x ho];exact ae.pure rfl
 case pick c a b=>
  rw[he c ho.1.1,he a ho.1.2,he b ho.2];refine ae.bind (xd _) ?_;rintro q _ rfl;exact ae.pure (by cases q<;>rfl)
 case alloc t=>exact rW (Tb hp t)
 case box t x=>rw[he x ho];exact rW (aaa t _)
 case build t parts=>rw[parts_eq ho he];exact rW (Td hp t _)
 case buildSlice t n parts=>rw[parts_eq ho he];exact rW (Cp hp t n _)
 case load t a=>
  cases a with
  |global g=>rw[SH,acH];exact rW (Cw t g (by
    simp only[Bool.or_eq_true,zae,zaK]at ho;rcases ho with h|h
    ·exact hf.l g h
    ·exact .inr (hf.g g h.1 h.2)))
  |_=>rw[he _ (by simpa[fo]using ho)];exact rW (DX t _)
 case store t a x=>rw[he a ho.1,he x ho.2];exact e_u (K3 t _ _)
 case nilCheck x=>
  rw[he x ho];have hx:=hv x ho;generalize ev x=v at hx;cases v with
  |pointer a=>cases a<;>simp only[rv,Λ]<;>first|exact aX _|exact ae.pure (by simp[NN,rv])
  |func fn a b=>
   obtain⟨g,rfl,hS⟩:=hx fn a b rfl;simp only[rv,hf.f g hS];exact ae.pure (by simp[NN,rv,hf.f g hS])
  |nilFunc=>simp only[rv];exact aX _
  |nilIface=>simp only[rv];exact aX _
  |_=>simp only[rv];exact ae.pure (by simp[NN,rv])
 case binOp op t x y t2=>
  rw[he x ho.1,he y ho.2];refine rW (ae.bind (K9 op t x y _ _) ?_);rintro _ _ rfl;exact Tr hp op t _ _ (hg x ho.1) (hg y ho.2)
 case unOp op t x=>rw[he x ho];exact rW (Tj op _)
 case convert src dst x=>rw[he x ho.1];exact rW (Lj src dst _ ho.2)
 case makeInterface t x=>rw[he x ho];exact rW (vC t _)
 case makeMap t r=>rw[Cv ho he];exact rW (Lh t _)
 case makeSlice t l c=>rw[he l ho.1,he c ho.2];exact rW (D9 hp t _ _)
 case slice t x lo hi mx=>rw[he x ho.1.1.1,Cv ho.1.1.2 he,Cv ho.1.2 he,Cv ho.2 he];exact rW (K5 hp t _ _ _ _)
 case fieldAddr t x f=>rw[he x ho];exact rW (K8 t _ f)
 case field t x f=>rw[he x ho];exact rW (Th t _ f)
 case indexAddr t x i=>rw[he x ho.1,he i ho.2];exact rW (K6 hp t _ _)
 case index t x i=>rw[he x ho.1,he i ho.2];exact rW (Tg hp t _ _)
 case lookup t x i ok=>rw[he x ho.1,he i ho.2];exact rW (Ob hp t _ _ ok (hg i ho.2))
 case mapUpdate t m k x=>rw[he m ho.1.1,he k ho.1.2,he x ho.2];exact e_u (Ed hp t _ _ _ (hg k ho.1.2))
 case typeAssert x t u ok=>
  obtain rfl:=ho.2;rw[he x ho.1];exact rW (Cu hp _ t u)
 case extract x i=>rw[he x ho];exact rW (K4 _ i)
 case panic x=>exact rW (Cx _)
 case call c=>
  obtain⟨callee,args,ats⟩:=c;simp only at ho;unfold resolve;dsimp only;rw[Tu ho.1 he];cases callee with
  |builtin b=>
   refine ae.bind (R:=λd d'=>d.target=d'.target∧(∃ts ty cs,d.target=.builtin b ts ty cs)∧d'.args=d.args.map (rv ρ)) (ae.pure ⟨rfl,⟨_,_,_,rfl⟩,rfl⟩) ?_;rintro ⟨d1,d2⟩ ⟨e1,e2⟩ ⟨h1,⟨ts,ty,cs,h2⟩,h3⟩;simp only at h1 h2 h3;subst h3;rw[←h1,h2];have hb:pC b=true:=ho.2;unfold invoke;dsimp only;unfold builtin;dsimp only;cases b<;>simp only[pC,zaU]at hb
   ·exact rW (N6 hp _ _ _)
   ·exact rW (XS _ _ _)
   ·exact rW (aab _ _ _)
   ·exact rW (aad _ _ _)
   ·exact rW (aac _ _ _)
   ·exact rW (rT _ _ _)
   ·exact rW (xp _ _ _)
  |invoke r n=>exact absurd ho.2 (by simp)
  |value f=>
   cases f with
   |func f=>
    have hff:F f=true:=ho.2;dsimp only;rw[hfn,XZ];simp only[ξ];refine ae.bind (R:=λd d'=>d.target=.fn (.func f) #[]∧d'.target=.fn (.func f) #[]∧d'.args=d.args.map (rv ρ)) (ae.pure ⟨rfl,rfl,by simp⟩) ?_;rintro ⟨d1,d2⟩ ⟨e1,e2⟩ ⟨h1,h2,h3⟩;simp only at h1 h2 h3;subst h1 h2 h3;unfold invoke;dsimp only;have:=xu (F:=F) (S:=S) hp hf f (d2++#[]) hff (hF f hff);rw[Array.map_append,zcs]at this;exact this
   |tmp t=>
    dsimp only;rw[he (.tmp t) rfl];have hx:=hv (.tmp t) rfl;generalize ev (.tmp t)=v at hx;cases v with
    |func fn a b=>
     obtain⟨g,rfl,hS⟩:=hx fn a b rfl;simp only[rv,hf.f g hS,ξ];refine ae.bind (R:=λd d'=>d.target=.fn (.func g) b∧d'.target=.fn (.func g) (b.map (rv ρ))∧d'.args=d.args.map (rv ρ)) (ae.pure ⟨rfl,rfl,by simp⟩) ?_;rintro ⟨d1,d2⟩ ⟨e1,e2⟩ ⟨h1,h2,h3⟩;simp only at h1 h2 h3;subst h1 h2 h3;unfold invoke;dsimp only;rw[←Array.map_append];exact xu (S:=S) hp hf g _ (hSF g hS) (hF g (hSF g hS))
    |nilFunc=>
     simp only[rv,ξ];refine ae.bind (R:=λd d'=>d.target=.nil∧d'.target=.nil) (ae.pure ⟨rfl,rfl⟩) ?_;rintro ⟨d1,d2⟩ ⟨e1,e2⟩ ⟨h1,h2⟩;simp only at h1 h2;subst h1 h2;unfold invoke;exact aX _
    |_=>simp only[rv,ξ];exact jG (ae.stuck _)
   |const v=>exact absurd ho.2 (by simp)
   |global g=>exact absurd ho.2 (by simp)
theorem jm (hp:Plain P ρ)(fn:Func)(tmps:Array Θ)(hu:rv ρ η=η):ae P ρ (VV ρ) (results fn tmps) (results fn (tmps.map (rv ρ))):=by
 unfold results;have aaf:∀t:Nat,(tmps.map (rv ρ)).getD t η=rv ρ (tmps.getD t η):=λt=>by
  simp only[zbE,zaz];cases tmps[t]?<;>simp[hu]
 have one:∀r:ResultVar,ae P ρ (VV ρ)
  (match r with|.tmp t=>pure (tmps.getD t η)|.cell a t=>do loadVar t (←asAddr (tmps.getD a η)):Sem Θ)
  (match r with|.tmp t=>pure ((tmps.map (rv ρ)).getD t η)|.cell a t=>do loadVar t (←asAddr ((tmps.map (rv ρ)).getD a η)):Sem Θ):=λr=>by
  cases r with
  |tmp t=>dsimp only;rw[aaf];exact ae.pure rfl
  |cell a t=>
   dsimp only;rw[aaf];refine ae.bind (DY hp _) ?_;rintro ad _ rfl;exact A0 t ad
 have all:∀l:List ResultVar,ae P ρ (λx y=>y=x.map (rv ρ))
  (l.mapM λr=>(match r with|.tmp t=>pure (tmps.getD t η)|.cell a t=>do loadVar t (←asAddr (tmps.getD a η)):Sem Θ))
  (l.mapM λr=>(match r with|.tmp t=>pure ((tmps.map (rv ρ)).getD t η)|.cell a t=>do loadVar t (←asAddr ((tmps.map (rv ρ)).getD a η)):Sem Θ)):=λl=>by
  haveI:=lawful
  induction l with
  |nil=>simp only[List.mapM_nil];exact ae.pure rfl
  |cons r l ih=>
   simp only[List.mapM_cons];refine ae.bind (one r) ?_;rintro v _ rfl;refine ae.bind ih ?_;rintro vs _ rfl;exact ae.pure rfl
 refine ae.bind (R:=λx y=>y=x.map (rv ρ)) ?_ ?_
 ·haveI:=lawful
  rw[zcJ,zcJ];refine ae.bind (f:=λl=>pure l.toArray) (f':=λl=>pure l.toArray) (all fn.results.toList) ?_;rintro l _ rfl;exact ae.pure (by simp)
 ·rintro vs _ rfl;refine ae.pure ?_;by_cases h:vs.size=1
  ·simp[VV,h]
  ·simp[VV,h,rv]
end
structure Live (b0:Nat) (ρ:Rn) (w W:Δ):Prop where
 live:∀(r:Nat) (o:Obj),b0≤r→w.heap[r]?=some o→W.heap[ρ r]?=some (ro ρ o)
section
variable {P:Ω}{b0:Nat}{ρ σ:Rn}{w W:Δ}
theorem Ef (v:Θ):(rv ρ v).bytes? =v.bytes?:=by cases v<;>simp[rv,Θ.bytes?]
theorem Hh (v:Θ)(bs:List UInt8):(rv ρ v).ofBytes bs=v.ofBytes bs:=by cases v<;>simp[rv,Θ.ofBytes]
theorem qw {v u:Θ}{bs:List UInt8}(h:v.ofBytes bs=some u):rv ρ u=u:=by
 cases v<;>simp only[Θ.ofBytes]at h<;>(try cases h)
 ·split at h<;>(try cases h)<;>simp[rv]
 ·split at h<;>(try cases h);simp[rv]
 ·split at h<;>(try cases h);simp[rv]
 ·split at h<;>(try cases h);simp[rv]
theorem rX (c:Array Θ)(e:Φ):∀(f x stop:Nat),seenCells P (c.map (rv ρ)) e f x stop=seenCells P c e f x stop
 |0,x,stop=>rfl
 |f+1,x,stop=>by
  unfold seenCells;split
  ·rfl
  ·dsimp only;split
   ·rfl
   ·split
    ·rfl
    ·rename_i i s _;rw[zaz];cases c[i]? with
     |none=>rfl
     |some v=>
      simp only[Λ,Ef];split
      ·rfl
      ·rfl
      ·rw[rX c e f]
theorem A6 (h:Live b0 ρ w W){a:Addr}{v:Θ}(hl:b0≤a.block)(hc:w.cell? a=some v):W.cell? (ra ρ a)=some (rv ρ v):=by
 unfold Δ.cell? at hc ⊢;cases hh:w.heap[a.block]? with
 |none=>rw[hh]at hc;cases hc
 |some o=>
  rw[hh]at hc;have:=h.live _ o hl hh;cases o<;>simp only at hc<;>try cases hc
  simp only[ra,ro]at this ⊢;rw[this];simp only;split at hc
  ·cases hc
  ·rename_i hs;simp only[hs,zaU,if_false,zaz,hc,Λ]
theorem Eg {at_:Addr}{u:Φ}{k:Addr}{atomic:Bool}{c:Array Θ}{e:Φ}{fz:Nat×Nat}(h1:w.heap[at_.block]?=some (.cells c e fz))(h2:W.heap[ρ at_.block]?=some (.cells (c.map (rv ρ)) e fz)):W.seen P (ra ρ at_) u (ra ρ k) atomic=(w.seen P at_ u k atomic).map λx=>(x.1.map (rv ρ),x.2):=by
 unfold Δ.seen;simp only[ra,h1,h2,rX];split
 ·rfl
 ·cases plainCell P P.depth u k.off with
  |none=>rfl
  |some like=>
   simp only;cases like.bytes? with
   |none=>rfl
   |some bs=>
    simp only[Λ];cases byteOfCell P P.depth u k.off with
    |none=>rfl
    |some β=>
     simp only;split
     ·rfl
     ·cases byteOfCell P P.depth e (at_.off%P.cellsOf e)with
      |none=>rfl
      |some b0=>
       simp only[bind,Except.bind];cases seenCells P c e (bs.length+1) (at_.off/P.cellsOf e*P.bytesOf e+b0+β) (at_.off/P.cellsOf e*P.bytesOf e+b0+β+bs.length)with
       |error m=>rfl
       |ok cells=>
        simp only;cases atomic with
        |false=>rfl
        |true=>
         simp only[if_true];split
         ·rename_i s1 bs1;by_cases q1:s1=at_.off/P.cellsOf e*P.bytesOf e+b0+β<;>by_cases q2:bs1.length=bs.length<;>simp[q1,q2,Except.map,pure,Except.pure]<;>rfl
         ·rfl
theorem JJ {at_:Addr}{u:Φ}{k:Addr}{atomic:Bool}{x:Array Θ×Φ×(Nat×Nat)×Nat×Θ×List (Nat×Nat×List UInt8)}(hx:w.seen P at_ u k atomic=.ok x):∃c e fz,w.heap[at_.block]?=some (.cells c e fz):=by
 cases hh:w.heap[at_.block]? with
 |none=>
  exfalso;unfold Δ.seen at hx;simp only[hh]at hx;split at hx
  ·cases hx
  ·cases h1:plainCell P P.depth u k.off with
   |none=>rw[h1]at hx;cases hx
   |some like=>
    rw[h1]at hx;simp only at hx;cases h2:like.bytes? with
    |none=>rw[h2]at hx;cases hx
    |some bs=>
     rw[h2]at hx;simp only[Λ]at hx;cases h3:byteOfCell P P.depth u k.off with
     |none=>rw[h3]at hx;cases hx
     |some β=>rw[h3]at hx;cases hx
 |some o=>
  cases o with
  |cells c e fz=>exact⟨c,e,fz,rfl⟩
  |_=>
   exfalso;unfold Δ.seen at hx;simp only[hh]at hx;split at hx
   ·cases hx
   ·cases h1:plainCell P P.depth u k.off with
    |none=>rw[h1]at hx;cases hx
    |some like=>
     rw[h1]at hx;simp only at hx;cases h2:like.bytes? with
     |none=>rw[h2]at hx;cases hx
     |some bs=>
      rw[h2]at hx;simp only[Λ]at hx;cases h3:byteOfCell P P.depth u k.off with
      |none=>rw[h3]at hx;cases hx
      |some β=>rw[h3]at hx;cases hx
theorem seen_cells {at_:Addr}{u:Φ}{k:Addr}{atomic:Bool}{x:Array Θ×Φ×(Nat×Nat)×Nat×Θ×List (Nat×Nat×List UInt8)}{c:Array Θ}{e:Φ}{fz:Nat×Nat}(h1:w.heap[at_.block]?=some (.cells c e fz))(hx:w.seen P at_ u k atomic=.ok x):x.1=c∧x.2.1=e∧x.2.2.1=fz:=by
 unfold Δ.seen at hx;simp only[h1]at hx;split at hx
 ·cases hx
 ·cases h1:plainCell P P.depth u k.off with
  |none=>rw[h1]at hx;cases hx
  |some like=>
   rw[h1]at hx;simp only at hx;cases h2:like.bytes? with
   |none=>rw[h2]at hx;cases hx
   |some bs=>
    rw[h2]at hx;simp only[Λ]at hx;cases h3:byteOfCell P P.depth u k.off with
    |none=>rw[h3]at hx;cases hx
    |some β=>
     rw[h3]at hx;simp only at hx;split at hx
     ·cases hx
     ·cases h4:byteOfCell P P.depth e (at_.off%P.cellsOf e)with
      |none=>rw[h4]at hx;cases hx
      |some b0=>
       rw[h4]at hx;simp only[bind,Except.bind]at hx;cases h5:seenCells P c e (bs.length+1) (at_.off/P.cellsOf e*P.bytesOf e+b0+β) (at_.off/P.cellsOf e*P.bytesOf e+b0+β+bs.length)with
       |error m=>rw[h5]at hx;cases hx
       |ok cells=>
        rw[h5]at hx;simp only at hx;cases atomic with
        |false=>simp only[zaU,if_false,pure,Except.pure,zbO]at hx;subst hx;exact⟨rfl,rfl,rfl⟩
        |true=>
         simp only[if_true]at hx;split at hx
         ·split at hx
          ·cases hx
          ·simp only[pure,Except.pure,zbO]at hx;subst hx;exact⟨rfl,rfl,rfl⟩
         ·cases hx
theorem rY (h:Live b0 ρ w W){at_:Addr}{u:Φ}{k:Addr}{atomic:Bool}{v:Θ}{ts:List Addr}(hl:b0≤at_.block)(hx:w.viewLoad P at_ u k atomic=.ok (v,ts)):∃Aq,W.viewLoad P (ra ρ at_) u (ra ρ k) atomic=.ok (v,Aq)∧(∀t∈Aq,t.block=ρ at_.block)∧(∀τ:Rn,rv τ v=v)∧at_.block<w.heap.size:=by
 unfold Δ.viewLoad at hx ⊢;simp only[bind,Except.bind]at hx;cases hs:w.seen P at_ u k atomic with
 |error m=>rw[hs]at hx;cases hx
 |ok x=>
  rw[hs]at hx;obtain⟨c,e,fz,hc⟩:=JJ hs;have hW:=h.live _ _ hl hc;simp only[ro]at hW;rw[Eg hc hW,hs];simp only[Except.map,bind,Except.bind]at hx ⊢;obtain⟨x1,x2,x3,first,like,cells⟩:=x;simp only at hx ⊢;cases ho:like.ofBytes (cells.flatMap λ(x:Nat×Nat×List UInt8)=>(x.2.2.drop (first-x.2.1)).take (first+(like.bytes?.map (·.length)).getD 0-max first x.2.1))with
  |none=>rw[ho]at hx;cases hx
  |some v'=>
   rw[ho]at hx;simp only[pure,Except.pure,zbO,zaf]at hx;obtain⟨rfl,rfl⟩:=hx;refine⟨_,rfl,λt ht=>?_,λτ=>qw ho,(zaj.1 hc).1⟩;simp only[zbo]at ht;obtain⟨y,_,rfl⟩:=ht;rfl
theorem uQ {γ:Type}{F:Array Θ→γ→Except String (Array Θ)}(hF:∀c c' x,F c x=.ok c'→F (c.map (rv ρ)) x=.ok (c'.map (rv ρ))):∀(xs:List γ) {c c':Array Θ},xs.foldlM F c=.ok c'→xs.foldlM F (c.map (rv ρ))=.ok (c'.map (rv ρ))
 |[],c,c',h=>by
  simp only[List.foldlM,pure,Except.pure,zbO]at h ⊢;rw[h]
 |x::xs,c,c',h=>by
  simp only[List.foldlM,bind,Except.bind]at h ⊢;cases h1:F c x with
  |error m=>rw[h1]at h;cases h
  |ok c1=>
   rw[h1]at h;rw[hF _ _ _ h1];exact uQ hF xs h
theorem qx (h:Live b0 ρ w W){at_:Addr}{u:Φ}{k:Addr}{atomic:Bool}{v:Θ}{w1:Δ}{ts:List Addr}(hl:b0≤at_.block)(hx:w.viewStore P at_ u k v atomic=.ok (w1,ts)):∃c c' e fz Aq,w.heap[at_.block]?=some (.cells c e fz)∧w1={ w with heap:=w.heap.setIfInBounds at_.block (.cells c' e fz) }∧(∀τ:Rn,c.map (rv τ)=c→c'.map (rv τ)=c')∧W.viewStore P (ra ρ at_) u (ra ρ k) (rv ρ v) atomic=.ok ({ W with heap:=W.heap.setIfInBounds (ρ at_.block) (.cells (c'.map (rv ρ)) e fz) },Aq)∧∀t∈Aq,t.block=ρ at_.block:=by
 unfold Δ.viewStore at hx ⊢;by_cases ht:(!tight P P.depth u)=true
 ·rw[zab ht]at hx;cases hx
 rw[zaa ht]at hx ⊢;simp only[bind,Except.bind,Ef]at hx ⊢;cases hs:w.seen P at_ u k atomic with
 |error m=>rw[hs]at hx;cases hx
 |ok x=>
  rw[hs]at hx;obtain⟨c,e,fz,hc⟩:=JJ hs;have hW:=h.live _ _ hl hc;simp only[ro]at hW;obtain⟨e1,e2,e3⟩:=seen_cells hc hs;rw[Eg hc hW,hs];simp only[Except.map]at hx ⊢;obtain⟨x1,x2,x3,first,like,cells⟩:=x;simp only at hx e1 e2 e3 ⊢;subst e1;subst e2;subst e3;cases hb:v.bytes? with
  |none=>rw[hb]at hx;cases hx
  |some bytes=>
   rw[hb]at hx;simp only at hx ⊢;by_cases hsz:some bytes.length≠Λ (λx=>x.length) like.bytes?
   ·rw[zab hsz]at hx;cases hx
   rw[zaa hsz]at hx ⊢;split at hx
   ·cases hx
   ·rename_i c' hf;simp only[pure,Except.pure,zbO,zaf]at hx;obtain⟨rfl,rfl⟩:=hx;have hF:∀τ:Rn,_:=λτ=>uQ (ρ:=τ) (λc c' x hq=>by
     obtain⟨i,s,bs⟩:=x;simp only at hq ⊢;by_cases h1:(decide (s<first)||decide (s+bs.length>first+bytes.length))=true
     ·rw[zab h1]at hq;cases hq
     rw[zaa h1]at hq ⊢;by_cases h2:(decide (x3.1≤i)&&decide (i<x3.2))=true
     ·rw[zab h2]at hq;cases hq
     rw[zaa h2]at hq ⊢;rw[zaz];cases hc:c[i]? with
     |none=>rw[hc]at hq;cases hq
     |some old=>
      rw[hc]at hq;simp only[Λ,Hh]at hq ⊢;cases ho:old.ofBytes ((bytes.drop (s-first)).take bs.length)with
      |none=>rw[ho]at hq;cases hq
      |some new=>
       rw[ho]at hq;simp only[pure,Except.pure,zbO]at hq ⊢;subst hq;rw[zct,qw ho]) cells hf
    refine⟨x1,c',x2,x3,cells.map λy=>{ block:=ρ at_.block,off:=y.1 },hc,rfl,λτ Eh=>?_,?_,λt ht=>?_⟩
    ·have:=hF τ;rw[Eh,hf]at this;exact(Except.ok.inj this).symm
    ·rw[hF ρ];rfl
    ·simp only[zbo]at ht;obtain⟨y,_,rfl⟩:=ht;rfl
end
def iE:Obj:= .cells #[] 0 (0,0)
structure xw (P:Ω) (S:Sd) (ρ:Rn) (n:Nat):Prop where
 d:S.d≤n
 g:S.g≤n
 r:ρ.d≤S.d
 p:P.globals.size≤n
 dp:S.d≤P.globals.size
 fg:∀g,S.d≤g→g<S.g→ρ g=g
 fl:∀g,g<S.d→g<ρ.d∨ρ g=g
theorem xw.mono {P:Ω}{S:Sd}{ρ:Rn}{n m:Nat}(h:xw P S ρ n)(hn:n≤m):xw P S ρ m:=⟨zag h.d hn,zag h.g hn,h.r,zag h.p hn,h.dp,h.fg,h.fl⟩
structure WR (P:Ω) (S:Sd) (ρ:Rn) (w W:Δ):Prop where
 live:∀(r:Nat) (o:Obj),S.d≤r→w.heap[r]?=some o→W.heap[ρ r]?=some (ro ρ o)
 ok:∀(r:Nat) (o:Obj),w.heap[r]?=some o→l6 o
 dead:∀(r:Nat),r<S.d→w.heap[r]?=some iE
 closed:∀(r:Nat) (o:Obj),S.d≤r→w.heap[r]?=some o→ro (sg S S.d w.heap.size) o=o
 next:∀r:Nat,w.heap.size≤r→ρ r=W.heap.size+(r-w.heap.size)
 low:∀r:Nat,S.d≤r→r<w.heap.size→ρ r<W.heap.size
 big:xw P S ρ w.heap.size
def Touch (b0:Nat)(ρ:Rn)(w:Δ)(b:Nat):Prop:=∃r,b0≤r∧r<w.heap.size∧b=ρ r
def nU (b0:Nat)(ρ:Rn)(w:Δ)(e:ζ):Prop:=
 match e.loc with
 |.cell a=>Touch b0 ρ w a.block
 |.obj r=>Touch b0 ρ w r∧e.sync=false
 |.mark m=>MOk m∧e.sync=true
 |_=>False
structure DM (b0:Nat) (ρ:Rn) (w w1 W W1:Δ):Prop where
 tape:W1.tape=W.tape
 drawn:W1.drawn+w.drawn=W.drawn+w1.drawn
 os:W1.os=W.os
 output:W1.output=W.output
 size:W1.heap.size+w.heap.size=W.heap.size+w1.heap.size
 frame:∀b:Nat,b<W.heap.size→¬Touch b0 ρ w1 b→W1.heap[b]?=W.heap[b]?
 gK:w.heap.size≤w1.heap.size
 Ei:w1.tape=w.tape
 wos:w1.os=w.os
 Od:w1.output=w.output
 tS:w.drawn≤w1.drawn
section
variable {P:Ω}{S:Sd}{b0:Nat}{ρ:Rn}{w W:Δ}
theorem DM.refl (w W:Δ):DM b0 ρ w w W W:=⟨rfl,rfl,rfl,rfl,rfl,λ_ _ _=>rfl,zac _,rfl,rfl,rfl,zac _⟩
theorem Touch.mono {w w1:Δ}{b:Nat}(h:Touch b0 ρ w b)(hg:w.heap.size≤w1.heap.size):Touch b0 ρ w1 b:=by
 obtain⟨r,hl,hr,rfl⟩:=h;exact⟨r,hl,by omega,rfl⟩
theorem nU.mono {w w1:Δ}{e:ζ}(h:nU b0 ρ w e)(hg:w.heap.size≤w1.heap.size):nU b0 ρ w1 e:=by
 unfold nU at h ⊢;split<;>simp_all
 ·exact h.mono hg
 ·exact h.1.mono hg
theorem DM.trans {w w1 w2 W W1 W2:Δ}(h:DM b0 ρ w w1 W W1)(h2:DM b0 ρ w1 w2 W1 W2):DM b0 ρ w w2 W W2:=by
 refine⟨h2.tape.trans h.tape,by have:=h.drawn;have:=h2.drawn;omega,h2.os.trans h.os,h2.output.trans h.output,by have:=h.size;have:=h2.size;omega,λb hb hn=>?_,zag h.gK h2.gK,h2.Ei.trans h.Ei,h2.wos.trans h.wos,h2.Od.trans h.Od,zag h.tS h2.tS⟩;rw[h2.frame b (by have:=h.size;have:=h.gK;omega) hn];exact h.frame b hb λhx=>hn (hx.mono h2.gK)
def Z9 (H:Array Obj)(b:Nat)(f:Obj→Obj)(H':Array Obj):Prop:=H'.size=H.size∧∀j:Nat,H'[j]?=if j=b then(H[j]?).map f else H[j]?
theorem gf (H:Array Obj)(b:Nat)(f:Obj→Obj):Z9 H b f (H.modify b f):=by
 refine⟨by simp,λj=>?_⟩;rw[Array.getElem?_modify];by_cases h:b=j
 ·subst h;simp
 ·rw[zaa h,zaa (λe=>h (Eq.symm e))]
theorem gU (H:Array Obj)(b:Nat)(o:Obj):Z9 H b (λ_=>o) (H.setIfInBounds b o):=by
 refine⟨by simp,λj=>?_⟩;rw[zcK];by_cases h:b=j
 ·subst h;by_cases hb:b<H.size
  ·simp[hb]
  ·simp[hb]
 ·rw[zaa h,zaa (λe=>h (Eq.symm e))]
theorem gg {H:Array Obj}{r:Nat}{o:Obj}(h:H[r]?=some o):r<H.size:=(zaj.1 h).1
theorem WR.upd (hi:∀a b,ρ a=ρ b→a=b)(h:WR P S ρ w W){b:Nat}{f g:Obj→Obj}{H H':Array Obj}(hb:S.d≤b)
 (c1:Z9 w.heap b f H)(c2:Z9 W.heap (ρ b) g H')
 (hfg:∀o,w.heap[b]?=some o→l6 (f o)∧g (ro ρ o)=ro ρ (f o)∧(ro (sg S S.d w.heap.size) o=o→ro (sg S S.d w.heap.size) (f o)=f o)):
 WR P S ρ { w with heap:=H } { W with heap:=H' }:=by
 refine⟨λr o hl ho=>?_,λr o ho=>?_,λr hr=>?_,λr o hl ho=>?_,λr hr=>?_,λr hl hr=>?_,?_⟩
 ·have h1:=c1.2 r;have h2:=c2.2 (ρ r);simp only at ho ⊢;rw[h1]at ho;rw[h2];by_cases e:r=b
  ·subst e;simp only[if_true]at ho ⊢;obtain⟨o0,h0,rfl⟩:=zas.1 ho;rw[h.live r o0 hl h0];simp[(hfg o0 h0).2.1]
  ·have:ρ r≠ρ b:=λx=>e (hi _ _ x);simp only[e,this,if_false]at ho ⊢;exact h.live r o hl ho
 ·have h1:=c1.2 r;simp only at ho;rw[h1]at ho;by_cases e:r=b
  ·subst e;simp only[if_true]at ho;obtain⟨o0,h0,rfl⟩:=zas.1 ho;exact(hfg o0 h0).1
  ·simp only[e,if_false]at ho;exact h.ok r o ho
 ·have h1:=c1.2 r;simp only;rw[h1,zaa (by omega)];exact h.dead r hr
 ·have h1:=c1.2 r;simp only[c1.1]at ho ⊢;rw[h1]at ho;by_cases e:r=b
  ·subst e;simp only[if_true]at ho;obtain⟨o0,h0,rfl⟩:=zas.1 ho;exact(hfg o0 h0).2.2 (h.closed r o0 hl h0)
  ·simp only[e,if_false]at ho;exact h.closed r o hl ho
 ·simp only at hr ⊢;rw[c2.1];rw[c1.1]at hr ⊢;exact h.next r hr
 ·simp only at hr ⊢;rw[c2.1];rw[c1.1]at hr;exact h.low r hl hr
 ·simp only[c1.1];exact h.big
theorem WR.push (h:WR P S ρ w W){o:Obj}(ho:l6 o)(hs:ro (sg S S.d w.heap.size) o=o):WR P S ρ { w with heap:=w.heap.push o } { W with heap:=W.heap.push (ro ρ o) }:=by
 have Ej:ρ w.heap.size=W.heap.size:=by have:=h.next w.heap.size (zac _);omega
 have hm:=dY (S:=S) (b0:=S.d) (Nat.le_succ w.heap.size);have afk:=h.big.d;refine⟨λr o1 hr h1=>?_,λr o1 h1=>?_,λr hr=>?_,λr o1 hr h1=>?_,λr hr=>?_,λr hl hr=>?_,?_⟩
 ·simp only[zbY]at h1 ⊢;by_cases e:r=w.heap.size
  ·subst e;simp only[if_true,zaE]at h1;subst h1;simp[Ej]
  ·simp only[e,if_false]at h1;have hlt:=gg h1;have:=h.low r hr hlt;rw[zaa (by omega)];exact h.live r o1 hr h1
 ·simp only[zbY]at h1;by_cases e:r=w.heap.size
  ·subst e;simp only[if_true,zaE]at h1;subst h1;exact ho
  ·simp only[e,if_false]at h1;exact h.ok r o1 h1
 ·simp only[zbY];rw[zaa (by omega)];exact h.dead r hr
 ·simp only[zbY,zcu]at h1 ⊢;by_cases e:r=w.heap.size
  ·subst e;simp only[if_true,zaE]at h1;subst h1;exact pB hm.1 hm.2 hs
  ·simp only[e,if_false]at h1;exact pB hm.1 hm.2 (h.closed r o1 hr h1)
 ·simp only[zcu]at hr ⊢;have:=h.next r (by omega);omega
 ·simp only[zcu]at hr ⊢;by_cases e:r=w.heap.size
  ·subst e;omega
  ·have:=h.low r hl (by omega);omega
 ·simp only[zcu];exact h.big.mono (Nat.le_succ _)
theorem WR.Live (h:WR P S ρ w W):Live S.d ρ w W:=⟨h.live⟩
theorem WR.drew (h:WR P S ρ w W)(d D:Nat):WR P S ρ { w with drawn:=d } { W with drawn:=D }:=⟨h.live,h.ok,h.dead,h.closed,h.next,h.low,h.big⟩
theorem uR (h:WR P S ρ w W){a:Addr}{v:Θ}(hl:S.d≤a.block)(hc:w.cell? a=some v):rv (sg S S.d w.heap.size) v=v:=by
 unfold Δ.cell? at hc;cases hh:w.heap[a.block]? with
 |none=>rw[hh]at hc;cases hc
 |some o=>
  have hs:=h.closed _ o hl hh;rw[hh]at hc;cases o with
  |cells c e f=>
   simp only at hc;split at hc
   ·cases hc
   ·simp only[ro,Obj.cells.injEq,zay]at hs;exact bF.1 hs v (zbF hc)
  |_=>cases hc
theorem A7 (h:WR P S ρ w W){a:Addr}(hl:a.block<S.d):w.cell? a=none:=by
 unfold Δ.cell?
 rw[h.dead _ hl];simp[iE]
theorem xy (h:WR P S ρ w W){a:Addr}(hl:S.d≤a.block)(hs:a.block<w.heap.size):W.frozen? (ra ρ a)=w.frozen? a:=by
 unfold Δ.frozen?
 obtain⟨o,ho⟩:∃o,w.heap[a.block]?=some o:=⟨_,zaL hs⟩;have:=h.live _ o hl ho;simp only[ra,ho,this];cases o<;>rfl
theorem Ll (h:WR P S ρ w W){r:Nat}(hl:S.d≤r)(hs:r<w.heap.size):W.shape? (ρ r)=w.shape? r:=by
 unfold Δ.shape?
 obtain⟨o,ho⟩:∃o,w.heap[r]?=some o:=⟨_,zaL hs⟩;have:=h.live _ o hl ho;simp only[ho,this];cases o<;>simp[ro]
theorem WR.setCell (hi:∀a b,ρ a=ρ b→a=b)(h:WR P S ρ w W){a:Addr}{v:Θ}(hl:S.d≤a.block)(hv:rv (sg S S.d w.heap.size) v=v):WR P S ρ (w.setCell a v) (W.setCell (ra ρ a) (rv ρ v)):=by
 refine h.upd hi hl (gf _ _ _) (gf _ _ _) (λo ho=>?_);have cG:=h.ok _ o ho;cases o with
 |cells c e f=>
  refine⟨trivial,?_,λhs=>?_⟩
  ·simp only[ro,ra];by_cases hsp:a.spot.isSome=true<;>simp[hsp,Array.map_setIfInBounds]
  ·simp only[ro,Obj.cells.injEq,zay]at hs ⊢;split
   ·exact hs
   ·rw[zct,hs,hv]
 |view a t=>exact⟨trivial,rfl,λhs=>hs⟩
 |number a t=>exact⟨trivial,rfl,λhs=>hs⟩
 |map a t=>exact⟨trivial,rfl,λhs=>hs⟩
 |_=>exact cG.elim
theorem WR.freeze (hi:∀a b,ρ a=ρ b→a=b)(h:WR P S ρ w W){a:Addr}{n:Nat}(hl:S.d≤a.block):WR P S ρ (w.freeze a n) (W.freeze (ra ρ a) n):=by
 unfold Δ.freeze;by_cases hn:n=0
 ·simp only[hn,if_true];exact h
 ·simp only[hn,if_false];refine h.upd hi hl (gf _ _ _) (gf _ _ _) (λo ho=>?_);have cG:=h.ok _ o ho;cases o with
  |cells c e f=>exact⟨trivial,rfl,λhs=>by simpa[ro]using hs⟩
  |view a t=>exact⟨trivial,rfl,λhs=>hs⟩
  |number a t=>exact⟨trivial,rfl,λhs=>hs⟩
  |map a t=>exact⟨trivial,rfl,λhs=>hs⟩
  |_=>exact cG.elim
theorem wD {H H':Array Obj}{b:Nat}{f g:Obj→Obj}(hb:b0≤b)(hs:b<w.heap.size)(c1:Z9 w.heap b f H)(c2:Z9 W.heap (ρ b) g H'):DM b0 ρ w { w with heap:=H } W { W with heap:=H' }:=
 ⟨rfl,rfl,rfl,rfl,by show H'.size+w.heap.size=W.heap.size+H.size;rw[c1.1,c2.1],λx hx hn=>by
   show H'[x]?=_;rw[c2.2 x,zaa];rintro rfl;exact hn ⟨b,hb,by show b<H.size;rw[c1.1];exact hs,rfl⟩,by show w.heap.size≤H.size;rw[c1.1];omega,rfl,rfl,rfl,zac _⟩
theorem tT {α:Type}:∀(x:Ask α) (w:Δ),w.drawn≤(w.ask x).2.drawn
 |.done a,w=>zac _
 |.ask what range k,w=>by
  unfold Δ.ask;dsimp only;split
  ·exact tT (k 0) w
  ·have:=tT (k ((Question.extern what range).cut (w.tape w.drawn (Question.extern what range)))) { w with drawn:=w.drawn+1 };simp only at this;omega
theorem Lm (c:Sys)(w:Δ):w.drawn≤(w.sys c).2.drawn:=by
 unfold Δ.sys;have:=tT (Kernel.perform c w.os) w;split<;>rename_i h
 ·exact zac _
 ·rw[h]at this;exact this
theorem xz {w w2:Δ}{a:Addr}{v:Θ}{b:Bool}{ts:List Addr}(h:w.farStore P a v b=.ok (w2,ts)):w2.drawn=w.drawn:=by
 unfold Δ.farStore at h;split at h
 ·split at h
  ·rename_i r hv;cases h;unfold Δ.viewStore at hv;simp only[bind,Except.bind]at hv;repeat' split at hv
   all_goals first|(cases hv;done)|(simp only[pure,Except.pure,zbO,zaf]at hv;obtain⟨rfl,rfl⟩:=hv;rfl)|(simp[throw,throwThe,MonadExceptOf.throw]at hv)
  ·cases h
 ·cases h
theorem cY {α:Type}:∀(t:Sem α) (w:Δ) (es:Array ζ) (a:α) (w1:Δ) (dA:Array ζ),t.runT P w es=(.ok a w1,dA)→w.drawn≤w1.drawn
 |.pure _,w,es,a,w1,dA,h=>by simp only[Γ,zaf,zan]at h;rw[h.1.2];exact zac _
 |.load m ad k,w,es,a,w1,dA,h=>by
  simp only[Γ]at h;split at h
  ·exact cY _ _ _ _ _ _ h
  ·split at h
   ·exact cY _ _ _ _ _ _ h
   ·simp at h
 |.store m ad v k,w,es,a,w1,dA,h=>by
  have key:(∃ts,k.runT P (w.setCell ad v) ts=(.ok a w1,dA))∨∃w2 ts Aq,w.farStore P ad v (m== .atomic)=.ok (w2,Aq)∧k.runT P w2 ts=(.ok a w1,dA):=by
   cases v<;>simp only[Γ]at h<;>first
    |(simp at h;done)
    |(split at h
      ·split at h
       ·simp at h
       ·exact .inl ⟨_,h⟩
      ·split at h
       ·exact .inr ⟨_,_,_,‹_›,h⟩
       ·simp at h)
  rcases key with⟨ts,h⟩|⟨w2,ts,Aq,hf,h⟩
  ·have:=cY _ _ _ _ _ _ h;exact this
  ·have:=cY _ _ _ _ _ _ h;rw[xz hf]at this;exact this
 |.new o k,w,es,a,w1,dA,h=>by simp only[Γ]at h;have:=cY _ _ _ _ _ _ h;exact this
 |.shape r k,w,es,a,w1,dA,h=>by simp only[Γ]at h;exact cY _ _ _ _ _ _ h
 |.freeze ad n k,w,es,a,w1,dA,h=>by
  simp only[Γ]at h;have:=cY _ _ _ _ _ _ h;have e:(w.freeze ad n).drawn=w.drawn:=by unfold Δ.freeze;split<;>rfl
  omega
 |.frozen ad k,w,es,a,w1,dA,h=>by simp only[Γ]at h;exact cY _ _ _ _ _ _ h
 |.getObj r k,w,es,a,w1,dA,h=>by
  simp only[Γ]at h;split at h<;>first|(simp at h;done)|exact cY _ _ _ _ _ _ h
 |.setObj r o k,w,es,a,w1,dA,h=>by
  simp only[Γ]at h;split at h
  ·simp at h
  ·have:=cY _ _ _ _ _ _ h;exact this
  ·simp at h
 |.choose q k,w,es,a,w1,dA,h=>by
  simp only[Γ]at h;split at h
  ·exact cY _ _ _ _ _ _ h
  ·have:=cY _ _ _ _ _ _ h;simp only at this;omega
 |.sys c k,w,es,a,w1,dA,h=>by
  simp only[Γ]at h;exact zag (Lm c w) (cY _ _ _ _ _ _ h)
 |.program k,w,es,a,w1,dA,h=>by simp only[Γ]at h;exact cY _ _ _ _ _ _ h
 |.mark m k,w,es,a,w1,dA,h=>by simp only[Γ]at h;exact cY _ _ _ _ _ _ h
 |.halt _,w,es,a,w1,dA,h=>by simp[Γ]at h
theorem wE {α:Type}{P:Ω}:∀(t:Sem α) (w:Δ) (es:Array ζ) (a:α) (w1:Δ) (dA:Array ζ),Tm (λ_=>False) t→t.runT P w es=(.ok a w1,dA)→False
 |.pure a,_,_,_,_,_,h,_=>h
 |.halt _,_,_,_,_,_,_,h=>by simp[Γ]at h
 |.program k,w,es,a,w1,dA,h,hr=>by simp only[Γ]at hr;exact wE _ _ _ _ _ _ (h P) hr
 |.new o k,w,es,a,w1,dA,h,hr=>by simp only[Γ]at hr;exact wE _ _ _ _ _ _ (h _) hr
 |.sys c k,w,es,a,w1,dA,h,hr=>by simp only[Γ]at hr;exact wE _ _ _ _ _ _ (h _) hr
 |.load ..,_,_,_,_,_,h,_=>h.elim
 |.store ..,_,_,_,_,_,h,_=>h.elim
 |.shape ..,_,_,_,_,_,h,_=>h.elim
 |.freeze ..,_,_,_,_,_,h,_=>h.elim
 |.frozen ..,_,_,_,_,_,h,_=>h.elim
 |.getObj ..,_,_,_,_,_,h,_=>h.elim
 |.setObj ..,_,_,_,_,_,h,_=>h.elim
 |.choose ..,_,_,_,_,_,h,_=>h.elim
 |.mark ..,_,_,_,_,_,h,_=>h.elim
theorem wF {α:Type}{P:Ω}:∀(t:Sem α) (w:Δ) (es:Array ζ) (x:Halt) (w1:Δ) (dA:Array ζ),Tm (λ_=>False) t→t.runT P w es=(.halt x w1,dA)→DW x
 |.pure a,_,_,_,_,_,h,_=>h.elim
 |.halt _,_,_,_,_,_,h,hr=>by
  simp only[Γ,zaf,zbs]at hr;obtain⟨⟨rfl,_⟩,_⟩:=hr;exact h
 |.program k,w,es,a,w1,dA,h,hr=>by simp only[Γ]at hr;exact wF _ _ _ _ _ _ (h P) hr
 |.new o k,w,es,a,w1,dA,h,hr=>by simp only[Γ]at hr;exact wF _ _ _ _ _ _ (h _) hr
 |.sys c k,w,es,a,w1,dA,h,hr=>by simp only[Γ]at hr;exact wF _ _ _ _ _ _ (h _) hr
 |.load ..,_,_,_,_,_,h,_=>h.elim
 |.store ..,_,_,_,_,_,h,_=>h.elim
 |.shape ..,_,_,_,_,_,h,_=>h.elim
 |.freeze ..,_,_,_,_,_,h,_=>h.elim
 |.frozen ..,_,_,_,_,_,h,_=>h.elim
 |.getObj ..,_,_,_,_,_,h,_=>h.elim
 |.setObj ..,_,_,_,_,_,h,_=>h.elim
 |.choose ..,_,_,_,_,_,h,_=>h.elim
 |.mark ..,_,_,_,_,_,h,_=>h.elim
def Win (w w1 W:Δ):Prop:=∀j,j<w1.drawn-w.drawn→∀q,W.tape (W.drawn+j) q=w.tape (w.drawn+j) q
theorem dG (hp:Plain P ρ)(JK:∀o,GO P ρ o){α β:Type}:∀(t:Sem α) (t':Sem β) (R:α→β→Prop) (Rs:Nat→α→α→Prop) (w W:Δ) (es es':Array ζ) (a:α) (w1:Δ) (dA:Array ζ),ae P ρ R t t'→(∀n,w.heap.size≤n→ae P (sg S S.d n) (Rs n) t t)→WR P S ρ w W→Win w w1 W→t.runT P w es=(.ok a w1,dA)→∃b W1 iF,t'.runT P W es'=(.ok b W1,iF)∧R a b∧(∀n,w1.heap.size≤n→Rs n a a)∧WR P S ρ w1 W1∧DM S.d ρ w w1 W W1∧∀e∈iF,e∈es'∨nU S.d ρ w1 e
 |.pure a0,t',R,Rs,w,W,es,es',a,w1,dA,h1,h2,hW,hn,hr=>by
  obtain⟨b,rfl,hR⟩:=h1;simp only[Γ,zaf,zan]at hr;obtain⟨⟨rfl,rfl⟩,rfl⟩:=hr;refine⟨b,W,es',rfl,hR,λn hn=>?_,hW,DM.refl _ _,λe he=> .inl he⟩;obtain⟨b',e,hb⟩:=h2 n hn;cases e;exact hb
 |.load m ad k,t',R,Rs,w,W,es,es',a,w1,dA,h1,h2,hW,hn,hr=>by
  have hno:¬ad.block<S.d:=λhlt=>by
   simp only[Γ,A7 hW hlt,Δ.farLoad,hW.dead _ hlt,iE,zaf]at hr;cases hr.1
  have cJ:S.d≤ad.block∧ad.block<w.heap.size:=by
   rcases h2 w.heap.size (zac _)with h|⟨k',e,_⟩
   ·exact absurd h hno
   ·simp only[Sem.load.injEq]at e;exact bY.1 (gZ.1 e.2.1.symm)
  have jA:∀v,(∀n,w.heap.size≤n→rv (sg S S.d n) v=v)→∀n,w.heap.size≤n→ae P (sg S S.d n) (Rs n) (k v) (k v):=λv hv n hn=>by
   rcases h2 n hn with h|⟨k',e,hk⟩
   ·exact absurd h hno
   ·simp only[Sem.load.injEq]at e;obtain⟨_,_,rfl⟩:=e;have:=hk v;rwa[hv n hn]at this
  rcases h1 with h|⟨k',rfl,hk⟩
  ·exact absurd (zaI h hW.big.r) hno
  simp only[Γ]at hr ⊢;cases hc:w.cell? ad with
  |some v=>
   rw[hc]at hr;simp only at hr;rw[A6 hW.Live cJ.1 hc];have fK:=uR hW cJ.1 hc;obtain⟨b,W1,iF,r1,r2,r3,r4,r5,r6⟩:=dG hp JK (k v) _ R Rs w W _ (es'.push ⟨.cell (ra ρ ad),false,m== .atomic⟩) a w1 dA (hk v) (jA v λn hnn=>eY (dY hnn).1 (dY hnn).2 v fK) hW hn hr;refine⟨b,W1,iF,r1,r2,r3,r4,r5,λe he=>?_⟩;rcases r6 e he with h|h
   ·rcases Array.mem_push.1 h with h|rfl
    ·exact .inl h
    ·exact .inr ⟨ad.block,cJ.1,by have:=r5.gK;omega,rfl⟩
   ·exact .inr h
  |none=>
   rw[hc]at hr;simp only at hr;have hcW:W.cell? (ra ρ ad)=none:=by
    unfold Δ.cell? at hc ⊢;obtain⟨o,ho⟩:∃o,w.heap[ad.block]?=some o:=⟨_,zaL cJ.2⟩;have hl:=hW.live _ o cJ.1 ho;simp only[ra,ho,hl]at hc ⊢;cases o<;>simp only[ro]at hc ⊢;split at hc
    ·rename_i hs;simp[hs]
    ·rename_i hs;simp[hs,hc]
   rw[hcW];simp only;cases hf:w.farLoad P ad (m== .atomic)with
   |error h=>rw[hf]at hr;simp at hr
   |ok x=>
    obtain⟨v,ts⟩:=x;rw[hf]at hr;simp only at hr;unfold Δ.farLoad at hf;cases hh:w.heap[ad.block]? with
    |none=>rw[hh]at hf;cases hf
    |some o=>
     rw[hh]at hf;cases o with
     |view at_ u=>
      simp only at hf;cases hv:w.viewLoad P at_ u ad (m== .atomic)with
      |error e=>rw[hv]at hf;cases hf
      |ok x=>
       rw[hv]at hf;simp only[zbO]at hf;subst hf;have fK:=hW.closed _ _ cJ.1 hh;simp only[ro,Obj.view.injEq,zay]at fK;have hat:=bY.1 (gZ.1 fK);obtain⟨Aq,q1,q2,q3,q4⟩:=rY hW.Live hat.1 hv;have hl:=hW.live _ _ cJ.1 hh;simp only[ro]at hl;have:W.farLoad P (ra ρ ad) (m== .atomic)=.ok (v,Aq):=by
        unfold Δ.farLoad;simp only[ra]at hl ⊢;rw[hl];simp only[ra]at q1;dsimp only;rw[q1]
       rw[this];simp only;have hkv:=hk v;rw[q3 ρ]at hkv;obtain⟨b,W1,iF,r1,r2,r3,r4,r5,r6⟩:=dG hp JK (k v) (k' v) R Rs w W _ (es'++Aq.toArray.map (⟨.cell ·,false,m== .atomic⟩)) a w1 dA hkv (jA v λn _=>q3 _) hW hn hr;refine⟨b,W1,iF,r1,r2,r3,r4,r5,λe he=>?_⟩;rcases r6 e he with h|h
       ·rcases Array.mem_append.1 h with h|h
        ·exact .inl h
        ·obtain⟨x,hx,rfl⟩:=Array.mem_map.1 h;exact .inr ⟨at_.block,hat.1,by have:=r5.gK;omega,q2 x (by simpa using hx)⟩
       ·exact .inr h
     |_=>cases hf
 |.store m ad v k,t',R,Rs,w,W,es,es',a,w1,dA,h1,h2,hW,hn,hr=>by
  obtain⟨k',rfl,hk⟩:=h1;have cJ:(S.d≤ad.block∧ad.block<w.heap.size)∧rv (sg S S.d w.heap.size) v=v:=by
   obtain⟨k',e,_⟩:=h2 w.heap.size (zac _);simp only[Sem.store.injEq]at e;exact⟨bY.1 (gZ.1 e.2.1.symm),e.2.2.1.symm⟩
  obtain⟨cJ,hv⟩:=cJ;have jA:∀n,w.heap.size≤n→ae P (sg S S.d n) (Rs n) k k:=λn hn=>by
   obtain⟨k',e,hk⟩:=h2 n hn;simp only[Sem.store.injEq]at e;obtain⟨_,_,_,rfl⟩:=e;exact hk
  have go:∀w2 W2 ts (Aq:Array ζ),WR P S ρ w2 W2→DM S.d ρ w w2 W W2→w2.heap.size=w.heap.size→w2.tape=w.tape→w2.drawn=w.drawn→W2.tape=W.tape→W2.drawn=W.drawn→(∀e∈Aq,e∈es'∨nU S.d ρ w e)→k.runT P w2 ts=(.ok a w1,dA)→
   ∃b W1 iF,k'.runT P W2 Aq=(.ok b W1,iF)∧R a b∧(∀n,w1.heap.size≤n→Rs n a a)∧WR P S ρ w1 W1∧DM S.d ρ w w1 W W1∧∀e∈iF,e∈es'∨nU S.d ρ w1 e:=λw2 W2 ts Aq hW2 hD hsz t1 t2 t3 t4 hts hrun=>by
   obtain⟨b,W1,iF,r1,r2,r3,r4,r5,r6⟩:=dG hp JK k k' R Rs w2 W2 ts Aq a w1 dA hk (by rw[hsz];exact jA) hW2 (by unfold Win;rw[t1,t2,t3,t4];exact hn) hrun;refine⟨b,W1,iF,r1,r2,r3,r4,hD.trans r5,λe he=>?_⟩;rcases r6 e he with h|h
   ·rcases hts e h with h|h
    ·exact .inl h
    ·exact .inr (h.mono (by have:=r5.gK;omega))
   ·exact .inr h
  cases hc:w.cell? ad with
  |some v0=>
   have hcW:=A6 hW.Live cJ.1 hc;have Nv:=xy hW cJ.1 cJ.2;cases Oe:w.frozen? ad with
   |true=>cases v<;>simp[Γ,hc,Oe]at hr
   |false=>
    have key:k.runT P (w.setCell ad v) (es.push ⟨.cell ad,true,m== .atomic⟩)=(.ok a w1,dA)∧(Sem.store m (ra ρ ad) (rv ρ v) k').runT P W es'=k'.runT P (W.setCell (ra ρ ad) (rv ρ v)) (es'.push ⟨.cell (ra ρ ad),true,m== .atomic⟩):=by
     rw[Oe]at Nv;cases v<;>simp only[rv,Γ,hc,Oe,hcW,Nv,zaU,if_false]at hr ⊢<;>first|exact⟨hr,trivial⟩|exact⟨hr,rfl⟩|(simp at hr)|trace_state
    rw[key.2];refine go _ _ _ _ (hW.setCell hp.inj cJ.1 hv) (wD cJ.1 cJ.2 (gf _ _ _) (gf _ _ _)) (by simp[Δ.setCell]) rfl rfl rfl rfl (λe he=>?_) key.1;rcases Array.mem_push.1 he with h|rfl
    ·exact .inl h
    ·exact .inr ⟨ad.block,cJ.1,cJ.2,rfl⟩
  |none=>
   have hcW:W.cell? (ra ρ ad)=none:=by
    unfold Δ.cell? at hc ⊢;obtain⟨o,ho⟩:∃o,w.heap[ad.block]?=some o:=⟨_,zaL cJ.2⟩;have hl:=hW.live _ o cJ.1 ho;simp only[ra,ho,hl]at hc ⊢;cases o<;>simp only[ro]at hc ⊢;split at hc
    ·rename_i hs;simp[hs]
    ·rename_i hs;simp[hs,hc]
   cases hf:w.farStore P ad v (m== .atomic)with
   |error h=>cases v<;>simp[Γ,hc,hf]at hr
   |ok x=>
    obtain⟨w2,ts⟩:=x;have hf0:=hf;unfold Δ.farStore at hf;cases hh:w.heap[ad.block]? with
    |none=>rw[hh]at hf;cases hf
    |some o=>
     rw[hh]at hf;cases o with
     |view at_ u=>
      simp only at hf;cases SI:w.viewStore P at_ u ad v (m== .atomic)with
      |error e=>rw[SI]at hf;cases hf
      |ok x=>
       rw[SI]at hf;simp only[zbO]at hf;subst hf;have fK:=hW.closed _ _ cJ.1 hh;simp only[ro,Obj.view.injEq,zay]at fK;have hat:=bY.1 (gZ.1 fK);obtain⟨c,c',ty,fz,Aq,q1,q2,q3,q4,q5⟩:=qx hW.Live hat.1 SI;have hl:=hW.live _ _ cJ.1 hh;simp only[ro]at hl;have hfW:W.farStore P (ra ρ ad) (rv ρ v) (m== .atomic)=.ok ({ W with heap:=W.heap.setIfInBounds (ρ at_.block) (.cells (c'.map (rv ρ)) ty fz) },Aq):=by
        unfold Δ.farStore;simp only[ra]at hl ⊢;rw[hl];simp only[ra]at q4;dsimp only;rw[q4]
       have key:k.runT P w2 (es++ts.toArray.map (⟨.cell ·,true,m== .atomic⟩))=(.ok a w1,dA)∧(Sem.store m (ra ρ ad) (rv ρ v) k').runT P W es'=k'.runT P { W with heap:=W.heap.setIfInBounds (ρ at_.block) (.cells (c'.map (rv ρ)) ty fz) } (es'++Aq.toArray.map (⟨.cell ·,true,m== .atomic⟩)):=by
        cases v<;>simp only[rv,Γ,hc,hf0,hcW]at hr hfW ⊢<;>first|(rw[hfW];exact⟨hr,rfl⟩)|(simp at hr)
       rw[key.2];subst q2;have Cy:WR P S ρ { w with heap:=w.heap.setIfInBounds at_.block (.cells c' ty fz) } { W with heap:=W.heap.setIfInBounds (ρ at_.block) (.cells (c'.map (rv ρ)) ty fz) }:=by
        refine hW.upd hp.inj hat.1 (gU _ _ _) (gU _ _ _) (λo ho=>⟨trivial,rfl,λhs=>?_⟩);rw[q1]at ho;cases ho;simp only[ro,Obj.cells.injEq,zay]at hs ⊢;exact q3 _ hs
       refine go _ _ _ _ Cy (wD hat.1 hat.2 (gU _ _ _) (gU _ _ _)) (by simp) rfl rfl rfl rfl (λe he=>?_) key.1;rcases Array.mem_append.1 he with h|h
       ·exact .inl h
       ·obtain⟨x,hx,rfl⟩:=Array.mem_map.1 h;exact .inr ⟨at_.block,hat.1,hat.2,q5 x (by simpa using hx)⟩
     |_=>cases hf
 |.new o k,t',R,Rs,w,W,es,es',a,w1,dA,h1,h2,hW,hn,hr=>by
  obtain⟨hno,k',rfl,hk⟩:=h1;have Ej:ρ w.heap.size=W.heap.size:=by have:=hW.next w.heap.size (zac _);omega
  have hs:ro (sg S S.d w.heap.size) o=o:=by
   obtain⟨_,k',e,_⟩:=h2 w.heap.size (zac _);simp only[Sem.new.injEq]at e;exact e.1.symm
  have jA:∀n,w.heap.size+1≤n→ae P (sg S S.d n) (Rs n) (k w.heap.size) (k w.heap.size):=λn hn=>by
   obtain⟨_,k',e,hk⟩:=h2 n (by omega);simp only[Sem.new.injEq]at e;obtain⟨_,rfl⟩:=e;have:=hk w.heap.size;rwa[show sg S S.d n w.heap.size=w.heap.size from bY.2 ⟨hW.big.d,by omega⟩]at this
  simp only[Γ]at hr ⊢;have hkn:=hk w.heap.size;rw[Ej]at hkn;obtain⟨b,W1,iF,r1,r2,r3,r4,r5,r6⟩:=dG hp JK (k w.heap.size) (k' W.heap.size) R Rs { w with heap:=w.heap.push o } { W with heap:=W.heap.push (ro ρ o) } es es' a w1 dA hkn (by simpa using jA) (hW.push hno hs) hn hr;refine⟨b,W1,iF,r1,r2,r3,r4,?_,r6⟩;have g:=r5.gK;have sz:=r5.size;simp only[zcu]at g sz;refine⟨r5.tape,r5.drawn,r5.os,r5.output,by omega,λx hx qa=>?_,by omega,r5.Ei,r5.wos,r5.Od,r5.tS⟩;rw[r5.frame x (by simp only[zcu];omega) qa];simp only[zbY];rw[zaa (by omega)]
 |.shape r k,t',R,Rs,w,W,es,es',a,w1,dA,h1,h2,hW,hn,hr=>by
  obtain⟨k',rfl,hk⟩:=h1;have cJ:S.d≤r∧r<w.heap.size:=by
   obtain⟨k',e,_⟩:=h2 w.heap.size (zac _);simp only[Sem.shape.injEq]at e;exact bY.1 e.1.symm
  have jA:∀x n,w.heap.size≤n→ae P (sg S S.d n) (Rs n) (k x) (k x):=λx n hn=>by
   obtain⟨k',e,hk⟩:=h2 n hn;simp only[Sem.shape.injEq]at e;obtain⟨_,rfl⟩:=e;exact hk x
  simp only[Γ]at hr ⊢;rw[Ll hW cJ.1 cJ.2];exact dG hp JK _ _ R Rs w W es es' a w1 dA (hk _) (jA _) hW hn hr
 |.freeze ad n k,t',R,Rs,w,W,es,es',a,w1,dA,h1,h2,hW,hn,hr=>by
  obtain⟨k',rfl,hk⟩:=h1;have cJ:S.d≤ad.block∧ad.block<w.heap.size:=by
   obtain⟨k',e,_⟩:=h2 w.heap.size (zac _);simp only[Sem.freeze.injEq]at e;exact bY.1 (gZ.1 e.1.symm)
  have jA:∀n,w.heap.size≤n→ae P (sg S S.d n) (Rs n) k k:=λn hn=>by
   obtain⟨k',e,hk⟩:=h2 n hn;simp only[Sem.freeze.injEq]at e;obtain⟨_,_,rfl⟩:=e;exact hk
  simp only[Γ]at hr ⊢;have hsz:(w.freeze ad n).heap.size=w.heap.size:=by unfold Δ.freeze;split<;>simp
  obtain⟨b,W1,iF,r1,r2,r3,r4,r5,r6⟩:=dG hp JK k k' R Rs (w.freeze ad n) (W.freeze (ra ρ ad) n) es es' a w1 dA hk (by rw[hsz];exact jA) (hW.freeze hp.inj cJ.1) (by
   have e1:(w.freeze ad n).tape=w.tape:=by unfold Δ.freeze;split<;>rfl
   have e2:(w.freeze ad n).drawn=w.drawn:=by unfold Δ.freeze;split<;>rfl
   have e3:(W.freeze (ra ρ ad) n).tape=W.tape:=by unfold Δ.freeze;split<;>rfl
   have e4:(W.freeze (ra ρ ad) n).drawn=W.drawn:=by unfold Δ.freeze;split<;>rfl
   unfold Win;rw[e1,e2,e3,e4];exact hn) hr
  refine⟨b,W1,iF,r1,r2,r3,r4,DM.trans ?_ r5,r6⟩;unfold Δ.freeze;by_cases Ln:n=0
  ·simp only[Ln,if_true];exact DM.refl _ _
  ·simp only[Ln,if_false];exact wD cJ.1 cJ.2 (gf _ _ _) (gf _ _ _)
 |.frozen ad k,t',R,Rs,w,W,es,es',a,w1,dA,h1,h2,hW,hn,hr=>by
  obtain⟨k',rfl,hk⟩:=h1;have cJ:S.d≤ad.block∧ad.block<w.heap.size:=by
   obtain⟨k',e,_⟩:=h2 w.heap.size (zac _);simp only[Sem.frozen.injEq]at e;exact bY.1 (gZ.1 e.1.symm)
  have jA:∀x n,w.heap.size≤n→ae P (sg S S.d n) (Rs n) (k x) (k x):=λx n hn=>by
   obtain⟨k',e,hk⟩:=h2 n hn;simp only[Sem.frozen.injEq]at e;obtain⟨_,rfl⟩:=e;exact hk x
  simp only[Γ]at hr ⊢;rw[xy hW cJ.1 cJ.2];exact dG hp JK _ _ R Rs w W es es' a w1 dA (hk _) (jA _) hW hn hr
 |.getObj r k,t',R,Rs,w,W,es,es',a,w1,dA,h1,h2,hW,hn,hr=>by
  obtain⟨k',rfl,hk⟩:=h1;have cJ:S.d≤r∧r<w.heap.size:=by
   obtain⟨k',e,_⟩:=h2 w.heap.size (zac _);simp only[Sem.getObj.injEq]at e;exact bY.1 e.1.symm
  obtain⟨o,ho⟩:∃o,w.heap[r]?=some o:=⟨_,zaL cJ.2⟩;have hl:=hW.live _ o cJ.1 ho;have fK:=hW.closed _ o cJ.1 ho;have cG:=hW.ok _ o ho;have uS:∀n,w.heap.size≤n→ro (sg S S.d n) o=o:=λn hn=>pB (dY hn).1 (dY hn).2 fK;have jA:∀n,w.heap.size≤n→ae P (sg S S.d n) (Rs n) (k o) (k o):=λn hn=>by
   obtain⟨k',e,hk⟩:=h2 n hn;simp only[Sem.getObj.injEq]at e;obtain⟨_,rfl⟩:=e;have:=hk o (.inr (uS n hn));rwa[uS n hn]at this
  have go:∀(ts:Array ζ) (sy:Bool),sy=false→(k o).runT P w ts=(.ok a w1,dA)→∃b W1 iF,(k' (ro ρ o)).runT P W (es'.push ⟨.obj (ρ r),false,sy⟩)=(.ok b W1,iF)∧R a b∧(∀n,w1.heap.size≤n→Rs n a a)∧WR P S ρ w1 W1∧DM S.d ρ w w1 W W1∧∀e∈iF,e∈es'∨nU S.d ρ w1 e:=λts sy hsy hrun=>by
   subst hsy;obtain⟨b,W1,iF,r1,r2,r3,r4,r5,r6⟩:=dG hp JK (k o) (k' (ro ρ o)) R Rs w W ts _ a w1 dA (hk o (JK o)) jA hW hn hrun;refine⟨b,W1,iF,r1,r2,r3,r4,r5,λe he=>?_⟩;rcases r6 e he with h|h
   ·rcases Array.mem_push.1 h with h|rfl
    ·exact .inl h
    ·exact .inr ⟨⟨r,cJ.1,by have:=r5.gK;omega,rfl⟩,rfl⟩
   ·exact .inr h
  simp only[Γ,ho,hl]at hr ⊢;cases o with
  |cells c e f=>simp at hr
  |view x t=>exact go _ _ rfl hr
  |number x t=>exact go _ _ rfl hr
  |map x t=>exact go _ _ rfl hr
  |_=>exact cG.elim
 |.setObj r o k,t',R,Rs,w,W,es,es',a,w1,dA,h1,h2,hW,hn,hr=>by
  obtain⟨Tv,k',rfl,hk⟩:=h1;have cJ:(S.d≤r∧r<w.heap.size)∧ro (sg S S.d w.heap.size) o=o:=by
   obtain⟨_,k',e,_⟩:=h2 w.heap.size (zac _);simp only[Sem.setObj.injEq]at e;exact⟨bY.1 e.1.symm,e.2.1.symm⟩
  obtain⟨cJ,fK⟩:=cJ;have jA:∀n,w.heap.size≤n→ae P (sg S S.d n) (Rs n) k k:=λn hn=>by
   obtain⟨_,k',e,hk⟩:=h2 n hn;simp only[Sem.setObj.injEq]at e;obtain⟨_,_,rfl⟩:=e;exact hk
  obtain⟨o0,ho⟩:∃o,w.heap[r]?=some o:=⟨_,zaL cJ.2⟩;have hl:=hW.live _ o0 cJ.1 ho;have cG:=hW.ok _ o0 ho;have Cy:WR P S ρ { w with heap:=w.heap.setIfInBounds r o } { W with heap:=W.heap.setIfInBounds (ρ r) (ro ρ o) }:=by
   refine hW.upd hp.inj cJ.1 (gU _ _ _) (gU _ _ _) (λo1 _=>⟨?_,rfl,λ_=>fK⟩);cases o<;>first|exact Tv.elim|trivial
  have go:∀(ts:Array ζ),k.runT P { w with heap:=w.heap.setIfInBounds r o } ts=(.ok a w1,dA)→∃b W1 iF,k'.runT P { W with heap:=W.heap.setIfInBounds (ρ r) (ro ρ o) } (es'.push ⟨.obj (ρ r),true,false⟩)=(.ok b W1,iF)∧R a b∧(∀n,w1.heap.size≤n→Rs n a a)∧WR P S ρ w1 W1∧DM S.d ρ w w1 W W1∧∀e∈iF,e∈es'∨nU S.d ρ w1 e:=λts hrun=>by
   obtain⟨b,W1,iF,r1,r2,r3,r4,r5,r6⟩:=dG hp JK k k' R Rs _ _ ts (es'.push ⟨.obj (ρ r),true,false⟩) a w1 dA hk (by simpa using jA) Cy hn hrun;refine⟨b,W1,iF,r1,r2,r3,r4,(wD cJ.1 cJ.2 (gU _ _ _) (gU _ _ _)).trans r5,λe he=>?_⟩;rcases r6 e he with h|h
   ·rcases Array.mem_push.1 h with h|rfl
    ·exact .inl h
    ·exact .inr ⟨⟨r,cJ.1,by have:=r5.gK;simp at this;omega,rfl⟩,rfl⟩
   ·exact .inr h
  have hch:o.isChan=false∧(ro ρ o).isChan=false:=by cases o<;>first|exact Tv.elim|exact⟨rfl,rfl⟩
  simp only[Γ,ho,hl,hch.1,hch.2]at hr ⊢;cases o0 with
  |cells c e f=>simp at hr
  |view x t=>exact go _ hr
  |number x t=>exact go _ hr
  |map x t=>exact go _ hr
  |_=>exact cG.elim
 |.choose q k,t',R,Rs,w,W,es,es',a,w1,dA,h1,h2,hW,hn,hr=>by
  obtain⟨k',rfl,hk⟩:=h1;have jA:∀x n,w.heap.size≤n→ae P (sg S S.d n) (Rs n) (k x) (k x):=λx n hn=>by
   obtain⟨k',e,hk⟩:=h2 n hn;simp only[Sem.choose.injEq]at e;obtain⟨_,rfl⟩:=e;exact hk x
  simp only[Γ]at hr ⊢;by_cases hq:q.forced=true
  ·simp only[hq,if_true]at hr ⊢;exact dG hp JK _ _ R Rs w W es es' a w1 dA (hk _) (jA _) hW hn hr
  ·simp only[hq,if_false,zaU]at hr ⊢;have hd:=cY _ _ _ _ _ _ hr;simp only at hd;have h0:=hn 0 (by omega) q;simp only[Nat.add_zero]at h0;rw[h0];obtain⟨b,W1,iF,r1,r2,r3,r4,r5,r6⟩:=dG hp JK (k (q.cut (w.tape w.drawn q))) (k' (q.cut (w.tape w.drawn q))) R Rs { w with drawn:=w.drawn+1 } { W with drawn:=W.drawn+1 } es es' a w1 dA (hk _) (jA _) (hW.drew _ _) (λj hj qq=>by
    have:=hn (j+1) (by simp only at hj;omega) qq;show W.tape (W.drawn+1+j) qq=w.tape (w.drawn+1+j) qq;rw[show W.drawn+1+j=W.drawn+(j+1) by omega,show w.drawn+1+j=w.drawn+(j+1) by omega];exact this) hr
   exact⟨b,W1,iF,r1,r2,r3,r4,⟨r5.tape,by have:=r5.drawn;simp only at this;omega,r5.os,r5.output,r5.size,r5.frame,r5.gK,r5.Ei,r5.wos,r5.Od,by have:=r5.tS;simp only at this;omega⟩,r6⟩
 |.sys c k,t',R,Rs,w,W,es,es',a,w1,dA,h1,h2,hW,hn,hr=>(wE (.sys c k) _ _ _ _ _ h1 hr).elim
 |.program k,t',R,Rs,w,W,es,es',a,w1,dA,h1,h2,hW,hn,hr=>by
  obtain⟨k',rfl,hk⟩:=h1;have jA:∀n,w.heap.size≤n→ae P (sg S S.d n) (Rs n) (k P) (k P):=λn hn=>by
   obtain⟨k',e,hk⟩:=h2 n hn;simp only[Sem.program.injEq]at e;obtain rfl:=e;exact hk
  simp only[Γ]at hr ⊢;exact dG hp JK (k P) (k' P) R Rs w W es es' a w1 dA hk jA hW hn hr
 |.mark m k,t',R,Rs,w,W,es,es',a,w1,dA,h1,h2,hW,hn,hr=>by
  obtain⟨hm,k',rfl,hk⟩:=h1;have jA:∀n,w.heap.size≤n→ae P (sg S S.d n) (Rs n) k k:=λn hn=>by
   obtain⟨_,k',e,hk⟩:=h2 n hn;simp only[Sem.mark.injEq]at e;obtain⟨_,rfl⟩:=e;exact hk
  simp only[Γ]at hr ⊢;obtain⟨b,W1,iF,r1,r2,r3,r4,r5,r6⟩:=dG hp JK k k' R Rs w W _ (es'.push ⟨.mark m,false,true⟩) a w1 dA hk jA hW hn hr;refine⟨b,W1,iF,r1,r2,r3,r4,r5,λe he=>?_⟩;rcases r6 e he with h|h
  ·rcases Array.mem_push.1 h with h|rfl
   ·exact .inl h
   ·exact .inr ⟨hm,rfl⟩
  ·exact .inr h
 |.halt h,t',R,Rs,w,W,es,es',a,w1,dA,h1,h2,hW,hn,hr=>by simp[Γ]at hr
end
end Go.Ren
