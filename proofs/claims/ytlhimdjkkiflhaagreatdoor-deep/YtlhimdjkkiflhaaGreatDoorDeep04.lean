import GoSem.Step
import Derived.Test.YtlhimdjkkiflhaaGreatDoorDeep03
namespace Go.Ren
open Go
def plainV:Value→Bool
 | .bool _| .int _ _| .float _ _| .complex _ _ _| .string _| .nilFunc | .nilIface=>true
 | .pointer none| .slice none _ _| .map none| .chan none=>true
 |_=>false
theorem plainV_bare {v:Value}(h:plainV v=true):∀ ρ:Rn,rv ρ v=v:=by
 intro ρ
 cases v with
 |pointer a=>cases a<;>simp_all [plainV,rv]
 |slice a=>cases a<;>simp_all [plainV,rv]
 |map a=>cases a<;>simp_all [plainV,rv]
 |chan a=>cases a<;>simp_all [plainV,rv]
 |_=>simp_all [plainV,rv]
def okX (S:Sd):Operand→Bool
 | .tmp _=>true
 | .const v=>plainV v
 | .global g=>decide (S.d≤g)&&decide (g<S.g)
 | .func f=>S f
def okBuiltin:Builtin→Bool
 | .append | .copy | .len | .max | .min | .unsafeSliceData | .unsafeString=>true
 |_=>false
def okConv (P:Program)(src dst:TypeId):Bool:=
 match P.underlying src,P.underlying dst with
 |some (.int _),some (.int _)=>true
 |some (.int _),some .string=>true
 |some (.slice e),some .string=>match P.underlying e with|some (.int .u8)=>true|_=>false
 |some (.pointer _),some .unsafePointer=>true
 |some .unsafePointer,some (.pointer _)=>true
 |_,_=>false
def okOp (P:Program)(F:FuncId→Bool)(S:Sd):Op→Bool
 | .move x| .assign x| .box _ x| .nilCheck x| .unOp _ _ x| .makeInterface _ x| .field _ x _| .fieldAddr _ x _| .extract x _=>okX S x
 | .pick c a b=>okX S c&&okX S a&&okX S b
 | .alloc _=>true
 | .build _ parts=>parts.all fun p=>okX S p.2
 | .buildSlice _ _ parts=>parts.all fun p=>okX S p.2
 | .load _ (.global g)=>decide (g<S.d)||(decide (S.d≤g)&&decide (g<S.g))
 | .load _ a=>okX S a
 | .store _ a x=>okX S a&&okX S x
 | .binOp _ _ x y _=>okX S x&&okX S y
 | .convert src dst x=>okX S x&&okConv P src dst
 | .makeMap _ r=>r.all (okX S)
 | .makeSlice _ l c=>okX S l&&okX S c
 | .slice _ x lo hi mx=>okX S x&&lo.all (okX S)&&hi.all (okX S)&&mx.all (okX S)
 | .indexAddr _ x i| .index _ x i=>okX S x&&okX S i
 | .lookup _ x i _=>okX S x&&okX S i
 | .mapUpdate _ m k x=>okX S m&&okX S k&&okX S x
 | .typeAssert x _ _ ok=>okX S x&&ok
 | .panic x=>okX S x
 | .call c=>(c.args.all (okX S))&&match c.callee with
   | .value (.func f)=>F f
   | .value (.tmp _)=>true
   | .builtin b=>okBuiltin b
   |_=>false
 |_=>false
def FV (S:Sd)(v:Value):Prop:=∀ fn a b,v= .func fn a b→∃ g,fn= .func g∧S g=true
def okFun (P:Program)(S:Sd)(f:FuncId):Prop:=∃ fn,P.funcs[f]? =some fn∧(fn.name== "runtime.NumGoroutine")=false∧
 (fn.body.isNone=false∨(fn.body.isNone=true∧Extern.findNext fn=none∧∃ e,Extern.find fn=some e∧∀ (ρ:Rn) (args:Array Value),Plain P ρ→FixS S ρ→Eqv P ρ (VV ρ) (e args) (e (args.map (rv ρ)))))
def NN (F:FuncId→Bool)(ρ:Rn):Next→Next→Prop
 | .value v,n=>n= .value (rv ρ v)
 | .skip,n=>n= .skip
 | .enter f args,n=>F f=true∧n= .enter f (args.map (rv ρ))
 |_,_=>False
section
variable {P:Program} {ρ:Rn} {F:FuncId→Bool} {S:Sd} {α β:Type}
theorem e_v {s s':Sem Value}(h:Eqv P ρ (VV ρ) s s'):Eqv P ρ (NN F ρ) (do pure (.value (←s))) (do pure (.value (←s'))):=by
 refine Eqv.bind h ?_
 rintro v _ rfl
 exact Eqv.pure rfl
theorem e_u {s s':Sem Unit}(h:Eqv P ρ Eq s s'):Eqv P ρ (NN F ρ) (do s;pure .skip) (do s';pure .skip):=by
 refine Eqv.bind h ?_
 rintro v _ rfl
 exact Eqv.pure rfl
theorem e_callFunc (hp:Plain P ρ)(hx:FixS S ρ)(f:FuncId)(args:Array Value)(hF:F f=true)(hf:okFun P S f):Eqv P ρ (NN F ρ) (callFunc f args) (callFunc f (args.map (rv ρ))):=by
 obtain⟨fn,h1,h2,h3⟩:=hf
 unfold callFunc
 refine Eqv.bind e_program ?_
 rintro _ _ ⟨rfl,rfl⟩
 rw[h1]
 simp only[h2,Bool.false_eq_true,if_false]
 rcases h3 with h3|⟨h3,h4,e,h5,h6⟩
 ·simp only[h3,Bool.false_eq_true,if_false]
  exact Eqv.pure ⟨hF,rfl⟩
 ·simp only[h3,if_true,h4,h5]
  refine Eqv.bind (e_mark (.extern f) trivial) ?_
  rintro _ _ rfl
  exact e_v (h6 ρ args hp hx)
theorem e_seenAt (a:Addr):Eqv P ρ (AA ρ) (Conv.seenAt a) (Conv.seenAt (ra ρ a)):=by
 unfold Conv.seenAt
 refine Eqv.bind (e_viewAt a.block) ?_
 rintro x _ rfl
 cases x with
 |none=>exact Eqv.pure rfl
 |some z=>
  obtain⟨s,u⟩:=z
  simp only[Option.map]
  have e1:(ra ρ a).off=a.off:=rfl
  have e2:(ra ρ a).spot=a.spot:=rfl
  have e3:(ra ρ s).spot=s.spot:=rfl
  have e4:(ra ρ s).off=s.off:=rfl
  rw[e1,e2,e3,e4]
  refine Eqv.same_ite (fun _=>Eqv.pure rfl) (fun _=>?_)
  refine Eqv.same_ite (fun _=>e_no (Eqv.unsupported _)) (fun _=>?_)
  refine Eqv.bind e_program ?_
  rintro _ _ ⟨rfl,rfl⟩
  split
  ·refine Eqv.bind (e_shape s.block) ?_
   rintro sh _ rfl
   cases sh with
   |none=>exact Eqv.unsupported _
   |some y=>
    obtain⟨e,m⟩:=y
    dsimp only
    refine Eqv.same_ite (fun _=>e_no (Eqv.unsupported _)) (fun _=>?_)
    split
    ·exact Eqv.pure rfl
    ·exact Eqv.unsupported _
  ·exact Eqv.unsupported _
theorem e_cellsIn (r:Nat):Eqv P ρ Eq (cellsIn r) (cellsIn (ρ r)):=by
 unfold cellsIn
 refine Eqv.bind (e_shape r) ?_
 rintro sh _ rfl
 cases sh with
 |some x=>exact Eqv.pure rfl
 |none=>
  refine Eqv.bind (e_getObj r) ?_
  rintro o _ ⟨rfl,_⟩
  cases o<;>simp only[ro]<;>first|exact Eqv.pure rfl|(simp only[Array.size_map];exact Eqv.pure rfl)
theorem e_unsafePointer1 (t:TypeId)(src dst:TypeId)(x:Value)(hs:P.underlying src=some (.pointer t))(hd:P.underlying dst=some .unsafePointer):Eqv P ρ (VV ρ) (Conv.unsafePointer src dst x) (Conv.unsafePointer src dst (rv ρ x)):=by
 unfold Conv.unsafePointer
 refine Eqv.bind (e_underlying src) ?_
 rintro d d' ⟨e,h⟩
 subst e
 rw[hs] at h;cases h
 refine Eqv.bind (e_underlying dst) ?_
 rintro d d' ⟨e,h⟩
 subst e
 rw[hd] at h;cases h
 cases x with
 |pointer a=>
  cases a with
  |none=>simp only[rv,Option.map];exact Eqv.pure (by simp[VV,rv])
  |some a=>
   simp only[rv,Option.map]
   refine Eqv.bind (e_seenAt a) ?_
   rintro s _ rfl
   refine Eqv.bind (e_cellsIn s.block) ?_
   rintro q _ rfl
   have e1:(ra ρ s).off=s.off:=rfl
   have e2:(ra ρ s).spot=s.spot:=rfl
   rw[e1,e2]
   refine Eqv.bind (e_sizeOf t) ?_
   rintro n _ rfl
   refine Eqv.same_ite (fun _=>?_) (fun _=>Eqv.pure (by simp[VV,rv]))
   refine Eqv.bind (e_newObj (.view s t)) ?_
   rintro r _ rfl
   exact Eqv.pure (by simp[VV,rv,ra])
 |_=>simp only[rv];exact Eqv.stuck _
theorem e_unsafePointer2 (t:TypeId)(src dst:TypeId)(x:Value)(hs:P.underlying src=some .unsafePointer)(hd:P.underlying dst=some (.pointer t)):Eqv P ρ (VV ρ) (Conv.unsafePointer src dst x) (Conv.unsafePointer src dst (rv ρ x)):=by
 unfold Conv.unsafePointer
 refine Eqv.bind (e_underlying src) ?_
 rintro d d' ⟨e,h⟩
 subst e
 rw[hs] at h;cases h
 refine Eqv.bind (e_underlying dst) ?_
 rintro d d' ⟨e,h⟩
 subst e
 rw[hd] at h;cases h
 cases x with
 |pointer a=>
  cases a with
  |none=>simp only[rv,Option.map];exact Eqv.pure (by simp[VV,rv])
  |some a=>
   simp only[rv,Option.map]
   refine Eqv.bind (e_seenAt a) ?_
   rintro s _ rfl
   refine Eqv.bind (e_sizeOf t) ?_
   rintro n _ rfl
   refine Eqv.bind (e_variablesAt s t 1) ?_
   rintro b _ rfl
   refine Eqv.same_ite (fun _=>Eqv.pure (by simp[VV,rv])) (fun _=>?_)
   refine Eqv.bind (e_shape s.block) ?_
   rintro sh _ rfl
   cases sh with
   |none=>exact Eqv.unsupported _
   |some y=>
    obtain⟨e,m⟩:=y
    dsimp only
    refine Eqv.bind e_program ?_
    rintro _ _ ⟨rfl,rfl⟩
    refine Eqv.bind e_program ?_
    rintro _ _ ⟨rfl,rfl⟩
    refine Eqv.same_ite (fun _=>e_no (Eqv.unsupported _)) (fun _=>?_)
    refine Eqv.bind (e_newObj (.view s t)) ?_
    rintro r _ rfl
    exact Eqv.pure (by simp[VV,rv,ra])
 |_=>simp only[rv];exact Eqv.stuck _
theorem e_bytesToString (x:Value):Eqv P ρ (VV ρ) (Conv.bytesToString x) (Conv.bytesToString (rv ρ x)):=by
 unfold Conv.bytesToString
 cases x with
 |slice a n c=>
  cases a with
  |none=>simp only[rv,Option.map];exact Eqv.pure (by simp[VV,rv])
  |some a=>
   simp only[rv,Option.map]
   refine Eqv.bind (e_loadCells a n) ?_
   rintro cs _ rfl
   refine Eqv.bind (R:=Eq) ?_ (by rintro s _ rfl;exact Eqv.pure (by simp[VV,rv]))
   haveI:=lawful
   rw[←Array.forIn_toList,←Array.forIn_toList,Array.toList_map]
   generalize ByteArray.empty=s0
   induction cs.toList generalizing s0 with
   |nil=>exact Eqv.pure rfl
   |cons v l ih=>
    simp only[List.map_cons,List.forIn_cons]
    cases v with
    |int k m=>
     simp only[rv]
     cases k<;>first|exact e_no (Eqv.stuck _)|exact ih _
    |_=>simp only[rv];exact e_no (Eqv.stuck _)
 |_=>simp only[rv];exact Eqv.stuck _
theorem alv_floatToInt (k:FloatKind)(b:Nat)(d:IntKind):Alv P Bare (Conv.floatToInt k b d):=by
 have bi:∀ k n,Bare (.int k n):=fun k n ρ=>by simp[rv]
 unfold Conv.floatToInt
 split
 ·dsimp only
  split
  ·exact bi _ _
  ·exact fun n=>bi _ _
 ·exact fun n=>bi _ _
theorem e_convert (src dst:TypeId)(x:Value)(h:okConv P src dst=true):Eqv P ρ (VV ρ) (convert src dst x) (convert src dst (rv ρ x)):=by
 unfold okConv at h
 split at h
 ·rename_i k k' hs hd
  unfold convert
  refine Eqv.bind (e_underlying src) ?_
  rintro d d' ⟨e,h1⟩
  subst e
  rw[hs] at h1;cases h1
  refine Eqv.bind (e_underlying dst) ?_
  rintro d d' ⟨e,h1⟩
  subst e
  rw[hd] at h1;cases h1
  cases x with
  |int k2 n=>simp only[rv];exact Eqv.pure (by simp[VV,rv])
  |float k2 n=>simp only[rv];exact e_bare (alv_floatToInt _ _ _)
  |pointer a=>cases a<;>simp only[rv,Option.map]<;>exact Eqv.unsupported _
  |_=>simp only[rv];exact Eqv.unsupported _
 ·rename_i k hs hd
  unfold convert
  refine Eqv.bind (e_underlying src) ?_
  rintro d d' ⟨e,h1⟩
  subst e
  rw[hs] at h1;cases h1
  refine Eqv.bind (e_underlying dst) ?_
  rintro d d' ⟨e,h1⟩
  subst e
  rw[hd] at h1;cases h1
  cases x with
  |int k2 n=>simp only[rv];exact Eqv.pure (by simp[VV,rv])
  |string b=>simp only[rv];exact Eqv.pure (by simp[VV,rv])
  |pointer a=>cases a<;>simp only[rv,Option.map]<;>exact Eqv.unsupported _
  |_=>simp only[rv];exact Eqv.unsupported _
 ·rename_i e1 hs hd
  unfold convert
  refine Eqv.bind (e_underlying src) ?_
  rintro d d' ⟨e,h1⟩
  subst e
  rw[hs] at h1;cases h1
  refine Eqv.bind (e_underlying dst) ?_
  rintro d d' ⟨e,h1⟩
  subst e
  rw[hd] at h1;cases h1
  have he:P.underlying e1=some (.int .u8):=by
   split at h
   ·assumption
   ·cases h
  have tail:∀ y y':Value,Eqv P ρ (VV ρ) (Conv.bytesToString y) (Conv.bytesToString y')→Eqv P ρ (VV ρ)
   (underlying e1>>=fun d=>match d with| .int .u8=>Conv.bytesToString y| .int .i32=>Conv.runesToString y|_=>stuck "Convert: a slice of what to string?")
   (underlying e1>>=fun d=>match d with| .int .u8=>Conv.bytesToString y'| .int .i32=>Conv.runesToString y'|_=>stuck "Convert: a slice of what to string?"):=fun y y' hy=>by
   refine Eqv.bind (e_underlying e1) ?_
   rintro d d' ⟨e,h1⟩
   subst e
   rw[he] at h1;cases h1
   exact hy
  have hb:=e_bytesToString (P:=P) (ρ:=ρ) x
  cases x<;>simp only[rv] at hb ⊢<;>first|exact Eqv.pure (by simp[VV,rv])|exact tail _ _ hb
 ·rename_i t hs hd
  have:=e_unsafePointer1 (ρ:=ρ) t src dst x hs hd
  unfold convert
  refine Eqv.bind (e_underlying src) ?_
  rintro d d' ⟨e,h1⟩
  subst e
  rw[hs] at h1;cases h1
  refine Eqv.bind (e_underlying dst) ?_
  rintro d d' ⟨e,h1⟩
  subst e
  rw[hd] at h1;cases h1
  cases x<;>simp only[rv] at this ⊢<;>exact this
 ·rename_i t hs hd
  have:=e_unsafePointer2 (ρ:=ρ) t src dst x hs hd
  unfold convert
  refine Eqv.bind (e_underlying src) ?_
  rintro d d' ⟨e,h1⟩
  subst e
  rw[hs] at h1;cases h1
  refine Eqv.bind (e_underlying dst) ?_
  rintro d d' ⟨e,h1⟩
  subst e
  rw[hd] at h1;cases h1
  cases x<;>simp only[rv] at this ⊢<;>exact this
 ·cases h
variable {ev ev':Operand→Value}
theorem parts_eq {parts:Array (Nat×Operand)}(h:parts.all (fun p=>okX S p.2)=true)(he:∀ x,okX S x=true→ev' x=rv ρ (ev x)):
 (parts.map fun(p:Nat×Operand)=>(p.1,ev' p.2))=(parts.map fun(p:Nat×Operand)=>(p.1,ev p.2)).map fun x=>(x.1,rv ρ x.2):=by
 rw[Array.map_map]
 apply Array.ext
 ·simp
 ·intro i h1 h2
  simp only[Array.getElem_map,Function.comp]
  rw[he _ (by have:=Array.all_eq_true.1 h i (by simpa using h1);simpa using this)]
theorem args_eq {args:Array Operand}(h:args.all (okX S)=true)(he:∀ x,okX S x=true→ev' x=rv ρ (ev x)):args.map ev'=(args.map ev).map (rv ρ):=by
 rw[Array.map_map]
 apply Array.ext
 ·simp
 ·intro i h1 h2
  simp only[Array.getElem_map,Function.comp]
  exact he _ (Array.all_eq_true.1 h i (by simpa using h1))
theorem opt_eq {x:Option Operand}(h:x.all (okX S)=true)(he:∀ x,okX S x=true→ev' x=rv ρ (ev x)):x.map ev'=(x.map ev).map (rv ρ):=by
 cases x with
 |none=>rfl
 |some x=>simp only[Option.map,Option.all_some] at h ⊢;rw[he x h]
theorem e_loadGlobal (t:TypeId)(g:Nat)(hg:g<ρ.d∨ρ g=g):Eqv P ρ (VV ρ) (Instr.loadAt t (.pointer (some ⟨g,0,none⟩))) (Instr.loadAt t (.pointer (some ⟨g,0,none⟩))):=by
 rcases hg.symm with hg|hg
 ·have e:rv ρ (.pointer (some ⟨g,0,none⟩))= .pointer (some ⟨g,0,none⟩):=by simp[rv,ra,hg]
  have:=e_loadAt (P:=P) (ρ:=ρ) t (.pointer (some ⟨g,0,none⟩))
  rwa[e] at this
 unfold Instr.loadAt
 refine Eqv.bind (R:=fun a b=>a=⟨g,0,none⟩∧b=⟨g,0,none⟩) ⟨_,rfl,rfl,rfl⟩ ?_
 rintro _ _ ⟨rfl,rfl⟩
 unfold loadVar
 refine Eqv.bind (e_isAgg t) ?_
 rintro b _ rfl
 refine Eqv.same_ite (fun _=>?_) (fun _=>Or.inl hg)
 refine Eqv.bind (e_sizeOf t) ?_
 rintro n _ rfl
 refine Eqv.bind (R:=fun x y=>x=#[]∧y=#[]) ?_ ?_
 ·unfold loadCells
  cases n with
  |zero=>exact Eqv.pure ⟨rfl,rfl⟩
  |succ n=>exact Or.inl (by simpa[Addr.add] using hg)
 ·rintro _ _ ⟨rfl,rfl⟩
  exact Eqv.pure (by simp[VV,rv])
theorem e_instrPanic {β:Type}{R:Value→β→Prop}(x:Value){s':Sem β}:Eqv P ρ R (Instr.panic x) s':=by
 unfold Instr.panic
 cases x with
 |iface t v=>exact e_panic _
 |nilIface=>
  refine fun y=>?_
  have hp:Tm (fun _:Value=>False) (runtimePanic .panicNil):=by
   unfold runtimePanic
   refine Tm.bind (Q:=fun _=>True) (fun q _=>?_) (fun p=>trivial)
   dsimp only
   refine Tm.bind (Q:=fun _=>True) (fun t _=>?_) ?_
   ·unfold newVar newRow
    refine Tm.bind (Q:=fun _=>True) ?_ ?_
    ·intro r _
     show Soft (.panic _)
     trivial
    ·exact fun r=>trivial
   ·unfold elemOf underlying
    refine Tm.bind (Q:=fun _=>True) (fun d _=>?_) (Tm.bind (Q:=fun _=>True) (fun p' _=>?_) (fun p=>trivial))
    ·cases d<;>trivial
    ·split<;>trivial
  cases y with
  |strings env=>
   intro p
   show Tm _ (if _ then _ else _)
   split
   ·trivial
   ·exact hp
  |_=>trivial
 |_=>exact Eqv.stuck _
theorem e_execOp (hp:Plain P ρ)(hf:FixS S ρ)(hSF:∀ g,S g=true→F g=true)(hF:∀ f,F f=true→okFun P S f)(o:Oper)(ho:okOp P F S o.op=true)
 (he:∀ x,okX S x=true→ev' x=rv ρ (ev x))(hg:∀ x,okX S x=true→GV P ρ (ev x))(hv:∀ x,okX S x=true→FV S (ev x))
 (hgl:∀ g,ev (.global g)= .pointer (some ⟨g,0,none⟩))(hgl':∀ g,ev' (.global g)= .pointer (some ⟨g,0,none⟩))(hfn:∀ f,ev (.func f)= .func (.func f) #[] #[])(hfn':∀ f,ev' (.func f)= .func (.func f) #[] #[]):
 Eqv P ρ (NN F ρ) (execOp ev o) (execOp ev' o):=by
 obtain⟨dst,op,type,pos,after,guard⟩:=o
 simp only at ho
 unfold execOp
 dsimp only
 cases op<;>simp only[okOp,Bool.and_eq_true,Bool.false_eq_true] at ho<;>dsimp only
 case move x=>rw[he x ho];exact Eqv.pure rfl
 case assign x=>rw[he x ho];exact Eqv.pure rfl
 case pick c a b=>
  rw[he c ho.1.1,he a ho.1.2,he b ho.2]
  refine Eqv.bind (e_asBool _) ?_
  rintro q _ rfl
  exact Eqv.pure (by cases q<;>rfl)
 case alloc t=>exact e_v (e_alloc hp t)
 case box t x=>rw[he x ho];exact e_v (e_box t _)
 case build t parts=>rw[parts_eq ho he];exact e_v (e_build hp t _)
 case buildSlice t n parts=>rw[parts_eq ho he];exact e_v (e_buildSlice hp t n _)
 case load t a=>
  cases a with
  |global g=>rw[hgl,hgl'];exact e_v (e_loadGlobal t g (by
    simp only[Bool.or_eq_true,Bool.and_eq_true,decide_eq_true_eq] at ho
    rcases ho with h|h
    ·exact hf.l g h
    ·exact .inr (hf.g g h.1 h.2)))
  |_=>rw[he _ (by simpa[okOp] using ho)];exact e_v (e_loadAt t _)
 case store t a x=>rw[he a ho.1,he x ho.2];exact e_u (e_storeAt t _ _)
 case nilCheck x=>
  rw[he x ho]
  have hx:=hv x ho
  generalize ev x=v at hx
  cases v with
  |pointer a=>cases a<;>simp only[rv,Option.map]<;>first|exact e_runtimePanic _|exact Eqv.pure (by simp[NN,rv])
  |func fn a b=>
   obtain⟨g,rfl,hS⟩:=hx fn a b rfl
   simp only[rv,hf.f g hS]
   exact Eqv.pure (by simp[NN,rv,hf.f g hS])
  |nilFunc=>simp only[rv];exact e_runtimePanic _
  |nilIface=>simp only[rv];exact e_runtimePanic _
  |_=>simp only[rv];exact Eqv.pure (by simp[NN,rv])
 case binOp op t x y t2=>
  rw[he x ho.1,he y ho.2]
  refine e_v (Eqv.bind (e_eqGuard op t x y _ _) ?_)
  rintro _ _ rfl
  exact e_binOp hp op t _ _ (hg x ho.1) (hg y ho.2)
 case unOp op t x=>rw[he x ho];exact e_v (e_unary op _)
 case convert src dst x=>rw[he x ho.1];exact e_v (e_convert src dst _ ho.2)
 case makeInterface t x=>rw[he x ho];exact e_v (e_makeInterface t _)
 case makeMap t r=>rw[opt_eq ho he];exact e_v (e_makeMap t _)
 case makeSlice t l c=>rw[he l ho.1,he c ho.2];exact e_v (e_makeSlice hp t _ _)
 case slice t x lo hi mx=>rw[he x ho.1.1.1,opt_eq ho.1.1.2 he,opt_eq ho.1.2 he,opt_eq ho.2 he];exact e_v (e_sliceAt hp t _ _ _ _)
 case fieldAddr t x f=>rw[he x ho];exact e_v (e_fieldAt t _ f)
 case field t x f=>rw[he x ho];exact e_v (e_field t _ f)
 case indexAddr t x i=>rw[he x ho.1,he i ho.2];exact e_v (e_indexAt hp t _ _)
 case index t x i=>rw[he x ho.1,he i ho.2];exact e_v (e_index hp t _ _)
 case lookup t x i ok=>rw[he x ho.1,he i ho.2];exact e_v (e_lookup hp t _ _ ok (hg i ho.2))
 case mapUpdate t m k x=>rw[he m ho.1.1,he k ho.1.2,he x ho.2];exact e_u (e_mapUpdate hp t _ _ _ (hg k ho.1.2))
 case typeAssert x t u ok=>
  obtain rfl:=ho.2
  rw[he x ho.1];exact e_v (e_typeAssert hp _ t u)
 case extract x i=>rw[he x ho];exact e_v (e_extract _ i)
 case panic x=>exact e_v (e_instrPanic _)
 case call c=>
  obtain⟨callee,args,ats⟩:=c
  simp only at ho
  unfold resolve
  dsimp only
  rw[args_eq ho.1 he]
  cases callee with
  |builtin b=>
   refine Eqv.bind (R:=fun d d'=>d.target=d'.target∧(∃ ts ty cs,d.target= .builtin b ts ty cs)∧d'.args=d.args.map (rv ρ)) (Eqv.pure ⟨rfl,⟨_,_,_,rfl⟩,rfl⟩) ?_
   rintro ⟨d1,d2⟩ ⟨e1,e2⟩ ⟨h1,⟨ts,ty,cs,h2⟩,h3⟩
   simp only at h1 h2 h3
   subst h3
   rw[←h1,h2]
   have hb:okBuiltin b=true:=ho.2
   unfold invoke
   dsimp only
   unfold builtin
   dsimp only
   cases b<;>simp only[okBuiltin,Bool.false_eq_true] at hb
   ·exact e_v (e_append hp _ _ _)
   ·exact e_v (e_copy _ _ _)
   ·exact e_v (e_len _ _ _)
   ·exact e_v (e_max _ _ _)
   ·exact e_v (e_min _ _ _)
   ·exact e_v (e_unsafeSliceData _ _ _)
   ·exact e_v (e_unsafeString _ _ _)
  |invoke r n=>exact absurd ho.2 (by simp)
  |value f=>
   cases f with
   |func f=>
    have hff:F f=true:=ho.2
    dsimp only
    rw[hfn,hfn']
    simp only[Deferred.ofValue]
    refine Eqv.bind (R:=fun d d'=>d.target= .fn (.func f) #[]∧d'.target= .fn (.func f) #[]∧d'.args=d.args.map (rv ρ)) (Eqv.pure ⟨rfl,rfl,by simp⟩) ?_
    rintro ⟨d1,d2⟩ ⟨e1,e2⟩ ⟨h1,h2,h3⟩
    simp only at h1 h2 h3
    subst h1 h2 h3
    unfold invoke
    dsimp only
    have:=e_callFunc (F:=F) (S:=S) hp hf f (d2++#[]) hff (hF f hff)
    rw[Array.map_append,Array.map_empty] at this
    exact this
   |tmp t=>
    dsimp only
    rw[he (.tmp t) rfl]
    have hx:=hv (.tmp t) rfl
    generalize ev (.tmp t)=v at hx
    cases v with
    |func fn a b=>
     obtain⟨g,rfl,hS⟩:=hx fn a b rfl
     simp only[rv,hf.f g hS,Deferred.ofValue]
     refine Eqv.bind (R:=fun d d'=>d.target= .fn (.func g) b∧d'.target= .fn (.func g) (b.map (rv ρ))∧d'.args=d.args.map (rv ρ)) (Eqv.pure ⟨rfl,rfl,by simp⟩) ?_
     rintro ⟨d1,d2⟩ ⟨e1,e2⟩ ⟨h1,h2,h3⟩
     simp only at h1 h2 h3
     subst h1 h2 h3
     unfold invoke
     dsimp only
     rw[←Array.map_append]
     exact e_callFunc (S:=S) hp hf g _ (hSF g hS) (hF g (hSF g hS))
    |nilFunc=>
     simp only[rv,Deferred.ofValue]
     refine Eqv.bind (R:=fun d d'=>d.target= .nil∧d'.target= .nil) (Eqv.pure ⟨rfl,rfl⟩) ?_
     rintro ⟨d1,d2⟩ ⟨e1,e2⟩ ⟨h1,h2⟩
     simp only at h1 h2
     subst h1 h2
     unfold invoke
     exact e_runtimePanic _
    |_=>simp only[rv,Deferred.ofValue];exact e_no (Eqv.stuck _)
   |const v=>exact absurd ho.2 (by simp)
   |global g=>exact absurd ho.2 (by simp)
theorem e_results (hp:Plain P ρ)(fn:Func)(tmps:Array Value)(hu:rv ρ undef=undef):Eqv P ρ (VV ρ) (results fn tmps) (results fn (tmps.map (rv ρ))):=by
 unfold results
 have hget:∀ t:Nat,(tmps.map (rv ρ)).getD t undef=rv ρ (tmps.getD t undef):=fun t=>by
  simp only[Array.getD_eq_getD_getElem?,Array.getElem?_map]
  cases tmps[t]?<;>simp[hu]
 have one:∀ r:ResultVar,Eqv P ρ (VV ρ)
  (match r with| .tmp t=>pure (tmps.getD t undef)| .cell a t=>do loadVar t (←asAddr (tmps.getD a undef)):Sem Value)
  (match r with| .tmp t=>pure ((tmps.map (rv ρ)).getD t undef)| .cell a t=>do loadVar t (←asAddr ((tmps.map (rv ρ)).getD a undef)):Sem Value):=fun r=>by
  cases r with
  |tmp t=>dsimp only;rw[hget];exact Eqv.pure rfl
  |cell a t=>
   dsimp only
   rw[hget]
   refine Eqv.bind (e_asAddr hp _) ?_
   rintro ad _ rfl
   exact e_loadVar t ad
 have all:∀ l:List ResultVar,Eqv P ρ (fun x y=>y=x.map (rv ρ))
  (l.mapM fun r=>(match r with| .tmp t=>pure (tmps.getD t undef)| .cell a t=>do loadVar t (←asAddr (tmps.getD a undef)):Sem Value))
  (l.mapM fun r=>(match r with| .tmp t=>pure ((tmps.map (rv ρ)).getD t undef)| .cell a t=>do loadVar t (←asAddr ((tmps.map (rv ρ)).getD a undef)):Sem Value)):=fun l=>by
  haveI:=lawful
  induction l with
  |nil=>simp only[List.mapM_nil];exact Eqv.pure rfl
  |cons r l ih=>
   simp only[List.mapM_cons]
   refine Eqv.bind (one r) ?_
   rintro v _ rfl
   refine Eqv.bind ih ?_
   rintro vs _ rfl
   exact Eqv.pure rfl
 refine Eqv.bind (R:=fun x y=>y=x.map (rv ρ)) ?_ ?_
 ·haveI:=lawful
  rw[Array.mapM_eq_mapM_toList,Array.mapM_eq_mapM_toList]
  refine Eqv.bind (f:=fun l=>pure l.toArray) (f':=fun l=>pure l.toArray) (all fn.results.toList) ?_
  rintro l _ rfl
  exact Eqv.pure (by simp)
 ·rintro vs _ rfl
  refine Eqv.pure ?_
  by_cases h:vs.size=1
  ·simp[VV,h]
  ·simp[VV,h,rv]
end
structure Live (b0:Nat) (ρ:Rn) (w W:World):Prop where
 live:∀ (r:Nat) (o:Obj),b0≤r→w.heap[r]? =some o→W.heap[ρ r]? =some (ro ρ o)
section
variable {P:Program} {b0:Nat} {ρ σ:Rn} {w W:World}
theorem bytes_rv (v:Value):(rv ρ v).bytes? =v.bytes?:=by cases v<;>simp[rv,Value.bytes?]
theorem ofBytes_rv (v:Value)(bs:List UInt8):(rv ρ v).ofBytes bs=v.ofBytes bs:=by cases v<;>simp[rv,Value.ofBytes]
theorem ofBytes_plain {v u:Value}{bs:List UInt8}(h:v.ofBytes bs=some u):rv ρ u=u:=by
 cases v<;>simp only[Value.ofBytes] at h<;>(try cases h)
 ·split at h<;>(try cases h)<;>simp[rv]
 ·split at h<;>(try cases h);simp[rv]
 ·split at h<;>(try cases h);simp[rv]
 ·split at h<;>(try cases h);simp[rv]
theorem seenCells_rv (c:Array Value)(e:TypeId):∀ (f x stop:Nat),seenCells P (c.map (rv ρ)) e f x stop=seenCells P c e f x stop
 |0,x,stop=>rfl
 |f+1,x,stop=>by
  unfold seenCells
  split
  ·rfl
  ·dsimp only
   split
   ·rfl
   ·split
    ·rfl
    ·rename_i i s _
     rw[Array.getElem?_map]
     cases c[i]? with
     |none=>rfl
     |some v=>
      simp only[Option.map,bytes_rv]
      split
      ·rfl
      ·rfl
      ·rw[seenCells_rv c e f]
theorem cell_some (h:Live b0 ρ w W){a:Addr}{v:Value}(hl:b0≤a.block)(hc:w.cell? a=some v):W.cell? (ra ρ a)=some (rv ρ v):=by
 unfold World.cell? at hc ⊢
 cases hh:w.heap[a.block]? with
 |none=>rw[hh] at hc;cases hc
 |some o=>
  rw[hh] at hc
  have:=h.live _ o hl hh
  cases o<;>simp only at hc<;>try cases hc
  simp only[ra,ro] at this ⊢
  rw[this]
  simp only
  split at hc
  ·cases hc
  ·rename_i hs
   simp only[hs,Bool.false_eq_true,if_false,Array.getElem?_map,hc,Option.map]
theorem seen_map {at_:Addr}{u:TypeId}{k:Addr}{atomic:Bool}{c:Array Value}{e:TypeId}{fz:Nat×Nat}(h1:w.heap[at_.block]? =some (.cells c e fz))(h2:W.heap[ρ at_.block]? =some (.cells (c.map (rv ρ)) e fz)):
 W.seen P (ra ρ at_) u (ra ρ k) atomic=(w.seen P at_ u k atomic).map fun x=>(x.1.map (rv ρ),x.2):=by
 unfold World.seen
 simp only[ra,h1,h2,seenCells_rv]
 split
 ·rfl
 ·cases plainCell P P.depth u k.off with
  |none=>rfl
  |some like=>
   simp only
   cases like.bytes? with
   |none=>rfl
   |some bs=>
    simp only[Option.map]
    cases byteOfCell P P.depth u k.off with
    |none=>rfl
    |some β=>
     simp only
     split
     ·rfl
     ·cases byteOfCell P P.depth e (at_.off%P.cellsOf e) with
      |none=>rfl
      |some b0=>
       simp only[bind,Except.bind]
       cases seenCells P c e (bs.length+1) (at_.off/P.cellsOf e*P.bytesOf e+b0+β) (at_.off/P.cellsOf e*P.bytesOf e+b0+β+bs.length) with
       |error m=>rfl
       |ok cells=>
        simp only
        cases atomic with
        |false=>rfl
        |true=>
         simp only[if_true]
         split
         ·rename_i s1 bs1
          by_cases q1:s1=at_.off/P.cellsOf e*P.bytesOf e+b0+β<;>by_cases q2:bs1.length=bs.length<;>simp[q1,q2,Except.map,pure,Except.pure]<;>rfl
         ·rfl
theorem seen_ok {at_:Addr}{u:TypeId}{k:Addr}{atomic:Bool}{x:Array Value×TypeId×(Nat×Nat)×Nat×Value×List (Nat×Nat×List UInt8)}(hx:w.seen P at_ u k atomic= .ok x):
 ∃ c e fz,w.heap[at_.block]? =some (.cells c e fz):=by
 cases hh:w.heap[at_.block]? with
 |none=>
  exfalso
  unfold World.seen at hx
  simp only[hh] at hx
  split at hx
  ·cases hx
  ·cases h1:plainCell P P.depth u k.off with
   |none=>rw[h1] at hx;cases hx
   |some like=>
    rw[h1] at hx;simp only at hx
    cases h2:like.bytes? with
    |none=>rw[h2] at hx;cases hx
    |some bs=>
     rw[h2] at hx;simp only[Option.map] at hx
     cases h3:byteOfCell P P.depth u k.off with
     |none=>rw[h3] at hx;cases hx
     |some β=>rw[h3] at hx;cases hx
 |some o=>
  cases o with
  |cells c e fz=>exact⟨c,e,fz,rfl⟩
  |_=>
   exfalso
   unfold World.seen at hx
   simp only[hh] at hx
   split at hx
   ·cases hx
   ·cases h1:plainCell P P.depth u k.off with
    |none=>rw[h1] at hx;cases hx
    |some like=>
     rw[h1] at hx;simp only at hx
     cases h2:like.bytes? with
     |none=>rw[h2] at hx;cases hx
     |some bs=>
      rw[h2] at hx;simp only[Option.map] at hx
      cases h3:byteOfCell P P.depth u k.off with
      |none=>rw[h3] at hx;cases hx
      |some β=>rw[h3] at hx;cases hx
theorem seen_cells {at_:Addr}{u:TypeId}{k:Addr}{atomic:Bool}{x:Array Value×TypeId×(Nat×Nat)×Nat×Value×List (Nat×Nat×List UInt8)}{c:Array Value}{e:TypeId}{fz:Nat×Nat}(h1:w.heap[at_.block]? =some (.cells c e fz))(hx:w.seen P at_ u k atomic= .ok x):
 x.1=c∧x.2.1=e∧x.2.2.1=fz:=by
 unfold World.seen at hx
 simp only[h1] at hx
 split at hx
 ·cases hx
 ·cases h1:plainCell P P.depth u k.off with
  |none=>rw[h1] at hx;cases hx
  |some like=>
   rw[h1] at hx;simp only at hx
   cases h2:like.bytes? with
   |none=>rw[h2] at hx;cases hx
   |some bs=>
    rw[h2] at hx;simp only[Option.map] at hx
    cases h3:byteOfCell P P.depth u k.off with
    |none=>rw[h3] at hx;cases hx
    |some β=>
     rw[h3] at hx;simp only at hx
     split at hx
     ·cases hx
     ·cases h4:byteOfCell P P.depth e (at_.off%P.cellsOf e) with
      |none=>rw[h4] at hx;cases hx
      |some b0=>
       rw[h4] at hx;simp only[bind,Except.bind] at hx
       cases h5:seenCells P c e (bs.length+1) (at_.off/P.cellsOf e*P.bytesOf e+b0+β) (at_.off/P.cellsOf e*P.bytesOf e+b0+β+bs.length) with
       |error m=>rw[h5] at hx;cases hx
       |ok cells=>
        rw[h5] at hx;simp only at hx
        cases atomic with
        |false=>simp only[Bool.false_eq_true,if_false,pure,Except.pure,Except.ok.injEq] at hx;subst hx;exact⟨rfl,rfl,rfl⟩
        |true=>
         simp only[if_true] at hx
         split at hx
         ·split at hx
          ·cases hx
          ·simp only[pure,Except.pure,Except.ok.injEq] at hx;subst hx;exact⟨rfl,rfl,rfl⟩
         ·cases hx
theorem viewLoad_ren (h:Live b0 ρ w W){at_:Addr}{u:TypeId}{k:Addr}{atomic:Bool}{v:Value}{ts:List Addr}(hl:b0≤at_.block)(hx:w.viewLoad P at_ u k atomic= .ok (v,ts)):
 ∃ ts',W.viewLoad P (ra ρ at_) u (ra ρ k) atomic= .ok (v,ts')∧(∀ t∈ts',t.block=ρ at_.block)∧(∀ τ:Rn,rv τ v=v)∧at_.block<w.heap.size:=by
 unfold World.viewLoad at hx ⊢
 simp only[bind,Except.bind] at hx
 cases hs:w.seen P at_ u k atomic with
 |error m=>rw[hs] at hx;cases hx
 |ok x=>
  rw[hs] at hx
  obtain⟨c,e,fz,hc⟩:=seen_ok hs
  have hW:=h.live _ _ hl hc
  simp only[ro] at hW
  rw[seen_map hc hW,hs]
  simp only[Except.map,bind,Except.bind] at hx ⊢
  obtain⟨x1,x2,x3,first,like,cells⟩:=x
  simp only at hx ⊢
  cases ho:like.ofBytes (cells.flatMap fun(x:Nat×Nat×List UInt8)=>(x.2.2.drop (first-x.2.1)).take (first+(like.bytes?.map (·.length)).getD 0-max first x.2.1)) with
  |none=>rw[ho] at hx;cases hx
  |some v'=>
   rw[ho] at hx
   simp only[pure,Except.pure,Except.ok.injEq,Prod.mk.injEq] at hx
   obtain⟨rfl,rfl⟩:=hx
   refine⟨_,rfl,fun t ht=>?_,fun τ=>ofBytes_plain ho,(Array.getElem?_eq_some_iff.1 hc).1⟩
   simp only[List.mem_map] at ht
   obtain⟨y,_,rfl⟩:=ht
   rfl
theorem foldAll_ren {γ:Type}{F:Array Value→γ→Except String (Array Value)}(hF:∀ c c' x,F c x= .ok c'→F (c.map (rv ρ)) x= .ok (c'.map (rv ρ))):∀ (xs:List γ) {c c':Array Value},xs.foldlM F c= .ok c'→xs.foldlM F (c.map (rv ρ))= .ok (c'.map (rv ρ))
 |[],c,c',h=>by
  simp only[List.foldlM,pure,Except.pure,Except.ok.injEq] at h ⊢
  rw[h]
 |x::xs,c,c',h=>by
  simp only[List.foldlM,bind,Except.bind] at h ⊢
  cases h1:F c x with
  |error m=>rw[h1] at h;cases h
  |ok c1=>
   rw[h1] at h
   rw[hF _ _ _ h1]
   exact foldAll_ren hF xs h
theorem viewStore_ren (h:Live b0 ρ w W){at_:Addr}{u:TypeId}{k:Addr}{atomic:Bool}{v:Value}{w1:World}{ts:List Addr}(hl:b0≤at_.block)(hx:w.viewStore P at_ u k v atomic= .ok (w1,ts)):
 ∃ c c' e fz ts',w.heap[at_.block]? =some (.cells c e fz)∧w1={ w with heap:=w.heap.setIfInBounds at_.block (.cells c' e fz) }∧(∀ τ:Rn,c.map (rv τ)=c→c'.map (rv τ)=c')∧
   W.viewStore P (ra ρ at_) u (ra ρ k) (rv ρ v) atomic= .ok ({ W with heap:=W.heap.setIfInBounds (ρ at_.block) (.cells (c'.map (rv ρ)) e fz) },ts')∧∀ t∈ts',t.block=ρ at_.block:=by
 unfold World.viewStore at hx ⊢
 by_cases ht:(!tight P P.depth u)=true
 ·rw[if_pos ht] at hx;cases hx
 rw[if_neg ht] at hx ⊢
 simp only[bind,Except.bind,bytes_rv] at hx ⊢
 cases hs:w.seen P at_ u k atomic with
 |error m=>rw[hs] at hx;cases hx
 |ok x=>
  rw[hs] at hx
  obtain⟨c,e,fz,hc⟩:=seen_ok hs
  have hW:=h.live _ _ hl hc
  simp only[ro] at hW
  obtain⟨e1,e2,e3⟩:=seen_cells hc hs
  rw[seen_map hc hW,hs]
  simp only[Except.map] at hx ⊢
  obtain⟨x1,x2,x3,first,like,cells⟩:=x
  simp only at hx e1 e2 e3 ⊢
  subst e1;subst e2;subst e3
  cases hb:v.bytes? with
  |none=>rw[hb] at hx;cases hx
  |some bytes=>
   rw[hb] at hx
   simp only at hx ⊢
   by_cases hsz:some bytes.length≠Option.map (fun x=>x.length) like.bytes?
   ·rw[if_pos hsz] at hx;cases hx
   rw[if_neg hsz] at hx ⊢
   split at hx
   ·cases hx
   ·rename_i c' hf
    simp only[pure,Except.pure,Except.ok.injEq,Prod.mk.injEq] at hx
    obtain⟨rfl,rfl⟩:=hx
    have hF:∀ τ:Rn,_:=fun τ=>foldAll_ren (ρ:=τ) (fun c c' x hq=>by
     obtain⟨i,s,bs⟩:=x
     simp only at hq ⊢
     by_cases h1:(decide (s<first)||decide (s+bs.length>first+bytes.length))=true
     ·rw[if_pos h1] at hq;cases hq
     rw[if_neg h1] at hq ⊢
     by_cases h2:(decide (x3.1≤i)&&decide (i<x3.2))=true
     ·rw[if_pos h2] at hq;cases hq
     rw[if_neg h2] at hq ⊢
     rw[Array.getElem?_map]
     cases hc:c[i]? with
     |none=>rw[hc] at hq;cases hq
     |some old=>
      rw[hc] at hq
      simp only[Option.map,ofBytes_rv] at hq ⊢
      cases ho:old.ofBytes ((bytes.drop (s-first)).take bs.length) with
      |none=>rw[ho] at hq;cases hq
      |some new=>
       rw[ho] at hq
       simp only[pure,Except.pure,Except.ok.injEq] at hq ⊢
       subst hq
       rw[Array.map_setIfInBounds,ofBytes_plain ho]) cells hf
    refine⟨x1,c',x2,x3,cells.map fun y=>{ block:=ρ at_.block,off:=y.1 },hc,rfl,fun τ hτ=>?_,?_,fun t ht=>?_⟩
    ·have:=hF τ
     rw[hτ,hf] at this
     exact(Except.ok.inj this).symm
    ·rw[hF ρ]
     rfl
    ·simp only[List.mem_map] at ht
     obtain⟨y,_,rfl⟩:=ht
     rfl
end
end Go.Ren
