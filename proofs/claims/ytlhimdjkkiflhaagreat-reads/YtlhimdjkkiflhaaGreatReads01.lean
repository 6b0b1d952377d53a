import GoSem.Dispatch
import Derived.Below
import Derived.Calls
import Derived.Conc.Beside
import Derived.Conc.Deaf
import Derived.Conc.Own
import Derived.Laws.AppendOwn
import Derived.Laws.Entries
import Derived.Laws.Rows
import Derived.Laws.Sem
import Derived.Lib.Builder
import Derived.Tactics
import Derived.WalkSmall
import GoSem.Core.Machine
import GoSem.Core.Sem
set_option maxHeartbeats 8000000
set_option maxRecDepth 100000
abbrev zaa:=@if_neg
abbrev zab:=@Nat.le_refl
abbrev zac:=@if_pos
abbrev zad:=@Go.RowKit.Below.refl
abbrev zae:=@Go.Calls.mono
abbrev zaf:=@List.forall_mem_cons
abbrev zag:=@Array.getElem?_eq_some_iff
abbrev zah:=@Prod.mk.injEq
abbrev zai:=@Bool.and_eq_true
abbrev zaj:=@Nat.le_trans
abbrev zak:=@Go.bodyPost_ret
abbrev zal:=@congrArg
abbrev zam:=@Go.Result.ok.injEq
abbrev zan:=@List.length_drop
abbrev zao:=@beq_eq_false_iff_ne
abbrev zap:=@Nat.zero_le
abbrev zaq:=@List.all_cons
abbrev zar:=@Nat.lt_or_ge
abbrev zas:=@List.length_cons
abbrev zat:=@and_true
abbrev zau:=@Go.heap_alloc_new
abbrev zav:=@Option.map_eq_some_iff
abbrev zaw:=@Array.getElem?_map
abbrev zax:=@Array.getElem?_setIfInBounds_ne
abbrev zay:=@Go.RowKit.Below.heap_setCell
abbrev zaz:=@List.setIfInBounds_toArray
abbrev zaA:=@Go.RowKit.Below.setCell
abbrev zaB:=@Go.RowKit.Below.alloc
abbrev zaC:=@List.map_cons
abbrev zaD:=@List.getElem?_eq_some_iff
abbrev zaE:=@Array.getElem?_eq_getElem
abbrev zaF:=@Go.Conc.Deaf_other
abbrev zaG:=@Option.some.injEq
abbrev zaH:=@Nat.lt_of_lt_of_le
abbrev zaI:=@List.mem_cons
abbrev zaJ:=@Option.bind_eq_some_iff
abbrev zaK:=@Go.Lib.alloc_old
abbrev zaL:=@Classical.choose_spec
abbrev zaM:=@List.set_cons_succ
abbrev zaN:=@Bool.false_eq_true
abbrev zaO:=@List.set_cons_zero
abbrev zaP:=@List.getElem?_eq_getElem
abbrev zaQ:=@List.mem_append
abbrev zaR:=@Go.Conc.stepG_seq
abbrev zaS:=@List.getElem?_append_left
abbrev zaT:=@List.length_append
abbrev zaU:=@Go.Conc.stepG_region
abbrev zaV:=@List.cons_append
abbrev zaW:=@List.drop_of_length_le
abbrev zaX:=@Go.Conc.stepG_region_end
abbrev zaY:=@Option.some.inj
abbrev zaZ:=@List.getElem?_append_right
abbrev zba:=@Go.run_underlying
abbrev zbb:=@Go.Sem.run_bind
abbrev zbc:=@Go.Result.andThen_ok
abbrev zbd:=@Go.Conc.mem_ofEvents
abbrev zbe:=@List.drop_drop
abbrev zbf:=@Go.Sem.run_pure
abbrev zbg:=@Go.below_drewN
abbrev zbh:=@Bool.eq_iff_iff
abbrev zbi:=@Array.sizeOf_lt_of_mem
abbrev zbj:=@decide_eq_true_eq
abbrev zbk:=@Array.toList_map
abbrev zbl:=@Array.getElem?_push
abbrev zbm:=@List.mem_cons_of_mem
abbrev zbn:=@Int.toNat_natCast
abbrev zbo:=@List.mem_of_getElem?
abbrev zbp:=@List.length_nil
abbrev zbq:=@Go.Result.halt.injEq
abbrev zbr:=@decide_eq_false
abbrev zbs:=@beq_iff_eq
abbrev zbt:=@List.mem_cons_self
abbrev zbu:=@Int.eq_ofNat_of_zero_le
abbrev zbv:=@List.map_nil
abbrev zbw:=@Option.getD_some
abbrev zbx:=@Go.Stepped.next.injEq
abbrev zby:=@Array.getD_eq_getD_getElem?
abbrev zbz:=@List.all_eq_true
abbrev zbA:=@Option.map_some
abbrev zbB:=@Array.getElem?_setIfInBounds_self_of_lt
abbrev zbC:=@List.getElem?_eq_none
abbrev zbD:=@List.suffix_refl
abbrev zbE:=@Except.ok.injEq
abbrev zbF:=@Array.forIn_toList
abbrev zbG:=@Array.mem_of_getElem?
abbrev zbH:=@Option.getD_none
abbrev zbI:=@List.map_append
abbrev zbJ:=@List.drop_zero
abbrev zbK:=@List.getElem?_modify
abbrev zbL:=@Go.World.ownsRow.alloc
abbrev zbM:=@Array.getElem_map
abbrev zbN:=@List.mem_map
abbrev zbO:=@Bool.and_true
abbrev zbP:=@Option.isSome_iff_exists
abbrev zbQ:=@Array.all_eq_true_iff_forall_mem
abbrev zbR:=@List.map_toArray
abbrev zbS:=@List.length_pos_iff
abbrev zbT:=@Go.Frame.finish_at
abbrev zbU:=@Array.map_map
abbrev zbV:=@Array.mem_iff_getElem
abbrev zbW:=@Array.getElem?_eq_none
abbrev zbX:=@List.mem_toArray
abbrev zbY:=@List.not_mem_nil
abbrev zbZ:=@List.drop_eq_getElem_cons
abbrev zca:=@List.drop_succ_cons
abbrev zcb:=@decide_eq_true
abbrev zcc:=@Go.World.ownsRow.lt
abbrev zcd:=@Array.map_empty
abbrev zce:=@Array.map_setIfInBounds
abbrev zcf:=@Array.size_push
abbrev zcg:=@List.drop_length
abbrev zch:=@List.eq_nil_of_length_eq_zero
abbrev zci:=@List.getElem_mem
abbrev zcj:=@List.length_set
abbrev zck:=@List.getElem?_drop
abbrev zcl:=@List.length_eq_zero_iff
abbrev zcm:=@Go.World.ownsRow_nil
abbrev zcn:=@List.take_succ_cons
abbrev zco:=@Array.length_toList
abbrev zcp:=@Array.getElem?_toList
abbrev zcq:=@List.mem_singleton
abbrev zcr:=@decide_eq_false_iff_not
abbrev zcs:=@Array.mapM_eq_mapM_toList
abbrev zct:=@Array.getElem?_setIfInBounds
open Go renaming Value→Γ,TypeId→Δ,zeroValue→ζ,Program→η,typeInfo→ι
open Option renaming map→Θ
open Go.Builtin renaming firstCells→Λ,holdsCells→Φ,zeroCells→Ω
open Go.Sem renaming bind→Ξ
open Go.Instr renaming sureAddr→θ
namespace Go.Ren
structure Rn where
 b:Nat→Nat
 f:Fn→Fn
 d:Nat
instance:CoeFun Rn (λ_=>Nat→Nat):=⟨Rn.b⟩
def ra (ρ:Rn)(a:Addr):Addr:={ a with block:=ρ a.block }
def rv (ρ:Rn):Γ→Γ
 |.pointer a=> .pointer (a.map (ra ρ))
 |.slice a l c=> .slice (a.map (ra ρ)) l c
 |.map r=> .map (r.map ρ.b)
 |.chan r=> .chan (r.map ρ.b)
 |.func fn first captured=> .func (ρ.f fn) (first.map (rv ρ)) (captured.map (rv ρ))
 |.iface t v=> .iface t (rv ρ v)
 |.agg cs=> .agg (cs.map (rv ρ))
 |.tuple vs=> .tuple (vs.map (rv ρ))
 |.bool b=> .bool b
 |.int k n=> .int k n
 |.float k n=> .float k n
 |.complex k a b=> .complex k a b
 |.string s=> .string s
 |.nilFunc=> .nilFunc
 |.nilIface=> .nilIface
def ro (ρ:Rn):Obj→Obj
 |.cells c t f=> .cells (c.map (rv ρ)) t f
 |.map es c=> .map (es.map λe=>{ e with key:=rv ρ e.key,val:=rv ρ e.val }) c
 |.view a t=> .view (ra ρ a) t
 |.number a b=> .number (ra ρ a) b
 |.pending c t=> .pending (c.map (rv ρ)) t
 |.chan cap buf cl s r t=> .chan cap (buf.map (rv ρ)) cl s r t
 |o=>o
def rm (ρ:Rn):Mark→Mark
 |.acquire a=> .acquire (ra ρ a)
 |.release a=> .release (ra ρ a)
 |.releaseMerge a=> .releaseMerge (ra ρ a)
 |.read a=> .read (ra ρ a)
 |.write a=> .write (ra ρ a)
 |m=>m
def qC:Obj→Prop
 |.cells .. |.view .. |.number .. |.map ..=>True
 |_=>False
def MOk:Mark→Prop
 |.extern _|.noRoom=>True
 |_=>False
def B8:Halt→Prop
 |.panic _|.stuck _=>True
 |.unsupported (.initOrder _)=>False
 |.unsupported _=>True
 |_=>False
def yj (P:η)(ρ:Rn):Prop:=∀r,ρ r<P.globals.size↔r<P.globals.size
def GV (P:η)(ρ:Rn)(v:Γ):Prop:=yj P ρ∨rv ρ v=v
def GA (P:η)(ρ:Rn)(a:Addr):Prop:=yj P ρ∨ra ρ a=a
def GO (P:η)(ρ:Rn)(o:Obj):Prop:=yj P ρ∨ro ρ o=o
def KW:Obj→Prop
 |.map ..=>True
 |_=>False
def Tm {α:Type}(Q:α→Prop):Sem α→Prop
 |.pure a=>Q a
 |.halt h=>B8 h
 |.program k=>∀p,Tm Q (k p)
 |.new _ k=>∀r,Tm Q (k r)
 |.sys _ k=>∀x,Tm Q (k x)
 |_=>False
theorem Tm.bind {α β:Type}{Q:α→Prop}{R:β→Prop}{f:α→Sem β}(hf:∀a,Q a→Tm R (f a)):∀{s:Sem α},Tm Q s→Tm R (s>>=f)
 |.pure a,h=>hf a h
 |.halt _,h=>h
 |.program _k,h=>λp=>Tm.bind hf (h p)
 |.new _ _k,h=>λr=>Tm.bind hf (h r)
 |.sys _ _k,h=>λx=>Tm.bind hf (h x)
 |.load ..,h=>h.elim
 |.store ..,h=>h.elim
 |.shape ..,h=>h.elim
 |.freeze ..,h=>h.elim
 |.frozen ..,h=>h.elim
 |.getObj ..,h=>h.elim
 |.setObj ..,h=>h.elim
 |.choose ..,h=>h.elim
 |.mark ..,h=>h.elim
def aa (P:η)(ρ:Rn){α β:Type}(R:α→β→Prop):Sem α→Sem β→Prop
 |.pure a,s=>∃b,s=.pure b∧R a b
 |.load m a k,s=>a.block<ρ.d∨∃k',s=.load m (ra ρ a) k'∧∀v,aa P ρ R (k v) (k' (rv ρ v))
 |.store m a v k,s=>∃k',s=.store m (ra ρ a) (rv ρ v) k'∧aa P ρ R k k'
 |.new o k,s=>qC o∧∃k',s=.new (ro ρ o) k'∧∀r,aa P ρ R (k r) (k' (ρ r))
 |.shape r k,s=>∃k',s=.shape (ρ r) k'∧∀x,aa P ρ R (k x) (k' x)
 |.freeze a n k,s=>∃k',s=.freeze (ra ρ a) n k'∧aa P ρ R k k'
 |.frozen a k,s=>∃k',s=.frozen (ra ρ a) k'∧∀b,aa P ρ R (k b) (k' b)
 |.getObj r k,s=>∃k',s=.getObj (ρ r) k'∧∀o,GO P ρ o→aa P ρ R (k o) (k' (ro ρ o))
 |.setObj r o k,s=>KW o∧∃k',s=.setObj (ρ r) (ro ρ o) k'∧aa P ρ R k k'
 |.choose q k,s=>∃k',s=.choose q k'∧∀n,aa P ρ R (k n) (k' n)
 |.sys _ k,_=>∀x,Tm (λ_=>False) (k x)
 |.program k,s=>∃k',s=.program k'∧aa P ρ R (k P) (k' P)
 |.mark m k,s=>MOk m∧∃k',s=.mark m k'∧aa P ρ R k k'
 |.halt h,_=>B8 h
section
variable {P:η}{ρ:Rn}{α β Vd Ve:Type}
theorem aa.bind {R:α→β→Prop}{R':Vd→Ve→Prop}:∀{s:Sem α} {s':Sem β} {f:α→Sem Vd} {f':β→Sem Ve},aa P ρ R s s'→(∀a b,R a b→aa P ρ R' (f a) (f' b))→aa P ρ R' (s>>=f) (s'>>=f')
 |.pure a,s',f,f',⟨b,e,h⟩,hf=>by subst e;exact hf a b h
 |.load m a k,s',f,f',h,hf=>by
  rcases h with h|⟨k',e,h⟩
  ·exact .inl h
  ·subst e;exact .inr ⟨_,rfl,λv=>aa.bind (h v) hf⟩
 |.store m a v k,s',f,f',⟨k',e,h⟩,hf=>by subst e;exact⟨_,rfl,aa.bind h hf⟩
 |.new o k,s',f,f',⟨o1,k',e,h⟩,hf=>by subst e;exact⟨o1,_,rfl,λr=>aa.bind (h r) hf⟩
 |.shape r k,s',f,f',⟨k',e,h⟩,hf=>by subst e;exact⟨_,rfl,λr=>aa.bind (h r) hf⟩
 |.freeze a n k,s',f,f',⟨k',e,h⟩,hf=>by subst e;exact⟨_,rfl,aa.bind h hf⟩
 |.frozen a k,s',f,f',⟨k',e,h⟩,hf=>by subst e;exact⟨_,rfl,λr=>aa.bind (h r) hf⟩
 |.getObj r k,s',f,f',⟨k',e,h⟩,hf=>by subst e;exact⟨_,rfl,λr hr=>aa.bind (h r hr) hf⟩
 |.setObj r o k,s',f,f',⟨o1,k',e,h⟩,hf=>by subst e;exact⟨o1,_,rfl,aa.bind h hf⟩
 |.choose q k,s',f,f',⟨k',e,h⟩,hf=>by subst e;exact⟨_,rfl,λr=>aa.bind (h r) hf⟩
 |.sys q k,s',f,f',h,hf=>λx=>Tm.bind (λ_ q=>q.elim) (h x)
 |.program k,s',f,f',⟨k',e,h⟩,hf=>by subst e;exact⟨_,rfl,aa.bind h hf⟩
 |.mark m k,s',f,f',⟨o,k',e,h⟩,hf=>by subst e;exact⟨o,_,rfl,aa.bind h hf⟩
 |.halt h,s',f,f',e,hf=>e
theorem aa.pure {R:α→β→Prop}{a:α}{b:β}(h:R a b):aa P ρ R (Pure.pure a) (Pure.pure b):=⟨b,rfl,h⟩
theorem aa.stuck {R:α→β→Prop}{s':Sem β}(w:String):aa P ρ R (stuck w) s':=trivial
theorem aa.unsupported {R:α→β→Prop}{s':Sem β}(u:Unsupported)(h:B8 (.unsupported u):=by trivial):aa P ρ R (unsupported u) s':=h
abbrev VV (ρ:Rn):Γ→Γ→Prop:=λv v'=>v'=rv ρ v
abbrev AA (ρ:Rn):Addr→Addr→Prop:=λa a'=>a'=ra ρ a
theorem vE (a:Addr):aa P ρ (VV ρ) (load a) (load (ra ρ a)):= .inr ⟨_,rfl,λ_v=>⟨_,rfl,rfl⟩⟩
theorem OT (a:Addr)(v:Γ):aa P ρ Eq (store a v) (store (ra ρ a) (rv ρ v)):=⟨_,rfl,⟨_,rfl,rfl⟩⟩
theorem lQ (o:Obj)(h:qC o:=by trivial):aa P ρ (λr r'=>r'=ρ r) (newObj o) (newObj (ro ρ o)):=⟨h,_,rfl,λ_r=>⟨_,rfl,rfl⟩⟩
theorem cz:aa P ρ (λp p'=>P=p∧P=p') program program:=⟨_,rfl,⟨_,rfl,rfl,rfl⟩⟩
theorem im (q:Question):aa P ρ Eq (choose q) (choose q):=⟨_,rfl,λ_=>⟨_,rfl,rfl⟩⟩
theorem eC (t:Δ):aa P ρ (λi i'=>i'=i∧P.info? t=some i) (ι t) (ι t):=by
 unfold ι;refine aa.bind cz ?_;rintro _ _ ⟨rfl,rfl⟩;split
 ·rename_i i h;exact aa.pure ⟨rfl,h⟩
 ·exact aa.stuck _
theorem aq (t:Δ):aa P ρ (λi i'=>i'=i∧P.underlying t=some i) (underlying t) (underlying t):=by
 unfold underlying;refine aa.bind cz ?_;rintro _ _ ⟨rfl,rfl⟩;split
 ·rename_i i h;exact aa.pure ⟨rfl,h⟩
 ·exact aa.stuck _
theorem jP (a:Addr)(i:Nat):(ra ρ a).add i=ra ρ (a.add i):=by unfold ra Addr.add;split<;>rfl
theorem mU (a:Addr):∀(n i:Nat) (acc:Array Γ),aa P ρ (λx y=>y=x.map (rv ρ)) (loadCellsFrom a i n acc) (loadCellsFrom (ra ρ a) i n (acc.map (rv ρ)))
 |0,i,acc=>aa.pure rfl
 |n+1,i,acc=>by
  unfold loadCellsFrom;rw[jP];refine aa.bind (vE _) ?_;rintro v _ rfl;have:=mU a n (i+1) (acc.push v);rwa[Array.map_push]at this
theorem ny (a:Addr)(n:Nat):aa P ρ (λx y=>y=x.map (rv ρ)) (loadCells a n) (loadCells (ra ρ a) n):=by
 have:=mU (P:=P) (ρ:=ρ) a n 0 #[];rwa[zcd]at this
theorem u7 (t:Δ):aa P ρ Eq (isAgg t) (isAgg t):=by
 unfold isAgg;refine aa.bind (aq t) ?_;rintro d d' ⟨e,_⟩;subst e;cases d'<;>exact aa.pure rfl
theorem cd (t:Δ):aa P ρ Eq (sizeOf t) (sizeOf t):=by
 unfold sizeOf;refine aa.bind (eC t) ?_;rintro d _ ⟨rfl,_⟩;exact aa.pure rfl
theorem yZ (t:Δ)(a:Addr):aa P ρ (VV ρ) (loadVar t a) (loadVar t (ra ρ a)):=by
 unfold loadVar;refine aa.bind (u7 t) ?_;rintro b _ rfl;cases b
 ·exact vE a
 ·refine aa.bind (cd t) ?_;rintro n _ rfl;refine aa.bind (ny a n) ?_;rintro cs _ rfl;exact aa.pure (by simp only[VV,rv])
theorem j9 (a:Addr):∀(vs:List Γ) (i:Nat),aa P ρ Eq (storeCells a vs i) (storeCells (ra ρ a) (vs.map (rv ρ)) i)
 |[],i=>aa.pure rfl
 |v::r,i=>by
  unfold storeCells;simp only[zaC];rw[jP];exact aa.bind (OT _ v) (λ_ _ _=>j9 a r (i+1))
theorem ju (v:Γ):(rv ρ v).cells=v.cells.map (rv ρ):=by
 cases v<;>simp[rv,Γ.cells]
theorem EF (t:Δ)(a:Addr)(v:Γ):aa P ρ Eq (storeVar t a v) (storeVar t (ra ρ a) (rv ρ v)):=by
 unfold storeVar;refine aa.bind (cd t) ?_;rintro n _ rfl;rw[ju,Array.size_map];split
 ·exact aa.stuck _
 ·rw[zbk];exact j9 a _ 0
theorem kz (v:Γ):aa P ρ (AA ρ) (θ v) (θ (rv ρ v)):=by
 cases v with
 |pointer a=>
  cases a with
  |none=>simp only[rv,Θ,θ];exact aa.stuck _
  |some a=>simp only[rv,Θ,θ];exact aa.pure rfl
 |_=>simp only[rv,θ];exact aa.stuck _
theorem B9 (t:Δ)(v:Γ):aa P ρ (VV ρ) (Instr.loadAt t v) (Instr.loadAt t (rv ρ v)):=by
 unfold Instr.loadAt;refine aa.bind (kz v) ?_;rintro a _ rfl;exact yZ t a
theorem Iz (t:Δ)(v x:Γ):aa P ρ Eq (Instr.storeAt t v x) (Instr.storeAt t (rv ρ v) (rv ρ x)):=by
 unfold Instr.storeAt;refine aa.bind (kz v) ?_;rintro a _ rfl;exact EF t a x
theorem oF (v:Γ):aa P ρ Eq (asIntOf v) (asIntOf (rv ρ v)):=by
 cases v with
 |pointer a=>cases a<;>(simp only[rv,Θ,asIntOf];first|exact aa.stuck _|exact aa.unsupported _)
 |int k n=>simp only[rv,asIntOf];exact aa.pure rfl
 |_=>simp only[rv,asIntOf];exact aa.stuck _
theorem mn (v:Γ):aa P ρ Eq (asInt v) (asInt (rv ρ v)):=by
 unfold asInt;refine aa.bind (oF v) ?_;rintro x _ rfl;exact aa.pure rfl
theorem vF (v:Γ):aa P ρ Eq (asBool v) (asBool (rv ρ v)):=by
 cases v with
 |bool b=>simp only[rv,asBool];exact aa.pure rfl
 |_=>simp only[rv,asBool];exact aa.stuck _
theorem OU (v:Γ):aa P ρ (λx y=>y=x.map (rv ρ)) (asAgg v) (asAgg (rv ρ v)):=by
 cases v with
 |agg b=>simp only[rv,asAgg];exact aa.pure rfl
 |_=>simp only[rv,asAgg];exact aa.stuck _
structure Plain (P:η) (ρ:Rn):Prop where
 zero:∀t i v,P.info? t=some i→i.zero=some v→rv ρ v=v
 inj:∀a b,ρ a=ρ b→a=b
theorem eo (hp:Plain P ρ)(t:Δ):aa P ρ (λv v'=>v'=v∧rv ρ v=v) (ζ t) (ζ t):=by
 unfold ζ;refine aa.bind (eC t) ?_;rintro i i' ⟨e,hi⟩;subst e;split
 ·rename_i v hv;exact aa.pure ⟨rfl,hp.zero t _ v hi hv⟩
 ·exact aa.unsupported _
theorem qD (t:Δ)(cs:Array Γ):aa P ρ (AA ρ) (newRow t cs) (newRow t (cs.map (rv ρ))):=by
 unfold newRow;refine aa.bind (lQ (.cells cs t)) ?_;rintro r _ rfl;exact aa.pure rfl
theorem vG (t:Δ)(v:Γ):aa P ρ (AA ρ) (newVar t v) (newVar t (rv ρ v)):=by
 unfold newVar;rw[ju];exact qD t _
theorem nz (t:Δ)(cs:Array Γ)(o:Nat):aa P ρ (VV ρ) (part t cs o) (part t (cs.map (rv ρ)) o):=by
 unfold part;refine aa.bind (u7 t) ?_;rintro b _ rfl;cases b
 ·simp only[zaw,zaN,if_false];cases cs[o]? with
  |none=>exact aa.stuck _
  |some v=>exact aa.pure rfl
 ·simp only[if_true];refine aa.bind (cd t) ?_;rintro n _ rfl;exact aa.pure (by simp only[VV,rv];rw[Array.map_extract])
theorem mo {R:α→β→Prop}{s':Sem β}(v:Γ):aa P ρ R (goPanic v) s':=trivial
theorem vH (t:Δ):aa P ρ Eq (elemOf t) (elemOf t):=by
 unfold elemOf;refine aa.bind (aq t) ?_;rintro d d' ⟨e,_⟩;subst e;cases d'<;>first|exact aa.stuck _|exact aa.pure rfl
def RuntimeError.aa0:RuntimeError→Bool
 |.typeAssertion ..=>false
 |_=>true
theorem aN {R:α→β→Prop}(e:RuntimeError)(he:RuntimeError.aa0 e=true:=by rfl):aa P ρ R (runtimePanic e) (runtimePanic e):=by
 unfold runtimePanic;refine aa.bind cz ?_;rintro _ _ ⟨rfl,rfl⟩;cases e with
 |bounds x y s c=>exact mo _
 |error m=>exact mo _
 |plain m=>exact mo _
 |nilDeref=>exact mo _
 |typeAssertion i c a m=>cases he
 |panicNil=>
  simp only;refine aa.bind (vH _) ?_;rintro t _ rfl;have hv:=vG (P:=P) (ρ:=ρ) t (.agg #[]);simp only[rv,zcd]at hv;refine aa.bind hv ?_;rintro r _ rfl;exact mo _
 |unhashable t=>exact mo _
theorem Ca (_hp:Plain P ρ)(v:Γ):aa P ρ (AA ρ) (asAddr v) (asAddr (rv ρ v)):=by
 cases v with
 |pointer a=>
  cases a with
  |none=>simp only[rv,Θ,asAddr];exact aN _
  |some a=>simp only[rv,Θ,asAddr];exact aa.pure rfl
 |_=>simp only[rv,asAddr];exact aa.stuck _
theorem gh {R:α→β→Prop}(_hp:Plain P ρ)(k:IntKind)(x y:Int)(c:BoundsCode):aa P ρ R (boundsPanic k x y c) (boundsPanic k x y c):=by
 unfold boundsPanic;dsimp only;split
 ·refine aa.bind (R:=Eq) ?_ ?_
  ·refine aa.bind (im _) ?_;rintro n _ rfl;exact aa.pure rfl
  ·rintro b _ rfl;exact aN _
 ·refine aa.bind (R:=Eq) (aa.pure rfl) ?_;rintro b _ rfl;exact aN _
theorem aa.aj {R:α→β→Prop}{c:Prop} [Decidable c] {s t:Sem α}{s' t':Sem β}(h1:c→aa P ρ R s s')(h2:¬c→aa P ρ R t t'):aa P ρ R (if c then s else t) (if c then s' else t'):=by
 split
 ·exact h1 ‹_›
 ·exact h2 ‹_›
theorem OV (hp:Plain P ρ)(t:Δ):aa P ρ (VV ρ) (Instr.alloc t true (.tuple #[])) (Instr.alloc t true (.tuple #[])):=by
 unfold Instr.alloc;refine aa.bind (eo hp t) ?_;rintro v v' ⟨e,hv⟩;subst e;have:=vG (P:=P) (ρ:=ρ) t v';rw[hv]at this;refine aa.bind this ?_;rintro a _ rfl;exact aa.pure (by simp[VV,rv])
theorem Wc (t:Δ)(v:Γ):aa P ρ (VV ρ) (Instr.box t v) (Instr.box t (rv ρ v)):=by
 unfold Instr.box;refine aa.bind (vG t v) ?_;rintro a _ rfl;exact aa.pure (by simp[VV,rv])
theorem zipIdx_map (l:List Γ)(k:Nat):∀(off:Nat) (cs:Array Γ),(((l.map (rv ρ)).zipIdx k).foldl (λcs (x:Γ×Nat)=>cs.setIfInBounds (off+x.2) x.1) (cs.map (rv ρ)):Array Γ)=((l.zipIdx k).foldl (λcs (x:Γ×Nat)=>cs.setIfInBounds (off+x.2) x.1) cs).map (rv ρ):=by
 induction l generalizing k with
 |nil=>intro off cs;rfl
 |cons v r ih=>
  intro off cs;simp only[zaC,List.zipIdx_cons,List.foldl_cons];rw[←zce];exact ih (k+1) off _
theorem EG (place:Nat→Option (Nat×Nat)):∀(l:List (Nat×Γ)) (cs:Array Γ),Instr.fill place (cs.map (rv ρ)) (l.map λx=>(x.1,rv ρ x.2))=(Instr.fill place cs l).map (λx=>x.map (rv ρ))
 |[],cs=>rfl
 |(i,v)::r,cs=>by
  simp only[zaC,Instr.fill];cases place i with
  |none=>rfl
  |some p=>
   obtain⟨off,size⟩:=p;simp only[ju,Array.size_map];split
   ·rfl
   ·rw[←EG place r]
    congr 1
    have:=zipIdx_map (ρ:=ρ) v.cells.toList 0 off cs;rw[←Array.foldl_toList,←Array.foldl_toList,Array.toList_zipIdx,Array.toList_zipIdx,zbk];exact this
theorem bind_assoc' {γ δ ε:Type}:∀(s:Sem γ) (f:γ→Sem δ) (g:δ→Sem ε),(s.bind f).bind g=s.bind λx=>(f x).bind g
 |.pure a,f,g=>rfl
 |.load m a k,f,g=>by simp only[Ξ];congr 1;funext v;exact bind_assoc' (k v) f g
 |.store m a v k,f,g=>by simp only[Ξ];congr 1;exact bind_assoc' k f g
 |.new o k,f,g=>by simp only[Ξ];congr 1;funext v;exact bind_assoc' (k v) f g
 |.shape o k,f,g=>by simp only[Ξ];congr 1;funext v;exact bind_assoc' (k v) f g
 |.freeze a n k,f,g=>by simp only[Ξ];congr 1;exact bind_assoc' k f g
 |.frozen o k,f,g=>by simp only[Ξ];congr 1;funext v;exact bind_assoc' (k v) f g
 |.getObj o k,f,g=>by simp only[Ξ];congr 1;funext v;exact bind_assoc' (k v) f g
 |.setObj a n k,f,g=>by simp only[Ξ];congr 1;exact bind_assoc' k f g
 |.choose o k,f,g=>by simp only[Ξ];congr 1;funext v;exact bind_assoc' (k v) f g
 |.sys o k,f,g=>by simp only[Ξ];congr 1;funext v;exact bind_assoc' (k v) f g
 |.program k,f,g=>by simp only[Ξ];congr 1;funext v;exact bind_assoc' (k v) f g
 |.mark m k,f,g=>by simp only[Ξ];congr 1;exact bind_assoc' k f g
 |.halt h,f,g=>rfl
theorem bind_pure' {γ:Type}:∀(s:Sem γ),s.bind Sem.pure=s
 |.pure a=>rfl
 |.load m a k=>by simp only[Ξ];congr 1;funext v;exact bind_pure' (k v)
 |.store m a v k=>by simp only[Ξ];congr 1;exact bind_pure' k
 |.new o k=>by simp only[Ξ];congr 1;funext v;exact bind_pure' (k v)
 |.shape o k=>by simp only[Ξ];congr 1;funext v;exact bind_pure' (k v)
 |.freeze a n k=>by simp only[Ξ];congr 1;exact bind_pure' k
 |.frozen o k=>by simp only[Ξ];congr 1;funext v;exact bind_pure' (k v)
 |.getObj o k=>by simp only[Ξ];congr 1;funext v;exact bind_pure' (k v)
 |.setObj a n k=>by simp only[Ξ];congr 1;exact bind_pure' k
 |.choose o k=>by simp only[Ξ];congr 1;funext v;exact bind_pure' (k v)
 |.sys o k=>by simp only[Ξ];congr 1;funext v;exact bind_pure' (k v)
 |.program k=>by simp only[Ξ];congr 1;funext v;exact bind_pure' (k v)
 |.mark m k=>by simp only[Ξ];congr 1;exact bind_pure' k
 |.halt h=>rfl
theorem lawful:LawfulMonad Sem:=LawfulMonad.mk' Sem (id_map:=λx=>bind_pure' x) (pure_bind:=λ_ _=>rfl) (bind_assoc:=λx f g=>bind_assoc' x f g)
theorem KX {γ:Type}{f f':γ→Sem α}(hf:∀x,aa P ρ Eq (f x) (f' x)):∀(l:List γ),aa P ρ Eq (l.mapM f) (l.mapM f')
 |[]=>by haveI:=lawful;simp only[List.mapM_nil];exact aa.pure rfl
 |x::r=>by
  haveI:=lawful
  simp only[List.mapM_cons];refine aa.bind (hf x) ?_;rintro a _ rfl;refine aa.bind (KX hf r) ?_;rintro as _ rfl;exact aa.pure rfl
theorem OW {γ:Type}{f f':γ→Sem α}(hf:∀x,aa P ρ Eq (f x) (f' x))(l:Array γ):aa P ρ Eq (l.mapM f) (l.mapM f'):=by
 haveI:=lawful
 rw[zcs,zcs];refine aa.bind (KX hf l.toList) ?_;rintro as _ rfl;exact aa.pure rfl
theorem OX (hp:Plain P ρ)(t:Δ)(parts:Array (Nat×Γ)):aa P ρ (VV ρ) (Instr.build t parts) (Instr.build t (parts.map λx=>(x.1,rv ρ x.2))):=by
 unfold Instr.build;refine aa.bind (eo hp t) ?_;rintro v v' ⟨e,hv⟩;subst e;refine aa.bind (aq t) ?_;rintro d d' ⟨e,_⟩;subst e;have hz:v'.cells.map (rv ρ)=v'.cells:=by rw[←ju,hv]
 have hf:=λplace=>EG (ρ:=ρ) place parts.toList v'.cells;simp only[hz]at hf;cases d' with
 |struct fields=>
  simp only;refine aa.bind (OW (λf=>?_) fields) ?_
  ·refine aa.bind (cd f.type) ?_;rintro n _ rfl;exact aa.pure rfl
  ·rintro pl _ rfl;rw[zbk,hf];cases Instr.fill (λx=>pl[x]?) v'.cells parts.toList with
   |none=>exact aa.stuck _
   |some cs=>exact aa.pure (by simp[VV,rv])
 |array n e=>
  simp only;refine aa.bind (cd e) ?_;rintro sz _ rfl;rw[zbk,hf];cases Instr.fill (λi=>some (i*sz,sz)) v'.cells parts.toList with
  |none=>exact aa.stuck _
  |some cs=>exact aa.pure (by simp[VV,rv])
 |_=>exact aa.stuck _
theorem IA (v:Γ)(i:Nat):aa P ρ (VV ρ) (Instr.extract v i) (Instr.extract (rv ρ v) i):=by
 cases v with
 |tuple vs=>
  simp only[rv,Instr.extract,zaw];cases vs[i]? with
  |none=>exact aa.stuck _
  |some v=>exact aa.pure rfl
 |_=>simp only[rv,Instr.extract];exact aa.stuck _
theorem Ai (hp:Plain P ρ)(v:Γ)(y:Nat)(c:BoundsCode):aa P ρ Eq (Instr.sliceBound v y c) (Instr.sliceBound (rv ρ v) y c):=by
 unfold Instr.sliceBound;refine aa.bind (oF v) ?_;rintro x _ rfl;refine aa.aj (λ_=>aa.pure rfl) (λ_=>gh hp _ _ _ _)
theorem pH (hp:Plain P ρ)(b:Bool)(len cap:Nat)(lo hi mx:Option Γ):aa P ρ Eq (Instr.sliceBounds b len cap lo hi mx) (Instr.sliceBounds b len cap (lo.map (rv ρ)) (hi.map (rv ρ)) (mx.map (rv ρ))):=by
 have hb:=λv y c=>Ai (P:=P) (ρ:=ρ) hp v y c;unfold Instr.sliceBounds;cases mx<;>cases hi<;>cases lo<;>simp only[Θ,Option.isSome];all_goals
  repeat' first
   |exact aa.pure rfl
   |exact aa.stuck _
   |(refine aa.bind (R:=Eq) (aa.pure rfl) ?_;rintro _ _ rfl)
   |(refine aa.bind (hb _ _ _) ?_;rintro _ _ rfl)
   |(refine aa.bind (R:=Eq) (aa.stuck _) ?_;rintro _ _ rfl)
theorem OY (a:Option Addr)(n:Nat):(a.map (ra ρ)).map (·.add n)=(a.map (·.add n)).map (ra ρ):=by
 cases a with
 |none=>rfl
 |some a=>simp[jP]
theorem OZ (hp:Plain P ρ)(t:Δ)(x:Γ)(lo hi mx:Option Γ):aa P ρ (VV ρ) (Instr.slice t x lo hi mx) (Instr.slice t (rv ρ x) (lo.map (rv ρ)) (hi.map (rv ρ)) (mx.map (rv ρ))):=by
 have hs:=λb len cap mx=>pH (P:=P) (ρ:=ρ) hp b len cap lo hi mx;have ha:=Ca hp x;unfold Instr.slice;refine aa.bind (aq t) ?_;rintro d d' ⟨e,_⟩;subst e;cases d'<;>cases x<;>simp only[rv]at ha ⊢<;>try exact aa.stuck _
 case string.string=>
  simp only[Option.isSome_map];refine aa.aj (λ_=>aa.bind (R:=Eq) (aa.stuck _) (λ_ _ _=>?_)) (λ_=>?_);all_goals
   refine aa.bind (hs _ _ _ none) ?_;rintro b _ rfl;exact aa.pure (by simp[VV,rv])
 case slice.slice=>
  refine aa.bind (hs _ _ _ mx) ?_;rintro b _ rfl;refine aa.bind (cd _) ?_;rintro n _ rfl;refine aa.pure ?_;simp only[VV,rv,OY];split<;>rfl
 all_goals
  refine aa.bind ha ?_;rintro a _ rfl;refine aa.bind (aq _) ?_;rintro d d' ⟨e,_⟩;subst e;cases d' with
  |array n e=>
   refine aa.bind (hs _ _ _ mx) ?_;rintro b _ rfl;refine aa.bind (cd e) ?_;rintro n _ rfl;refine aa.pure ?_;simp only[VV,rv,Θ,jP];split<;>rfl
  |_=>exact aa.stuck _
theorem IB (hp:Plain P ρ)(t:Δ)(x:Γ)(lo hi mx:Option Γ):aa P ρ (VV ρ) (Instr.sliceAt t x lo hi mx) (Instr.sliceAt t (rv ρ x) (lo.map (rv ρ)) (hi.map (rv ρ)) (mx.map (rv ρ))):=by
 have hs:=λb len cap mx=>pH (P:=P) (ρ:=ρ) hp b len cap lo hi mx;unfold Instr.sliceAt;refine aa.bind (aq t) ?_;rintro d d' ⟨e,_⟩;subst e;cases d' with
 |array n e=>
  refine aa.bind (kz x) ?_;rintro a _ rfl;refine aa.bind (hs _ _ _ mx) ?_;rintro b _ rfl;refine aa.bind (cd e) ?_;rintro n _ rfl;refine aa.pure ?_;simp only[VV,rv,Θ,jP];split<;>rfl
 |_=>exact OZ hp t x lo hi mx
theorem O0 (hp:Plain P ρ)(t:Δ)(x i:Γ):aa P ρ (VV ρ) (Instr.index t x i) (Instr.index t (rv ρ x) (rv ρ i)):=by
 unfold Instr.index;refine aa.bind (oF i) ?_;rintro k _ rfl;refine aa.bind (aq t) ?_;rintro d d' ⟨e,_⟩;subst e;cases d'<;>cases x<;>simp only[rv]<;>try exact aa.stuck _
 case array.agg=>
  refine aa.aj (λ_=>?_) (λ_=>gh hp _ _ _ _);refine aa.bind (cd _) ?_;rintro m _ rfl;exact nz _ _ _
 case string.string=>
  split
  ·exact aa.pure (by simp[VV,rv])
  ·exact gh hp _ _ _ _
theorem IC (hp:Plain P ρ)(t:Δ)(x i:Γ):aa P ρ (VV ρ) (Instr.indexAt t x i) (Instr.indexAt t (rv ρ x) (rv ρ i)):=by
 have hsa:=kz (P:=P) (ρ:=ρ) x;have tail:∀(k:IntKind×Int) (base:Option Addr) (len:Nat) (elem:Δ),aa P ρ (VV ρ)
  (do let d ←underlying t
      match base with
      |some a=>
       if 0≤k.2∧k.2<len then do let n ←sizeOf elem;pure (.pointer (some (a.add (k.2.toNat*n))))
       else if(decide (len≤1)&&(match d with|.array ..=>true|_=>false))=true then unsupported (.noEntry "op/indexAddr.an index out of range at an array of length 0 or 1 (ledger 616)")
       else boundsPanic k.1 k.2 len .index
      |none=>boundsPanic k.1 k.2 0 .index)
  (do let d ←underlying t
      match base.map (ra ρ)with
      |some a=>
       if 0≤k.2∧k.2<len then do let n ←sizeOf elem;pure (.pointer (some (a.add (k.2.toNat*n))))
       else if(decide (len≤1)&&(match d with|.array ..=>true|_=>false))=true then unsupported (.noEntry "op/indexAddr.an index out of range at an array of length 0 or 1 (ledger 616)")
       else boundsPanic k.1 k.2 len .index
      |none=>boundsPanic k.1 k.2 0 .index):=by
  intro k base len elem;refine aa.bind (aq t) ?_;rintro d d' ⟨e,_⟩;subst e;cases base with
  |none=>exact gh hp _ _ _ _
  |some a=>
   simp only[Θ];refine aa.aj (λ_=>?_) (λ_=>aa.aj (λ_=>aa.unsupported _) (λ_=>gh hp _ _ _ _));refine aa.bind (cd elem) ?_;rintro n _ rfl;exact aa.pure (by simp[VV,rv,jP])
 unfold Instr.indexAt;refine aa.bind (oF i) ?_;rintro k _ rfl;refine aa.bind (aq t) ?_;rintro d d' ⟨e,_⟩;subst e;cases d'<;>cases x<;>simp only[rv]at hsa ⊢<;>first
  |exact aa.bind (R:=λ(_:Option Addr×Nat×Δ) (_:Option Addr×Nat×Δ)=>False) (aa.stuck _) (λ_ _ h=>h.elim)
  |(refine aa.bind (R:=λ(x:Option Addr×Nat×Δ) y=>y=(x.1.map (ra ρ),x.2)) (aa.pure rfl) ?_;rintro ⟨base,len,elem⟩ _ rfl;exact tail k base len elem)
  |(refine aa.bind hsa ?_;rintro a _ rfl;exact tail k (some a) _ _)
theorem gH (r:Nat):aa P ρ Eq (shape r) (shape (ρ r)):=⟨_,rfl,λ_=>⟨_,rfl,rfl⟩⟩
theorem lR (a:Addr):aa P ρ Eq (frozen a) (frozen (ra ρ a)):=⟨_,rfl,λ_=>⟨_,rfl,rfl⟩⟩
theorem KY (a:Addr)(n:Nat):aa P ρ Eq (freeze a n) (freeze (ra ρ a) n):=⟨_,rfl,⟨_,rfl,rfl⟩⟩
theorem lS (r:Nat):aa P ρ (λo o'=>o'=ro ρ o∧GO P ρ o) (getObj r) (getObj (ρ r)):=⟨_,rfl,λ_ h=>⟨_,rfl,rfl,h⟩⟩
theorem Cb (r:Nat)(o:Obj)(h:KW o):aa P ρ Eq (setObj r o) (setObj (ρ r) (ro ρ o)):=⟨h,_,rfl,⟨_,rfl,rfl⟩⟩
theorem Aj (m:Mark)(h:MOk m:=by trivial):aa P ρ Eq (mark m) (mark m):=⟨h,_,rfl,⟨_,rfl,rfl⟩⟩
theorem y9 (n:Nat):aa P ρ Eq (askRoom n) (askRoom n):=by
 unfold askRoom;exact aa.aj (λ_=>Aj _) (λ_=>aa.pure rfl)
theorem EH:rv ρ default=default:=by
 rw[show(default:Γ)=.bool default from rfl];simp[rv]
theorem ID {z:Array Γ}(h:z.map (rv ρ)=z)(i:Nat):rv ρ z[i]! =z[i]!:=by
 rw[Array.getElem!_eq_getD,zby];have:(z.map (rv ρ))[i]?=z[i]?:=by rw[h]
 rw[zaw]at this;cases hz:z[i]? with
 |none=>exact EH
 |some v=>rw[hz]at this;simpa using this
theorem nA {z:Array Γ}(h:z.map (rv ρ)=z)(n m:Nat):((Array.range n).map (λx=>z[x%m]!)).map (rv ρ)=(Array.range n).map (λx=>z[x%m]!):=by
 rw[zbU]
 congr 1
 funext x;exact ID h _
theorem jv {R:α→β→Prop}{γ δ:Type}{s:Sem γ}{s':Sem δ}{f:γ→Sem α}{f':δ→Sem β}(h:aa P ρ (λ_ _=>False) s s'):aa P ρ R (s>>=f) (s'>>=f'):=aa.bind h (λ_ _ h=>h.elim)
theorem Cc (hp:Plain P ρ)(t:Δ)(l c:Γ):aa P ρ (VV ρ) (Instr.makeSlice t l c) (Instr.makeSlice t (rv ρ l) (rv ρ c)):=by
 unfold Instr.makeSlice;refine aa.bind (aq t) ?_;rintro d d' ⟨e,_⟩;subst e;cases d'<;>try exact aa.stuck _
 simp only;refine aa.bind (mn l) ?_;rintro l _ rfl;refine aa.bind (mn c) ?_;rintro c _ rfl;refine aa.bind (eC _) ?_;rintro d d' ⟨e,_⟩;subst e;refine aa.aj (λ_=>?_) (λ_=>?_)
 ·refine aa.aj (λ_=>jv (aN _)) (λ_=>aa.aj (λ_=>jv (aN _)) (λ_=>?_));refine aa.bind (im _) ?_;rintro n _ rfl;exact jv (aN _)
 ·refine aa.bind (y9 _) ?_;rintro _ _ rfl;refine aa.bind (cd _) ?_;rintro n _ rfl;have fin:∀z:Array Γ,z.map (rv ρ)=z→∀m k q:Nat,∀e:Δ,aa P ρ (VV ρ) (do let a ←newRow e ((Array.range m).map (λx=>z[x%z.size]!));pure (.slice (some a) k q)) (do let a ←newRow e ((Array.range m).map (λx=>z[x%z.size]!));pure (.slice (some a) k q)):=λz hz m k q e=>by
   have:=qD (P:=P) (ρ:=ρ) e ((Array.range m).map (λx=>z[x%z.size]!));rw[nA hz]at this;refine aa.bind this ?_;rintro a _ rfl;exact aa.pure (by simp[VV,rv])
  refine aa.aj (λ_=>?_) (λ_=>?_)
  ·refine aa.bind (R:=λz z'=>z'=z∧z.map (rv ρ)=z) (aa.pure ⟨rfl,by simp⟩) ?_;rintro z _ ⟨rfl,hz⟩;exact fin _ hz _ _ _ _
  ·refine aa.bind (eo hp _) ?_;rintro v v' ⟨e,hv⟩;subst e;refine aa.bind (R:=λz z'=>z'=z∧z.map (rv ρ)=z) (aa.pure ⟨rfl,by rw[←ju,hv]⟩) ?_;rintro z _ ⟨rfl,hz⟩;exact fin _ hz _ _ _ _
theorem Ak (hp:Plain P ρ)(t:Δ)(len:Nat)(parts:Array (Nat×Γ)):aa P ρ (VV ρ) (Instr.buildSlice t len parts) (Instr.buildSlice t len (parts.map λx=>(x.1,rv ρ x.2))):=by
 unfold Instr.buildSlice;refine aa.bind (aq t) ?_;rintro d d' ⟨e,_⟩;subst e;cases d'<;>try exact aa.stuck _
 simp only;refine aa.bind (cd _) ?_;rintro n _ rfl;have fin:∀z:Array Γ,z.map (rv ρ)=z→∀e:Δ,aa P ρ (VV ρ)
  (match Instr.fill (λi=>some (i*n,n)) ((Array.range (len*n)).map (λx=>z[x%z.size]!)) parts.toList with|some cells=>(do let a ←newRow e cells;pure (.slice (some a) len len))|_=>stuck "buildSlice: a part of the wrong size")
  (match Instr.fill (λi=>some (i*n,n)) ((Array.range (len*n)).map (λx=>z[x%z.size]!)) (parts.map λx=>(x.1,rv ρ x.2)).toList with|some cells=>(do let a ←newRow e cells;pure (.slice (some a) len len))|_=>stuck "buildSlice: a part of the wrong size"):=λz hz e=>by
  have hf:=EG (ρ:=ρ) (λi=>some (i*n,n)) parts.toList ((Array.range (len*n)).map (λx=>z[x%z.size]!));rw[nA hz]at hf;rw[zbk,hf];cases Instr.fill (λi=>some (i*n,n)) ((Array.range (len*n)).map (λx=>z[x%z.size]!)) parts.toList with
  |none=>exact aa.stuck _
  |some cs=>
   refine aa.bind (qD e cs) ?_;rintro a _ rfl;exact aa.pure (by simp[VV,rv])
 refine aa.aj (λ_=>jv (aa.unsupported _)) (λ_=>?_);refine aa.aj (λ_=>?_) (λ_=>?_)
 ·refine aa.bind (R:=λz z'=>z'=z∧z.map (rv ρ)=z) (aa.pure ⟨rfl,by simp⟩) ?_;rintro z _ ⟨rfl,hz⟩;exact fin _ hz _
 ·refine aa.bind (eo hp _) ?_;rintro v v' ⟨e,hv⟩;subst e;refine aa.bind (R:=λz z'=>z'=z∧z.map (rv ρ)=z) (aa.pure ⟨rfl,by rw[←ju,hv]⟩) ?_;rintro z _ ⟨rfl,hz⟩;exact fin _ hz _
theorem O1 (t:Δ)(x:Γ)(f:Nat):aa P ρ (VV ρ) (Instr.field t x f) (Instr.field t (rv ρ x) f):=by
 unfold Instr.field;refine aa.bind (aq t) ?_;rintro d d' ⟨e,_⟩;subst e;cases d'<;>try exact aa.stuck _
 simp only;split
 ·refine aa.bind (OU x) ?_;rintro cs _ rfl;exact nz _ _ _
 ·exact aa.stuck _
theorem uD (t:Δ)(x:Γ):aa P ρ (VV ρ) (Instr.makeInterface t x) (Instr.makeInterface t (rv ρ x)):=by
 unfold Instr.makeInterface;refine aa.bind (aq t) ?_;rintro d d' ⟨e,_⟩;subst e;cases d'<;>first|exact aa.stuck _|exact aa.pure (by simp[VV,rv])
theorem qE (r:Nat):aa P ρ (λx y=>y=x.map λz=>(ra ρ z.1,z.2)) (viewAt r) (viewAt (ρ r)):=by
 unfold viewAt;refine aa.bind (gH r) ?_;rintro sh _ rfl;refine aa.aj (λ_=>aa.pure rfl) (λ_=>?_);refine aa.bind (lS r) ?_;rintro o _ ⟨rfl,_⟩;cases o<;>simp only[ro]<;>exact aa.pure rfl
theorem vI (a:Addr):aa P ρ Eq (noView a) (noView (ra ρ a)):=by
 unfold noView;refine aa.bind (qE a.block) ?_;rintro x _ rfl;simp only[Option.isSome_map];exact aa.aj (λ_=>aa.unsupported _) (λ_=>aa.pure rfl)
theorem kA (a:Addr):aa P ρ Eq (byteOf a) (byteOf (ra ρ a)):=by
 unfold byteOf;have e1:(ra ρ a).spot=a.spot:=rfl;have e2:(ra ρ a).off=a.off:=rfl;have e3:(ra ρ a).block=ρ a.block:=rfl;simp only[e1,e2,e3];cases a.spot with
 |some s=>exact aa.pure rfl
 |none=>
  simp only;refine aa.bind cz ?_;rintro _ _ ⟨rfl,rfl⟩;refine aa.bind (vI a) ?_;rintro _ _ rfl;refine aa.bind (gH a.block) ?_;rintro sh _ rfl;cases sh with
  |none=>exact aa.stuck _
  |some x=>
   simp only;refine aa.aj (λ_=>aa.pure rfl) (λ_=>?_);split
   ·exact aa.pure rfl
   ·exact aa.stuck _
theorem KZ (a:Addr)(c b:Nat):aa P ρ (AA ρ) (partAt a c b) (partAt (ra ρ a) c b):=by
 unfold partAt;refine aa.bind (kA a) ?_;rintro x _ rfl;refine aa.bind (kA { block:=a.block,off:=a.off+c }) ?_;rintro y _ rfl;refine aa.pure ?_;simp only[AA,ra];split<;>rfl
theorem Al (a:Addr)(f:Field):aa P ρ (AA ρ) (fieldPlace a f) (fieldPlace (ra ρ a) f):=by
 unfold fieldPlace;refine aa.bind (cd _) ?_;rintro n _ rfl;exact aa.aj (λ_=>KZ _ _ _) (λ_=>aa.pure (jP _ _))
theorem IE (t:Δ)(x:Γ)(f:Nat):aa P ρ (VV ρ) (Instr.fieldAt t x f) (Instr.fieldAt t (rv ρ x) f):=by
 unfold Instr.fieldAt;refine aa.bind (aq t) ?_;rintro d d' ⟨e,_⟩;subst e;cases d'<;>try exact aa.stuck _
 simp only;split
 ·refine aa.bind (kz x) ?_;rintro a _ rfl;refine aa.bind (Al a _) ?_;rintro b _ rfl;exact aa.pure (by simp[VV,rv])
 ·exact aa.stuck _
theorem Gt (v:Γ):aa P ρ Eq (Builtin.lenOf v) (Builtin.lenOf (rv ρ v)):=by
 cases v<;>simp only[rv,Builtin.lenOf]<;>first|exact aa.pure rfl|exact aa.stuck _
theorem mq (size n:Nat)(v:Γ):aa P ρ (λx y=>y=x.map (rv ρ)) (Λ size n v) (Λ size n (rv ρ v)):=by
 cases v with
 |slice a l c=>
  cases a with
  |none=>simp only[rv,Θ,Λ];exact aa.pure (by simp)
  |some a=>simp only[rv,Θ,Λ];exact ny a _
 |string s=>
  simp only[rv,Λ];refine aa.pure ?_;rw[zbU]
  congr 1
  funext b;simp[rv]
 |_=>simp only[rv,Λ];exact aa.stuck _
theorem mr (a:Addr)(n:Nat):aa P ρ Eq (Φ a n) (Φ (ra ρ a) n):=by
 unfold Φ;refine aa.bind (gH a.block) ?_;rintro x _ rfl;cases x<;>exact aa.pure rfl
theorem mV {z:Array Γ}(h:z.map (rv ρ)=z)(n:Nat):(Ω z n).map (rv ρ)=Ω z n:=nA h _ _
theorem EI (hp:Plain P ρ)(size lT n:Nat)(a:Option Addr)(x:Γ):aa P ρ Eq (Builtin.mayShare size lT n a x) (Builtin.mayShare size lT n (a.map (ra ρ)) (rv ρ x)):=by
 have hi:∀u v:Nat,(ρ u==ρ v)=(u==v):=λu v=>by
  rw[zbh];simp only[zbs];exact⟨hp.inj _ _,λh=>by rw[h]⟩
 have h1:∀b:Addr,aa P ρ Eq (do pure ((←Φ b (lT*size))&&!(←frozen (b.add (lT/2*size))))) (do pure ((←Φ (ra ρ b) (lT*size))&&!(←frozen ((ra ρ b).add (lT/2*size))))):=λb=>by
  refine aa.bind (mr b _) ?_;rintro _ _ rfl;rw[jP];refine aa.bind (lR _) ?_;rintro _ _ rfl;exact aa.pure rfl
 have h2:aa P ρ Eq (match x with|.slice (some b) _ _=>do pure (!(←Φ b (n*size))||a.any (·.block==b.block))|_=>pure false) (match rv ρ x with|.slice (some b) _ _=>do pure (!(←Φ b (n*size))||(a.map (ra ρ)).any (·.block==b.block))|_=>pure false):=by
  cases x with
  |slice b l c=>
   cases b with
   |none=>simp only[rv,Θ];exact aa.pure rfl
   |some b=>
    simp only[rv,Θ];refine aa.bind (mr b _) ?_;rintro _ _ rfl;refine aa.pure ?_;cases a with
    |none=>rfl
    |some a=>simp[ra,hi]
  |_=>simp only[rv];exact aa.pure rfl
 unfold Builtin.mayShare;cases a with
 |none=>
  simp only[Θ]at h2 ⊢;refine aa.bind (R:=Eq) (aa.pure rfl) ?_;rintro b _ rfl;exact aa.aj (λ_=>aa.pure rfl) (λ_=>h2)
 |some a=>
  simp only[Θ]at h2 ⊢;refine aa.bind (mr a _) ?_;rintro b1 _ rfl;rw[jP];refine aa.bind (lR _) ?_;rintro b2 _ rfl;refine aa.bind (R:=Eq) (aa.pure rfl) ?_;rintro b _ rfl;exact aa.aj (λ_=>aa.pure rfl) (λ_=>h2)
theorem aa1 (a:Option Addr)(size lT Am:Nat)(new:Array Γ)(k:Nat):aa P ρ (VV ρ)
 (match a with|some b=>(do storeCells (b.add (lT*size)) new.toList;pure (.slice a k Am))|_=>pure (.slice a k Am))
 (match a.map (ra ρ)with|some b=>(do storeCells (b.add (lT*size)) (new.map (rv ρ)).toList;pure (.slice (a.map (ra ρ)) k Am))|_=>pure (.slice (a.map (ra ρ)) k Am)):=by
 cases a with
 |none=>exact aa.pure (by simp[VV,rv])
 |some b=>
  simp only[Θ,jP,zbk];refine aa.bind (j9 _ _ _) ?_;rintro _ _ rfl;exact aa.pure (by simp[VV,rv])
theorem K0 (hp:Plain P ρ)(ts:Array Δ)(ty:Δ)(args:Array Γ):aa P ρ (VV ρ) (Builtin.append_ ts ty args) (Builtin.append_ ts ty (args.map (rv ρ))):=by
 unfold Builtin.append_;simp only[zaw];rcases ts[0]? with _|t0<;>rcases args[0]? with _|s<;>rcases args[1]? with _|x<;>simp only[Θ]<;>try exact aa.stuck _
 refine aa.bind (aq t0) ?_;rintro d d' ⟨e,_⟩;subst e;cases d'<;>try exact aa.stuck _
 cases s<;>simp only[rv]<;>try exact aa.stuck _
 rename_i elem _ a lT Am;have hA:∀(zeros:Bool) (size n:Nat),aa P ρ (λx y=>y=x.map (rv ρ)) (if(!zeros)=true then Λ size n x else if n*size=0 then pure #[]else do let z ←ζ elem;pure (Ω z.cells n)) (if(!zeros)=true then Λ size n (rv ρ x)else if n*size=0 then pure #[]else do let z ←ζ elem;pure (Ω z.cells n)):=λzeros size n=>by
  refine aa.aj (λ_=>mq _ _ _) (λ_=>aa.aj (λ_=>aa.pure (by simp)) (λ_=>?_));refine aa.bind (eo hp elem) ?_;rintro v v' ⟨e,hv⟩;subst e;exact aa.pure (mV (by rw[←ju,hv]) n).symm
 have hO:∀size,aa P ρ (λx y=>y=x.map (rv ρ)) (Λ size lT (.slice a lT Am)) (Λ size lT (.slice (a.map (ra ρ)) lT Am)):=λsize=>by
  have:=mq (P:=P) (ρ:=ρ) size lT (.slice a lT Am);simpa only[rv]using this
 refine aa.bind (cd _) ?_;rintro size _ rfl;have hM:=λn=>EI (P:=P) (ρ:=ρ) hp size lT n a x;have eH:=λnew k=>aa1 (P:=P) (ρ:=ρ) a size lT Am new k;have hF:∀(old new:Array Γ) (k q:Nat),aa P ρ (VV ρ)
  (do let z ←ζ elem;let r ←newRow elem (old++new++Ω z.cells (q-k));pure (.slice (some r) k q))
  (do let z ←ζ elem;let r ←newRow elem (old.map (rv ρ)++new.map (rv ρ)++Ω z.cells (q-k));pure (.slice (some r) k q)):=λold new k q=>by
  refine aa.bind (eo hp elem) ?_;rintro v v' ⟨e,hv⟩;subst e;have:=qD (P:=P) (ρ:=ρ) elem (old++new++Ω v'.cells (q-k));rw[Array.map_append,Array.map_append,mV (by rw[←ju,hv])]at this;refine aa.bind this ?_;rintro r _ rfl;exact aa.pure (by simp[VV,rv])
 have hPn:∀(zeros:Bool) (n:Nat),aa P ρ (λ(_:PUnit) (_:PUnit)=>False)
  (if zeros=true then runtimePanic (.error "growslice: len out of range")else do
    let b ←Builtin.mayShare size lT n a x
    if(!b)=true then do mark .noRoom;unsupported (.resourceLimit "append: a slice or a string whose bytes no memory bears")
    else unsupported (.resourceLimit "append: a slice or a string whose bytes no memory bears"))
  (if zeros=true then runtimePanic (.error "growslice: len out of range")else do
    let b ←Builtin.mayShare size lT n (a.map (ra ρ)) (rv ρ x)
    if(!b)=true then do mark .noRoom;unsupported (.resourceLimit "append: a slice or a string whose bytes no memory bears")
    else unsupported (.resourceLimit "append: a slice or a string whose bytes no memory bears")):=λzeros n=>by
  refine aa.aj (λ_=>aN _) (λ_=>?_);refine aa.bind (hM n) ?_;rintro b _ rfl;refine aa.aj (λ_=>?_) (λ_=>aa.unsupported _);exact aa.bind (Aj _) (λ_ _ _=>aa.unsupported _)
 rcases ts[1]? with _|t1<;>simp only
 all_goals
  repeat' first
   |exact aa.stuck _
   |exact aa.unsupported _
   |exact aN _
   |exact jv (aN _)
   |exact eH _ _
   |exact hF _ _ _ _
   |exact jv (hPn _ _)
   |(refine aa.aj (λ_=>?_) (λ_=>?_))
   |(refine aa.bind (eC _) ?_;rintro _ _ ⟨rfl,_⟩)
   |(refine aa.bind (aq _) ?_;rintro _ _ ⟨rfl,_⟩)
   |(refine aa.bind (R:=Eq) (aa.pure rfl) ?_;rintro _ _ rfl)
   |(refine aa.bind (im _) ?_;rintro _ _ rfl)
   |(refine aa.bind (y9 _) ?_;rintro _ _ rfl)
   |(refine aa.bind (hO _) ?_;rintro _ _ rfl)
   |(refine aa.bind (hA _ _ _) ?_;rintro _ _ rfl)
   |(refine aa.bind (hM _) ?_;rintro _ _ rfl)
   |(refine aa.bind (Aj _) ?_;rintro _ _ rfl)
   |(refine aa.bind (mn x) ?_;rintro _ _ rfl)
   |(refine aa.bind (Gt x) ?_;rintro _ _ rfl)
theorem SH (ts:Array Δ)(ty:Δ)(args:Array Γ):aa P ρ (VV ρ) (Builtin.copy_ ts ty args) (Builtin.copy_ ts ty (args.map (rv ρ))):=by
 unfold Builtin.copy_;simp only[zaw];rcases ts[0]? with _|t0<;>rcases args[0]? with _|s<;>rcases args[1]? with _|x<;>simp only[Θ]<;>try exact aa.stuck _
 refine aa.bind (aq t0) ?_;rintro d d' ⟨e,_⟩;subst e;cases d'<;>try exact aa.stuck _
 cases s<;>simp only[rv]<;>try exact aa.stuck _
 refine aa.bind (Gt x) ?_;rintro n _ rfl;refine aa.bind (cd _) ?_;rintro m _ rfl;refine aa.bind (mq _ _ x) ?_;rintro cs _ rfl;rename_i a l c;cases a with
 |none=>exact aa.pure (by simp[VV,rv,goInt])
 |some a=>
  simp only[Θ,zbk];refine aa.bind (j9 _ _ _) ?_;rintro _ _ rfl;exact aa.pure (by simp[VV,rv,goInt])
theorem Wd (ts:Array Δ)(ty:Δ)(args:Array Γ):aa P ρ (VV ρ) (Builtin.len_ ts ty args) (Builtin.len_ ts ty (args.map (rv ρ))):=by
 unfold Builtin.len_;simp only[zaw];rcases ts[0]? with _|t0<;>rcases args[0]? with _|s<;>simp only[Θ]<;>try exact aa.stuck _
 refine aa.bind (aq t0) ?_;rintro d d' ⟨e,_⟩;subst e;cases d'<;>cases s<;>simp only[rv]<;>first
  |exact aa.stuck _
  |exact aa.pure (by simp[VV,rv,goInt])
  |(refine aa.bind (aq _) ?_;rintro d d' ⟨e,_⟩;subst e;cases d'<;>first|exact aa.stuck _|exact aa.pure (by simp[VV,rv,goInt]))
  |skip
 all_goals
  rename_i r;cases r with
  |none=>exact aa.pure (by simp[VV,rv,goInt])
  |some r=>
   simp only[Θ];refine aa.bind (lS r) ?_;rintro o _ ⟨rfl,_⟩;cases o<;>simp only[ro]<;>first|exact aa.stuck _|exact aa.pure (by simp[VV,rv,goInt])
theorem vJ (r:Nat):aa P ρ (λx y=>y=x.map (λz=>(ra ρ z.1,z.2))∧∀z,x=some z→GA P ρ z.1) (numberAt r) (numberAt (ρ r)):=by
 unfold numberAt;refine aa.bind (gH r) ?_;rintro sh _ rfl;refine aa.aj (λ_=>aa.pure ⟨rfl,λz h=>by cases h⟩) (λ_=>?_);refine aa.bind (lS r) ?_;rintro o _ ⟨rfl,ho⟩;cases o<;>simp only[ro]<;>refine aa.pure ⟨rfl,λz h=>?_⟩<;>cases h;rcases ho with h|h
 ·exact .inl h
 ·simp only[ro,Obj.number.injEq]at h;exact .inr h.1
theorem dW (a:Addr)(ha:GA P ρ a):aa P ρ (λx y=>y=(ra ρ x.1,x.2)∧GA P ρ x.1) (behindNumber a) (behindNumber (ra ρ a)):=by
 unfold behindNumber;refine aa.bind (vJ a.block) ?_;rintro x _ ⟨rfl,hx⟩;refine aa.pure ?_;cases x with
 |none=>exact⟨rfl,ha⟩
 |some z=>exact⟨rfl,hx z rfl⟩
theorem u9 (t:Δ)(cs:Array Γ)(o:Nat)(h:yj P ρ∨cs.map (rv ρ)=cs):aa P ρ (λv v'=>v'=rv ρ v∧GV P ρ v) (part t cs o) (part t (cs.map (rv ρ)) o):=by
 unfold part;refine aa.bind (u7 t) ?_;rintro b _ rfl;cases b
 ·simp only[zaw,zaN,if_false];cases hc:cs[o]? with
  |none=>exact aa.stuck _
  |some v=>
   refine aa.pure ⟨rfl,h.imp id λh=>?_⟩;have h1:(cs.map (rv ρ))[o]?=some v:=by rw[h];exact hc
   rw[zaw,hc]at h1;simpa using h1
 ·simp only[if_true];refine aa.bind (cd t) ?_;rintro n _ rfl;exact aa.pure ⟨by simp only[rv];rw[Array.map_extract],h.imp id λh=>by simp only[rv];rw[Array.map_extract,h]⟩
theorem vK (hp:Plain P ρ)(a b:Addr):(ra ρ a==ra ρ b)=(a==b):=by
 rw[zbh];simp only[zbs];refine⟨λh=>?_,λh=>by rw[h]⟩;obtain⟨a1,a2,a3⟩:=a;obtain⟨b1,b2,b3⟩:=b;simp only[ra,Addr.mk.injEq]at h;rw[hp.inj _ _ h.1,h.2.1,h.2.2]
theorem sK (hp:Plain P ρ)(u v:Nat):(ρ u==ρ v)=(u==v):=by
 rw[zbh];simp only[zbs];exact⟨hp.inj _ _,λh=>by rw[h]⟩
theorem tY (a:Addr):aa P ρ Eq (stringish a) (stringish (ra ρ a)):=by
 unfold stringish;refine aa.bind (lR a) ?_;rintro b _ rfl;refine aa.aj (λ_=>aa.pure rfl) (λ_=>?_);refine aa.bind (gH a.block) ?_;rintro sh _ rfl;cases sh with
 |none=>exact aa.pure rfl
 |some x=>exact lR { block:=a.block,off:=x.2 }
theorem za (x:Addr):aa P ρ Eq (do pure ((←shape x.block) matches some (_,0))) (do pure ((←shape (ra ρ x).block) matches some (_,0))):=by
 refine aa.bind (gH x.block) ?_;rintro sh _ rfl;exact aa.pure rfl
theorem EJ (a b:Addr):aa P ρ Eq (mayBeOne a b) (mayBeOne (ra ρ a) (ra ρ b)):=by
 unfold mayBeOne;dsimp only;refine aa.bind (tY a) ?_;rintro s1 _ rfl;refine aa.bind (tY b) ?_;rintro s2 _ rfl;refine aa.bind (za a) ?_;rintro s3 _ rfl;refine aa.bind (za b) ?_;rintro s4 _ rfl;exact aa.pure rfl
theorem vL (hp:Plain P ρ)(a b:Addr):aa P ρ Eq (sameAddr a b) (sameAddr (ra ρ a) (ra ρ b)):=by
 unfold sameAddr;rw[vK hp];have e:((ra ρ a).block==(ra ρ b).block)=(a.block==b.block):=sK hp _ _;rw[e];refine aa.aj (λ_=>aa.pure rfl) (λ_=>?_);refine aa.bind (lR a) ?_;rintro f1 _ rfl;refine aa.bind (lR b) ?_;rintro f2 _ rfl;refine aa.aj (λ_=>jv (aa.unsupported _)) (λ_=>?_);refine aa.bind (vI a) ?_;rintro _ _ rfl;refine aa.bind (vI b) ?_;rintro _ _ rfl;refine aa.bind (EJ a b) ?_;rintro m _ rfl;refine aa.aj (λ_=>?_) (λ_=>aa.pure rfl);refine aa.bind (im _) ?_;rintro n _ rfl;exact aa.pure rfl
theorem yl (hp:Plain P ρ)(a b:Option Addr):aa P ρ Eq (samePointer a b) (samePointer (a.map (ra ρ)) (b.map (ra ρ))):=by
 cases a<;>cases b<;>simp only[Θ,samePointer]<;>first|exact vL hp _ _|exact aa.pure rfl
theorem zb (t:Δ):aa P ρ Eq (typeStr t) (typeStr t):=by
 unfold typeStr;refine aa.bind (eC t) ?_;rintro i i' ⟨e,_⟩;subst e;exact aa.aj (λ_=>aa.unsupported _) (λ_=>aa.pure rfl)
theorem my {γ:Type}{R:α→β→Prop}{f:γ→α→Sem (ForInStep α)}{f':γ→β→Sem (ForInStep β)}
 (hf:∀x a b,R a b→aa P ρ (λs t=>(∃a b,s=.yield a∧t=.yield b∧R a b)∨(∃a b,s=.done a∧t=.done b∧R a b)) (f x a) (f' x b)):∀(l:List γ) (a:α) (b:β),R a b→aa P ρ R (forIn l a f) (forIn l b f')
 |[],a,b,h=>by haveI:=lawful;simp only[List.forIn_nil];exact aa.pure h
 |x::r,a,b,h=>by
  haveI:=lawful
  simp only[List.forIn_cons];refine aa.bind (hf x a b h) ?_;rintro s t (⟨a',b',rfl,rfl,h'⟩|⟨a',b',rfl,rfl,h'⟩)
  ·exact my hf r a' b' h'
  ·exact aa.pure h'
end
end Go.Ren
