import GoSem.Dispatch
import Derived.Below
import Derived.Calls
import Derived.Conc.Beside
import Derived.Conc.Deaf
import Derived.Conc.Own
import Derived.Laws.AppendOwn
import Derived.Laws.Entries
import Derived.Laws.Rows
import Derived.Laws.Sem
import Derived.Lib.Builder
import Derived.Tactics
import Derived.WalkSmall
import GoSem.Core.Machine
import GoSem.Core.Sem
set_option maxHeartbeats 8000000
set_option maxRecDepth 100000
abbrev zaa:=@if_neg
abbrev zab:=@if_pos
abbrev zac:=@Nat.le_refl
abbrev zad:=@Go.RowKit.Below.refl
abbrev zae:=@Bool.and_eq_true
abbrev zaf:=@Prod.mk.injEq
abbrev zag:=@Nat.le_trans
abbrev zah:=@beq_eq_false_iff_ne
abbrev zai:=@Go.Calls.mono
abbrev zaj:=@Array.getElem?_eq_some_iff
abbrev zak:=@congrArg
abbrev zal:=@List.mem_cons
abbrev zam:=@List.cons_append
abbrev zan:=@Go.Result.ok.injEq
abbrev zao:=@Go.bodyPost_ret
abbrev zap:=@List.all_cons
abbrev zaq:=@Nat.zero_le
abbrev zar:=@List.length_cons
abbrev zas:=@Option.map_eq_some_iff
abbrev zat:=@List.getElem?_eq_getElem
abbrev zau:=@List.length_drop
abbrev zav:=@Go.heap_alloc_new
abbrev zaw:=@Nat.lt_or_ge
abbrev zax:=@Go.RowKit.Below.heap_setCell
abbrev zay:=@and_true
abbrev zaz:=@Array.getElem?_map
abbrev zaA:=@Array.getElem?_setIfInBounds_ne
abbrev zaB:=@List.map_cons
abbrev zaC:=@List.all_eq_true
abbrev zaD:=@List.mem_cons_self
abbrev zaE:=@Option.some.injEq
abbrev zaF:=@List.mem_append
abbrev zaG:=@Go.RowKit.Below.setCell
abbrev zaH:=@Go.RowKit.Below.alloc
abbrev zaI:=@Nat.lt_of_lt_of_le
abbrev zaJ:=@beq_iff_eq
abbrev zaK:=@decide_eq_true_eq
abbrev zaL:=@Array.getElem?_eq_getElem
abbrev zaM:=@Option.some.inj
abbrev zaN:=@Go.Conc.Deaf_other
abbrev zaO:=@Option.bind_eq_some_iff
abbrev zaP:=@Classical.choose_spec
abbrev zaQ:=@List.mem_cons_of_mem
abbrev zaR:=@List.length_append
abbrev zaS:=@decide_eq_false
abbrev zaT:=@Go.Lib.alloc_old
abbrev zaU:=@Bool.false_eq_true
abbrev zaV:=@Go.Conc.stepG_seq
abbrev zaW:=@Go.Conc.stepG_region
abbrev zaX:=@Go.Conc.stepG_region_end
abbrev zaY:=@decide_eq_true
abbrev zaZ:=@Bool.eq_iff_iff
abbrev zba:=@Go.Sem.run_bind
abbrev zbb:=@Go.Result.andThen_ok
abbrev zbc:=@Go.run_underlying
abbrev zbd:=@Go.Sem.run_pure
abbrev zbe:=@Go.Conc.mem_ofEvents
abbrev zbf:=@Go.below_drewN
abbrev zbg:=@Option.getD_some
abbrev zbh:=@List.getElem?_eq_some_iff
abbrev zbi:=@List.getElem?_append_left
abbrev zbj:=@Array.sizeOf_lt_of_mem
abbrev zbk:=@List.length_nil
abbrev zbl:=@Array.toList_map
abbrev zbm:=@List.nil_append
abbrev zbn:=@Int.toNat_natCast
abbrev zbo:=@List.mem_map
abbrev zbp:=@Option.map_some
abbrev zbq:=@Int.eq_ofNat_of_zero_le
abbrev zbr:=@List.mem_of_getElem?
abbrev zbs:=@Go.Result.halt.injEq
abbrev zbt:=@List.map_nil
abbrev zbu:=@List.drop_zero
abbrev zbv:=@List.getElem?_append_right
abbrev zbw:=@Go.Lib.cell_of_heap
abbrev zbx:=@List.getElem_mem
abbrev zby:=@List.length_map
abbrev zbz:=@Array.getElem?_toList
abbrev zbA:=@List.mem_singleton
abbrev zbB:=@List.flatMap_cons
abbrev zbC:=@List.drop_succ_cons
abbrev zbD:=@Go.Stepped.next.injEq
abbrev zbE:=@Array.getD_eq_getD_getElem?
abbrev zbF:=@Array.mem_of_getElem?
abbrev zbG:=@Array.getElem?_setIfInBounds_self_of_lt
abbrev zbH:=@Option.getD_none
abbrev zbI:=@Bool.true_and
abbrev zbJ:=@List.take_of_length_le
abbrev zbK:=@List.append_assoc
abbrev zbL:=@Array.length_toList
abbrev zbM:=@List.getElem?_drop
abbrev zbN:=@List.suffix_refl
abbrev zbO:=@Except.ok.injEq
abbrev zbP:=@Array.forIn_toList
abbrev zbQ:=@Array.getElem?_eq_none
abbrev zbR:=@List.map_toArray
abbrev zbS:=@List.drop_of_length_le
abbrev zbT:=@List.length_pos_iff
abbrev zbU:=@List.getElem?_map
abbrev zbV:=@Bool.and_eq_true_iff
abbrev zbW:=@decide_eq_false_iff_not
abbrev zbX:=@Array.getElem_map
abbrev zbY:=@Array.getElem?_push
abbrev zbZ:=@Bool.and_true
abbrev zca:=@List.mem_toArray
abbrev zcb:=@List.not_mem_nil
abbrev zcc:=@Option.isSome_iff_exists
abbrev zcd:=@Array.all_eq_true_iff_forall_mem
abbrev zce:=@Option.bind_some
abbrev zcf:=@List.eq_nil_of_length_eq_zero
abbrev zcg:=@List.nodup_nil
abbrev zch:=@Nat.lt_of_le_of_lt
abbrev zci:=@Nat.le_of_lt
abbrev zcj:=@Go.Frame.finish_at
abbrev zck:=@Go.World.ownsRow_nil
abbrev zcl:=@Array.map_map
abbrev zcm:=@Array.mem_iff_getElem
abbrev zcn:=@List.drop_drop
abbrev zco:=@List.nodup_cons
abbrev zcp:=@List.getElem?_eq_none
abbrev zcq:=@List.filter_cons_of_pos
abbrev zcr:=@Go.World.ownsRow.lt
abbrev zcs:=@Array.map_empty
abbrev zct:=@Array.map_setIfInBounds
abbrev zcu:=@Array.size_push
abbrev zcv:=@List.take_succ_eq_append_getElem
abbrev zcw:=@List.getElem?_cons_succ
abbrev zcx:=@List.mem_append_left
abbrev zcy:=@List.flatMap_append
abbrev zcz:=@List.append_nil
abbrev zcA:=@List.count_append
abbrev zcB:=@Nat.eq_zero_or_pos
abbrev zcC:=@Int.gcd_pos_of_ne_zero_right
abbrev zcD:=@List.drop_eq_getElem_cons
abbrev zcE:=@List.getElem?_modify
abbrev zcF:=@List.getElem?_replicate
abbrev zcG:=@List.getD_eq_getElem?_getD
abbrev zcH:=@List.filter_cons_of_neg
abbrev zcI:=@Go.World.ownsRow.alloc
abbrev zcJ:=@Array.mapM_eq_mapM_toList
abbrev zcK:=@Array.getElem?_setIfInBounds
open Option renaming map→Γ
open Go renaming Value→Δ,TypeId→Θ,zeroValue→ζ,Program→η,typeInfo→ξ
open Go.Builtin renaming firstCells→Λ,holdsCells→Φ,zeroCells→Ω
open Go.Sem renaming bind→Ξ
open Go.Instr renaming sureAddr→θ
open Go.Op renaming equalIn→ι
namespace Go.Ren
structure Rn where
 b:Nat→Nat
 f:Fn→Fn
 d:Nat
instance:CoeFun Rn (λ_=>Nat→Nat):=⟨Rn.b⟩
def ra (ρ:Rn)(a:Addr):Addr:={ a with block:=ρ a.block }
def rv (ρ:Rn):Δ→Δ
 |.pointer a=> .pointer (a.map (ra ρ))
 |.slice a l c=> .slice (a.map (ra ρ)) l c
 |.map r=> .map (r.map ρ.b)
 |.chan r=> .chan (r.map ρ.b)
 |.func fn first captured=> .func (ρ.f fn) (first.map (rv ρ)) (captured.map (rv ρ))
 |.iface t v=> .iface t (rv ρ v)
 |.agg cs=> .agg (cs.map (rv ρ))
 |.tuple vs=> .tuple (vs.map (rv ρ))
 |.bool b=> .bool b
 |.int k n=> .int k n
 |.float k n=> .float k n
 |.complex k a b=> .complex k a b
 |.string s=> .string s
 |.nilFunc=> .nilFunc
 |.nilIface=> .nilIface
def ro (ρ:Rn):Obj→Obj
 |.cells c t f=> .cells (c.map (rv ρ)) t f
 |.map es c=> .map (es.map λe=>{ e with key:=rv ρ e.key,val:=rv ρ e.val }) c
 |.view a t=> .view (ra ρ a) t
 |.number a b=> .number (ra ρ a) b
 |.pending c t=> .pending (c.map (rv ρ)) t
 |.chan cap buf cl s r t=> .chan cap (buf.map (rv ρ)) cl s r t
 |o=>o
def rm (ρ:Rn):Mark→Mark
 |.acquire a=> .acquire (ra ρ a)
 |.release a=> .release (ra ρ a)
 |.releaseMerge a=> .releaseMerge (ra ρ a)
 |.read a=> .read (ra ρ a)
 |.write a=> .write (ra ρ a)
 |m=>m
def l6:Obj→Prop
 |.cells .. |.view .. |.number .. |.map ..=>True
 |_=>False
def MOk:Mark→Prop
 |.extern _|.noRoom=>True
 |_=>False
def DW:Halt→Prop
 |.panic _|.stuck _=>True
 |.unsupported (.initOrder _)=>False
 |.unsupported _=>True
 |_=>False
def Am (P:η)(ρ:Rn):Prop:=∀r,ρ r<P.globals.size↔r<P.globals.size
def GV (P:η)(ρ:Rn)(v:Δ):Prop:=Am P ρ∨rv ρ v=v
def GA (P:η)(ρ:Rn)(a:Addr):Prop:=Am P ρ∨ra ρ a=a
def GO (P:η)(ρ:Rn)(o:Obj):Prop:=Am P ρ∨ro ρ o=o
def NY:Obj→Prop
 |.map ..=>True
 |_=>False
def Tm {α:Type}(Q:α→Prop):Sem α→Prop
 |.pure a=>Q a
 |.halt h=>DW h
 |.program k=>∀p,Tm Q (k p)
 |.new _ k=>∀r,Tm Q (k r)
 |.sys _ k=>∀x,Tm Q (k x)
 |_=>False
theorem Tm.bind {α β:Type}{Q:α→Prop}{R:β→Prop}{f:α→Sem β}(hf:∀a,Q a→Tm R (f a)):∀{s:Sem α},Tm Q s→Tm R (s>>=f)
 |.pure a,h=>hf a h
 |.halt _,h=>h
 |.program _k,h=>λp=>Tm.bind hf (h p)
 |.new _ _k,h=>λr=>Tm.bind hf (h r)
 |.sys _ _k,h=>λx=>Tm.bind hf (h x)
 |.load ..,h=>h.elim
 |.store ..,h=>h.elim
 |.shape ..,h=>h.elim
 |.freeze ..,h=>h.elim
 |.frozen ..,h=>h.elim
 |.getObj ..,h=>h.elim
 |.setObj ..,h=>h.elim
 |.choose ..,h=>h.elim
 |.mark ..,h=>h.elim
def ae (P:η)(ρ:Rn){α β:Type}(R:α→β→Prop):Sem α→Sem β→Prop
 |.pure a,s=>∃b,s=.pure b∧R a b
 |.load m a k,s=>a.block<ρ.d∨∃k',s=.load m (ra ρ a) k'∧∀v,ae P ρ R (k v) (k' (rv ρ v))
 |.store m a v k,s=>∃k',s=.store m (ra ρ a) (rv ρ v) k'∧ae P ρ R k k'
 |.new o k,s=>l6 o∧∃k',s=.new (ro ρ o) k'∧∀r,ae P ρ R (k r) (k' (ρ r))
 |.shape r k,s=>∃k',s=.shape (ρ r) k'∧∀x,ae P ρ R (k x) (k' x)
 |.freeze a n k,s=>∃k',s=.freeze (ra ρ a) n k'∧ae P ρ R k k'
 |.frozen a k,s=>∃k',s=.frozen (ra ρ a) k'∧∀b,ae P ρ R (k b) (k' b)
 |.getObj r k,s=>∃k',s=.getObj (ρ r) k'∧∀o,GO P ρ o→ae P ρ R (k o) (k' (ro ρ o))
 |.setObj r o k,s=>NY o∧∃k',s=.setObj (ρ r) (ro ρ o) k'∧ae P ρ R k k'
 |.choose q k,s=>∃k',s=.choose q k'∧∀n,ae P ρ R (k n) (k' n)
 |.sys _ k,_=>∀x,Tm (λ_=>False) (k x)
 |.program k,s=>∃k',s=.program k'∧ae P ρ R (k P) (k' P)
 |.mark m k,s=>MOk m∧∃k',s=.mark m k'∧ae P ρ R k k'
 |.halt h,_=>DW h
section
variable {P:η}{ρ:Rn}{α β Z7 Z8:Type}
theorem ae.bind {R:α→β→Prop}{R':Z7→Z8→Prop}:∀{s:Sem α} {s':Sem β} {f:α→Sem Z7} {f':β→Sem Z8},ae P ρ R s s'→(∀a b,R a b→ae P ρ R' (f a) (f' b))→ae P ρ R' (s>>=f) (s'>>=f')
 |.pure a,s',f,f',⟨b,e,h⟩,hf=>by subst e;exact hf a b h
 |.load m a k,s',f,f',h,hf=>by
  rcases h with h|⟨k',e,h⟩
  ·exact .inl h
  ·subst e;exact .inr ⟨_,rfl,λv=>ae.bind (h v) hf⟩
 |.store m a v k,s',f,f',⟨k',e,h⟩,hf=>by subst e;exact⟨_,rfl,ae.bind h hf⟩
 |.new o k,s',f,f',⟨o1,k',e,h⟩,hf=>by subst e;exact⟨o1,_,rfl,λr=>ae.bind (h r) hf⟩
 |.shape r k,s',f,f',⟨k',e,h⟩,hf=>by subst e;exact⟨_,rfl,λr=>ae.bind (h r) hf⟩
 |.freeze a n k,s',f,f',⟨k',e,h⟩,hf=>by subst e;exact⟨_,rfl,ae.bind h hf⟩
 |.frozen a k,s',f,f',⟨k',e,h⟩,hf=>by subst e;exact⟨_,rfl,λr=>ae.bind (h r) hf⟩
 |.getObj r k,s',f,f',⟨k',e,h⟩,hf=>by subst e;exact⟨_,rfl,λr hr=>ae.bind (h r hr) hf⟩
 |.setObj r o k,s',f,f',⟨o1,k',e,h⟩,hf=>by subst e;exact⟨o1,_,rfl,ae.bind h hf⟩
 |.choose q k,s',f,f',⟨k',e,h⟩,hf=>by subst e;exact⟨_,rfl,λr=>ae.bind (h r) hf⟩
 |.sys q k,s',f,f',h,hf=>λx=>Tm.bind (λ_ q=>q.elim) (h x)
 |.program k,s',f,f',⟨k',e,h⟩,hf=>by subst e;exact⟨_,rfl,ae.bind h hf⟩
 |.mark m k,s',f,f',⟨o,k',e,h⟩,hf=>by subst e;exact⟨o,_,rfl,ae.bind h hf⟩
 |.halt h,s',f,f',e,hf=>e
theorem ae.pure {R:α→β→Prop}{a:α}{b:β}(h:R a b):ae P ρ R (Pure.pure a) (Pure.pure b):=⟨b,rfl,h⟩
theorem ae.stuck {R:α→β→Prop}{s':Sem β}(w:String):ae P ρ R (stuck w) s':=trivial
theorem ae.unsupported {R:α→β→Prop}{s':Sem β}(u:Unsupported)(h:DW (.unsupported u):=by trivial):ae P ρ R (unsupported u) s':=h
abbrev VV (ρ:Rn):Δ→Δ→Prop:=λv v'=>v'=rv ρ v
abbrev AA (ρ:Rn):Addr→Addr→Prop:=λa a'=>a'=ra ρ a
theorem xc (a:Addr):ae P ρ (VV ρ) (load a) (load (ra ρ a)):= .inr ⟨_,rfl,λ_v=>⟨_,rfl,rfl⟩⟩
theorem S9 (a:Addr)(v:Δ):ae P ρ Eq (store a v) (store (ra ρ a) (rv ρ v)):=⟨_,rfl,⟨_,rfl,rfl⟩⟩
theorem l7 (o:Obj)(h:l6 o:=by trivial):ae P ρ (λr r'=>r'=ρ r) (newObj o) (newObj (ro ρ o)):=⟨h,_,rfl,λ_r=>⟨_,rfl,rfl⟩⟩
theorem cL:ae P ρ (λp p'=>P=p∧P=p') program program:=⟨_,rfl,⟨_,rfl,rfl,rfl⟩⟩
theorem iC (q:Question):ae P ρ Eq (choose q) (choose q):=⟨_,rfl,λ_=>⟨_,rfl,rfl⟩⟩
theorem eQ (t:Θ):ae P ρ (λi i'=>i'=i∧P.info? t=some i) (ξ t) (ξ t):=by
 unfold ξ;refine ae.bind cL ?_;rintro _ _ ⟨rfl,rfl⟩;split
 ·rename_i i h;exact ae.pure ⟨rfl,h⟩
 ·exact ae.stuck _
theorem ax (t:Θ):ae P ρ (λi i'=>i'=i∧P.underlying t=some i) (underlying t) (underlying t):=by
 unfold underlying;refine ae.bind cL ?_;rintro _ _ ⟨rfl,rfl⟩;split
 ·rename_i i h;exact ae.pure ⟨rfl,h⟩
 ·exact ae.stuck _
theorem jQ (a:Addr)(i:Nat):(ra ρ a).add i=ra ρ (a.add i):=by unfold ra Addr.add;split<;>rfl
theorem nK (a:Addr):∀(n i:Nat) (acc:Array Δ),ae P ρ (λx y=>y=x.map (rv ρ)) (loadCellsFrom a i n acc) (loadCellsFrom (ra ρ a) i n (acc.map (rv ρ)))
 |0,i,acc=>ae.pure rfl
 |n+1,i,acc=>by
  unfold loadCellsFrom;rw[jQ];refine ae.bind (xc _) ?_;rintro v _ rfl;have:=nK a n (i+1) (acc.push v);rwa[Array.map_push]at this
theorem od (a:Addr)(n:Nat):ae P ρ (λx y=>y=x.map (rv ρ)) (loadCells a n) (loadCells (ra ρ a) n):=by
 have:=nK (P:=P) (ρ:=ρ) a n 0 #[];rwa[zcs]at this
theorem wA (t:Θ):ae P ρ Eq (isAgg t) (isAgg t):=by
 unfold isAgg;refine ae.bind (ax t) ?_;rintro d d' ⟨e,_⟩;subst e;cases d'<;>exact ae.pure rfl
theorem cC (t:Θ):ae P ρ Eq (sizeOf t) (sizeOf t):=by
 unfold sizeOf;refine ae.bind (eQ t) ?_;rintro d _ ⟨rfl,_⟩;exact ae.pure rfl
theorem A0 (t:Θ)(a:Addr):ae P ρ (VV ρ) (loadVar t a) (loadVar t (ra ρ a)):=by
 unfold loadVar;refine ae.bind (wA t) ?_;rintro b _ rfl;cases b
 ·exact xc a
 ·refine ae.bind (cC t) ?_;rintro n _ rfl;refine ae.bind (od a n) ?_;rintro cs _ rfl;exact ae.pure (by simp only[VV,rv])
theorem km (a:Addr):∀(vs:List Δ) (i:Nat),ae P ρ Eq (storeCells a vs i) (storeCells (ra ρ a) (vs.map (rv ρ)) i)
 |[],i=>ae.pure rfl
 |v::r,i=>by
  unfold storeCells;simp only[zaB];rw[jQ];exact ae.bind (S9 _ v) (λ_ _ _=>km a r (i+1))
theorem jF (v:Δ):(rv ρ v).cells=v.cells.map (rv ρ):=by
 cases v<;>simp[rv,Δ.cells]
theorem G8 (t:Θ)(a:Addr)(v:Δ):ae P ρ Eq (storeVar t a v) (storeVar t (ra ρ a) (rv ρ v)):=by
 unfold storeVar;refine ae.bind (cC t) ?_;rintro n _ rfl;rw[jF,Array.size_map];split
 ·exact ae.stuck _
 ·rw[zbl];exact km a _ 0
theorem kE (v:Δ):ae P ρ (AA ρ) (θ v) (θ (rv ρ v)):=by
 cases v with
 |pointer a=>
  cases a with
  |none=>simp only[rv,Γ,θ];exact ae.stuck _
  |some a=>simp only[rv,Γ,θ];exact ae.pure rfl
 |_=>simp only[rv,θ];exact ae.stuck _
theorem DX (t:Θ)(v:Δ):ae P ρ (VV ρ) (Instr.loadAt t v) (Instr.loadAt t (rv ρ v)):=by
 unfold Instr.loadAt;refine ae.bind (kE v) ?_;rintro a _ rfl;exact A0 t a
theorem K3 (t:Θ)(v x:Δ):ae P ρ Eq (Instr.storeAt t v x) (Instr.storeAt t (rv ρ v) (rv ρ x)):=by
 unfold Instr.storeAt;refine ae.bind (kE v) ?_;rintro a _ rfl;exact G8 t a x
theorem py (v:Δ):ae P ρ Eq (asIntOf v) (asIntOf (rv ρ v)):=by
 cases v with
 |pointer a=>cases a<;>(simp only[rv,Γ,asIntOf];first|exact ae.stuck _|exact ae.unsupported _)
 |int k n=>simp only[rv,asIntOf];exact ae.pure rfl
 |_=>simp only[rv,asIntOf];exact ae.stuck _
theorem mI (v:Δ):ae P ρ Eq (asInt v) (asInt (rv ρ v)):=by
 unfold asInt;refine ae.bind (py v) ?_;rintro x _ rfl;exact ae.pure rfl
theorem xd (v:Δ):ae P ρ Eq (asBool v) (asBool (rv ρ v)):=by
 cases v with
 |bool b=>simp only[rv,asBool];exact ae.pure rfl
 |_=>simp only[rv,asBool];exact ae.stuck _
theorem Ta (v:Δ):ae P ρ (λx y=>y=x.map (rv ρ)) (asAgg v) (asAgg (rv ρ v)):=by
 cases v with
 |agg b=>simp only[rv,asAgg];exact ae.pure rfl
 |_=>simp only[rv,asAgg];exact ae.stuck _
structure Plain (P:η) (ρ:Rn):Prop where
 zero:∀t i v,P.info? t=some i→i.zero=some v→rv ρ v=v
 inj:∀a b,ρ a=ρ b→a=b
theorem eJ (hp:Plain P ρ)(t:Θ):ae P ρ (λv v'=>v'=v∧rv ρ v=v) (ζ t) (ζ t):=by
 unfold ζ;refine ae.bind (eQ t) ?_;rintro i i' ⟨e,hi⟩;subst e;split
 ·rename_i v hv;exact ae.pure ⟨rfl,hp.zero t _ v hi hv⟩
 ·exact ae.unsupported _
theorem rO (t:Θ)(cs:Array Δ):ae P ρ (AA ρ) (newRow t cs) (newRow t (cs.map (rv ρ))):=by
 unfold newRow;refine ae.bind (l7 (.cells cs t)) ?_;rintro r _ rfl;exact ae.pure rfl
theorem xe (t:Θ)(v:Δ):ae P ρ (AA ρ) (newVar t v) (newVar t (rv ρ v)):=by
 unfold newVar;rw[jF];exact rO t _
theorem og (t:Θ)(cs:Array Δ)(o:Nat):ae P ρ (VV ρ) (part t cs o) (part t (cs.map (rv ρ)) o):=by
 unfold part;refine ae.bind (wA t) ?_;rintro b _ rfl;cases b
 ·simp only[zaz,zaU,if_false];cases cs[o]? with
  |none=>exact ae.stuck _
  |some v=>exact ae.pure rfl
 ·simp only[if_true];refine ae.bind (cC t) ?_;rintro n _ rfl;exact ae.pure (by simp only[VV,rv];rw[Array.map_extract])
theorem mJ {R:α→β→Prop}{s':Sem β}(v:Δ):ae P ρ R (goPanic v) s':=trivial
theorem xf (t:Θ):ae P ρ Eq (elemOf t) (elemOf t):=by
 unfold elemOf;refine ae.bind (ax t) ?_;rintro d d' ⟨e,_⟩;subst e;cases d'<;>first|exact ae.stuck _|exact ae.pure rfl
def RuntimeError.acF:RuntimeError→Bool
 |.typeAssertion ..=>false
 |_=>true
theorem aX {R:α→β→Prop}(e:RuntimeError)(he:RuntimeError.acF e=true:=by rfl):ae P ρ R (runtimePanic e) (runtimePanic e):=by
 unfold runtimePanic;refine ae.bind cL ?_;rintro _ _ ⟨rfl,rfl⟩;cases e with
 |bounds x y s c=>exact mJ _
 |error m=>exact mJ _
 |plain m=>exact mJ _
 |nilDeref=>exact mJ _
 |typeAssertion i c a m=>cases he
 |panicNil=>
  simp only;refine ae.bind (xf _) ?_;rintro t _ rfl;have hv:=xe (P:=P) (ρ:=ρ) t (.agg #[]);simp only[rv,zcs]at hv;refine ae.bind hv ?_;rintro r _ rfl;exact mJ _
 |unhashable t=>exact mJ _
theorem DY (_hp:Plain P ρ)(v:Δ):ae P ρ (AA ρ) (asAddr v) (asAddr (rv ρ v)):=by
 cases v with
 |pointer a=>
  cases a with
  |none=>simp only[rv,Γ,asAddr];exact aX _
  |some a=>simp only[rv,Γ,asAddr];exact ae.pure rfl
 |_=>simp only[rv,asAddr];exact ae.stuck _
theorem gJ {R:α→β→Prop}(_hp:Plain P ρ)(k:IntKind)(x y:Int)(c:BoundsCode):ae P ρ R (boundsPanic k x y c) (boundsPanic k x y c):=by
 unfold boundsPanic;dsimp only;split
 ·refine ae.bind (R:=Eq) ?_ ?_
  ·refine ae.bind (iC _) ?_;rintro n _ rfl;exact ae.pure rfl
  ·rintro b _ rfl;exact aX _
 ·refine ae.bind (R:=Eq) (ae.pure rfl) ?_;rintro b _ rfl;exact aX _
theorem ae.aj {R:α→β→Prop}{c:Prop} [Decidable c] {s t:Sem α}{s' t':Sem β}(h1:c→ae P ρ R s s')(h2:¬c→ae P ρ R t t'):ae P ρ R (if c then s else t) (if c then s' else t'):=by
 split
 ·exact h1 ‹_›
 ·exact h2 ‹_›
theorem Tb (hp:Plain P ρ)(t:Θ):ae P ρ (VV ρ) (Instr.alloc t true (.tuple #[])) (Instr.alloc t true (.tuple #[])):=by
 unfold Instr.alloc;refine ae.bind (eJ hp t) ?_;rintro v v' ⟨e,hv⟩;subst e;have:=xe (P:=P) (ρ:=ρ) t v';rw[hv]at this;refine ae.bind this ?_;rintro a _ rfl;exact ae.pure (by simp[VV,rv])
theorem aaa (t:Θ)(v:Δ):ae P ρ (VV ρ) (Instr.box t v) (Instr.box t (rv ρ v)):=by
 unfold Instr.box;refine ae.bind (xe t v) ?_;rintro a _ rfl;exact ae.pure (by simp[VV,rv])
theorem zipIdx_map (l:List Δ)(k:Nat):∀(off:Nat) (cs:Array Δ),(((l.map (rv ρ)).zipIdx k).foldl (λcs (x:Δ×Nat)=>cs.setIfInBounds (off+x.2) x.1) (cs.map (rv ρ)):Array Δ)=((l.zipIdx k).foldl (λcs (x:Δ×Nat)=>cs.setIfInBounds (off+x.2) x.1) cs).map (rv ρ):=by
 induction l generalizing k with
 |nil=>intro off cs;rfl
 |cons v r ih=>
  intro off cs;simp only[zaB,List.zipIdx_cons,List.foldl_cons];rw[←zct];exact ih (k+1) off _
theorem G9 (place:Nat→Option (Nat×Nat)):∀(l:List (Nat×Δ)) (cs:Array Δ),Instr.fill place (cs.map (rv ρ)) (l.map λx=>(x.1,rv ρ x.2))=(Instr.fill place cs l).map (λx=>x.map (rv ρ))
 |[],cs=>rfl
 |(i,v)::r,cs=>by
  simp only[zaB,Instr.fill];cases place i with
  |none=>rfl
  |some p=>
   obtain⟨off,size⟩:=p;simp only[jF,Array.size_map];split
   ·rfl
   ·rw[←G9 place r]
    congr 1
    have:=zipIdx_map (ρ:=ρ) v.cells.toList 0 off cs;rw[←Array.foldl_toList,←Array.foldl_toList,Array.toList_zipIdx,Array.toList_zipIdx,zbl];exact this
theorem bind_assoc' {γ δ ε:Type}:∀(s:Sem γ) (f:γ→Sem δ) (g:δ→Sem ε),(s.bind f).bind g=s.bind λx=>(f x).bind g
 |.pure a,f,g=>rfl
 |.load m a k,f,g=>by simp only[Ξ];congr 1;funext v;exact bind_assoc' (k v) f g
 |.store m a v k,f,g=>by simp only[Ξ];congr 1;exact bind_assoc' k f g
 |.new o k,f,g=>by simp only[Ξ];congr 1;funext v;exact bind_assoc' (k v) f g
 |.shape o k,f,g=>by simp only[Ξ];congr 1;funext v;exact bind_assoc' (k v) f g
 |.freeze a n k,f,g=>by simp only[Ξ];congr 1;exact bind_assoc' k f g
 |.frozen o k,f,g=>by simp only[Ξ];congr 1;funext v;exact bind_assoc' (k v) f g
 |.getObj o k,f,g=>by simp only[Ξ];congr 1;funext v;exact bind_assoc' (k v) f g
 |.setObj a n k,f,g=>by simp only[Ξ];congr 1;exact bind_assoc' k f g
 |.choose o k,f,g=>by simp only[Ξ];congr 1;funext v;exact bind_assoc' (k v) f g
 |.sys o k,f,g=>by simp only[Ξ];congr 1;funext v;exact bind_assoc' (k v) f g
 |.program k,f,g=>by simp only[Ξ];congr 1;funext v;exact bind_assoc' (k v) f g
 |.mark m k,f,g=>by simp only[Ξ];congr 1;exact bind_assoc' k f g
 |.halt h,f,g=>rfl
theorem bind_pure' {γ:Type}:∀(s:Sem γ),s.bind Sem.pure=s
 |.pure a=>rfl
 |.load m a k=>by simp only[Ξ];congr 1;funext v;exact bind_pure' (k v)
 |.store m a v k=>by simp only[Ξ];congr 1;exact bind_pure' k
 |.new o k=>by simp only[Ξ];congr 1;funext v;exact bind_pure' (k v)
 |.shape o k=>by simp only[Ξ];congr 1;funext v;exact bind_pure' (k v)
 |.freeze a n k=>by simp only[Ξ];congr 1;exact bind_pure' k
 |.frozen o k=>by simp only[Ξ];congr 1;funext v;exact bind_pure' (k v)
 |.getObj o k=>by simp only[Ξ];congr 1;funext v;exact bind_pure' (k v)
 |.setObj a n k=>by simp only[Ξ];congr 1;exact bind_pure' k
 |.choose o k=>by simp only[Ξ];congr 1;funext v;exact bind_pure' (k v)
 |.sys o k=>by simp only[Ξ];congr 1;funext v;exact bind_pure' (k v)
 |.program k=>by simp only[Ξ];congr 1;funext v;exact bind_pure' (k v)
 |.mark m k=>by simp only[Ξ];congr 1;exact bind_pure' k
 |.halt h=>rfl
theorem lawful:LawfulMonad Sem:=LawfulMonad.mk' Sem (id_map:=λx=>bind_pure' x) (pure_bind:=λ_ _=>rfl) (bind_assoc:=λx f g=>bind_assoc' x f g)
theorem NZ {γ:Type}{f f':γ→Sem α}(hf:∀x,ae P ρ Eq (f x) (f' x)):∀(l:List γ),ae P ρ Eq (l.mapM f) (l.mapM f')
 |[]=>by haveI:=lawful;simp only[List.mapM_nil];exact ae.pure rfl
 |x::r=>by
  haveI:=lawful
  simp only[List.mapM_cons];refine ae.bind (hf x) ?_;rintro a _ rfl;refine ae.bind (NZ hf r) ?_;rintro as _ rfl;exact ae.pure rfl
theorem Tc {γ:Type}{f f':γ→Sem α}(hf:∀x,ae P ρ Eq (f x) (f' x))(l:Array γ):ae P ρ Eq (l.mapM f) (l.mapM f'):=by
 haveI:=lawful
 rw[zcJ,zcJ];refine ae.bind (NZ hf l.toList) ?_;rintro as _ rfl;exact ae.pure rfl
theorem Td (hp:Plain P ρ)(t:Θ)(parts:Array (Nat×Δ)):ae P ρ (VV ρ) (Instr.build t parts) (Instr.build t (parts.map λx=>(x.1,rv ρ x.2))):=by
 unfold Instr.build;refine ae.bind (eJ hp t) ?_;rintro v v' ⟨e,hv⟩;subst e;refine ae.bind (ax t) ?_;rintro d d' ⟨e,_⟩;subst e;have hz:v'.cells.map (rv ρ)=v'.cells:=by rw[←jF,hv]
 have hf:=λplace=>G9 (ρ:=ρ) place parts.toList v'.cells;simp only[hz]at hf;cases d' with
 |struct fields=>
  simp only;refine ae.bind (Tc (λf=>?_) fields) ?_
  ·refine ae.bind (cC f.type) ?_;rintro n _ rfl;exact ae.pure rfl
  ·rintro pl _ rfl;rw[zbl,hf];cases Instr.fill (λx=>pl[x]?) v'.cells parts.toList with
   |none=>exact ae.stuck _
   |some cs=>exact ae.pure (by simp[VV,rv])
 |array n e=>
  simp only;refine ae.bind (cC e) ?_;rintro sz _ rfl;rw[zbl,hf];cases Instr.fill (λi=>some (i*sz,sz)) v'.cells parts.toList with
  |none=>exact ae.stuck _
  |some cs=>exact ae.pure (by simp[VV,rv])
 |_=>exact ae.stuck _
theorem K4 (v:Δ)(i:Nat):ae P ρ (VV ρ) (Instr.extract v i) (Instr.extract (rv ρ v) i):=by
 cases v with
 |tuple vs=>
  simp only[rv,Instr.extract,zaz];cases vs[i]? with
  |none=>exact ae.stuck _
  |some v=>exact ae.pure rfl
 |_=>simp only[rv,Instr.extract];exact ae.stuck _
theorem Cn (hp:Plain P ρ)(v:Δ)(y:Nat)(c:BoundsCode):ae P ρ Eq (Instr.sliceBound v y c) (Instr.sliceBound (rv ρ v) y c):=by
 unfold Instr.sliceBound;refine ae.bind (py v) ?_;rintro x _ rfl;refine ae.aj (λ_=>ae.pure rfl) (λ_=>gJ hp _ _ _ _)
theorem qo (hp:Plain P ρ)(b:Bool)(len cap:Nat)(lo hi mx:Option Δ):ae P ρ Eq (Instr.sliceBounds b len cap lo hi mx) (Instr.sliceBounds b len cap (lo.map (rv ρ)) (hi.map (rv ρ)) (mx.map (rv ρ))):=by
 have hb:=λv y c=>Cn (P:=P) (ρ:=ρ) hp v y c;unfold Instr.sliceBounds;cases mx<;>cases hi<;>cases lo<;>simp only[Γ,Option.isSome];all_goals
  repeat' first
   |exact ae.pure rfl
   |exact ae.stuck _
   |(refine ae.bind (R:=Eq) (ae.pure rfl) ?_;rintro _ _ rfl)
   |(refine ae.bind (hb _ _ _) ?_;rintro _ _ rfl)
   |(refine ae.bind (R:=Eq) (ae.stuck _) ?_;rintro _ _ rfl)
theorem Te (a:Option Addr)(n:Nat):(a.map (ra ρ)).map (·.add n)=(a.map (·.add n)).map (ra ρ):=by
 cases a with
 |none=>rfl
 |some a=>simp[jQ]
theorem Tf (hp:Plain P ρ)(t:Θ)(x:Δ)(lo hi mx:Option Δ):ae P ρ (VV ρ) (Instr.slice t x lo hi mx) (Instr.slice t (rv ρ x) (lo.map (rv ρ)) (hi.map (rv ρ)) (mx.map (rv ρ))):=by
 have hs:=λb len cap mx=>qo (P:=P) (ρ:=ρ) hp b len cap lo hi mx;have ha:=DY hp x;unfold Instr.slice;refine ae.bind (ax t) ?_;rintro d d' ⟨e,_⟩;subst e;cases d'<;>cases x<;>simp only[rv]at ha ⊢<;>try exact ae.stuck _
 case string.string=>
  simp only[Option.isSome_map];refine ae.aj (λ_=>ae.bind (R:=Eq) (ae.stuck _) (λ_ _ _=>?_)) (λ_=>?_);all_goals
   refine ae.bind (hs _ _ _ none) ?_;rintro b _ rfl;exact ae.pure (by simp[VV,rv])
 case slice.slice=>
  refine ae.bind (hs _ _ _ mx) ?_;rintro b _ rfl;refine ae.bind (cC _) ?_;rintro n _ rfl;refine ae.pure ?_;simp only[VV,rv,Te];split<;>rfl
 all_goals
  refine ae.bind ha ?_;rintro a _ rfl;refine ae.bind (ax _) ?_;rintro d d' ⟨e,_⟩;subst e;cases d' with
  |array n e=>
   refine ae.bind (hs _ _ _ mx) ?_;rintro b _ rfl;refine ae.bind (cC e) ?_;rintro n _ rfl;refine ae.pure ?_;simp only[VV,rv,Γ,jQ];split<;>rfl
  |_=>exact ae.stuck _
theorem K5 (hp:Plain P ρ)(t:Θ)(x:Δ)(lo hi mx:Option Δ):ae P ρ (VV ρ) (Instr.sliceAt t x lo hi mx) (Instr.sliceAt t (rv ρ x) (lo.map (rv ρ)) (hi.map (rv ρ)) (mx.map (rv ρ))):=by
 have hs:=λb len cap mx=>qo (P:=P) (ρ:=ρ) hp b len cap lo hi mx;unfold Instr.sliceAt;refine ae.bind (ax t) ?_;rintro d d' ⟨e,_⟩;subst e;cases d' with
 |array n e=>
  refine ae.bind (kE x) ?_;rintro a _ rfl;refine ae.bind (hs _ _ _ mx) ?_;rintro b _ rfl;refine ae.bind (cC e) ?_;rintro n _ rfl;refine ae.pure ?_;simp only[VV,rv,Γ,jQ];split<;>rfl
 |_=>exact Tf hp t x lo hi mx
theorem Tg (hp:Plain P ρ)(t:Θ)(x i:Δ):ae P ρ (VV ρ) (Instr.index t x i) (Instr.index t (rv ρ x) (rv ρ i)):=by
 unfold Instr.index;refine ae.bind (py i) ?_;rintro k _ rfl;refine ae.bind (ax t) ?_;rintro d d' ⟨e,_⟩;subst e;cases d'<;>cases x<;>simp only[rv]<;>try exact ae.stuck _
 case array.agg=>
  refine ae.aj (λ_=>?_) (λ_=>gJ hp _ _ _ _);refine ae.bind (cC _) ?_;rintro m _ rfl;exact og _ _ _
 case string.string=>
  split
  ·exact ae.pure (by simp[VV,rv])
  ·exact gJ hp _ _ _ _
theorem K6 (hp:Plain P ρ)(t:Θ)(x i:Δ):ae P ρ (VV ρ) (Instr.indexAt t x i) (Instr.indexAt t (rv ρ x) (rv ρ i)):=by
 have Nu:=kE (P:=P) (ρ:=ρ) x;have tail:∀(k:IntKind×Int) (base:Option Addr) (len:Nat) (elem:Θ),ae P ρ (VV ρ)
  (do let d ←underlying t
      match base with
      |some a=>
       if 0≤k.2∧k.2<len then do let n ←sizeOf elem;pure (.pointer (some (a.add (k.2.toNat*n))))
       else if(decide (len≤1)&&(match d with|.array ..=>true|_=>false))=true then unsupported (.noEntry "op/indexAddr.an index out of range at an array of length 0 or 1 (ledger 616)")
       else boundsPanic k.1 k.2 len .index
      |none=>boundsPanic k.1 k.2 0 .index)
  (do let d ←underlying t
      match base.map (ra ρ)with
      |some a=>
       if 0≤k.2∧k.2<len then do let n ←sizeOf elem;pure (.pointer (some (a.add (k.2.toNat*n))))
       else if(decide (len≤1)&&(match d with|.array ..=>true|_=>false))=true then unsupported (.noEntry "op/indexAddr.an index out of range at an array of length 0 or 1 (ledger 616)")
       else boundsPanic k.1 k.2 len .index
      |none=>boundsPanic k.1 k.2 0 .index):=by
  intro k base len elem;refine ae.bind (ax t) ?_;rintro d d' ⟨e,_⟩;subst e;cases base with
  |none=>exact gJ hp _ _ _ _
  |some a=>
   simp only[Γ];refine ae.aj (λ_=>?_) (λ_=>ae.aj (λ_=>ae.unsupported _) (λ_=>gJ hp _ _ _ _));refine ae.bind (cC elem) ?_;rintro n _ rfl;exact ae.pure (by simp[VV,rv,jQ])
 unfold Instr.indexAt;refine ae.bind (py i) ?_;rintro k _ rfl;refine ae.bind (ax t) ?_;rintro d d' ⟨e,_⟩;subst e;cases d'<;>cases x<;>simp only[rv]at Nu ⊢<;>first
  |exact ae.bind (R:=λ(_:Option Addr×Nat×Θ) (_:Option Addr×Nat×Θ)=>False) (ae.stuck _) (λ_ _ h=>h.elim)
  |(refine ae.bind (R:=λ(x:Option Addr×Nat×Θ) y=>y=(x.1.map (ra ρ),x.2)) (ae.pure rfl) ?_;rintro ⟨base,len,elem⟩ _ rfl;exact tail k base len elem)
  |(refine ae.bind Nu ?_;rintro a _ rfl;exact tail k (some a) _ _)
theorem gT (r:Nat):ae P ρ Eq (shape r) (shape (ρ r)):=⟨_,rfl,λ_=>⟨_,rfl,rfl⟩⟩
theorem l8 (a:Addr):ae P ρ Eq (frozen a) (frozen (ra ρ a)):=⟨_,rfl,λ_=>⟨_,rfl,rfl⟩⟩
theorem N4 (a:Addr)(n:Nat):ae P ρ Eq (freeze a n) (freeze (ra ρ a) n):=⟨_,rfl,⟨_,rfl,rfl⟩⟩
theorem l9 (r:Nat):ae P ρ (λo o'=>o'=ro ρ o∧GO P ρ o) (getObj r) (getObj (ρ r)):=⟨_,rfl,λ_ h=>⟨_,rfl,rfl,h⟩⟩
theorem D7 (r:Nat)(o:Obj)(h:NY o):ae P ρ Eq (setObj r o) (setObj (ρ r) (ro ρ o)):=⟨h,_,rfl,⟨_,rfl,rfl⟩⟩
theorem Co (m:Mark)(h:MOk m:=by trivial):ae P ρ Eq (mark m) (mark m):=⟨h,_,rfl,⟨_,rfl,rfl⟩⟩
theorem A1 (n:Nat):ae P ρ Eq (askRoom n) (askRoom n):=by
 unfold askRoom;exact ae.aj (λ_=>Co _) (λ_=>ae.pure rfl)
theorem Ha:rv ρ default=default:=by
 rw[show(default:Δ)=.bool default from rfl];simp[rv]
theorem K7 {z:Array Δ}(h:z.map (rv ρ)=z)(i:Nat):rv ρ z[i]! =z[i]!:=by
 rw[Array.getElem!_eq_getD,zbE];have:(z.map (rv ρ))[i]?=z[i]?:=by rw[h]
 rw[zaz]at this;cases hz:z[i]? with
 |none=>exact Ha
 |some v=>rw[hz]at this;simpa using this
theorem oh {z:Array Δ}(h:z.map (rv ρ)=z)(n m:Nat):((Array.range n).map (λx=>z[x%m]!)).map (rv ρ)=(Array.range n).map (λx=>z[x%m]!):=by
 rw[zcl]
 congr 1
 funext x;exact K7 h _
theorem jG {R:α→β→Prop}{γ δ:Type}{s:Sem γ}{s':Sem δ}{f:γ→Sem α}{f':δ→Sem β}(h:ae P ρ (λ_ _=>False) s s'):ae P ρ R (s>>=f) (s'>>=f'):=ae.bind h (λ_ _ h=>h.elim)
theorem D9 (hp:Plain P ρ)(t:Θ)(l c:Δ):ae P ρ (VV ρ) (Instr.makeSlice t l c) (Instr.makeSlice t (rv ρ l) (rv ρ c)):=by
 unfold Instr.makeSlice;refine ae.bind (ax t) ?_;rintro d d' ⟨e,_⟩;subst e;cases d'<;>try exact ae.stuck _
 simp only;refine ae.bind (mI l) ?_;rintro l _ rfl;refine ae.bind (mI c) ?_;rintro c _ rfl;refine ae.bind (eQ _) ?_;rintro d d' ⟨e,_⟩;subst e;refine ae.aj (λ_=>?_) (λ_=>?_)
 ·refine ae.aj (λ_=>jG (aX _)) (λ_=>ae.aj (λ_=>jG (aX _)) (λ_=>?_));refine ae.bind (iC _) ?_;rintro n _ rfl;exact jG (aX _)
 ·refine ae.bind (A1 _) ?_;rintro _ _ rfl;refine ae.bind (cC _) ?_;rintro n _ rfl;have fin:∀z:Array Δ,z.map (rv ρ)=z→∀m k q:Nat,∀e:Θ,ae P ρ (VV ρ) (do let a ←newRow e ((Array.range m).map (λx=>z[x%z.size]!));pure (.slice (some a) k q)) (do let a ←newRow e ((Array.range m).map (λx=>z[x%z.size]!));pure (.slice (some a) k q)):=λz hz m k q e=>by
   have:=rO (P:=P) (ρ:=ρ) e ((Array.range m).map (λx=>z[x%z.size]!));rw[oh hz]at this;refine ae.bind this ?_;rintro a _ rfl;exact ae.pure (by simp[VV,rv])
  refine ae.aj (λ_=>?_) (λ_=>?_)
  ·refine ae.bind (R:=λz z'=>z'=z∧z.map (rv ρ)=z) (ae.pure ⟨rfl,by simp⟩) ?_;rintro z _ ⟨rfl,hz⟩;exact fin _ hz _ _ _ _
  ·refine ae.bind (eJ hp _) ?_;rintro v v' ⟨e,hv⟩;subst e;refine ae.bind (R:=λz z'=>z'=z∧z.map (rv ρ)=z) (ae.pure ⟨rfl,by rw[←jF,hv]⟩) ?_;rintro z _ ⟨rfl,hz⟩;exact fin _ hz _ _ _ _
theorem Cp (hp:Plain P ρ)(t:Θ)(len:Nat)(parts:Array (Nat×Δ)):ae P ρ (VV ρ) (Instr.buildSlice t len parts) (Instr.buildSlice t len (parts.map λx=>(x.1,rv ρ x.2))):=by
 unfold Instr.buildSlice;refine ae.bind (ax t) ?_;rintro d d' ⟨e,_⟩;subst e;cases d'<;>try exact ae.stuck _
 simp only;refine ae.bind (cC _) ?_;rintro n _ rfl;have fin:∀z:Array Δ,z.map (rv ρ)=z→∀e:Θ,ae P ρ (VV ρ)
  (match Instr.fill (λi=>some (i*n,n)) ((Array.range (len*n)).map (λx=>z[x%z.size]!)) parts.toList with|some cells=>(do let a ←newRow e cells;pure (.slice (some a) len len))|_=>stuck "buildSlice: a part of the wrong size")
  (match Instr.fill (λi=>some (i*n,n)) ((Array.range (len*n)).map (λx=>z[x%z.size]!)) (parts.map λx=>(x.1,rv ρ x.2)).toList with|some cells=>(do let a ←newRow e cells;pure (.slice (some a) len len))|_=>stuck "buildSlice: a part of the wrong size"):=λz hz e=>by
  have hf:=G9 (ρ:=ρ) (λi=>some (i*n,n)) parts.toList ((Array.range (len*n)).map (λx=>z[x%z.size]!));rw[oh hz]at hf;rw[zbl,hf];cases Instr.fill (λi=>some (i*n,n)) ((Array.range (len*n)).map (λx=>z[x%z.size]!)) parts.toList with
  |none=>exact ae.stuck _
  |some cs=>
   refine ae.bind (rO e cs) ?_;rintro a _ rfl;exact ae.pure (by simp[VV,rv])
 refine ae.aj (λ_=>jG (ae.unsupported _)) (λ_=>?_);refine ae.aj (λ_=>?_) (λ_=>?_)
 ·refine ae.bind (R:=λz z'=>z'=z∧z.map (rv ρ)=z) (ae.pure ⟨rfl,by simp⟩) ?_;rintro z _ ⟨rfl,hz⟩;exact fin _ hz _
 ·refine ae.bind (eJ hp _) ?_;rintro v v' ⟨e,hv⟩;subst e;refine ae.bind (R:=λz z'=>z'=z∧z.map (rv ρ)=z) (ae.pure ⟨rfl,by rw[←jF,hv]⟩) ?_;rintro z _ ⟨rfl,hz⟩;exact fin _ hz _
theorem Th (t:Θ)(x:Δ)(f:Nat):ae P ρ (VV ρ) (Instr.field t x f) (Instr.field t (rv ρ x) f):=by
 unfold Instr.field;refine ae.bind (ax t) ?_;rintro d d' ⟨e,_⟩;subst e;cases d'<;>try exact ae.stuck _
 simp only;split
 ·refine ae.bind (Ta x) ?_;rintro cs _ rfl;exact og _ _ _
 ·exact ae.stuck _
theorem vC (t:Θ)(x:Δ):ae P ρ (VV ρ) (Instr.makeInterface t x) (Instr.makeInterface t (rv ρ x)):=by
 unfold Instr.makeInterface;refine ae.bind (ax t) ?_;rintro d d' ⟨e,_⟩;subst e;cases d'<;>first|exact ae.stuck _|exact ae.pure (by simp[VV,rv])
theorem rP (r:Nat):ae P ρ (λx y=>y=x.map λz=>(ra ρ z.1,z.2)) (viewAt r) (viewAt (ρ r)):=by
 unfold viewAt;refine ae.bind (gT r) ?_;rintro sh _ rfl;refine ae.aj (λ_=>ae.pure rfl) (λ_=>?_);refine ae.bind (l9 r) ?_;rintro o _ ⟨rfl,_⟩;cases o<;>simp only[ro]<;>exact ae.pure rfl
theorem xg (a:Addr):ae P ρ Eq (noView a) (noView (ra ρ a)):=by
 unfold noView;refine ae.bind (rP a.block) ?_;rintro x _ rfl;simp only[Option.isSome_map];exact ae.aj (λ_=>ae.unsupported _) (λ_=>ae.pure rfl)
theorem kF (a:Addr):ae P ρ Eq (byteOf a) (byteOf (ra ρ a)):=by
 unfold byteOf;have e1:(ra ρ a).spot=a.spot:=rfl;have e2:(ra ρ a).off=a.off:=rfl;have e3:(ra ρ a).block=ρ a.block:=rfl;simp only[e1,e2,e3];cases a.spot with
 |some s=>exact ae.pure rfl
 |none=>
  simp only;refine ae.bind cL ?_;rintro _ _ ⟨rfl,rfl⟩;refine ae.bind (xg a) ?_;rintro _ _ rfl;refine ae.bind (gT a.block) ?_;rintro sh _ rfl;cases sh with
  |none=>exact ae.stuck _
  |some x=>
   simp only;refine ae.aj (λ_=>ae.pure rfl) (λ_=>?_);split
   ·exact ae.pure rfl
   ·exact ae.stuck _
theorem N5 (a:Addr)(c b:Nat):ae P ρ (AA ρ) (partAt a c b) (partAt (ra ρ a) c b):=by
 unfold partAt;refine ae.bind (kF a) ?_;rintro x _ rfl;refine ae.bind (kF { block:=a.block,off:=a.off+c }) ?_;rintro y _ rfl;refine ae.pure ?_;simp only[AA,ra];split<;>rfl
theorem Cq (a:Addr)(f:Field):ae P ρ (AA ρ) (fieldPlace a f) (fieldPlace (ra ρ a) f):=by
 unfold fieldPlace;refine ae.bind (cC _) ?_;rintro n _ rfl;exact ae.aj (λ_=>N5 _ _ _) (λ_=>ae.pure (jQ _ _))
theorem K8 (t:Θ)(x:Δ)(f:Nat):ae P ρ (VV ρ) (Instr.fieldAt t x f) (Instr.fieldAt t (rv ρ x) f):=by
 unfold Instr.fieldAt;refine ae.bind (ax t) ?_;rintro d d' ⟨e,_⟩;subst e;cases d'<;>try exact ae.stuck _
 simp only;split
 ·refine ae.bind (kE x) ?_;rintro a _ rfl;refine ae.bind (Cq a _) ?_;rintro b _ rfl;exact ae.pure (by simp[VV,rv])
 ·exact ae.stuck _
theorem JF (v:Δ):ae P ρ Eq (Builtin.lenOf v) (Builtin.lenOf (rv ρ v)):=by
 cases v<;>simp only[rv,Builtin.lenOf]<;>first|exact ae.pure rfl|exact ae.stuck _
theorem mK (size n:Nat)(v:Δ):ae P ρ (λx y=>y=x.map (rv ρ)) (Λ size n v) (Λ size n (rv ρ v)):=by
 cases v with
 |slice a l c=>
  cases a with
  |none=>simp only[rv,Γ,Λ];exact ae.pure (by simp)
  |some a=>simp only[rv,Γ,Λ];exact od a _
 |string s=>
  simp only[rv,Λ];refine ae.pure ?_;rw[zcl]
  congr 1
  funext b;simp[rv]
 |_=>simp only[rv,Λ];exact ae.stuck _
theorem mL (a:Addr)(n:Nat):ae P ρ Eq (Φ a n) (Φ (ra ρ a) n):=by
 unfold Φ;refine ae.bind (gT a.block) ?_;rintro x _ rfl;cases x<;>exact ae.pure rfl
theorem nL {z:Array Δ}(h:z.map (rv ρ)=z)(n:Nat):(Ω z n).map (rv ρ)=Ω z n:=oh h _ _
theorem Hb (hp:Plain P ρ)(size ma n:Nat)(a:Option Addr)(x:Δ):ae P ρ Eq (Builtin.mayShare size ma n a x) (Builtin.mayShare size ma n (a.map (ra ρ)) (rv ρ x)):=by
 have hi:∀u v:Nat,(ρ u==ρ v)=(u==v):=λu v=>by
  rw[zaZ];simp only[zaJ];exact⟨hp.inj _ _,λh=>by rw[h]⟩
 have h1:∀b:Addr,ae P ρ Eq (do pure ((←Φ b (ma*size))&&!(←frozen (b.add (ma/2*size))))) (do pure ((←Φ (ra ρ b) (ma*size))&&!(←frozen ((ra ρ b).add (ma/2*size))))):=λb=>by
  refine ae.bind (mL b _) ?_;rintro _ _ rfl;rw[jQ];refine ae.bind (l8 _) ?_;rintro _ _ rfl;exact ae.pure rfl
 have h2:ae P ρ Eq (match x with|.slice (some b) _ _=>do pure (!(←Φ b (n*size))||a.any (·.block==b.block))|_=>pure false) (match rv ρ x with|.slice (some b) _ _=>do pure (!(←Φ b (n*size))||(a.map (ra ρ)).any (·.block==b.block))|_=>pure false):=by
  cases x with
  |slice b l c=>
   cases b with
   |none=>simp only[rv,Γ];exact ae.pure rfl
   |some b=>
    simp only[rv,Γ];refine ae.bind (mL b _) ?_;rintro _ _ rfl;refine ae.pure ?_;cases a with
    |none=>rfl
    |some a=>simp[ra,hi]
  |_=>simp only[rv];exact ae.pure rfl
 unfold Builtin.mayShare;cases a with
 |none=>
  simp only[Γ]at h2 ⊢;refine ae.bind (R:=Eq) (ae.pure rfl) ?_;rintro b _ rfl;exact ae.aj (λ_=>ae.pure rfl) (λ_=>h2)
 |some a=>
  simp only[Γ]at h2 ⊢;refine ae.bind (mL a _) ?_;rintro b1 _ rfl;rw[jQ];refine ae.bind (l8 _) ?_;rintro b2 _ rfl;refine ae.bind (R:=Eq) (ae.pure rfl) ?_;rintro b _ rfl;exact ae.aj (λ_=>ae.pure rfl) (λ_=>h2)
theorem acG (a:Option Addr)(size ma Cr:Nat)(new:Array Δ)(k:Nat):ae P ρ (VV ρ)
 (match a with|some b=>(do storeCells (b.add (ma*size)) new.toList;pure (.slice a k Cr))|_=>pure (.slice a k Cr))
 (match a.map (ra ρ)with|some b=>(do storeCells (b.add (ma*size)) (new.map (rv ρ)).toList;pure (.slice (a.map (ra ρ)) k Cr))|_=>pure (.slice (a.map (ra ρ)) k Cr)):=by
 cases a with
 |none=>exact ae.pure (by simp[VV,rv])
 |some b=>
  simp only[Γ,jQ,zbl];refine ae.bind (km _ _ _) ?_;rintro _ _ rfl;exact ae.pure (by simp[VV,rv])
theorem N6 (hp:Plain P ρ)(ts:Array Θ)(ty:Θ)(args:Array Δ):ae P ρ (VV ρ) (Builtin.append_ ts ty args) (Builtin.append_ ts ty (args.map (rv ρ))):=by
 unfold Builtin.append_;simp only[zaz];rcases ts[0]? with _|t0<;>rcases args[0]? with _|s<;>rcases args[1]? with _|x<;>simp only[Γ]<;>try exact ae.stuck _
 refine ae.bind (ax t0) ?_;rintro d d' ⟨e,_⟩;subst e;cases d'<;>try exact ae.stuck _
 cases s<;>simp only[rv]<;>try exact ae.stuck _
 rename_i elem _ a ma Cr;have hA:∀(zeros:Bool) (size n:Nat),ae P ρ (λx y=>y=x.map (rv ρ)) (if(!zeros)=true then Λ size n x else if n*size=0 then pure #[]else do let z ←ζ elem;pure (Ω z.cells n)) (if(!zeros)=true then Λ size n (rv ρ x)else if n*size=0 then pure #[]else do let z ←ζ elem;pure (Ω z.cells n)):=λzeros size n=>by
  refine ae.aj (λ_=>mK _ _ _) (λ_=>ae.aj (λ_=>ae.pure (by simp)) (λ_=>?_));refine ae.bind (eJ hp elem) ?_;rintro v v' ⟨e,hv⟩;subst e;exact ae.pure (nL (by rw[←jF,hv]) n).symm
 have hO:∀size,ae P ρ (λx y=>y=x.map (rv ρ)) (Λ size ma (.slice a ma Cr)) (Λ size ma (.slice (a.map (ra ρ)) ma Cr)):=λsize=>by
  have:=mK (P:=P) (ρ:=ρ) size ma (.slice a ma Cr);simpa only[rv]using this
 refine ae.bind (cC _) ?_;rintro size _ rfl;have hM:=λn=>Hb (P:=P) (ρ:=ρ) hp size ma n a x;have eW:=λnew k=>acG (P:=P) (ρ:=ρ) a size ma Cr new k;have hF:∀(old new:Array Δ) (k q:Nat),ae P ρ (VV ρ)
  (do let z ←ζ elem;let r ←newRow elem (old++new++Ω z.cells (q-k));pure (.slice (some r) k q))
  (do let z ←ζ elem;let r ←newRow elem (old.map (rv ρ)++new.map (rv ρ)++Ω z.cells (q-k));pure (.slice (some r) k q)):=λold new k q=>by
  refine ae.bind (eJ hp elem) ?_;rintro v v' ⟨e,hv⟩;subst e;have:=rO (P:=P) (ρ:=ρ) elem (old++new++Ω v'.cells (q-k));rw[Array.map_append,Array.map_append,nL (by rw[←jF,hv])]at this;refine ae.bind this ?_;rintro r _ rfl;exact ae.pure (by simp[VV,rv])
 have hPn:∀(zeros:Bool) (n:Nat),ae P ρ (λ(_:PUnit) (_:PUnit)=>False)
  (if zeros=true then runtimePanic (.error "growslice: len out of range")else do
    let b ←Builtin.mayShare size ma n a x
    if(!b)=true then do mark .noRoom;unsupported (.resourceLimit "append: a slice or a string whose bytes no memory bears")
    else unsupported (.resourceLimit "append: a slice or a string whose bytes no memory bears"))
  (if zeros=true then runtimePanic (.error "growslice: len out of range")else do
    let b ←Builtin.mayShare size ma n (a.map (ra ρ)) (rv ρ x)
    if(!b)=true then do mark .noRoom;unsupported (.resourceLimit "append: a slice or a string whose bytes no memory bears")
    else unsupported (.resourceLimit "append: a slice or a string whose bytes no memory bears")):=λzeros n=>by
  refine ae.aj (λ_=>aX _) (λ_=>?_);refine ae.bind (hM n) ?_;rintro b _ rfl;refine ae.aj (λ_=>?_) (λ_=>ae.unsupported _);exact ae.bind (Co _) (λ_ _ _=>ae.unsupported _)
 rcases ts[1]? with _|t1<;>simp only
 all_goals
  repeat' first
   |exact ae.stuck _
   |exact ae.unsupported _
   |exact aX _
   |exact jG (aX _)
   |exact eW _ _
   |exact hF _ _ _ _
   |exact jG (hPn _ _)
   |(refine ae.aj (λ_=>?_) (λ_=>?_))
   |(refine ae.bind (eQ _) ?_;rintro _ _ ⟨rfl,_⟩)
   |(refine ae.bind (ax _) ?_;rintro _ _ ⟨rfl,_⟩)
   |(refine ae.bind (R:=Eq) (ae.pure rfl) ?_;rintro _ _ rfl)
   |(refine ae.bind (iC _) ?_;rintro _ _ rfl)
   |(refine ae.bind (A1 _) ?_;rintro _ _ rfl)
   |(refine ae.bind (hO _) ?_;rintro _ _ rfl)
   |(refine ae.bind (hA _ _ _) ?_;rintro _ _ rfl)
   |(refine ae.bind (hM _) ?_;rintro _ _ rfl)
   |(refine ae.bind (Co _) ?_;rintro _ _ rfl)
   |(refine ae.bind (mI x) ?_;rintro _ _ rfl)
   |(refine ae.bind (JF x) ?_;rintro _ _ rfl)
theorem XS (ts:Array Θ)(ty:Θ)(args:Array Δ):ae P ρ (VV ρ) (Builtin.copy_ ts ty args) (Builtin.copy_ ts ty (args.map (rv ρ))):=by
 unfold Builtin.copy_;simp only[zaz];rcases ts[0]? with _|t0<;>rcases args[0]? with _|s<;>rcases args[1]? with _|x<;>simp only[Γ]<;>try exact ae.stuck _
 refine ae.bind (ax t0) ?_;rintro d d' ⟨e,_⟩;subst e;cases d'<;>try exact ae.stuck _
 cases s<;>simp only[rv]<;>try exact ae.stuck _
 refine ae.bind (JF x) ?_;rintro n _ rfl;refine ae.bind (cC _) ?_;rintro m _ rfl;refine ae.bind (mK _ _ x) ?_;rintro cs _ rfl;rename_i a l c;cases a with
 |none=>exact ae.pure (by simp[VV,rv,goInt])
 |some a=>
  simp only[Γ,zbl];refine ae.bind (km _ _ _) ?_;rintro _ _ rfl;exact ae.pure (by simp[VV,rv,goInt])
theorem aab (ts:Array Θ)(ty:Θ)(args:Array Δ):ae P ρ (VV ρ) (Builtin.len_ ts ty args) (Builtin.len_ ts ty (args.map (rv ρ))):=by
 unfold Builtin.len_;simp only[zaz];rcases ts[0]? with _|t0<;>rcases args[0]? with _|s<;>simp only[Γ]<;>try exact ae.stuck _
 refine ae.bind (ax t0) ?_;rintro d d' ⟨e,_⟩;subst e;cases d'<;>cases s<;>simp only[rv]<;>first
  |exact ae.stuck _
  |exact ae.pure (by simp[VV,rv,goInt])
  |(refine ae.bind (ax _) ?_;rintro d d' ⟨e,_⟩;subst e;cases d'<;>first|exact ae.stuck _|exact ae.pure (by simp[VV,rv,goInt]))
  |skip
 all_goals
  rename_i r;cases r with
  |none=>exact ae.pure (by simp[VV,rv,goInt])
  |some r=>
   simp only[Γ];refine ae.bind (l9 r) ?_;rintro o _ ⟨rfl,_⟩;cases o<;>simp only[ro]<;>first|exact ae.stuck _|exact ae.pure (by simp[VV,rv,goInt])
theorem xh (r:Nat):ae P ρ (λx y=>y=x.map (λz=>(ra ρ z.1,z.2))∧∀z,x=some z→GA P ρ z.1) (numberAt r) (numberAt (ρ r)):=by
 unfold numberAt;refine ae.bind (gT r) ?_;rintro sh _ rfl;refine ae.aj (λ_=>ae.pure ⟨rfl,λz h=>by cases h⟩) (λ_=>?_);refine ae.bind (l9 r) ?_;rintro o _ ⟨rfl,ho⟩;cases o<;>simp only[ro]<;>refine ae.pure ⟨rfl,λz h=>?_⟩<;>cases h;rcases ho with h|h
 ·exact .inl h
 ·simp only[ro,Obj.number.injEq]at h;exact .inr h.1
theorem eo (a:Addr)(ha:GA P ρ a):ae P ρ (λx y=>y=(ra ρ x.1,x.2)∧GA P ρ x.1) (behindNumber a) (behindNumber (ra ρ a)):=by
 unfold behindNumber;refine ae.bind (xh a.block) ?_;rintro x _ ⟨rfl,hx⟩;refine ae.pure ?_;cases x with
 |none=>exact⟨rfl,ha⟩
 |some z=>exact⟨rfl,hx z rfl⟩
theorem wB (t:Θ)(cs:Array Δ)(o:Nat)(h:Am P ρ∨cs.map (rv ρ)=cs):ae P ρ (λv v'=>v'=rv ρ v∧GV P ρ v) (part t cs o) (part t (cs.map (rv ρ)) o):=by
 unfold part;refine ae.bind (wA t) ?_;rintro b _ rfl;cases b
 ·simp only[zaz,zaU,if_false];cases hc:cs[o]? with
  |none=>exact ae.stuck _
  |some v=>
   refine ae.pure ⟨rfl,h.imp id λh=>?_⟩;have h1:(cs.map (rv ρ))[o]?=some v:=by rw[h];exact hc
   rw[zaz,hc]at h1;simpa using h1
 ·simp only[if_true];refine ae.bind (cC t) ?_;rintro n _ rfl;exact ae.pure ⟨by simp only[rv];rw[Array.map_extract],h.imp id λh=>by simp only[rv];rw[Array.map_extract,h]⟩
theorem xj (hp:Plain P ρ)(a b:Addr):(ra ρ a==ra ρ b)=(a==b):=by
 rw[zaZ];simp only[zaJ];refine⟨λh=>?_,λh=>by rw[h]⟩;obtain⟨a1,a2,a3⟩:=a;obtain⟨b1,b2,b3⟩:=b;simp only[ra,Addr.mk.injEq]at h;rw[hp.inj _ _ h.1,h.2.1,h.2.2]
theorem tM (hp:Plain P ρ)(u v:Nat):(ρ u==ρ v)=(u==v):=by
 rw[zaZ];simp only[zaJ];exact⟨hp.inj _ _,λh=>by rw[h]⟩
theorem uN (a:Addr):ae P ρ Eq (stringish a) (stringish (ra ρ a)):=by
 unfold stringish;refine ae.bind (l8 a) ?_;rintro b _ rfl;refine ae.aj (λ_=>ae.pure rfl) (λ_=>?_);refine ae.bind (gT a.block) ?_;rintro sh _ rfl;cases sh with
 |none=>exact ae.pure rfl
 |some x=>exact l8 { block:=a.block,off:=x.2 }
theorem A2 (x:Addr):ae P ρ Eq (do pure ((←shape x.block) matches some (_,0))) (do pure ((←shape (ra ρ x).block) matches some (_,0))):=by
 refine ae.bind (gT x.block) ?_;rintro sh _ rfl;exact ae.pure rfl
theorem Hc (a b:Addr):ae P ρ Eq (mayBeOne a b) (mayBeOne (ra ρ a) (ra ρ b)):=by
 unfold mayBeOne;dsimp only;refine ae.bind (uN a) ?_;rintro s1 _ rfl;refine ae.bind (uN b) ?_;rintro s2 _ rfl;refine ae.bind (A2 a) ?_;rintro s3 _ rfl;refine ae.bind (A2 b) ?_;rintro s4 _ rfl;exact ae.pure rfl
theorem xk (hp:Plain P ρ)(a b:Addr):ae P ρ Eq (sameAddr a b) (sameAddr (ra ρ a) (ra ρ b)):=by
 unfold sameAddr;rw[xj hp];have e:((ra ρ a).block==(ra ρ b).block)=(a.block==b.block):=tM hp _ _;rw[e];refine ae.aj (λ_=>ae.pure rfl) (λ_=>?_);refine ae.bind (l8 a) ?_;rintro f1 _ rfl;refine ae.bind (l8 b) ?_;rintro f2 _ rfl;refine ae.aj (λ_=>jG (ae.unsupported _)) (λ_=>?_);refine ae.bind (xg a) ?_;rintro _ _ rfl;refine ae.bind (xg b) ?_;rintro _ _ rfl;refine ae.bind (Hc a b) ?_;rintro m _ rfl;refine ae.aj (λ_=>?_) (λ_=>ae.pure rfl);refine ae.bind (iC _) ?_;rintro n _ rfl;exact ae.pure rfl
theorem Ao (hp:Plain P ρ)(a b:Option Addr):ae P ρ Eq (samePointer a b) (samePointer (a.map (ra ρ)) (b.map (ra ρ))):=by
 cases a<;>cases b<;>simp only[Γ,samePointer]<;>first|exact xk hp _ _|exact ae.pure rfl
theorem A3 (t:Θ):ae P ρ Eq (typeStr t) (typeStr t):=by
 unfold typeStr;refine ae.bind (eQ t) ?_;rintro i i' ⟨e,_⟩;subst e;exact ae.aj (λ_=>ae.unsupported _) (λ_=>ae.pure rfl)
theorem mM {γ:Type}{R:α→β→Prop}{f:γ→α→Sem (ForInStep α)}{f':γ→β→Sem (ForInStep β)}
 (hf:∀x a b,R a b→ae P ρ (λs t=>(∃a b,s=.yield a∧t=.yield b∧R a b)∨(∃a b,s=.done a∧t=.done b∧R a b)) (f x a) (f' x b)):∀(l:List γ) (a:α) (b:β),R a b→ae P ρ R (forIn l a f) (forIn l b f')
 |[],a,b,h=>by haveI:=lawful;simp only[List.forIn_nil];exact ae.pure h
 |x::r,a,b,h=>by
  haveI:=lawful
  simp only[List.forIn_cons];refine ae.bind (hf x a b h) ?_;rintro s t (⟨a',b',rfl,rfl,h'⟩|⟨a',b',rfl,rfl,h'⟩)
  ·exact mM hf r a' b' h'
  ·exact ae.pure h'
end
section
variable {P:η}{ρ:Rn}{α β Z7 Z8:Type}
theorem Cs {cs:Array Δ}(h:GV P ρ (.agg cs)):Am P ρ∨cs.map (rv ρ)=cs:=h.imp id λh=>by simpa[rv]using h
theorem Ea {t:Θ}{v:Δ}(h:GV P ρ (.iface t v)):GV P ρ v:=h.imp id λh=>by simpa[rv]using h
theorem qV {a:Addr}(h:GV P ρ (.pointer (some a))):GA P ρ a:=h.imp id λh=>by simpa[rv]using h
theorem JG {a:Addr}(h:GA P ρ a):(ra ρ a).block <P.globals.size↔a.block<P.globals.size:=by
 rcases h with h|h
 ·exact h _
 ·rw[h]
theorem pz (hp:Plain P ρ):∀(n:Nat) (t:Θ) (x y:Δ),GV P ρ x→GV P ρ y→ae P ρ Eq (ι n t x y) (ι n t (rv ρ x) (rv ρ y))
 |0,t,x,y,_,_=>by unfold ι;exact ae.unsupported _
 |n+1,t,x,y,hx,hy=>by
  unfold ι;refine ae.bind (ax t) ?_;rintro d d' ⟨e,_⟩;subst e;cases d' with
  |bool=>
   cases x<;>simp only[rv]<;>try exact ae.stuck _
   cases y<;>simp only[rv]<;>first|exact ae.stuck _|exact ae.pure rfl
  |string=>
   cases x<;>simp only[rv]<;>try exact ae.stuck _
   cases y<;>simp only[rv]<;>first|exact ae.stuck _|exact ae.pure rfl
  |int k=>
   cases x with
   |pointer a=>
    cases y with
    |pointer b=>
     cases a<;>cases b<;>simp only[rv,Γ]<;>try exact ae.unsupported _
     rename_i a b;refine ae.bind (eo a (qV hx)) ?_;rintro a1 _ ⟨rfl,ga⟩;refine ae.bind (eo b (qV hy)) ?_;rintro b1 _ ⟨rfl,gb⟩;refine ae.bind cL ?_;rintro _ _ ⟨rfl,rfl⟩;have e1:((ra ρ a1.1).block==(ra ρ b1.1).block)=(a1.1.block==b1.1.block):=tM hp _ _;have e2:decide ((ra ρ a1.1).block <P.globals.size)=decide (a1.1.block<P.globals.size):=by
      rw[decide_eq_decide];exact JG ga
     simp only[e1,e2];refine ae.aj (λ_=>?_) (λ_=>?_)
     ·refine ae.bind (kF _) ?_;rintro q _ rfl;refine ae.bind (kF _) ?_;rintro q2 _ rfl;exact ae.pure rfl
     ·refine ae.bind (eQ _) ?_;rintro i i' ⟨e,_⟩;subst e;rw[xj hp];split
      ·exact ae.aj (λ_=>ae.pure rfl) (λ_=>ae.unsupported _)
      ·exact ae.unsupported _
    |int k' m=>
     cases a<;>simp only[rv,Γ]
     ·exact ae.unsupported _
     ·rcases m with z|z
      ·cases z<;>first|exact ae.pure rfl|exact ae.unsupported _
      ·exact ae.unsupported _
    |_=>cases a<;>simp only[rv,Γ]<;>exact ae.unsupported _
   |int k' m=>
    cases y with
    |pointer b=>
     cases b<;>simp only[rv,Γ]
     ·rcases m with z|z
      ·cases z<;>first|exact ae.pure rfl|exact ae.unsupported _
      ·exact ae.unsupported _
     ·rcases m with z|z
      ·cases z<;>first|exact ae.pure rfl|exact ae.unsupported _
      ·exact ae.unsupported _
    |int k2 m2=>simp only[rv];exact ae.aj (λ_=>ae.pure rfl) (λ_=>ae.stuck _)
    |_=>simp only[rv];exact ae.stuck _
   |_=>cases y<;>simp only[rv]<;>first|exact ae.stuck _|exact ae.unsupported _
  |float k=>
   cases x<;>simp only[rv]<;>try exact ae.stuck _
   cases y<;>simp only[rv]<;>first|exact ae.stuck _|exact ae.aj (λ_=>ae.pure rfl) (λ_=>ae.stuck _)
  |complex k=>
   cases x<;>simp only[rv]<;>try exact ae.stuck _
   cases y<;>simp only[rv]<;>first|exact ae.stuck _|exact ae.aj (λ_=>ae.pure rfl) (λ_=>ae.stuck _)
  |pointer e=>
   cases x with
   |pointer a=>
    cases y with
    |pointer b=>
     cases a<;>cases b<;>simp only[rv,Γ]<;>try exact ae.pure rfl
     refine ae.bind (cC _) ?_;rintro m _ rfl;refine ae.aj (λ_=>xk hp _ _) (λ_=>?_);rw[xj hp];refine ae.aj (λ_=>ae.pure rfl) (λ_=>?_);refine ae.bind (iC _) ?_;rintro q _ rfl;exact ae.pure rfl
    |_=>cases a<;>simp only[rv,Γ]<;>exact ae.stuck _
   |_=>cases y<;>simp only[rv]<;>exact ae.stuck _
  |unsafePointer=>
   cases x<;>simp only[rv]<;>try exact ae.stuck _
   cases y<;>simp only[rv]<;>first|exact ae.stuck _|exact Ao hp _ _
  |chan dr e=>
   cases x<;>simp only[rv]<;>try exact ae.stuck _
   cases y<;>simp only[rv]<;>try exact ae.stuck _
   rename_i a b;refine ae.pure ?_;cases a<;>cases b<;>simp[tM hp]
  |interface ms=>
   cases x<;>simp only[rv]<;>try exact ae.stuck _
   all_goals cases y<;>simp only[rv]<;>try first|exact ae.stuck _|exact ae.pure rfl
   refine ae.aj (λ_=>ae.pure rfl) (λ_=>?_);refine ae.bind (eQ _) ?_;rintro i i' ⟨e,_⟩;subst e;refine ae.aj (λ_=>?_) (λ_=>pz hp n _ _ _ (Ea hx) (Ea hy));refine ae.bind cL ?_;rintro _ _ ⟨rfl,rfl⟩;refine ae.bind cL ?_;rintro _ _ ⟨rfl,rfl⟩;refine ae.aj (λ_=>jG (ae.unsupported _)) (λ_=>?_);refine ae.bind (A3 _) ?_;rintro q _ rfl;exact aX _
  |struct fs=>
   cases x<;>simp only[rv]<;>try exact ae.stuck _
   cases y<;>simp only[rv]<;>try exact ae.stuck _
   have hl:∀(xs ys:Array Δ),(Am P ρ∨xs.map (rv ρ)=xs)→(Am P ρ∨ys.map (rv ρ)=ys)→ae P ρ Eq
    (forIn fs ((none,()):Option Bool×Unit) λf _=>if f.name≠ "_" then do
      let a ←part f.type xs f.offset;let b ←part f.type ys f.offset;let r ←ι n f.type a b
      if(!r)=true then pure (ForInStep.done (some false,()))else pure (ForInStep.yield (none,()))
      else pure (ForInStep.yield (none,())))
    (forIn fs ((none,()):Option Bool×Unit) λf _=>if f.name≠ "_" then do
      let a ←part f.type (xs.map (rv ρ)) f.offset;let b ←part f.type (ys.map (rv ρ)) f.offset;let r ←ι n f.type a b
      if(!r)=true then pure (ForInStep.done (some false,()))else pure (ForInStep.yield (none,()))
      else pure (ForInStep.yield (none,()))):=λxs ys gx gy=>by
    rw[←zbP,←zbP];refine mM (R:=Eq) (λf a b hab=>?_) fs.toList _ _ rfl;subst hab;refine ae.aj (λ_=>?_) (λ_=>ae.pure (Or.inl ⟨_,_,rfl,rfl,rfl⟩));refine ae.bind (wB _ _ _ gx) ?_;rintro v _ ⟨rfl,gv⟩;refine ae.bind (wB _ _ _ gy) ?_;rintro u _ ⟨rfl,gu⟩;refine ae.bind (pz hp n _ _ _ gv gu) ?_;rintro r _ rfl;exact ae.aj (λ_=>ae.pure (Or.inr ⟨_,_,rfl,rfl,rfl⟩)) (λ_=>ae.pure (Or.inl ⟨_,_,rfl,rfl,rfl⟩))
   refine ae.bind cL ?_;rintro _ _ ⟨rfl,rfl⟩;refine ae.aj (λ_=>jG (ae.unsupported _)) (λ_=>?_);refine ae.bind (hl _ _ (Cs hx) (Cs hy)) ?_;rintro r _ rfl;split<;>exact ae.pure rfl
  |array m e=>
   cases x<;>simp only[rv]<;>try exact ae.stuck _
   cases y<;>simp only[rv]<;>try exact ae.stuck _
   refine ae.bind (cC _) ?_;rintro sz _ rfl;refine ae.bind (R:=Eq) ?_ ?_
   ·haveI:=lawful
    rw[Std.Legacy.Range.forIn_eq_forIn_range',Std.Legacy.Range.forIn_eq_forIn_range'];refine mM (R:=Eq) (λf a b hab=>?_) _ _ _ rfl;subst hab;refine ae.bind (wB _ _ _ (Cs hx)) ?_;rintro v _ ⟨rfl,gv⟩;refine ae.bind (wB _ _ _ (Cs hy)) ?_;rintro u _ ⟨rfl,gu⟩;refine ae.bind (pz hp n _ _ _ gv gu) ?_;rintro r _ rfl;exact ae.aj (λ_=>ae.pure (Or.inr ⟨_,_,rfl,rfl,rfl⟩)) (λ_=>ae.pure (Or.inl ⟨_,_,rfl,rfl,rfl⟩))
   ·rintro r _ rfl;split<;>exact ae.pure rfl
  |slice e=>
   cases x with
   |slice a l c=>
    cases y with
    |slice b l2 c2=>cases a<;>cases b<;>simp only[rv,Γ]<;>first|exact ae.pure rfl|exact ae.stuck _
    |_=>cases a<;>simp only[rv,Γ]<;>exact ae.stuck _
   |_=>cases y<;>simp only[rv]<;>exact ae.stuck _
  |map k e=>
   cases x with
   |map a=>
    cases y with
    |map b=>cases a<;>cases b<;>simp only[rv,Γ]<;>first|exact ae.pure rfl|exact ae.stuck _
    |_=>cases a<;>simp only[rv,Γ]<;>exact ae.stuck _
   |_=>cases y<;>simp only[rv]<;>exact ae.stuck _
  |func ps rs v=>
   cases x<;>simp only[rv]<;>try exact ae.stuck _
   all_goals cases y<;>simp only[rv]<;>first|exact ae.stuck _|exact ae.pure rfl
  |_=>cases x<;>simp only<;>try exact ae.stuck _
end
end Go.Ren
