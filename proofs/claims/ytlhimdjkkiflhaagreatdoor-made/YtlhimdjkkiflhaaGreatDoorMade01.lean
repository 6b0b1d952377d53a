import GoSem.Dispatch
import GoSem.Step
import Derived.Below
import Derived.Calls
import Derived.Conc.Beside
import Derived.Conc.Deaf
import Derived.Conc.Own
import Derived.Laws.AppendOwn
import Derived.Laws.Entries
import Derived.Laws.Rows
import Derived.Laws.Sem
import Derived.Lib.Builder
import Derived.Tactics
import Derived.WalkSmall
import GoSem.Core.Machine
import GoSem.Core.Sem
set_option maxHeartbeats 8000000
set_option maxRecDepth 100000
abbrev zaa:=@if_neg
abbrev zab:=@if_pos
abbrev zac:=@Nat.le_refl
abbrev zad:=@Go.RowKit.Below.refl
abbrev zae:=@Bool.and_eq_true
abbrev zaf:=@Prod.mk.injEq
abbrev zag:=@Nat.le_trans
abbrev zah:=@beq_eq_false_iff_ne
abbrev zai:=@Go.Calls.mono
abbrev zaj:=@Array.getElem?_eq_some_iff
abbrev zak:=@congrArg
abbrev zal:=@List.mem_cons
abbrev zam:=@List.cons_append
abbrev zan:=@Go.Result.ok.injEq
abbrev zao:=@Go.bodyPost_ret
abbrev zap:=@List.all_cons
abbrev zaq:=@Nat.zero_le
abbrev zar:=@List.length_cons
abbrev zas:=@Option.map_eq_some_iff
abbrev zat:=@List.getElem?_eq_getElem
abbrev zau:=@List.length_drop
abbrev zav:=@Go.heap_alloc_new
abbrev zaw:=@Nat.lt_or_ge
abbrev zax:=@Go.RowKit.Below.heap_setCell
abbrev zay:=@and_true
abbrev zaz:=@Array.getElem?_map
abbrev zaA:=@Array.getElem?_setIfInBounds_ne
abbrev zaB:=@List.map_cons
abbrev zaC:=@List.all_eq_true
abbrev zaD:=@List.mem_cons_self
abbrev zaE:=@Option.some.injEq
abbrev zaF:=@List.mem_append
abbrev zaG:=@Go.RowKit.Below.setCell
abbrev zaH:=@Go.RowKit.Below.alloc
abbrev zaI:=@Nat.lt_of_lt_of_le
abbrev zaJ:=@beq_iff_eq
abbrev zaK:=@decide_eq_true_eq
abbrev zaL:=@Array.getElem?_eq_getElem
abbrev zaM:=@Option.some.inj
abbrev zaN:=@Go.Conc.Deaf_other
abbrev zaO:=@Option.bind_eq_some_iff
abbrev zaP:=@Classical.choose_spec
abbrev zaQ:=@List.mem_cons_of_mem
abbrev zaR:=@List.length_append
abbrev zaS:=@decide_eq_false
abbrev zaT:=@Go.Lib.alloc_old
abbrev zaU:=@Bool.false_eq_true
abbrev zaV:=@Go.Conc.stepG_seq
abbrev zaW:=@Go.Conc.stepG_region
abbrev zaX:=@Go.Conc.stepG_region_end
abbrev zaY:=@decide_eq_true
abbrev zaZ:=@Bool.eq_iff_iff
abbrev zba:=@Go.Sem.run_bind
abbrev zbb:=@Go.Result.andThen_ok
abbrev zbc:=@Go.run_underlying
abbrev zbd:=@Go.Sem.run_pure
abbrev zbe:=@Go.Conc.mem_ofEvents
abbrev zbf:=@Go.below_drewN
abbrev zbg:=@Option.getD_some
abbrev zbh:=@List.getElem?_eq_some_iff
abbrev zbi:=@List.getElem?_append_left
abbrev zbj:=@Array.sizeOf_lt_of_mem
abbrev zbk:=@List.length_nil
abbrev zbl:=@Array.toList_map
abbrev zbm:=@List.nil_append
abbrev zbn:=@Int.toNat_natCast
abbrev zbo:=@List.mem_map
abbrev zbp:=@Option.map_some
abbrev zbq:=@Int.eq_ofNat_of_zero_le
abbrev zbr:=@List.mem_of_getElem?
abbrev zbs:=@Go.Result.halt.injEq
abbrev zbt:=@List.map_nil
abbrev zbu:=@List.drop_zero
abbrev zbv:=@List.getElem?_append_right
abbrev zbw:=@Go.Lib.cell_of_heap
abbrev zbx:=@List.getElem_mem
abbrev zby:=@List.length_map
abbrev zbz:=@Array.getElem?_toList
abbrev zbA:=@List.mem_singleton
abbrev zbB:=@List.flatMap_cons
abbrev zbC:=@List.drop_succ_cons
abbrev zbD:=@Go.Stepped.next.injEq
abbrev zbE:=@Array.getD_eq_getD_getElem?
abbrev zbF:=@Array.mem_of_getElem?
abbrev zbG:=@Array.getElem?_setIfInBounds_self_of_lt
abbrev zbH:=@Option.getD_none
abbrev zbI:=@Bool.true_and
abbrev zbJ:=@List.take_of_length_le
abbrev zbK:=@List.append_assoc
abbrev zbL:=@Array.length_toList
abbrev zbM:=@List.getElem?_drop
abbrev zbN:=@List.suffix_refl
abbrev zbO:=@Except.ok.injEq
abbrev zbP:=@Array.forIn_toList
abbrev zbQ:=@Array.getElem?_eq_none
abbrev zbR:=@List.map_toArray
abbrev zbS:=@List.drop_of_length_le
abbrev zbT:=@List.length_pos_iff
abbrev zbU:=@List.getElem?_map
abbrev zbV:=@Bool.and_eq_true_iff
abbrev zbW:=@decide_eq_false_iff_not
abbrev zbX:=@Array.getElem_map
abbrev zbY:=@Array.getElem?_push
abbrev zbZ:=@Bool.and_true
abbrev zca:=@List.mem_toArray
abbrev zcb:=@List.not_mem_nil
abbrev zcc:=@Option.isSome_iff_exists
abbrev zcd:=@Array.all_eq_true_iff_forall_mem
abbrev zce:=@Option.bind_some
abbrev zcf:=@List.eq_nil_of_length_eq_zero
abbrev zcg:=@List.nodup_nil
abbrev zch:=@Nat.lt_of_le_of_lt
abbrev zci:=@Nat.le_of_lt
abbrev zcj:=@Go.Frame.finish_at
abbrev zck:=@Go.World.ownsRow_nil
abbrev zcl:=@Array.map_map
abbrev zcm:=@Array.mem_iff_getElem
abbrev zcn:=@List.drop_drop
abbrev zco:=@List.nodup_cons
abbrev zcp:=@List.getElem?_eq_none
abbrev zcq:=@List.filter_cons_of_pos
abbrev zcr:=@Go.World.ownsRow.lt
abbrev zcs:=@Array.map_empty
abbrev zct:=@Array.map_setIfInBounds
abbrev zcu:=@Array.size_push
abbrev zcv:=@List.take_succ_eq_append_getElem
abbrev zcw:=@List.getElem?_cons_succ
abbrev zcx:=@List.mem_append_left
abbrev zcy:=@List.flatMap_append
abbrev zcz:=@List.append_nil
abbrev zcA:=@List.count_append
abbrev zcB:=@Nat.eq_zero_or_pos
abbrev zcC:=@Int.gcd_pos_of_ne_zero_right
abbrev zcD:=@List.drop_eq_getElem_cons
abbrev zcE:=@List.getElem?_modify
abbrev zcF:=@List.getElem?_replicate
abbrev zcG:=@List.getD_eq_getElem?_getD
abbrev zcH:=@List.filter_cons_of_neg
abbrev zcI:=@Go.World.ownsRow.alloc
abbrev zcJ:=@Array.mapM_eq_mapM_toList
abbrev zcK:=@Array.getElem?_setIfInBounds
abbrev zcL:=@Nat.mod_lt
abbrev zcM:=@List.length_take
abbrev zcN:=@List.cons.injEq
abbrev zcO:=@List.map_append
open Option renaming map→Γ
open Go renaming Value→Δ,TypeId→Θ,MapEntry→Φ,Program→Ω,zeroValue→ι,Operand→υ,undef→φ,World→χ,FuncId→ϊ,typeInfo→ύ,execOp→ϐ
open Go.Builtin renaming firstCells→Λ,holdsCells→η,zeroCells→θ,unsafeString_→ξ,unsafeSliceData_→π
open Go.Sem renaming bind→Ξ
open Go.Conv renaming bytesToString→ζ
open Go.Instr renaming loadAt→ψ,sureAddr→ω,findNow→ώ
open Go.Op renaming equalIn→ϋ
open Go.Deferred renaming ofValue→ό
namespace Go.Ren
variable {z cs:Array Δ}{v:Δ}{a at_ k:Addr}{u:Θ}{atomic:Bool}
structure Rn where
 b:Nat→Nat
 f:Fn→Fn
 d:Nat
instance:CoeFun Rn (λ_=>Nat→Nat):=⟨Rn.b⟩
def ra (ρ:Rn)(a:Addr):Addr:={ a with block:=ρ a.block }
def rv (ρ:Rn):Δ→Δ
 |.pointer a=> .pointer (a.map (ra ρ))
 |.slice a l c=> .slice (a.map (ra ρ)) l c
 |.map r=> .map (r.map ρ.b)
 |.chan r=> .chan (r.map ρ.b)
 |.func fn first captured=> .func (ρ.f fn) (first.map (rv ρ)) (captured.map (rv ρ))
 |.iface t v=> .iface t (rv ρ v)
 |.agg cs=> .agg (cs.map (rv ρ))
 |.tuple vs=> .tuple (vs.map (rv ρ))
 |.bool b=> .bool b
 |.int k n=> .int k n
 |.float k n=> .float k n
 |.complex k a b=> .complex k a b
 |.string s=> .string s
 |.nilFunc=> .nilFunc
 |.nilIface=> .nilIface
def ro (ρ:Rn):Obj→Obj
 |.cells c t f=> .cells (c.map (rv ρ)) t f
 |.map es c=> .map (es.map λe=>{ e with key:=rv ρ e.key,val:=rv ρ e.val }) c
 |.view a t=> .view (ra ρ a) t
 |.number a b=> .number (ra ρ a) b
 |.pending c t=> .pending (c.map (rv ρ)) t
 |.chan cap buf cl s r t=> .chan cap (buf.map (rv ρ)) cl s r t
 |o=>o
def rm (ρ:Rn):Mark→Mark
 |.acquire a=> .acquire (ra ρ a)
 |.release a=> .release (ra ρ a)
 |.releaseMerge a=> .releaseMerge (ra ρ a)
 |.read a=> .read (ra ρ a)
 |.write a=> .write (ra ρ a)
 |m=>m
def l6:Obj→Prop
 |.cells .. |.view .. |.number .. |.map ..=>True
 |_=>False
def MOk:Mark→Prop
 |.extern _|.noRoom=>True
 |_=>False
def DW:Halt→Prop
 |.panic _|.stuck _=>True
 |.unsupported (.initOrder _)=>False
 |.unsupported _=>True
 |_=>False
def Am (P:Ω)(ρ:Rn):Prop:=∀r,ρ r<P.globals.size↔r<P.globals.size
def GV (P:Ω)(ρ:Rn)(v:Δ):Prop:=Am P ρ∨rv ρ v=v
def GA (P:Ω)(ρ:Rn)(a:Addr):Prop:=Am P ρ∨ra ρ a=a
def GO (P:Ω)(ρ:Rn)(o:Obj):Prop:=Am P ρ∨ro ρ o=o
def NY:Obj→Prop
 |.map ..=>True
 |_=>False
def Tm {α:Type}(Q:α→Prop):Sem α→Prop
 |.pure a=>Q a
 |.halt h=>DW h
 |.program k=>∀p,Tm Q (k p)
 |.new _ k=>∀r,Tm Q (k r)
 |.sys _ k=>∀x,Tm Q (k x)
 |_=>False
theorem Tm.bind {α β:Type}{Q:α→Prop}{R:β→Prop}{f:α→Sem β}(hf:∀a,Q a→Tm R (f a)):∀{s:Sem α},Tm Q s→Tm R (s>>=f)
 |.pure a,h=>hf a h
 |.halt _,h=>h
 |.program _k,h=>λp=>Tm.bind hf (h p)
 |.new _ _k,h=>λr=>Tm.bind hf (h r)
 |.sys _ _k,h=>λx=>Tm.bind hf (h x)
 |.load ..,h=>h.elim
 |.store ..,h=>h.elim
 |.shape ..,h=>h.elim
 |.freeze ..,h=>h.elim
 |.frozen ..,h=>h.elim
 |.getObj ..,h=>h.elim
 |.setObj ..,h=>h.elim
 |.choose ..,h=>h.elim
 |.mark ..,h=>h.elim
def ae (P:Ω)(ρ:Rn){α β:Type}(R:α→β→Prop):Sem α→Sem β→Prop
 |.pure a,s=>∃b,s=.pure b∧R a b
 |.load m a k,s=>a.block<ρ.d∨∃k',s=.load m (ra ρ a) k'∧∀v,ae P ρ R (k v) (k' (rv ρ v))
 |.store m a v k,s=>∃k',s=.store m (ra ρ a) (rv ρ v) k'∧ae P ρ R k k'
 |.new o k,s=>l6 o∧∃k',s=.new (ro ρ o) k'∧∀r,ae P ρ R (k r) (k' (ρ r))
 |.shape r k,s=>∃k',s=.shape (ρ r) k'∧∀x,ae P ρ R (k x) (k' x)
 |.freeze a n k,s=>∃k',s=.freeze (ra ρ a) n k'∧ae P ρ R k k'
 |.frozen a k,s=>∃k',s=.frozen (ra ρ a) k'∧∀b,ae P ρ R (k b) (k' b)
 |.getObj r k,s=>∃k',s=.getObj (ρ r) k'∧∀o,GO P ρ o→ae P ρ R (k o) (k' (ro ρ o))
 |.setObj r o k,s=>NY o∧∃k',s=.setObj (ρ r) (ro ρ o) k'∧ae P ρ R k k'
 |.choose q k,s=>∃k',s=.choose q k'∧∀n,ae P ρ R (k n) (k' n)
 |.sys _ k,_=>∀x,Tm (λ_=>False) (k x)
 |.program k,s=>∃k',s=.program k'∧ae P ρ R (k P) (k' P)
 |.mark m k,s=>MOk m∧∃k',s=.mark m k'∧ae P ρ R k k'
 |.halt h,_=>DW h
section
variable {P:Ω}{ρ:Rn}{α β Z7 Z8:Type}
theorem ae.bind {R:α→β→Prop}{R':Z7→Z8→Prop}:∀{s:Sem α} {s':Sem β} {f:α→Sem Z7} {f':β→Sem Z8},ae P ρ R s s'→(∀a b,R a b→ae P ρ R' (f a) (f' b))→ae P ρ R' (s>>=f) (s'>>=f')
 |.pure a,s',f,f',⟨b,e,h⟩,hf=>by subst e;exact hf a b h
 |.load m a k,s',f,f',h,hf=>by
  rcases h with h|⟨k',e,h⟩
  ·exact .inl h
  ·subst e;exact .inr ⟨_,rfl,λv=>ae.bind (h v) hf⟩
 |.store m a v k,s',f,f',⟨k',e,h⟩,hf=>by subst e;exact⟨_,rfl,ae.bind h hf⟩
 |.new o k,s',f,f',⟨o1,k',e,h⟩,hf=>by subst e;exact⟨o1,_,rfl,λr=>ae.bind (h r) hf⟩
 |.shape r k,s',f,f',⟨k',e,h⟩,hf=>by subst e;exact⟨_,rfl,λr=>ae.bind (h r) hf⟩
 |.freeze a n k,s',f,f',⟨k',e,h⟩,hf=>by subst e;exact⟨_,rfl,ae.bind h hf⟩
 |.frozen a k,s',f,f',⟨k',e,h⟩,hf=>by subst e;exact⟨_,rfl,λr=>ae.bind (h r) hf⟩
 |.getObj r k,s',f,f',⟨k',e,h⟩,hf=>by subst e;exact⟨_,rfl,λr hr=>ae.bind (h r hr) hf⟩
 |.setObj r o k,s',f,f',⟨o1,k',e,h⟩,hf=>by subst e;exact⟨o1,_,rfl,ae.bind h hf⟩
 |.choose q k,s',f,f',⟨k',e,h⟩,hf=>by subst e;exact⟨_,rfl,λr=>ae.bind (h r) hf⟩
 |.sys q k,s',f,f',h,hf=>λx=>Tm.bind (λ_ q=>q.elim) (h x)
 |.program k,s',f,f',⟨k',e,h⟩,hf=>by subst e;exact⟨_,rfl,ae.bind h hf⟩
 |.mark m k,s',f,f',⟨o,k',e,h⟩,hf=>by subst e;exact⟨o,_,rfl,ae.bind h hf⟩
 |.halt h,s',f,f',e,hf=>e
theorem ae.pure {R:α→β→Prop}{a:α}{b:β}(h:R a b):ae P ρ R (Pure.pure a) (Pure.pure b):=⟨b,rfl,h⟩
theorem ae.stuck {R:α→β→Prop}{s':Sem β}(w:String):ae P ρ R (stuck w) s':=trivial
theorem ae.unsupported {R:α→β→Prop}{s':Sem β}(u:Unsupported)(h:DW (.unsupported u):=by trivial):ae P ρ R (unsupported u) s':=h
abbrev VV (ρ:Rn):Δ→Δ→Prop:=λv v'=>v'=rv ρ v
abbrev AA (ρ:Rn):Addr→Addr→Prop:=λa a'=>a'=ra ρ a
theorem xc (a:Addr):ae P ρ (VV ρ) (load a) (load (ra ρ a)):= .inr ⟨_,rfl,λ_v=>⟨_,rfl,rfl⟩⟩
theorem S9 (a:Addr)(v:Δ):ae P ρ Eq (store a v) (store (ra ρ a) (rv ρ v)):=⟨_,rfl,⟨_,rfl,rfl⟩⟩
theorem l7 (o:Obj)(h:l6 o:=by trivial):ae P ρ (λr r'=>r'=ρ r) (newObj o) (newObj (ro ρ o)):=⟨h,_,rfl,λ_r=>⟨_,rfl,rfl⟩⟩
theorem cL:ae P ρ (λp p'=>P=p∧P=p') program program:=⟨_,rfl,⟨_,rfl,rfl,rfl⟩⟩
theorem iC (q:Question):ae P ρ Eq (choose q) (choose q):=⟨_,rfl,λ_=>⟨_,rfl,rfl⟩⟩
theorem eQ (t:Θ):ae P ρ (λi i'=>i'=i∧P.info? t=some i) (ύ t) (ύ t):=by
 unfold ύ;refine ae.bind cL ?_;rintro _ _ ⟨rfl,rfl⟩;split
 ·rename_i i h;exact ae.pure ⟨rfl,h⟩
 ·exact ae.stuck _
theorem ax (t:Θ):ae P ρ (λi i'=>i'=i∧P.underlying t=some i) (underlying t) (underlying t):=by
 unfold underlying;refine ae.bind cL ?_;rintro _ _ ⟨rfl,rfl⟩;split
 ·rename_i i h;exact ae.pure ⟨rfl,h⟩
 ·exact ae.stuck _
theorem jQ (a:Addr)(i:Nat):(ra ρ a).add i=ra ρ (a.add i):=by unfold ra Addr.add;split<;>rfl
theorem nK (a:Addr):∀(n i:Nat) (acc:Array Δ),ae P ρ (λx y=>y=x.map (rv ρ)) (loadCellsFrom a i n acc) (loadCellsFrom (ra ρ a) i n (acc.map (rv ρ)))
 |0,i,acc=>ae.pure rfl
 |n+1,i,acc=>by
  unfold loadCellsFrom;rw[jQ];refine ae.bind (xc _) ?_;rintro v _ rfl;have:=nK a n (i+1) (acc.push v);rwa[Array.map_push]at this
theorem od (a:Addr)(n:Nat):ae P ρ (λx y=>y=x.map (rv ρ)) (loadCells a n) (loadCells (ra ρ a) n):=by
 have:=nK (P:=P) (ρ:=ρ) a n 0 #[];rwa[zcs]at this
theorem wA (t:Θ):ae P ρ Eq (isAgg t) (isAgg t):=by
 unfold isAgg;refine ae.bind (ax t) ?_;rintro d d' ⟨e,_⟩;subst e;cases d'<;>exact ae.pure rfl
theorem cC (t:Θ):ae P ρ Eq (sizeOf t) (sizeOf t):=by
 unfold sizeOf;refine ae.bind (eQ t) ?_;rintro d _ ⟨rfl,_⟩;exact ae.pure rfl
theorem A0 (t:Θ)(a:Addr):ae P ρ (VV ρ) (loadVar t a) (loadVar t (ra ρ a)):=by
 unfold loadVar;refine ae.bind (wA t) ?_;rintro b _ rfl;cases b
 ·exact xc a
 ·refine ae.bind (cC t) ?_;rintro n _ rfl;refine ae.bind (od a n) ?_;rintro cs _ rfl;exact ae.pure (by simp only[VV,rv])
theorem km (a:Addr):∀(vs:List Δ) (i:Nat),ae P ρ Eq (storeCells a vs i) (storeCells (ra ρ a) (vs.map (rv ρ)) i)
 |[],i=>ae.pure rfl
 |v::r,i=>by
  unfold storeCells;simp only[zaB];rw[jQ];exact ae.bind (S9 _ v) (λ_ _ _=>km a r (i+1))
theorem jF (v:Δ):(rv ρ v).cells=v.cells.map (rv ρ):=by
 cases v<;>simp[rv,Δ.cells]
theorem G8 (t:Θ)(a:Addr)(v:Δ):ae P ρ Eq (storeVar t a v) (storeVar t (ra ρ a) (rv ρ v)):=by
 unfold storeVar;refine ae.bind (cC t) ?_;rintro n _ rfl;rw[jF,Array.size_map];split
 ·exact ae.stuck _
 ·rw[zbl];exact km a _ 0
theorem kE (v:Δ):ae P ρ (AA ρ) (ω v) (ω (rv ρ v)):=by
 cases v with
 |pointer a=>
  cases a with
  |none=>simp only[rv,Γ,ω];exact ae.stuck _
  |some a=>simp only[rv,Γ,ω];exact ae.pure rfl
 |_=>simp only[rv,ω];exact ae.stuck _
theorem DX (t:Θ)(v:Δ):ae P ρ (VV ρ) (ψ t v) (ψ t (rv ρ v)):=by
 unfold ψ;refine ae.bind (kE v) ?_;rintro a _ rfl;exact A0 t a
theorem K3 (t:Θ)(v x:Δ):ae P ρ Eq (Instr.storeAt t v x) (Instr.storeAt t (rv ρ v) (rv ρ x)):=by
 unfold Instr.storeAt;refine ae.bind (kE v) ?_;rintro a _ rfl;exact G8 t a x
theorem py (v:Δ):ae P ρ Eq (asIntOf v) (asIntOf (rv ρ v)):=by
 cases v with
 |pointer a=>cases a<;>(simp only[rv,Γ,asIntOf];first|exact ae.stuck _|exact ae.unsupported _)
 |int k n=>simp only[rv,asIntOf];exact ae.pure rfl
 |_=>simp only[rv,asIntOf];exact ae.stuck _
theorem mI (v:Δ):ae P ρ Eq (asInt v) (asInt (rv ρ v)):=by
 unfold asInt;refine ae.bind (py v) ?_;rintro x _ rfl;exact ae.pure rfl
theorem xd (v:Δ):ae P ρ Eq (asBool v) (asBool (rv ρ v)):=by
 cases v with
 |bool b=>simp only[rv,asBool];exact ae.pure rfl
 |_=>simp only[rv,asBool];exact ae.stuck _
theorem Ta (v:Δ):ae P ρ (λx y=>y=x.map (rv ρ)) (asAgg v) (asAgg (rv ρ v)):=by
 cases v with
 |agg b=>simp only[rv,asAgg];exact ae.pure rfl
 |_=>simp only[rv,asAgg];exact ae.stuck _
structure Plain (P:Ω) (ρ:Rn):Prop where
 zero:∀t i v,P.info? t=some i→i.zero=some v→rv ρ v=v
 inj:∀a b,ρ a=ρ b→a=b
theorem eJ (hp:Plain P ρ)(t:Θ):ae P ρ (λv v'=>v'=v∧rv ρ v=v) (ι t) (ι t):=by
 unfold ι;refine ae.bind (eQ t) ?_;rintro i i' ⟨e,hi⟩;subst e;split
 ·rename_i v hv;exact ae.pure ⟨rfl,hp.zero t _ v hi hv⟩
 ·exact ae.unsupported _
theorem rO (t:Θ)(cs:Array Δ):ae P ρ (AA ρ) (newRow t cs) (newRow t (cs.map (rv ρ))):=by
 unfold newRow;refine ae.bind (l7 (.cells cs t)) ?_;rintro r _ rfl;exact ae.pure rfl
theorem xe (t:Θ)(v:Δ):ae P ρ (AA ρ) (newVar t v) (newVar t (rv ρ v)):=by
 unfold newVar;rw[jF];exact rO t _
theorem og (t:Θ)(cs:Array Δ)(o:Nat):ae P ρ (VV ρ) (part t cs o) (part t (cs.map (rv ρ)) o):=by
 unfold part;refine ae.bind (wA t) ?_;rintro b _ rfl;cases b
 ·simp only[zaz,zaU,if_false];cases cs[o]? with
  |none=>exact ae.stuck _
  |some v=>exact ae.pure rfl
 ·simp only[if_true];refine ae.bind (cC t) ?_;rintro n _ rfl;exact ae.pure (by simp only[VV,rv];rw[Array.map_extract])
theorem mJ {R:α→β→Prop}{s':Sem β}(v:Δ):ae P ρ R (goPanic v) s':=trivial
theorem xf (t:Θ):ae P ρ Eq (elemOf t) (elemOf t):=by
 unfold elemOf;refine ae.bind (ax t) ?_;rintro d d' ⟨e,_⟩;subst e;cases d'<;>first|exact ae.stuck _|exact ae.pure rfl
def RuntimeError.acF:RuntimeError→Bool
 |.typeAssertion ..=>false
 |_=>true
theorem aX {R:α→β→Prop}(e:RuntimeError)(he:RuntimeError.acF e=true:=by rfl):ae P ρ R (runtimePanic e) (runtimePanic e):=by
 unfold runtimePanic;refine ae.bind cL ?_;rintro _ _ ⟨rfl,rfl⟩;cases e with
 |bounds x y s c=>exact mJ _
 |error m=>exact mJ _
 |plain m=>exact mJ _
 |nilDeref=>exact mJ _
 |typeAssertion i c a m=>cases he
 |panicNil=>
  simp only;refine ae.bind (xf _) ?_;rintro t _ rfl;have hv:=xe (P:=P) (ρ:=ρ) t (.agg #[]);simp only[rv,zcs]at hv;refine ae.bind hv ?_;rintro r _ rfl;exact mJ _
 |unhashable t=>exact mJ _
theorem DY (_hp:Plain P ρ)(v:Δ):ae P ρ (AA ρ) (asAddr v) (asAddr (rv ρ v)):=by
 cases v with
 |pointer a=>
  cases a with
  |none=>simp only[rv,Γ,asAddr];exact aX _
  |some a=>simp only[rv,Γ,asAddr];exact ae.pure rfl
 |_=>simp only[rv,asAddr];exact ae.stuck _
theorem gJ {R:α→β→Prop}(_hp:Plain P ρ)(k:IntKind)(x y:Int)(c:BoundsCode):ae P ρ R (boundsPanic k x y c) (boundsPanic k x y c):=by
 unfold boundsPanic;dsimp only;split
 ·refine ae.bind (R:=Eq) ?_ ?_
  ·refine ae.bind (iC _) ?_;rintro n _ rfl;exact ae.pure rfl
  ·rintro b _ rfl;exact aX _
 ·refine ae.bind (R:=Eq) (ae.pure rfl) ?_;rintro b _ rfl;exact aX _
theorem ae.aj {R:α→β→Prop}{c:Prop} [Decidable c] {s t:Sem α}{s' t':Sem β}(h1:c→ae P ρ R s s')(h2:¬c→ae P ρ R t t'):ae P ρ R (if c then s else t) (if c then s' else t'):=by
 split
 ·exact h1 ‹_›
 ·exact h2 ‹_›
theorem Tb (hp:Plain P ρ)(t:Θ):ae P ρ (VV ρ) (Instr.alloc t true (.tuple #[])) (Instr.alloc t true (.tuple #[])):=by
 unfold Instr.alloc;refine ae.bind (eJ hp t) ?_;rintro v v' ⟨e,hv⟩;subst e;have:=xe (P:=P) (ρ:=ρ) t v';rw[hv]at this;refine ae.bind this ?_;rintro a _ rfl;exact ae.pure (by simp[VV,rv])
theorem aaa (t:Θ)(v:Δ):ae P ρ (VV ρ) (Instr.box t v) (Instr.box t (rv ρ v)):=by
 unfold Instr.box;refine ae.bind (xe t v) ?_;rintro a _ rfl;exact ae.pure (by simp[VV,rv])
theorem zipIdx_map (l:List Δ)(k:Nat):∀(off:Nat) (cs:Array Δ),(((l.map (rv ρ)).zipIdx k).foldl (λcs (x:Δ×Nat)=>cs.setIfInBounds (off+x.2) x.1) (cs.map (rv ρ)):Array Δ)=((l.zipIdx k).foldl (λcs (x:Δ×Nat)=>cs.setIfInBounds (off+x.2) x.1) cs).map (rv ρ):=by
 induction l generalizing k with
 |nil=>intro off cs;rfl
 |cons v r ih=>
  intro off cs;simp only[zaB,List.zipIdx_cons,List.foldl_cons];rw[←zct];exact ih (k+1) off _
theorem G9 (place:Nat→Option (Nat×Nat)):∀(l:List (Nat×Δ)) (cs:Array Δ),Instr.fill place (cs.map (rv ρ)) (l.map λx=>(x.1,rv ρ x.2))=(Instr.fill place cs l).map (λx=>x.map (rv ρ))
 |[],cs=>rfl
 |(i,v)::r,cs=>by
  simp only[zaB,Instr.fill];cases place i with
  |none=>rfl
  |some p=>
   obtain⟨off,size⟩:=p;simp only[jF,Array.size_map];split
   ·rfl
   ·rw[←G9 place r]
    congr 1
    have:=zipIdx_map (ρ:=ρ) v.cells.toList 0 off cs;rw[←Array.foldl_toList,←Array.foldl_toList,Array.toList_zipIdx,Array.toList_zipIdx,zbl];exact this
theorem bind_assoc' {γ δ ε:Type}:∀(s:Sem γ) (f:γ→Sem δ) (g:δ→Sem ε),(s.bind f).bind g=s.bind λx=>(f x).bind g
 |.pure a,f,g=>rfl
 |.load m a k,f,g=>by simp only[Ξ];congr 1;funext v;exact bind_assoc' (k v) f g
 |.store m a v k,f,g=>by simp only[Ξ];congr 1;exact bind_assoc' k f g
 |.new o k,f,g=>by simp only[Ξ];congr 1;funext v;exact bind_assoc' (k v) f g
 |.shape o k,f,g=>by simp only[Ξ];congr 1;funext v;exact bind_assoc' (k v) f g
 |.freeze a n k,f,g=>by simp only[Ξ];congr 1;exact bind_assoc' k f g
 |.frozen o k,f,g=>by simp only[Ξ];congr 1;funext v;exact bind_assoc' (k v) f g
 |.getObj o k,f,g=>by simp only[Ξ];congr 1;funext v;exact bind_assoc' (k v) f g
 |.setObj a n k,f,g=>by simp only[Ξ];congr 1;exact bind_assoc' k f g
 |.choose o k,f,g=>by simp only[Ξ];congr 1;funext v;exact bind_assoc' (k v) f g
 |.sys o k,f,g=>by simp only[Ξ];congr 1;funext v;exact bind_assoc' (k v) f g
 |.program k,f,g=>by simp only[Ξ];congr 1;funext v;exact bind_assoc' (k v) f g
 |.mark m k,f,g=>by simp only[Ξ];congr 1;exact bind_assoc' k f g
 |.halt h,f,g=>rfl
theorem bind_pure' {γ:Type}:∀(s:Sem γ),s.bind Sem.pure=s
 |.pure a=>rfl
 |.load m a k=>by simp only[Ξ];congr 1;funext v;exact bind_pure' (k v)
 |.store m a v k=>by simp only[Ξ];congr 1;exact bind_pure' k
 |.new o k=>by simp only[Ξ];congr 1;funext v;exact bind_pure' (k v)
 |.shape o k=>by simp only[Ξ];congr 1;funext v;exact bind_pure' (k v)
 |.freeze a n k=>by simp only[Ξ];congr 1;exact bind_pure' k
 |.frozen o k=>by simp only[Ξ];congr 1;funext v;exact bind_pure' (k v)
 |.getObj o k=>by simp only[Ξ];congr 1;funext v;exact bind_pure' (k v)
 |.setObj a n k=>by simp only[Ξ];congr 1;exact bind_pure' k
 |.choose o k=>by simp only[Ξ];congr 1;funext v;exact bind_pure' (k v)
 |.sys o k=>by simp only[Ξ];congr 1;funext v;exact bind_pure' (k v)
 |.program k=>by simp only[Ξ];congr 1;funext v;exact bind_pure' (k v)
 |.mark m k=>by simp only[Ξ];congr 1;exact bind_pure' k
 |.halt h=>rfl
theorem lawful:LawfulMonad Sem:=LawfulMonad.mk' Sem (id_map:=λx=>bind_pure' x) (pure_bind:=λ_ _=>rfl) (bind_assoc:=λx f g=>bind_assoc' x f g)
theorem NZ {γ:Type}{f f':γ→Sem α}(hf:∀x,ae P ρ Eq (f x) (f' x)):∀(l:List γ),ae P ρ Eq (l.mapM f) (l.mapM f')
 |[]=>by haveI:=lawful;simp only[List.mapM_nil];exact ae.pure rfl
 |x::r=>by
  haveI:=lawful
  simp only[List.mapM_cons];refine ae.bind (hf x) ?_;rintro a _ rfl;refine ae.bind (NZ hf r) ?_;rintro as _ rfl;exact ae.pure rfl
theorem Tc {γ:Type}{f f':γ→Sem α}(hf:∀x,ae P ρ Eq (f x) (f' x))(l:Array γ):ae P ρ Eq (l.mapM f) (l.mapM f'):=by
 haveI:=lawful
 rw[zcJ,zcJ];refine ae.bind (NZ hf l.toList) ?_;rintro as _ rfl;exact ae.pure rfl
theorem Td (hp:Plain P ρ)(t:Θ)(parts:Array (Nat×Δ)):ae P ρ (VV ρ) (Instr.build t parts) (Instr.build t (parts.map λx=>(x.1,rv ρ x.2))):=by
 unfold Instr.build;refine ae.bind (eJ hp t) ?_;rintro v v' ⟨e,hv⟩;subst e;refine ae.bind (ax t) ?_;rintro d d' ⟨e,_⟩;subst e;have hz:v'.cells.map (rv ρ)=v'.cells:=by rw[←jF,hv]
 have hf:=λplace=>G9 (ρ:=ρ) place parts.toList v'.cells;simp only[hz]at hf;cases d' with
 |struct fields=>
  simp only;refine ae.bind (Tc (λf=>?_) fields) ?_
  ·refine ae.bind (cC f.type) ?_;rintro n _ rfl;exact ae.pure rfl
  ·rintro pl _ rfl;rw[zbl,hf];cases Instr.fill (λx=>pl[x]?) v'.cells parts.toList with
   |none=>exact ae.stuck _
   |some cs=>exact ae.pure (by simp[VV,rv])
 |array n e=>
  simp only;refine ae.bind (cC e) ?_;rintro sz _ rfl;rw[zbl,hf];cases Instr.fill (λi=>some (i*sz,sz)) v'.cells parts.toList with
  |none=>exact ae.stuck _
  |some cs=>exact ae.pure (by simp[VV,rv])
 |_=>exact ae.stuck _
theorem K4 (v:Δ)(i:Nat):ae P ρ (VV ρ) (Instr.extract v i) (Instr.extract (rv ρ v) i):=by
 cases v with
 |tuple vs=>
  simp only[rv,Instr.extract,zaz];cases vs[i]? with
  |none=>exact ae.stuck _
  |some v=>exact ae.pure rfl
 |_=>simp only[rv,Instr.extract];exact ae.stuck _
theorem Cn (hp:Plain P ρ)(v:Δ)(y:Nat)(c:BoundsCode):ae P ρ Eq (Instr.sliceBound v y c) (Instr.sliceBound (rv ρ v) y c):=by
 unfold Instr.sliceBound;refine ae.bind (py v) ?_;rintro x _ rfl;refine ae.aj (λ_=>ae.pure rfl) (λ_=>gJ hp _ _ _ _)
theorem qo (hp:Plain P ρ)(b:Bool)(len cap:Nat)(lo hi mx:Option Δ):ae P ρ Eq (Instr.sliceBounds b len cap lo hi mx) (Instr.sliceBounds b len cap (lo.map (rv ρ)) (hi.map (rv ρ)) (mx.map (rv ρ))):=by
 have hb:=λv y c=>Cn (P:=P) (ρ:=ρ) hp v y c;unfold Instr.sliceBounds;cases mx<;>cases hi<;>cases lo<;>simp only[Γ,Option.isSome];all_goals
  repeat' first
   |exact ae.pure rfl
   |exact ae.stuck _
   |(refine ae.bind (R:=Eq) (ae.pure rfl) ?_;rintro _ _ rfl)
   |(refine ae.bind (hb _ _ _) ?_;rintro _ _ rfl)
   |(refine ae.bind (R:=Eq) (ae.stuck _) ?_;rintro _ _ rfl)
theorem Te (a:Option Addr)(n:Nat):(a.map (ra ρ)).map (·.add n)=(a.map (·.add n)).map (ra ρ):=by
 cases a with
 |none=>rfl
 |some a=>simp[jQ]
theorem Tf (hp:Plain P ρ)(t:Θ)(x:Δ)(lo hi mx:Option Δ):ae P ρ (VV ρ) (Instr.slice t x lo hi mx) (Instr.slice t (rv ρ x) (lo.map (rv ρ)) (hi.map (rv ρ)) (mx.map (rv ρ))):=by
 have hs:=λb len cap mx=>qo (P:=P) (ρ:=ρ) hp b len cap lo hi mx;have ha:=DY hp x;unfold Instr.slice;refine ae.bind (ax t) ?_;rintro d d' ⟨e,_⟩;subst e;cases d'<;>cases x<;>simp only[rv]at ha ⊢<;>try exact ae.stuck _
 case string.string=>
  simp only[Option.isSome_map];refine ae.aj (λ_=>ae.bind (R:=Eq) (ae.stuck _) (λ_ _ _=>?_)) (λ_=>?_);all_goals
   refine ae.bind (hs _ _ _ none) ?_;rintro b _ rfl;exact ae.pure (by simp[VV,rv])
 case slice.slice=>
  refine ae.bind (hs _ _ _ mx) ?_;rintro b _ rfl;refine ae.bind (cC _) ?_;rintro n _ rfl;refine ae.pure ?_;simp only[VV,rv,Te];split<;>rfl
 all_goals
  refine ae.bind ha ?_;rintro a _ rfl;refine ae.bind (ax _) ?_;rintro d d' ⟨e,_⟩;subst e;cases d' with
  |array n e=>
   refine ae.bind (hs _ _ _ mx) ?_;rintro b _ rfl;refine ae.bind (cC e) ?_;rintro n _ rfl;refine ae.pure ?_;simp only[VV,rv,Γ,jQ];split<;>rfl
  |_=>exact ae.stuck _
theorem K5 (hp:Plain P ρ)(t:Θ)(x:Δ)(lo hi mx:Option Δ):ae P ρ (VV ρ) (Instr.sliceAt t x lo hi mx) (Instr.sliceAt t (rv ρ x) (lo.map (rv ρ)) (hi.map (rv ρ)) (mx.map (rv ρ))):=by
 have hs:=λb len cap mx=>qo (P:=P) (ρ:=ρ) hp b len cap lo hi mx;unfold Instr.sliceAt;refine ae.bind (ax t) ?_;rintro d d' ⟨e,_⟩;subst e;cases d' with
 |array n e=>
  refine ae.bind (kE x) ?_;rintro a _ rfl;refine ae.bind (hs _ _ _ mx) ?_;rintro b _ rfl;refine ae.bind (cC e) ?_;rintro n _ rfl;refine ae.pure ?_;simp only[VV,rv,Γ,jQ];split<;>rfl
 |_=>exact Tf hp t x lo hi mx
theorem Tg (hp:Plain P ρ)(t:Θ)(x i:Δ):ae P ρ (VV ρ) (Instr.index t x i) (Instr.index t (rv ρ x) (rv ρ i)):=by
 unfold Instr.index;refine ae.bind (py i) ?_;rintro k _ rfl;refine ae.bind (ax t) ?_;rintro d d' ⟨e,_⟩;subst e;cases d'<;>cases x<;>simp only[rv]<;>try exact ae.stuck _
 case array.agg=>
  refine ae.aj (λ_=>?_) (λ_=>gJ hp _ _ _ _);refine ae.bind (cC _) ?_;rintro m _ rfl;exact og _ _ _
 case string.string=>
  split
  ·exact ae.pure (by simp[VV,rv])
  ·exact gJ hp _ _ _ _
theorem K6 (hp:Plain P ρ)(t:Θ)(x i:Δ):ae P ρ (VV ρ) (Instr.indexAt t x i) (Instr.indexAt t (rv ρ x) (rv ρ i)):=by
 have Nu:=kE (P:=P) (ρ:=ρ) x;have tail:∀(k:IntKind×Int) (base:Option Addr) (len:Nat) (elem:Θ),ae P ρ (VV ρ)
  (do let d ←underlying t
      match base with
      |some a=>
       if 0≤k.2∧k.2<len then do let n ←sizeOf elem;pure (.pointer (some (a.add (k.2.toNat*n))))
       else if(decide (len≤1)&&(match d with|.array ..=>true|_=>false))=true then unsupported (.noEntry "op/indexAddr.an index out of range at an array of length 0 or 1 (ledger 616)")
       else boundsPanic k.1 k.2 len .index
      |none=>boundsPanic k.1 k.2 0 .index)
  (do let d ←underlying t
      match base.map (ra ρ)with
      |some a=>
       if 0≤k.2∧k.2<len then do let n ←sizeOf elem;pure (.pointer (some (a.add (k.2.toNat*n))))
       else if(decide (len≤1)&&(match d with|.array ..=>true|_=>false))=true then unsupported (.noEntry "op/indexAddr.an index out of range at an array of length 0 or 1 (ledger 616)")
       else boundsPanic k.1 k.2 len .index
      |none=>boundsPanic k.1 k.2 0 .index):=by
  intro k base len elem;refine ae.bind (ax t) ?_;rintro d d' ⟨e,_⟩;subst e;cases base with
  |none=>exact gJ hp _ _ _ _
  |some a=>
   simp only[Γ];refine ae.aj (λ_=>?_) (λ_=>ae.aj (λ_=>ae.unsupported _) (λ_=>gJ hp _ _ _ _));refine ae.bind (cC elem) ?_;rintro n _ rfl;exact ae.pure (by simp[VV,rv,jQ])
 unfold Instr.indexAt;refine ae.bind (py i) ?_;rintro k _ rfl;refine ae.bind (ax t) ?_;rintro d d' ⟨e,_⟩;subst e;cases d'<;>cases x<;>simp only[rv]at Nu ⊢<;>first
  |exact ae.bind (R:=λ(_:Option Addr×Nat×Θ) (_:Option Addr×Nat×Θ)=>False) (ae.stuck _) (λ_ _ h=>h.elim)
  |(refine ae.bind (R:=λ(x:Option Addr×Nat×Θ) y=>y=(x.1.map (ra ρ),x.2)) (ae.pure rfl) ?_;rintro ⟨base,len,elem⟩ _ rfl;exact tail k base len elem)
  |(refine ae.bind Nu ?_;rintro a _ rfl;exact tail k (some a) _ _)
theorem gT (r:Nat):ae P ρ Eq (shape r) (shape (ρ r)):=⟨_,rfl,λ_=>⟨_,rfl,rfl⟩⟩
theorem l8 (a:Addr):ae P ρ Eq (frozen a) (frozen (ra ρ a)):=⟨_,rfl,λ_=>⟨_,rfl,rfl⟩⟩
theorem N4 (a:Addr)(n:Nat):ae P ρ Eq (freeze a n) (freeze (ra ρ a) n):=⟨_,rfl,⟨_,rfl,rfl⟩⟩
theorem l9 (r:Nat):ae P ρ (λo o'=>o'=ro ρ o∧GO P ρ o) (getObj r) (getObj (ρ r)):=⟨_,rfl,λ_ h=>⟨_,rfl,rfl,h⟩⟩
theorem D7 (r:Nat)(o:Obj)(h:NY o):ae P ρ Eq (setObj r o) (setObj (ρ r) (ro ρ o)):=⟨h,_,rfl,⟨_,rfl,rfl⟩⟩
theorem Co (m:Mark)(h:MOk m:=by trivial):ae P ρ Eq (mark m) (mark m):=⟨h,_,rfl,⟨_,rfl,rfl⟩⟩
theorem A1 (n:Nat):ae P ρ Eq (askRoom n) (askRoom n):=by
 unfold askRoom;exact ae.aj (λ_=>Co _) (λ_=>ae.pure rfl)
theorem Ha:rv ρ default=default:=by
 rw[show(default:Δ)=.bool default from rfl];simp[rv]
theorem K7 (h:z.map (rv ρ)=z)(i:Nat):rv ρ z[i]! =z[i]!:=by
 rw[Array.getElem!_eq_getD,zbE];have:(z.map (rv ρ))[i]?=z[i]?:=by rw[h]
 rw[zaz]at this;cases hz:z[i]? with
 |none=>exact Ha
 |some v=>rw[hz]at this;simpa using this
theorem oh (h:z.map (rv ρ)=z)(n m:Nat):((Array.range n).map (λx=>z[x%m]!)).map (rv ρ)=(Array.range n).map (λx=>z[x%m]!):=by
 rw[zcl]
 congr 1
 funext x;exact K7 h _
theorem jG {R:α→β→Prop}{γ δ:Type}{s:Sem γ}{s':Sem δ}{f:γ→Sem α}{f':δ→Sem β}(h:ae P ρ (λ_ _=>False) s s'):ae P ρ R (s>>=f) (s'>>=f'):=ae.bind h (λ_ _ h=>h.elim)
theorem D9 (hp:Plain P ρ)(t:Θ)(l c:Δ):ae P ρ (VV ρ) (Instr.makeSlice t l c) (Instr.makeSlice t (rv ρ l) (rv ρ c)):=by
 unfold Instr.makeSlice;refine ae.bind (ax t) ?_;rintro d d' ⟨e,_⟩;subst e;cases d'<;>try exact ae.stuck _
 simp only;refine ae.bind (mI l) ?_;rintro l _ rfl;refine ae.bind (mI c) ?_;rintro c _ rfl;refine ae.bind (eQ _) ?_;rintro d d' ⟨e,_⟩;subst e;refine ae.aj (λ_=>?_) (λ_=>?_)
 ·refine ae.aj (λ_=>jG (aX _)) (λ_=>ae.aj (λ_=>jG (aX _)) (λ_=>?_));refine ae.bind (iC _) ?_;rintro n _ rfl;exact jG (aX _)
 ·refine ae.bind (A1 _) ?_;rintro _ _ rfl;refine ae.bind (cC _) ?_;rintro n _ rfl;have fin:∀z:Array Δ,z.map (rv ρ)=z→∀m k q:Nat,∀e:Θ,ae P ρ (VV ρ) (do let a ←newRow e ((Array.range m).map (λx=>z[x%z.size]!));pure (.slice (some a) k q)) (do let a ←newRow e ((Array.range m).map (λx=>z[x%z.size]!));pure (.slice (some a) k q)):=λz hz m k q e=>by
   have:=rO (P:=P) (ρ:=ρ) e ((Array.range m).map (λx=>z[x%z.size]!));rw[oh hz]at this;refine ae.bind this ?_;rintro a _ rfl;exact ae.pure (by simp[VV,rv])
  refine ae.aj (λ_=>?_) (λ_=>?_)
  ·refine ae.bind (R:=λz z'=>z'=z∧z.map (rv ρ)=z) (ae.pure ⟨rfl,by simp⟩) ?_;rintro z _ ⟨rfl,hz⟩;exact fin _ hz _ _ _ _
  ·refine ae.bind (eJ hp _) ?_;rintro v v' ⟨e,hv⟩;subst e;refine ae.bind (R:=λz z'=>z'=z∧z.map (rv ρ)=z) (ae.pure ⟨rfl,by rw[←jF,hv]⟩) ?_;rintro z _ ⟨rfl,hz⟩;exact fin _ hz _ _ _ _
theorem Cp (hp:Plain P ρ)(t:Θ)(len:Nat)(parts:Array (Nat×Δ)):ae P ρ (VV ρ) (Instr.buildSlice t len parts) (Instr.buildSlice t len (parts.map λx=>(x.1,rv ρ x.2))):=by
 unfold Instr.buildSlice;refine ae.bind (ax t) ?_;rintro d d' ⟨e,_⟩;subst e;cases d'<;>try exact ae.stuck _
 simp only;refine ae.bind (cC _) ?_;rintro n _ rfl;have fin:∀z:Array Δ,z.map (rv ρ)=z→∀e:Θ,ae P ρ (VV ρ)
  (match Instr.fill (λi=>some (i*n,n)) ((Array.range (len*n)).map (λx=>z[x%z.size]!)) parts.toList with|some cells=>(do let a ←newRow e cells;pure (.slice (some a) len len))|_=>stuck "buildSlice: a part of the wrong size")
  (match Instr.fill (λi=>some (i*n,n)) ((Array.range (len*n)).map (λx=>z[x%z.size]!)) (parts.map λx=>(x.1,rv ρ x.2)).toList with|some cells=>(do let a ←newRow e cells;pure (.slice (some a) len len))|_=>stuck "buildSlice: a part of the wrong size"):=λz hz e=>by
  have hf:=G9 (ρ:=ρ) (λi=>some (i*n,n)) parts.toList ((Array.range (len*n)).map (λx=>z[x%z.size]!));rw[oh hz]at hf;rw[zbl,hf];cases Instr.fill (λi=>some (i*n,n)) ((Array.range (len*n)).map (λx=>z[x%z.size]!)) parts.toList with
  |none=>exact ae.stuck _
  |some cs=>
   refine ae.bind (rO e cs) ?_;rintro a _ rfl;exact ae.pure (by simp[VV,rv])
 refine ae.aj (λ_=>jG (ae.unsupported _)) (λ_=>?_);refine ae.aj (λ_=>?_) (λ_=>?_)
 ·refine ae.bind (R:=λz z'=>z'=z∧z.map (rv ρ)=z) (ae.pure ⟨rfl,by simp⟩) ?_;rintro z _ ⟨rfl,hz⟩;exact fin _ hz _
 ·refine ae.bind (eJ hp _) ?_;rintro v v' ⟨e,hv⟩;subst e;refine ae.bind (R:=λz z'=>z'=z∧z.map (rv ρ)=z) (ae.pure ⟨rfl,by rw[←jF,hv]⟩) ?_;rintro z _ ⟨rfl,hz⟩;exact fin _ hz _
theorem Th (t:Θ)(x:Δ)(f:Nat):ae P ρ (VV ρ) (Instr.field t x f) (Instr.field t (rv ρ x) f):=by
 unfold Instr.field;refine ae.bind (ax t) ?_;rintro d d' ⟨e,_⟩;subst e;cases d'<;>try exact ae.stuck _
 simp only;split
 ·refine ae.bind (Ta x) ?_;rintro cs _ rfl;exact og _ _ _
 ·exact ae.stuck _
theorem vC (t:Θ)(x:Δ):ae P ρ (VV ρ) (Instr.makeInterface t x) (Instr.makeInterface t (rv ρ x)):=by
 unfold Instr.makeInterface;refine ae.bind (ax t) ?_;rintro d d' ⟨e,_⟩;subst e;cases d'<;>first|exact ae.stuck _|exact ae.pure (by simp[VV,rv])
theorem rP (r:Nat):ae P ρ (λx y=>y=x.map λz=>(ra ρ z.1,z.2)) (viewAt r) (viewAt (ρ r)):=by
 unfold viewAt;refine ae.bind (gT r) ?_;rintro sh _ rfl;refine ae.aj (λ_=>ae.pure rfl) (λ_=>?_);refine ae.bind (l9 r) ?_;rintro o _ ⟨rfl,_⟩;cases o<;>simp only[ro]<;>exact ae.pure rfl
theorem xg (a:Addr):ae P ρ Eq (noView a) (noView (ra ρ a)):=by
 unfold noView;refine ae.bind (rP a.block) ?_;rintro x _ rfl;simp only[Option.isSome_map];exact ae.aj (λ_=>ae.unsupported _) (λ_=>ae.pure rfl)
theorem kF (a:Addr):ae P ρ Eq (byteOf a) (byteOf (ra ρ a)):=by
 unfold byteOf;have e1:(ra ρ a).spot=a.spot:=rfl;have e2:(ra ρ a).off=a.off:=rfl;have e3:(ra ρ a).block=ρ a.block:=rfl;simp only[e1,e2,e3];cases a.spot with
 |some s=>exact ae.pure rfl
 |none=>
  simp only;refine ae.bind cL ?_;rintro _ _ ⟨rfl,rfl⟩;refine ae.bind (xg a) ?_;rintro _ _ rfl;refine ae.bind (gT a.block) ?_;rintro sh _ rfl;cases sh with
  |none=>exact ae.stuck _
  |some x=>
   simp only;refine ae.aj (λ_=>ae.pure rfl) (λ_=>?_);split
   ·exact ae.pure rfl
   ·exact ae.stuck _
theorem N5 (a:Addr)(c b:Nat):ae P ρ (AA ρ) (partAt a c b) (partAt (ra ρ a) c b):=by
 unfold partAt;refine ae.bind (kF a) ?_;rintro x _ rfl;refine ae.bind (kF { block:=a.block,off:=a.off+c }) ?_;rintro y _ rfl;refine ae.pure ?_;simp only[AA,ra];split<;>rfl
theorem Cq (a:Addr)(f:Field):ae P ρ (AA ρ) (fieldPlace a f) (fieldPlace (ra ρ a) f):=by
 unfold fieldPlace;refine ae.bind (cC _) ?_;rintro n _ rfl;exact ae.aj (λ_=>N5 _ _ _) (λ_=>ae.pure (jQ _ _))
theorem K8 (t:Θ)(x:Δ)(f:Nat):ae P ρ (VV ρ) (Instr.fieldAt t x f) (Instr.fieldAt t (rv ρ x) f):=by
 unfold Instr.fieldAt;refine ae.bind (ax t) ?_;rintro d d' ⟨e,_⟩;subst e;cases d'<;>try exact ae.stuck _
 simp only;split
 ·refine ae.bind (kE x) ?_;rintro a _ rfl;refine ae.bind (Cq a _) ?_;rintro b _ rfl;exact ae.pure (by simp[VV,rv])
 ·exact ae.stuck _
theorem JF (v:Δ):ae P ρ Eq (Builtin.lenOf v) (Builtin.lenOf (rv ρ v)):=by
 cases v<;>simp only[rv,Builtin.lenOf]<;>first|exact ae.pure rfl|exact ae.stuck _
theorem mK (size n:Nat)(v:Δ):ae P ρ (λx y=>y=x.map (rv ρ)) (Λ size n v) (Λ size n (rv ρ v)):=by
 cases v with
 |slice a l c=>
  cases a with
  |none=>simp only[rv,Γ,Λ];exact ae.pure (by simp)
  |some a=>simp only[rv,Γ,Λ];exact od a _
 |string s=>
  simp only[rv,Λ];refine ae.pure ?_;rw[zcl]
  congr 1
  funext b;simp[rv]
 |_=>simp only[rv,Λ];exact ae.stuck _
theorem mL (a:Addr)(n:Nat):ae P ρ Eq (η a n) (η (ra ρ a) n):=by
 unfold η;refine ae.bind (gT a.block) ?_;rintro x _ rfl;cases x<;>exact ae.pure rfl
theorem nL (h:z.map (rv ρ)=z)(n:Nat):(θ z n).map (rv ρ)=θ z n:=oh h _ _
theorem Hb (hp:Plain P ρ)(size ma n:Nat)(a:Option Addr)(x:Δ):ae P ρ Eq (Builtin.mayShare size ma n a x) (Builtin.mayShare size ma n (a.map (ra ρ)) (rv ρ x)):=by
 have hi:∀u v:Nat,(ρ u==ρ v)=(u==v):=λu v=>by
  rw[zaZ];simp only[zaJ];exact⟨hp.inj _ _,λh=>by rw[h]⟩
 have h1:∀b:Addr,ae P ρ Eq (do pure ((←η b (ma*size))&&!(←frozen (b.add (ma/2*size))))) (do pure ((←η (ra ρ b) (ma*size))&&!(←frozen ((ra ρ b).add (ma/2*size))))):=λb=>by
  refine ae.bind (mL b _) ?_;rintro _ _ rfl;rw[jQ];refine ae.bind (l8 _) ?_;rintro _ _ rfl;exact ae.pure rfl
 have h2:ae P ρ Eq (match x with|.slice (some b) _ _=>do pure (!(←η b (n*size))||a.any (·.block==b.block))|_=>pure false) (match rv ρ x with|.slice (some b) _ _=>do pure (!(←η b (n*size))||(a.map (ra ρ)).any (·.block==b.block))|_=>pure false):=by
  cases x with
  |slice b l c=>
   cases b with
   |none=>simp only[rv,Γ];exact ae.pure rfl
   |some b=>
    simp only[rv,Γ];refine ae.bind (mL b _) ?_;rintro _ _ rfl;refine ae.pure ?_;cases a with
    |none=>rfl
    |some a=>simp[ra,hi]
  |_=>simp only[rv];exact ae.pure rfl
 unfold Builtin.mayShare;cases a with
 |none=>
  simp only[Γ]at h2 ⊢;refine ae.bind (R:=Eq) (ae.pure rfl) ?_;rintro b _ rfl;exact ae.aj (λ_=>ae.pure rfl) (λ_=>h2)
 |some a=>
  simp only[Γ]at h2 ⊢;refine ae.bind (mL a _) ?_;rintro b1 _ rfl;rw[jQ];refine ae.bind (l8 _) ?_;rintro b2 _ rfl;refine ae.bind (R:=Eq) (ae.pure rfl) ?_;rintro b _ rfl;exact ae.aj (λ_=>ae.pure rfl) (λ_=>h2)
theorem acG (a:Option Addr)(size ma Cr:Nat)(new:Array Δ)(k:Nat):ae P ρ (VV ρ)
 (match a with|some b=>(do storeCells (b.add (ma*size)) new.toList;pure (.slice a k Cr))|_=>pure (.slice a k Cr))
 (match a.map (ra ρ)with|some b=>(do storeCells (b.add (ma*size)) (new.map (rv ρ)).toList;pure (.slice (a.map (ra ρ)) k Cr))|_=>pure (.slice (a.map (ra ρ)) k Cr)):=by
 cases a with
 |none=>exact ae.pure (by simp[VV,rv])
 |some b=>
  simp only[Γ,jQ,zbl];refine ae.bind (km _ _ _) ?_;rintro _ _ rfl;exact ae.pure (by simp[VV,rv])
theorem N6 (hp:Plain P ρ)(ts:Array Θ)(ty:Θ)(args:Array Δ):ae P ρ (VV ρ) (Builtin.append_ ts ty args) (Builtin.append_ ts ty (args.map (rv ρ))):=by
 unfold Builtin.append_;simp only[zaz];rcases ts[0]? with _|t0<;>rcases args[0]? with _|s<;>rcases args[1]? with _|x<;>simp only[Γ]<;>try exact ae.stuck _
 refine ae.bind (ax t0) ?_;rintro d d' ⟨e,_⟩;subst e;cases d'<;>try exact ae.stuck _
 cases s<;>simp only[rv]<;>try exact ae.stuck _
 rename_i elem _ a ma Cr;have hA:∀(zeros:Bool) (size n:Nat),ae P ρ (λx y=>y=x.map (rv ρ)) (if(!zeros)=true then Λ size n x else if n*size=0 then pure #[]else do let z ←ι elem;pure (θ z.cells n)) (if(!zeros)=true then Λ size n (rv ρ x)else if n*size=0 then pure #[]else do let z ←ι elem;pure (θ z.cells n)):=λzeros size n=>by
  refine ae.aj (λ_=>mK _ _ _) (λ_=>ae.aj (λ_=>ae.pure (by simp)) (λ_=>?_));refine ae.bind (eJ hp elem) ?_;rintro v v' ⟨e,hv⟩;subst e;exact ae.pure (nL (by rw[←jF,hv]) n).symm
 have hO:∀size,ae P ρ (λx y=>y=x.map (rv ρ)) (Λ size ma (.slice a ma Cr)) (Λ size ma (.slice (a.map (ra ρ)) ma Cr)):=λsize=>by
  have:=mK (P:=P) (ρ:=ρ) size ma (.slice a ma Cr);simpa only[rv]using this
 refine ae.bind (cC _) ?_;rintro size _ rfl;have hM:=λn=>Hb (P:=P) (ρ:=ρ) hp size ma n a x;have eW:=λnew k=>acG (P:=P) (ρ:=ρ) a size ma Cr new k;have hF:∀(old new:Array Δ) (k q:Nat),ae P ρ (VV ρ)
  (do let z ←ι elem;let r ←newRow elem (old++new++θ z.cells (q-k));pure (.slice (some r) k q))
  (do let z ←ι elem;let r ←newRow elem (old.map (rv ρ)++new.map (rv ρ)++θ z.cells (q-k));pure (.slice (some r) k q)):=λold new k q=>by
  refine ae.bind (eJ hp elem) ?_;rintro v v' ⟨e,hv⟩;subst e;have:=rO (P:=P) (ρ:=ρ) elem (old++new++θ v'.cells (q-k));rw[Array.map_append,Array.map_append,nL (by rw[←jF,hv])]at this;refine ae.bind this ?_;rintro r _ rfl;exact ae.pure (by simp[VV,rv])
 have hPn:∀(zeros:Bool) (n:Nat),ae P ρ (λ(_:PUnit) (_:PUnit)=>False)
  (if zeros=true then runtimePanic (.error "growslice: len out of range")else do
    let b ←Builtin.mayShare size ma n a x
    if(!b)=true then do mark .noRoom;unsupported (.resourceLimit "append: a slice or a string whose bytes no memory bears")
    else unsupported (.resourceLimit "append: a slice or a string whose bytes no memory bears"))
  (if zeros=true then runtimePanic (.error "growslice: len out of range")else do
    let b ←Builtin.mayShare size ma n (a.map (ra ρ)) (rv ρ x)
    if(!b)=true then do mark .noRoom;unsupported (.resourceLimit "append: a slice or a string whose bytes no memory bears")
    else unsupported (.resourceLimit "append: a slice or a string whose bytes no memory bears")):=λzeros n=>by
  refine ae.aj (λ_=>aX _) (λ_=>?_);refine ae.bind (hM n) ?_;rintro b _ rfl;refine ae.aj (λ_=>?_) (λ_=>ae.unsupported _);exact ae.bind (Co _) (λ_ _ _=>ae.unsupported _)
 rcases ts[1]? with _|t1<;>simp only
 all_goals
  repeat' first
   |exact ae.stuck _
   |exact ae.unsupported _
   |exact aX _
   |exact jG (aX _)
   |exact eW _ _
   |exact hF _ _ _ _
   |exact jG (hPn _ _)
   |(refine ae.aj (λ_=>?_) (λ_=>?_))
   |(refine ae.bind (eQ _) ?_;rintro _ _ ⟨rfl,_⟩)
   |(refine ae.bind (ax _) ?_;rintro _ _ ⟨rfl,_⟩)
   |(refine ae.bind (R:=Eq) (ae.pure rfl) ?_;rintro _ _ rfl)
   |(refine ae.bind (iC _) ?_;rintro _ _ rfl)
   |(refine ae.bind (A1 _) ?_;rintro _ _ rfl)
   |(refine ae.bind (hO _) ?_;rintro _ _ rfl)
   |(refine ae.bind (hA _ _ _) ?_;rintro _ _ rfl)
   |(refine ae.bind (hM _) ?_;rintro _ _ rfl)
   |(refine ae.bind (Co _) ?_;rintro _ _ rfl)
   |(refine ae.bind (mI x) ?_;rintro _ _ rfl)
   |(refine ae.bind (JF x) ?_;rintro _ _ rfl)
theorem XS (ts:Array Θ)(ty:Θ)(args:Array Δ):ae P ρ (VV ρ) (Builtin.copy_ ts ty args) (Builtin.copy_ ts ty (args.map (rv ρ))):=by
 unfold Builtin.copy_;simp only[zaz];rcases ts[0]? with _|t0<;>rcases args[0]? with _|s<;>rcases args[1]? with _|x<;>simp only[Γ]<;>try exact ae.stuck _
 refine ae.bind (ax t0) ?_;rintro d d' ⟨e,_⟩;subst e;cases d'<;>try exact ae.stuck _
 cases s<;>simp only[rv]<;>try exact ae.stuck _
 refine ae.bind (JF x) ?_;rintro n _ rfl;refine ae.bind (cC _) ?_;rintro m _ rfl;refine ae.bind (mK _ _ x) ?_;rintro cs _ rfl;rename_i a l c;cases a with
 |none=>exact ae.pure (by simp[VV,rv,goInt])
 |some a=>
  simp only[Γ,zbl];refine ae.bind (km _ _ _) ?_;rintro _ _ rfl;exact ae.pure (by simp[VV,rv,goInt])
theorem aab (ts:Array Θ)(ty:Θ)(args:Array Δ):ae P ρ (VV ρ) (Builtin.len_ ts ty args) (Builtin.len_ ts ty (args.map (rv ρ))):=by
 unfold Builtin.len_;simp only[zaz];rcases ts[0]? with _|t0<;>rcases args[0]? with _|s<;>simp only[Γ]<;>try exact ae.stuck _
 refine ae.bind (ax t0) ?_;rintro d d' ⟨e,_⟩;subst e;cases d'<;>cases s<;>simp only[rv]<;>first
  |exact ae.stuck _
  |exact ae.pure (by simp[VV,rv,goInt])
  |(refine ae.bind (ax _) ?_;rintro d d' ⟨e,_⟩;subst e;cases d'<;>first|exact ae.stuck _|exact ae.pure (by simp[VV,rv,goInt]))
  |skip
 all_goals
  rename_i r;cases r with
  |none=>exact ae.pure (by simp[VV,rv,goInt])
  |some r=>
   simp only[Γ];refine ae.bind (l9 r) ?_;rintro o _ ⟨rfl,_⟩;cases o<;>simp only[ro]<;>first|exact ae.stuck _|exact ae.pure (by simp[VV,rv,goInt])
theorem xh (r:Nat):ae P ρ (λx y=>y=x.map (λz=>(ra ρ z.1,z.2))∧∀z,x=some z→GA P ρ z.1) (numberAt r) (numberAt (ρ r)):=by
 unfold numberAt;refine ae.bind (gT r) ?_;rintro sh _ rfl;refine ae.aj (λ_=>ae.pure ⟨rfl,λz h=>by cases h⟩) (λ_=>?_);refine ae.bind (l9 r) ?_;rintro o _ ⟨rfl,ho⟩;cases o<;>simp only[ro]<;>refine ae.pure ⟨rfl,λz h=>?_⟩<;>cases h;rcases ho with h|h
 ·exact .inl h
 ·simp only[ro,Obj.number.injEq]at h;exact .inr h.1
theorem eo (a:Addr)(ha:GA P ρ a):ae P ρ (λx y=>y=(ra ρ x.1,x.2)∧GA P ρ x.1) (behindNumber a) (behindNumber (ra ρ a)):=by
 unfold behindNumber;refine ae.bind (xh a.block) ?_;rintro x _ ⟨rfl,hx⟩;refine ae.pure ?_;cases x with
 |none=>exact⟨rfl,ha⟩
 |some z=>exact⟨rfl,hx z rfl⟩
theorem wB (t:Θ)(cs:Array Δ)(o:Nat)(h:Am P ρ∨cs.map (rv ρ)=cs):ae P ρ (λv v'=>v'=rv ρ v∧GV P ρ v) (part t cs o) (part t (cs.map (rv ρ)) o):=by
 unfold part;refine ae.bind (wA t) ?_;rintro b _ rfl;cases b
 ·simp only[zaz,zaU,if_false];cases hc:cs[o]? with
  |none=>exact ae.stuck _
  |some v=>
   refine ae.pure ⟨rfl,h.imp id λh=>?_⟩;have h1:(cs.map (rv ρ))[o]?=some v:=by rw[h];exact hc
   rw[zaz,hc]at h1;simpa using h1
 ·simp only[if_true];refine ae.bind (cC t) ?_;rintro n _ rfl;exact ae.pure ⟨by simp only[rv];rw[Array.map_extract],h.imp id λh=>by simp only[rv];rw[Array.map_extract,h]⟩
theorem xj (hp:Plain P ρ)(a b:Addr):(ra ρ a==ra ρ b)=(a==b):=by
 rw[zaZ];simp only[zaJ];refine⟨λh=>?_,λh=>by rw[h]⟩;obtain⟨a1,a2,a3⟩:=a;obtain⟨b1,b2,b3⟩:=b;simp only[ra,Addr.mk.injEq]at h;rw[hp.inj _ _ h.1,h.2.1,h.2.2]
theorem tM (hp:Plain P ρ)(u v:Nat):(ρ u==ρ v)=(u==v):=by
 rw[zaZ];simp only[zaJ];exact⟨hp.inj _ _,λh=>by rw[h]⟩
theorem uN (a:Addr):ae P ρ Eq (stringish a) (stringish (ra ρ a)):=by
 unfold stringish;refine ae.bind (l8 a) ?_;rintro b _ rfl;refine ae.aj (λ_=>ae.pure rfl) (λ_=>?_);refine ae.bind (gT a.block) ?_;rintro sh _ rfl;cases sh with
 |none=>exact ae.pure rfl
 |some x=>exact l8 { block:=a.block,off:=x.2 }
theorem A2 (x:Addr):ae P ρ Eq (do pure ((←shape x.block) matches some (_,0))) (do pure ((←shape (ra ρ x).block) matches some (_,0))):=by
 refine ae.bind (gT x.block) ?_;rintro sh _ rfl;exact ae.pure rfl
theorem Hc (a b:Addr):ae P ρ Eq (mayBeOne a b) (mayBeOne (ra ρ a) (ra ρ b)):=by
 unfold mayBeOne;dsimp only;refine ae.bind (uN a) ?_;rintro s1 _ rfl;refine ae.bind (uN b) ?_;rintro s2 _ rfl;refine ae.bind (A2 a) ?_;rintro s3 _ rfl;refine ae.bind (A2 b) ?_;rintro s4 _ rfl;exact ae.pure rfl
theorem xk (hp:Plain P ρ)(a b:Addr):ae P ρ Eq (sameAddr a b) (sameAddr (ra ρ a) (ra ρ b)):=by
 unfold sameAddr;rw[xj hp];have e:((ra ρ a).block==(ra ρ b).block)=(a.block==b.block):=tM hp _ _;rw[e];refine ae.aj (λ_=>ae.pure rfl) (λ_=>?_);refine ae.bind (l8 a) ?_;rintro f1 _ rfl;refine ae.bind (l8 b) ?_;rintro f2 _ rfl;refine ae.aj (λ_=>jG (ae.unsupported _)) (λ_=>?_);refine ae.bind (xg a) ?_;rintro _ _ rfl;refine ae.bind (xg b) ?_;rintro _ _ rfl;refine ae.bind (Hc a b) ?_;rintro m _ rfl;refine ae.aj (λ_=>?_) (λ_=>ae.pure rfl);refine ae.bind (iC _) ?_;rintro n _ rfl;exact ae.pure rfl
theorem Ao (hp:Plain P ρ)(a b:Option Addr):ae P ρ Eq (samePointer a b) (samePointer (a.map (ra ρ)) (b.map (ra ρ))):=by
 cases a<;>cases b<;>simp only[Γ,samePointer]<;>first|exact xk hp _ _|exact ae.pure rfl
theorem A3 (t:Θ):ae P ρ Eq (typeStr t) (typeStr t):=by
 unfold typeStr;refine ae.bind (eQ t) ?_;rintro i i' ⟨e,_⟩;subst e;exact ae.aj (λ_=>ae.unsupported _) (λ_=>ae.pure rfl)
theorem mM {γ:Type}{R:α→β→Prop}{f:γ→α→Sem (ForInStep α)}{f':γ→β→Sem (ForInStep β)}
 (hf:∀x a b,R a b→ae P ρ (λs t=>(∃a b,s=.yield a∧t=.yield b∧R a b)∨(∃a b,s=.done a∧t=.done b∧R a b)) (f x a) (f' x b)):∀(l:List γ) (a:α) (b:β),R a b→ae P ρ R (forIn l a f) (forIn l b f')
 |[],a,b,h=>by haveI:=lawful;simp only[List.forIn_nil];exact ae.pure h
 |x::r,a,b,h=>by
  haveI:=lawful
  simp only[List.forIn_cons];refine ae.bind (hf x a b h) ?_;rintro s t (⟨a',b',rfl,rfl,h'⟩|⟨a',b',rfl,rfl,h'⟩)
  ·exact mM hf r a' b' h'
  ·exact ae.pure h'
end
section
variable {P:Ω}{ρ:Rn}{α β Z7 Z8:Type}
theorem Cs (h:GV P ρ (.agg cs)):Am P ρ∨cs.map (rv ρ)=cs:=h.imp id λh=>by simpa[rv]using h
theorem Ea {t:Θ}(h:GV P ρ (.iface t v)):GV P ρ v:=h.imp id λh=>by simpa[rv]using h
theorem qV (h:GV P ρ (.pointer (some a))):GA P ρ a:=h.imp id λh=>by simpa[rv]using h
theorem JG (h:GA P ρ a):(ra ρ a).block <P.globals.size↔a.block<P.globals.size:=by
 rcases h with h|h
 ·exact h _
 ·rw[h]
theorem pz (hp:Plain P ρ):∀(n:Nat) (t:Θ) (x y:Δ),GV P ρ x→GV P ρ y→ae P ρ Eq (ϋ n t x y) (ϋ n t (rv ρ x) (rv ρ y))
 |0,t,x,y,_,_=>by unfold ϋ;exact ae.unsupported _
 |n+1,t,x,y,hx,hy=>by
  unfold ϋ;refine ae.bind (ax t) ?_;rintro d d' ⟨e,_⟩;subst e;cases d' with
  |bool=>
   cases x<;>simp only[rv]<;>try exact ae.stuck _
   cases y<;>simp only[rv]<;>first|exact ae.stuck _|exact ae.pure rfl
  |string=>
   cases x<;>simp only[rv]<;>try exact ae.stuck _
   cases y<;>simp only[rv]<;>first|exact ae.stuck _|exact ae.pure rfl
  |int k=>
   cases x with
   |pointer a=>
    cases y with
    |pointer b=>
     cases a<;>cases b<;>simp only[rv,Γ]<;>try exact ae.unsupported _
     rename_i a b;refine ae.bind (eo a (qV hx)) ?_;rintro a1 _ ⟨rfl,ga⟩;refine ae.bind (eo b (qV hy)) ?_;rintro b1 _ ⟨rfl,gb⟩;refine ae.bind cL ?_;rintro _ _ ⟨rfl,rfl⟩;have e1:((ra ρ a1.1).block==(ra ρ b1.1).block)=(a1.1.block==b1.1.block):=tM hp _ _;have e2:decide ((ra ρ a1.1).block <P.globals.size)=decide (a1.1.block<P.globals.size):=by
      rw[decide_eq_decide];exact JG ga
     simp only[e1,e2];refine ae.aj (λ_=>?_) (λ_=>?_)
     ·refine ae.bind (kF _) ?_;rintro q _ rfl;refine ae.bind (kF _) ?_;rintro q2 _ rfl;exact ae.pure rfl
     ·refine ae.bind (eQ _) ?_;rintro i i' ⟨e,_⟩;subst e;rw[xj hp];split
      ·exact ae.aj (λ_=>ae.pure rfl) (λ_=>ae.unsupported _)
      ·exact ae.unsupported _
    |int k' m=>
     cases a<;>simp only[rv,Γ]
     ·exact ae.unsupported _
     ·rcases m with z|z
      ·cases z<;>first|exact ae.pure rfl|exact ae.unsupported _
      ·exact ae.unsupported _
    |_=>cases a<;>simp only[rv,Γ]<;>exact ae.unsupported _
   |int k' m=>
    cases y with
    |pointer b=>
     cases b<;>simp only[rv,Γ]
     ·rcases m with z|z
      ·cases z<;>first|exact ae.pure rfl|exact ae.unsupported _
      ·exact ae.unsupported _
     ·rcases m with z|z
      ·cases z<;>first|exact ae.pure rfl|exact ae.unsupported _
      ·exact ae.unsupported _
    |int k2 m2=>simp only[rv];exact ae.aj (λ_=>ae.pure rfl) (λ_=>ae.stuck _)
    |_=>simp only[rv];exact ae.stuck _
   |_=>cases y<;>simp only[rv]<;>first|exact ae.stuck _|exact ae.unsupported _
  |float k=>
   cases x<;>simp only[rv]<;>try exact ae.stuck _
   cases y<;>simp only[rv]<;>first|exact ae.stuck _|exact ae.aj (λ_=>ae.pure rfl) (λ_=>ae.stuck _)
  |complex k=>
   cases x<;>simp only[rv]<;>try exact ae.stuck _
   cases y<;>simp only[rv]<;>first|exact ae.stuck _|exact ae.aj (λ_=>ae.pure rfl) (λ_=>ae.stuck _)
  |pointer e=>
   cases x with
   |pointer a=>
    cases y with
    |pointer b=>
     cases a<;>cases b<;>simp only[rv,Γ]<;>try exact ae.pure rfl
     refine ae.bind (cC _) ?_;rintro m _ rfl;refine ae.aj (λ_=>xk hp _ _) (λ_=>?_);rw[xj hp];refine ae.aj (λ_=>ae.pure rfl) (λ_=>?_);refine ae.bind (iC _) ?_;rintro q _ rfl;exact ae.pure rfl
    |_=>cases a<;>simp only[rv,Γ]<;>exact ae.stuck _
   |_=>cases y<;>simp only[rv]<;>exact ae.stuck _
  |unsafePointer=>
   cases x<;>simp only[rv]<;>try exact ae.stuck _
   cases y<;>simp only[rv]<;>first|exact ae.stuck _|exact Ao hp _ _
  |chan dr e=>
   cases x<;>simp only[rv]<;>try exact ae.stuck _
   cases y<;>simp only[rv]<;>try exact ae.stuck _
   rename_i a b;refine ae.pure ?_;cases a<;>cases b<;>simp[tM hp]
  |interface ms=>
   cases x<;>simp only[rv]<;>try exact ae.stuck _
   all_goals cases y<;>simp only[rv]<;>try first|exact ae.stuck _|exact ae.pure rfl
   refine ae.aj (λ_=>ae.pure rfl) (λ_=>?_);refine ae.bind (eQ _) ?_;rintro i i' ⟨e,_⟩;subst e;refine ae.aj (λ_=>?_) (λ_=>pz hp n _ _ _ (Ea hx) (Ea hy));refine ae.bind cL ?_;rintro _ _ ⟨rfl,rfl⟩;refine ae.bind cL ?_;rintro _ _ ⟨rfl,rfl⟩;refine ae.aj (λ_=>jG (ae.unsupported _)) (λ_=>?_);refine ae.bind (A3 _) ?_;rintro q _ rfl;exact aX _
  |struct fs=>
   cases x<;>simp only[rv]<;>try exact ae.stuck _
   cases y<;>simp only[rv]<;>try exact ae.stuck _
   have hl:∀(xs ys:Array Δ),(Am P ρ∨xs.map (rv ρ)=xs)→(Am P ρ∨ys.map (rv ρ)=ys)→ae P ρ Eq
    (forIn fs ((none,()):Option Bool×Unit) λf _=>if f.name≠ "_" then do
      let a ←part f.type xs f.offset;let b ←part f.type ys f.offset;let r ←ϋ n f.type a b
      if(!r)=true then pure (ForInStep.done (some false,()))else pure (ForInStep.yield (none,()))
      else pure (ForInStep.yield (none,())))
    (forIn fs ((none,()):Option Bool×Unit) λf _=>if f.name≠ "_" then do
      let a ←part f.type (xs.map (rv ρ)) f.offset;let b ←part f.type (ys.map (rv ρ)) f.offset;let r ←ϋ n f.type a b
      if(!r)=true then pure (ForInStep.done (some false,()))else pure (ForInStep.yield (none,()))
      else pure (ForInStep.yield (none,()))):=λxs ys gx gy=>by
    rw[←zbP,←zbP];refine mM (R:=Eq) (λf a b hab=>?_) fs.toList _ _ rfl;subst hab;refine ae.aj (λ_=>?_) (λ_=>ae.pure (Or.inl ⟨_,_,rfl,rfl,rfl⟩));refine ae.bind (wB _ _ _ gx) ?_;rintro v _ ⟨rfl,gv⟩;refine ae.bind (wB _ _ _ gy) ?_;rintro u _ ⟨rfl,gu⟩;refine ae.bind (pz hp n _ _ _ gv gu) ?_;rintro r _ rfl;exact ae.aj (λ_=>ae.pure (Or.inr ⟨_,_,rfl,rfl,rfl⟩)) (λ_=>ae.pure (Or.inl ⟨_,_,rfl,rfl,rfl⟩))
   refine ae.bind cL ?_;rintro _ _ ⟨rfl,rfl⟩;refine ae.aj (λ_=>jG (ae.unsupported _)) (λ_=>?_);refine ae.bind (hl _ _ (Cs hx) (Cs hy)) ?_;rintro r _ rfl;split<;>exact ae.pure rfl
  |array m e=>
   cases x<;>simp only[rv]<;>try exact ae.stuck _
   cases y<;>simp only[rv]<;>try exact ae.stuck _
   refine ae.bind (cC _) ?_;rintro sz _ rfl;refine ae.bind (R:=Eq) ?_ ?_
   ·haveI:=lawful
    rw[Std.Legacy.Range.forIn_eq_forIn_range',Std.Legacy.Range.forIn_eq_forIn_range'];refine mM (R:=Eq) (λf a b hab=>?_) _ _ _ rfl;subst hab;refine ae.bind (wB _ _ _ (Cs hx)) ?_;rintro v _ ⟨rfl,gv⟩;refine ae.bind (wB _ _ _ (Cs hy)) ?_;rintro u _ ⟨rfl,gu⟩;refine ae.bind (pz hp n _ _ _ gv gu) ?_;rintro r _ rfl;exact ae.aj (λ_=>ae.pure (Or.inr ⟨_,_,rfl,rfl,rfl⟩)) (λ_=>ae.pure (Or.inl ⟨_,_,rfl,rfl,rfl⟩))
   ·rintro r _ rfl;split<;>exact ae.pure rfl
  |slice e=>
   cases x with
   |slice a l c=>
    cases y with
    |slice b l2 c2=>cases a<;>cases b<;>simp only[rv,Γ]<;>first|exact ae.pure rfl|exact ae.stuck _
    |_=>cases a<;>simp only[rv,Γ]<;>exact ae.stuck _
   |_=>cases y<;>simp only[rv]<;>exact ae.stuck _
  |map k e=>
   cases x with
   |map a=>
    cases y with
    |map b=>cases a<;>cases b<;>simp only[rv,Γ]<;>first|exact ae.pure rfl|exact ae.stuck _
    |_=>cases a<;>simp only[rv,Γ]<;>exact ae.stuck _
   |_=>cases y<;>simp only[rv]<;>exact ae.stuck _
  |func ps rs v=>
   cases x<;>simp only[rv]<;>try exact ae.stuck _
   all_goals cases y<;>simp only[rv]<;>first|exact ae.stuck _|exact ae.pure rfl
  |_=>cases x<;>simp only<;>try exact ae.stuck _
end
section
variable {P:Ω}{ρ:Rn}{α β Z7 Z8:Type}
theorem JH (hp:Plain P ρ)(t:Θ)(x y:Δ)(hx:GV P ρ x)(hy:GV P ρ y):ae P ρ Eq (Op.equal t x y) (Op.equal t (rv ρ x) (rv ρ y)):=pz hp _ t x y hx hy
theorem oo:∀(n:Nat) (t:Θ) (x y:Δ),ae P ρ Eq (Op.eqGuardIn n t x y) (Op.eqGuardIn n t (rv ρ x) (rv ρ y))
 |0,t,x,y=>by unfold Op.eqGuardIn;exact ae.unsupported _
 |n+1,t,x,y=>by
  unfold Op.eqGuardIn;refine ae.bind (ax t) ?_;rintro d d' ⟨e,_⟩;subst e;cases d' with
  |interface ms=>cases x<;>cases y<;>simp only[rv]<;>exact ae.pure rfl
  |struct fs=>
   cases x<;>simp only[rv]<;>try exact ae.pure rfl
   cases y<;>simp only[rv]<;>try exact ae.pure rfl
   refine ae.bind (R:=Eq) ?_ ?_
   ·rw[←zbP,←zbP];refine mM (R:=Eq) (λf a b hab=>?_) fs.toList _ _ rfl;subst hab;refine ae.aj (λ_=>?_) (λ_=>ae.pure (Or.inl ⟨_,_,rfl,rfl,rfl⟩));refine ae.bind (og _ _ _) ?_;rintro v _ rfl;refine ae.bind (og _ _ _) ?_;rintro u _ rfl;refine ae.bind (oo n _ _ _) ?_;rintro r _ rfl;exact ae.aj (λ_=>ae.pure (Or.inr ⟨_,_,rfl,rfl,rfl⟩)) (λ_=>ae.pure (Or.inl ⟨_,_,rfl,rfl,rfl⟩))
   ·rintro r _ rfl;split<;>exact ae.pure rfl
  |array m e=>
   cases x<;>simp only[rv]<;>try exact ae.pure rfl
   cases y<;>simp only[rv]<;>try exact ae.pure rfl
   refine ae.bind (cC _) ?_;rintro sz _ rfl;refine ae.bind (R:=Eq) ?_ ?_
   ·haveI:=lawful
    rw[Std.Legacy.Range.forIn_eq_forIn_range',Std.Legacy.Range.forIn_eq_forIn_range'];refine mM (R:=Eq) (λf a b hab=>?_) _ _ _ rfl;subst hab;refine ae.bind (og _ _ _) ?_;rintro v _ rfl;refine ae.bind (og _ _ _) ?_;rintro u _ rfl;refine ae.bind (oo n _ _ _) ?_;rintro r _ rfl;exact ae.aj (λ_=>ae.pure (Or.inr ⟨_,_,rfl,rfl,rfl⟩)) (λ_=>ae.pure (Or.inl ⟨_,_,rfl,rfl,rfl⟩))
   ·rintro r _ rfl;split<;>exact ae.pure rfl
  |_=>cases x<;>simp only<;>exact ae.pure rfl
theorem K9 (op:BinOp)(t:Θ)(x y:υ)(a b:Δ):ae P ρ Eq (eqGuard op t x y a b) (eqGuard op t x y (rv ρ a) (rv ρ b)):=by
 have hg:=oo (P:=P) (ρ:=ρ) Op.maxDepth t a b;unfold eqGuard;refine ae.aj (λ_=>ae.pure rfl) (λ_=>?_);cases a<;>cases b<;>simp only[rv]at hg ⊢<;>try exact ae.pure rfl
 ·refine ae.aj (λ_=>ae.pure rfl) (λ_=>?_);refine ae.bind hg ?_;rintro r _ rfl;exact ae.aj (λ_=>ae.unsupported _) (λ_=>ae.pure rfl)
 ·refine ae.bind cL ?_;rintro _ _ ⟨rfl,rfl⟩;refine ae.bind cL ?_;rintro _ _ ⟨rfl,rfl⟩;refine ae.aj (λ_=>ae.pure rfl) (λ_=>?_);refine ae.bind hg ?_;rintro r _ rfl;exact ae.aj (λ_=>ae.unsupported _) (λ_=>ae.pure rfl)
theorem xl (op:BinOp)(k:IntKind)(a b:Int):ae P ρ (VV ρ) (Op.intArith op k a b) (Op.intArith op k a b):=by
 cases op<;>simp only[Op.intArith]<;>first|exact ae.stuck _|exact ae.pure (by simp[VV,rv])
theorem N8 (_hp:Plain P ρ)(op:BinOp)(k:IntKind)(a b:Int):ae P ρ (VV ρ) (Op.intDiv op k a b) (Op.intDiv op k a b):=by
 unfold Op.intDiv;refine ae.aj (λ_=>aX _) (λ_=>?_);cases op<;>first|exact ae.stuck _|exact ae.pure (by simp[VV,rv])
theorem A4 (op:BinOp)(k:IntKind)(a b:Int):ae P ρ (VV ρ) (Op.intBits op k a b) (Op.intBits op k a b):=by
 cases op<;>simp only[Op.intBits]<;>first|exact ae.stuck _|exact ae.pure (by simp[VV,rv])
theorem xm (op:BinOp)(a b:Int):ae P ρ (VV ρ) (Op.intCmp op a b) (Op.intCmp op a b):=by
 cases op<;>simp only[Op.intCmp]<;>first|exact ae.stuck _|exact ae.pure (by simp[VV,rv])
theorem Ti (_hp:Plain P ρ)(op:BinOp)(k:IntKind)(a:Int)(k2:IntKind)(b:Int):ae P ρ (VV ρ) (Op.shift op k a k2 b) (Op.shift op k a k2 b):=by
 unfold Op.shift;refine ae.aj (λ_=>aX _) (λ_=>?_);cases op<;>first|exact ae.stuck _|exact ae.pure (by simp[VV,rv])
theorem kH (op:BinOp)(a b:ByteArray):ae P ρ (VV ρ) (Op.stringOp op a b) (Op.stringOp op a b):=by
 cases op<;>simp only[Op.stringOp]<;>first|exact ae.stuck _|exact ae.pure (by simp[VV,rv])|exact ae.aj (λ_=>ae.unsupported _) (λ_=>ae.pure (by simp[VV,rv]))
theorem Tj (op:UnOp)(x:Δ):ae P ρ (VV ρ) (Op.unary op x) (Op.unary op (rv ρ x)):=by
 cases x with
 |pointer a=>cases op<;>cases a<;>simp only[rv,Γ,Op.unary]<;>first|exact ae.stuck _|exact ae.unsupported _
 |int k n=>cases op<;>simp only[rv,Op.unary]<;>first|exact ae.stuck _|exact xl _ _ _ _|exact A4 _ _ _ _
 |_=>cases op<;>simp only[rv,Op.unary]<;>first|exact ae.stuck _|exact ae.pure (by simp[VV,rv])
def eX (P:Ω){α:Type}(A:α→Prop):Sem α→Prop
 |.pure a=>A a
 |.choose _ k=>∀n,eX P A (k n)
 |.program k=>eX P A (k P)
 |.halt h=>DW h
 |_=>False
theorem eX.bind {A:α→Prop}{B:β→Prop}:∀{s:Sem α} {f:α→Sem β},eX P A s→(∀a,A a→eX P B (f a))→eX P B (s>>=f)
 |.pure a,_f,h,hf=>hf a h
 |.choose _ _k,_f,h,hf=>λn=>eX.bind (h n) hf
 |.program k,_f,h,hf=>eX.bind (s:=k P) h hf
 |.halt _,_f,h,_hf=>h
 |.load ..,_f,h,_hf=>h.elim
 |.store ..,_f,h,_hf=>h.elim
 |.new ..,_f,h,_hf=>h.elim
 |.shape ..,_f,h,_hf=>h.elim
 |.freeze ..,_f,h,_hf=>h.elim
 |.frozen ..,_f,h,_hf=>h.elim
 |.getObj ..,_f,h,_hf=>h.elim
 |.setObj ..,_f,h,_hf=>h.elim
 |.sys ..,_f,h,_hf=>h.elim
 |.mark ..,_f,h,_hf=>h.elim
theorem eX.mono {A B:α→Prop}(hAB:∀a,A a→B a):∀{s:Sem α},eX P A s→eX P B s
 |.pure a,h=>hAB a h
 |.choose _ _k,h=>λn=>eX.mono hAB (h n)
 |.program k,h=>eX.mono (s:=k P) hAB h
 |.halt _,h=>h
 |.load ..,h=>h.elim
 |.store ..,h=>h.elim
 |.new ..,h=>h.elim
 |.shape ..,h=>h.elim
 |.freeze ..,h=>h.elim
 |.frozen ..,h=>h.elim
 |.getObj ..,h=>h.elim
 |.setObj ..,h=>h.elim
 |.sys ..,h=>h.elim
 |.mark ..,h=>h.elim
theorem N9 {A:α→Prop}{R:α→α→Prop}(hA:∀a,A a→R a a):∀{s:Sem α},eX P A s→ae P ρ R s s
 |.pure a,h=>⟨a,rfl,hA a h⟩
 |.choose _ k,h=>⟨k,rfl,λn=>N9 hA (h n)⟩
 |.program k,h=>⟨k,rfl,N9 (s:=k P) hA h⟩
 |.halt _,h=>h
 |.load ..,h=>h.elim
 |.store ..,h=>h.elim
 |.new ..,h=>h.elim
 |.shape ..,h=>h.elim
 |.freeze ..,h=>h.elim
 |.frozen ..,h=>h.elim
 |.getObj ..,h=>h.elim
 |.setObj ..,h=>h.elim
 |.sys ..,h=>h.elim
 |.mark ..,h=>h.elim
def gq (v:Δ):Prop:=∀ρ:Rn,rv ρ v=v
theorem oq {s:Sem Δ}(h:eX P gq s):ae P ρ (VV ρ) s s:=N9 (λ_a h=>(h ρ).symm) h
theorem XT (k:FloatKind)(q:Question)(r:Option Nat):eX P (λv=>∃r,v=.float k r) (match r with|some r=>pure (Δ.float k r)|none=>do let x ←choose q;pure (Δ.float k x):Sem Δ):=by
 cases r with
 |none=>exact λn=>⟨_,rfl⟩
 |some r=>exact⟨r,rfl⟩
theorem ot (op:BinOp)(k:FloatKind)(x y:Nat):eX P (λv=>∃r,v=.float k r) (Op.floatArith op k x y):=by
 unfold Op.floatArith;cases op<;>first|exact XT k _ _|trivial
theorem Hd (k:FloatKind)(r:Nat):gq (.float k r):=λρ=>by simp[rv]
theorem pA (b:Bool):gq (.bool b):=λρ=>by simp[rv]
theorem kn (op:BinOp)(k:FloatKind)(x y:Nat):eX P (λv=>∃r,v=.bool r) (Op.floatCmp op k x y):=by
 unfold Op.floatCmp;cases op<;>first|exact⟨_,rfl⟩|trivial
open Op.Complex in
theorem aZ (op:BinOp)(k:FloatKind)(x y:Nat):eX P (λ_=>True) (arith op k x y):=by
 unfold arith;refine eX.bind (ot op k x y) ?_;rintro _ ⟨r,rfl⟩;trivial
open Op.Complex in
theorem rQ (op:BinOp)(k:FloatKind)(x y:Nat):eX P (λ_=>True) (cmp op k x y):=by
 unfold cmp;refine eX.bind (kn op k x y) ?_;rintro _ ⟨r,rfl⟩;trivial
open Op.Complex in
theorem jH (k:FloatKind)(x:Nat)(d:FloatKind):eX P (λ_=>True) (conv k x d):=by
 unfold conv
 split
 ·trivial
 ·refine eX.bind (A:=λv=>∃k r,v=.float k r) ?_ ?_
  ·unfold Conv.floatToFloat
   split
   ·exact⟨_,_,rfl⟩
   ·split
    ·exact λn=>⟨_,_,rfl⟩
    ·exact⟨_,_,rfl⟩
    ·dsimp only;split
     ·exact λn=>⟨_,_,rfl⟩
     ·exact⟨_,_,rfl⟩
  ·rintro _ ⟨_,r,rfl⟩;trivial
open Op.Complex in
theorem Eb (a b c d:Nat):eX P (λ_=>True) (product a b c d):=by
 unfold product;refine eX.bind (aZ _ _ _ _) λ_ _=>eX.bind (aZ _ _ _ _) λ_ _=>eX.bind (aZ _ _ _ _) λ_ _=>eX.bind (aZ _ _ _ _) λ_ _=>eX.bind (aZ _ _ _ _) λ_ _=>eX.bind (aZ _ _ _ _) λ_ _=>trivial
open Op.Complex in
theorem qp (s a b c d:Nat):eX P (λ_=>True) (corrected s a b c d):=by
 unfold corrected;refine eX.bind (aZ _ _ _ _) λ_ _=>eX.bind (aZ _ _ _ _) λ_ _=>eX.bind (aZ _ _ _ _) λ_ _=>eX.bind (aZ _ _ _ _) λ_ _=>eX.bind (aZ _ _ _ _) λ_ _=>eX.bind (aZ _ _ _ _) λ_ _=>eX.bind (aZ _ _ _ _) λ_ _=>eX.bind (aZ _ _ _ _) λ_ _=>trivial
open Op.Complex in
theorem Ct (a b c d:Nat):eX P (λ_=>True) (quotient a b c d):=by
 unfold quotient;have tail:∀x:Nat×Nat,eX P (λ_=>True) (do
  let zero:=(←cmp .eql .f64 c 0)&&(←cmp .eql .f64 d 0)
  if !(isNaN x.1&&isNaN x.2)then pure x
  else if zero&&(!isNaN a||!isNaN b)then
   pure (←mul (copysign inf c) a,←mul (copysign inf c) b)
  else if(isInf a||isInf b)&&isFinite c&&isFinite d then corrected inf (inf2one a) (inf2one b) c d
  else if(isInf c||isInf d)&&isFinite a&&isFinite b then corrected 0 a b (inf2one c) (inf2one d)
  else pure x:Sem (Nat×Nat)):=λx=>by
  refine eX.bind (rQ _ _ _ _) λ_ _=>eX.bind (rQ _ _ _ _) λ_ _=>?_;dsimp only;split
  ·trivial
  ·split
   ·exact eX.bind (aZ _ _ _ _) λ_ _=>eX.bind (aZ _ _ _ _) λ_ _=>trivial
   ·split
    ·exact qp _ _ _ _ _
    ·split
     ·exact qp _ _ _ _ _
     ·trivial
 refine eX.bind (rQ _ _ _ _) λq _=>?_;cases q
 ·refine eX.bind (aZ _ _ _ _) λ_ _=>eX.bind (aZ _ _ _ _) λ_ _=>eX.bind (aZ _ _ _ _) λ_ _=>eX.bind (aZ _ _ _ _) λ_ _=>eX.bind (aZ _ _ _ _) λ_ _=>eX.bind (aZ _ _ _ _) λ_ _=>eX.bind (aZ _ _ _ _) λ_ _=>eX.bind (aZ _ _ _ _) λ_ _=>eX.bind (aZ _ _ _ _) λ_ _=>?_;exact tail (_,_)
 ·refine eX.bind (aZ _ _ _ _) λ_ _=>eX.bind (aZ _ _ _ _) λ_ _=>eX.bind (aZ _ _ _ _) λ_ _=>eX.bind (aZ _ _ _ _) λ_ _=>eX.bind (aZ _ _ _ _) λ_ _=>eX.bind (aZ _ _ _ _) λ_ _=>eX.bind (aZ _ _ _ _) λ_ _=>eX.bind (aZ _ _ _ _) λ_ _=>eX.bind (aZ _ _ _ _) λ_ _=>?_;exact tail (_,_)
open Op.Complex in
theorem lQ (op:BinOp)(k:FloatKind)(a b c d:Nat):eX P gq (Op.complexOp op k a b c d):=by
 have bc:∀a b,gq (.complex k a b):=λa b ρ=>by simp[rv]
 unfold Op.complexOp;cases op<;>first
  |exact eX.bind (aZ _ _ _ _) λ_ _=>eX.bind (aZ _ _ _ _) λ_ _=>bc _ _
  |exact eX.bind (rQ _ _ _ _) λ_ _=>eX.bind (rQ _ _ _ _) λ_ _=>pA _
  |(refine eX.bind (jH _ _ _) λ_ _=>eX.bind (jH _ _ _) λ_ _=>eX.bind (jH _ _ _) λ_ _=>eX.bind (jH _ _ _) λ_ _=>?_
    first
    |exact eX.bind (Eb _ _ _ _) λ_ _=>eX.bind (jH _ _ _) λ_ _=>eX.bind (jH _ _ _) λ_ _=>bc _ _
    |exact eX.bind (Ct _ _ _ _) λ_ _=>eX.bind (jH _ _ _) λ_ _=>eX.bind (jH _ _ _) λ_ _=>bc _ _)
  |trivial
end
open Go
section
variable {P:Ω}{ρ:Rn}{α β Z7 Z8:Type}
theorem uO (hp:Plain P ρ)(a b:Addr)(ha:GA P ρ a):ae P ρ Eq (Op.twoPlaces a b) (Op.twoPlaces (ra ρ a) (ra ρ b)):=by
 unfold Op.twoPlaces;refine ae.bind cL ?_;rintro _ _ ⟨rfl,rfl⟩;have e1:((ra ρ a).block != (ra ρ b).block)=(a.block != b.block):=by
  show(!((ra ρ a).block==(ra ρ b).block))=_;rw[show((ra ρ a).block==(ra ρ b).block)=(a.block==b.block) from tM hp _ _];rfl
 have e2:decide ((ra ρ a).block≥P.globals.size)=decide (a.block≥P.globals.size):=by
  rw[decide_eq_decide];have:=JG ha;omega
 simp only[e1,e2];refine ae.aj (λ_=>jG (ae.unsupported _)) (λ_=>?_);refine ae.bind (kF _) ?_;rintro x _ rfl;refine ae.bind (kF _) ?_;rintro y _ rfl;exact ae.pure rfl
theorem Lb (hp:Plain P ρ)(k:IntKind)(a b:Addr)(ha:GA P ρ a):ae P ρ (VV ρ) (Op.addrSub k a b) (Op.addrSub k (ra ρ a) (ra ρ b)):=by
 unfold Op.addrSub;refine ae.bind (uO hp a b ha) ?_;rintro x _ rfl;exact ae.pure (by simp[VV,rv])
theorem Ld (hp:Plain P ρ)(op:BinOp)(a b:Addr)(ha:GA P ρ a):ae P ρ (VV ρ) (Op.addrCmp op a b) (Op.addrCmp op (ra ρ a) (ra ρ b)):=by
 unfold Op.addrCmp;refine ae.bind (uO hp a b ha) ?_;rintro x _ rfl;cases op<;>first|exact ae.unsupported _|exact ae.pure (by simp[VV,rv])
theorem A5 (k:IntKind)(a:Addr)(n:Int):ae P ρ (VV ρ) (Op.addrMod k a n) (Op.addrMod k (ra ρ a) n):=by
 unfold Op.addrMod;refine ae.bind (gT a.block) ?_;rintro sh _ rfl;cases sh with
 |none=>exact ae.unsupported _
 |some x=>
  obtain⟨e,m⟩:=x;dsimp only;refine ae.bind (eQ _) ?_;rintro i i' ⟨e,_⟩;subst e;refine ae.aj (λ_=>jG (ae.unsupported _)) (λ_=>?_);refine ae.bind (kF _) ?_;rintro q _ rfl;exact ae.pure (by simp[VV,rv])
theorem lz (ts:Array Θ)(t:Θ)(a:Option Addr)(y:Δ):ae P ρ (VV ρ) (Builtin.unsafeAdd_ ts t #[.pointer a,y]) (Builtin.unsafeAdd_ ts t #[.pointer (a.map (ra ρ)),rv ρ y]):=by
 unfold Builtin.unsafeAdd_;dsimp only;refine ae.bind (mI y) ?_;rintro n _ rfl;refine ae.aj (λ_=>?_) (λ_=>?_)
 ·cases a with
  |none=>exact ae.unsupported _
  |some a=>
   simp only[Γ];refine ae.bind (rP a.block) ?_;rintro x _ rfl;simp only[Option.isSome_map];exact ae.aj (λ_=>jG (ae.unsupported _)) (λ_=>ae.pure (by simp[VV,rv]))
 ·refine ae.aj (λ_=>jG (ae.unsupported _)) (λ_=>?_);cases a with
  |none=>exact ae.unsupported _
  |some a=>
   simp only[Γ];refine ae.bind (gT a.block) ?_;rintro sh _ rfl;cases sh with
   |none=>exact ae.unsupported _
   |some x=>
    obtain⟨e,m⟩:=x;dsimp only;refine ae.bind cL ?_;rintro _ _ ⟨rfl,rfl⟩;have:(ra ρ a).off=a.off:=rfl;rw[this];split
    ·exact ae.pure (by simp[VV,rv,ra])
    ·exact ae.unsupported _
theorem He (a:Addr)(l:Bool):ae P ρ (VV ρ) (asNumber a l) (asNumber (ra ρ a) l):=by
 unfold asNumber;refine ae.bind (l7 (.number a l)) ?_;rintro r _ rfl;exact ae.pure (by simp[VV,rv,ra])
theorem Ap (t:Θ)(a:Option Addr)(y:Δ)(ha:GV P ρ (.pointer a)):ae P ρ (VV ρ) (movedNumber t (.pointer a) y) (movedNumber t (.pointer (a.map (ra ρ))) (rv ρ y)):=by
 unfold movedNumber;refine ae.bind (ax t) ?_;rintro d d' ⟨e,_⟩;subst e;refine ae.aj (λ_=>jG (ae.unsupported _)) (λ_=>?_);cases a with
 |none=>exact lz _ _ none y
 |some n=>
  simp only[Γ];refine ae.bind (eo n (qV ha)) ?_;rintro x _ ⟨rfl,_⟩;refine ae.bind (lz _ _ (some x.1) y) ?_;rintro v _ rfl;cases v with
  |pointer b=>
   cases b with
   |none=>simp only[rv,Γ];exact ae.pure (by simp[VV,rv])
   |some b=>simp only[rv,Γ];exact He b x.2
  |_=>simp only[rv];exact ae.pure (by simp[VV,rv])
theorem xn (t:Θ)(a:Option Addr)(y:Δ):ae P ρ (VV ρ) (movedPointer t (.pointer a) y) (movedPointer t (.pointer (a.map (ra ρ))) (rv ρ y)):=by
 unfold movedPointer;cases a with
 |none=>exact lz _ _ none y
 |some n=>
  simp only[Γ];refine ae.bind (xh n.block) ?_;rintro x _ ⟨rfl,_⟩;simp only[Option.isSome_map];exact ae.aj (λ_=>jG (ae.unsupported _)) (λ_=>lz _ _ (some n) y)
theorem kI (t:Θ)(a:Option Addr)(k:IntKind)(n:Int)(ha:GV P ρ (.pointer a)):ae P ρ (VV ρ) (movedNumber t (.pointer a) (.int k n)) (movedNumber t (.pointer (a.map (ra ρ))) (.int k n)):=by
 have h:=Ap t a (.int k n) ha;simpa only[rv]using h
theorem vD (t:Θ)(a:Option Addr)(k:IntKind)(n:Int):ae P ρ (VV ρ) (movedPointer t (.pointer a) (.int k n)) (movedPointer t (.pointer (a.map (ra ρ))) (.int k n)):=by
 have h:=xn (P:=P) (ρ:=ρ) t a (.int k n);simpa only[rv]using h
theorem Tl (hp:Plain P ρ)(op:BinOp)(t:Θ)(a b:Option Addr)(hx:GV P ρ (.pointer a))(hy:GV P ρ (.pointer b))(h1:op≠.eql)(h2:op≠.neq):ae P ρ (VV ρ) (binOp op t (.pointer a) (.pointer b)) (binOp op t (.pointer (a.map (ra ρ))) (.pointer (b.map (ra ρ)))):=by
 cases a<;>cases b<;>cases op<;>simp only[binOp,Γ]<;>first
  |exact absurd rfl h1|exact absurd rfl h2
  |exact ae.unsupported _|exact ae.stuck _
  |(refine ae.bind (eo _ (qV hx)) ?_;rintro x1 _ ⟨rfl,gx⟩;refine ae.bind (eo _ (qV hy)) ?_;rintro y1 _ ⟨rfl,gy⟩;first|exact Lb hp _ _ _ gx|exact Ld hp _ _ _ gx)
theorem Tn (_hp:Plain P ρ)(op:BinOp)(t:Θ)(a:Option Addr)(k:IntKind)(b:Int)(hx:GV P ρ (.pointer a))(h1:op≠.eql)(h2:op≠.neq):ae P ρ (VV ρ) (binOp op t (.pointer a) (.int k b)) (binOp op t (.pointer (a.map (ra ρ))) (.int k b)):=by
 cases op<;>simp only[binOp]<;>first
  |exact absurd rfl h1|exact absurd rfl h2
  |exact kI t _ k _ hx
  |(refine ae.bind (ax t) ?_;rintro d d' ⟨e,_⟩;subst e;exact ae.aj (λ_=>vD t _ k b) (λ_=>kI t _ k b hx))
  |exact ae.unsupported _
  |(cases a<;>simp only[Γ]<;>first|exact ae.unsupported _|(refine ae.bind (eo _ (qV hx)) ?_;rintro x1 _ ⟨rfl,gx⟩;exact A5 _ _ _))
theorem Tq (_hp:Plain P ρ)(op:BinOp)(t:Θ)(a:Option Addr)(k:IntKind)(b:Int)(hx:GV P ρ (.pointer a))(h1:op≠.eql)(h2:op≠.neq):ae P ρ (VV ρ) (binOp op t (.int k b) (.pointer a)) (binOp op t (.int k b) (.pointer (a.map (ra ρ)))):=by
 cases op<;>simp only[binOp]<;>first
  |exact absurd rfl h1|exact absurd rfl h2
  |exact kI t _ k _ hx
  |exact ae.unsupported _
  |(cases a<;>simp only[Γ]<;>first|exact ae.unsupported _|(refine ae.bind (eo _ (qV hx)) ?_;rintro x1 _ ⟨rfl,gx⟩;exact A5 _ _ _))
theorem Tr (hp:Plain P ρ)(op:BinOp)(t:Θ)(x y:Δ)(hx:GV P ρ x)(hy:GV P ρ y):ae P ρ (VV ρ) (binOp op t x y) (binOp op t (rv ρ x) (rv ρ y)):=by
 have he:=JH (P:=P) (ρ:=ρ) hp t x y hx hy;have hE:ae P ρ (VV ρ) (do pure (.bool (←Op.equal t x y))) (do pure (.bool (←Op.equal t (rv ρ x) (rv ρ y)))):=by
  refine ae.bind he ?_;rintro b _ rfl;exact ae.pure (by simp[VV,rv])
 have hN:ae P ρ (VV ρ) (do pure (.bool (!(←Op.equal t x y)))) (do pure (.bool (!(←Op.equal t (rv ρ x) (rv ρ y))))):=by
  refine ae.bind he ?_;rintro b _ rfl;exact ae.pure (by simp[VV,rv])
 clear he;by_cases h1:op=.eql
 ·subst h1;cases x<;>first
   |(cases y<;>simp only[rv,binOp]at hE ⊢<;>first
      |exact hE
      |(refine ae.aj (λ_=>ae.stuck _) (λ_=>?_);first
         |exact xm _ _ _
         |exact oq (eX.mono (by rintro _ ⟨r,rfl⟩;exact pA _) (kn _ _ _ _))
         |exact oq (lQ _ _ _ _ _ _))
      |exact kH _ _ _)
 by_cases h2:op=.neq
 ·subst h2;cases x<;>first
   |(cases y<;>simp only[rv,binOp]at hN ⊢<;>first
      |exact hN
      |(refine ae.aj (λ_=>ae.stuck _) (λ_=>?_);first
         |exact xm _ _ _
         |exact oq (eX.mono (by rintro _ ⟨r,rfl⟩;exact pA _) (kn _ _ _ _))
         |exact oq (lQ _ _ _ _ _ _))
      |exact kH _ _ _)
 clear hE hN;cases x with
 |int k a=>
  cases y with
  |int k2 b=>
   simp only[rv];cases op<;>simp only[binOp]<;>first
    |exact Ti hp _ _ _ _ _
    |exact absurd rfl h1|exact absurd rfl h2
    |(refine ae.aj (λ_=>ae.stuck _) (λ_=>?_);first|exact xl _ _ _ _|exact N8 hp _ _ _ _|exact A4 _ _ _ _|exact xm _ _ _)
  |pointer b=>simp only[rv];exact Tq hp op t b k a hy h1 h2
  |_=>simp only[rv];cases op<;>simp only[binOp]<;>first|exact ae.stuck _|exact absurd rfl h1|exact absurd rfl h2
 |float k a=>
  cases y with
  |float k2 b=>
   simp only[rv];cases op<;>simp only[binOp]<;>first
    |exact absurd rfl h1|exact absurd rfl h2
    |(refine ae.aj (λ_=>ae.stuck _) (λ_=>?_);first
       |exact oq (eX.mono (by rintro _ ⟨r,rfl⟩;exact Hd _ _) (ot _ _ _ _))
       |exact oq (eX.mono (by rintro _ ⟨r,rfl⟩;exact pA _) (kn _ _ _ _)))
    |exact ae.stuck _
  |pointer b=>simp only[rv];cases op<;>simp only[binOp]<;>first|exact ae.unsupported _|exact absurd rfl h1|exact absurd rfl h2
  |_=>simp only[rv];cases op<;>simp only[binOp]<;>first|exact ae.stuck _|exact absurd rfl h1|exact absurd rfl h2
 |complex k a a2=>
  cases y with
  |complex k2 b b2=>
   simp only[rv];cases op<;>simp only[binOp]<;>first
    |exact absurd rfl h1|exact absurd rfl h2
    |(refine ae.aj (λ_=>ae.stuck _) (λ_=>?_);exact oq (lQ _ _ _ _ _ _))
    |exact ae.stuck _
  |pointer b=>simp only[rv];cases op<;>simp only[binOp]<;>first|exact ae.unsupported _|exact absurd rfl h1|exact absurd rfl h2
  |_=>simp only[rv];cases op<;>simp only[binOp]<;>first|exact ae.stuck _|exact absurd rfl h1|exact absurd rfl h2
 |string a=>
  cases y with
  |string b=>simp only[rv,binOp];exact kH _ _ _
  |pointer b=>simp only[rv];cases op<;>simp only[binOp]<;>first|exact ae.unsupported _|exact absurd rfl h1|exact absurd rfl h2
  |_=>simp only[rv];cases op<;>simp only[binOp]<;>first|exact ae.stuck _|exact absurd rfl h1|exact absurd rfl h2
 |pointer a=>
  cases y with
  |pointer b=>simp only[rv];exact Tl hp op t a b hx hy h1 h2
  |int k b=>simp only[rv];exact Tn hp op t a k b hx h1 h2
  |_=>simp only[rv];cases op<;>simp only[binOp]<;>first|exact ae.unsupported _|exact absurd rfl h1|exact absurd rfl h2
 |_=>
  cases y with
  |pointer b=>simp only[rv];cases op<;>simp only[binOp]<;>first|exact ae.unsupported _|exact absurd rfl h1|exact absurd rfl h2
  |_=>simp only[rv];cases op<;>simp only[binOp]<;>first|exact ae.stuck _|exact absurd rfl h1|exact absurd rfl h2
end
section
variable {P:Ω}{ρ:Rn}{α β Z7 Z8:Type}
theorem ae.mono' {R:α→β→Prop}{s:Sem α}{s1 s2:Sem β}(h:ae P ρ R s s1)(e:s1=s2):ae P ρ R s s2:=e▸h
theorem XU (x y:Δ):ae P ρ (VV ρ) (Builtin.min2 x y) (Builtin.min2 (rv ρ x) (rv ρ y)):=by
 cases x with
 |pointer a=>
  cases a<;>cases y<;>simp only[rv,Γ,Builtin.min2]<;>first
   |exact ae.unsupported _|exact ae.stuck _|(rename_i b;cases b<;>simp only<;>first|exact ae.unsupported _|exact ae.stuck _)
 |int k a=>
  cases y<;>simp only[rv,Builtin.min2]<;>first
   |exact ae.pure (by simp[VV,rv])|exact ae.stuck _|exact ae.unsupported _|(rename_i b;cases b<;>simp only[Γ]<;>first|exact ae.unsupported _|exact ae.stuck _)
 |float k a=>
  cases y<;>simp only[rv,Builtin.min2]<;>first
   |(split<;>first|exact ae.pure (by simp[VV,rv])|(refine ae.bind (iC _) ?_;rintro n _ rfl;exact ae.pure (by simp[VV,rv])))
   |exact ae.stuck _|exact ae.unsupported _|(rename_i b;cases b<;>simp only[Γ]<;>first|exact ae.unsupported _|exact ae.stuck _)
 |string a=>
  cases y<;>simp only[rv,Builtin.min2]<;>first
   |(refine ae.bind (kH _ _ _) ?_;rintro v _ rfl;refine ae.bind (xd v) ?_;rintro b _ rfl;exact ae.pure (by simp[VV,rv]))
   |exact ae.stuck _|exact ae.unsupported _|(rename_i b;cases b<;>simp only[Γ]<;>first|exact ae.unsupported _|exact ae.stuck _)
 |_=>
  cases y<;>simp only[rv,Builtin.min2]<;>first
   |exact ae.stuck _|exact ae.unsupported _|(rename_i b;cases b<;>simp only[Γ]<;>first|exact ae.unsupported _|exact ae.stuck _)
theorem XV (x y:Δ):ae P ρ (VV ρ) (Builtin.max2 x y) (Builtin.max2 (rv ρ x) (rv ρ y)):=by
 cases x with
 |pointer a=>
  cases a<;>cases y<;>simp only[rv,Γ,Builtin.max2]<;>first
   |exact ae.unsupported _|exact ae.stuck _|(rename_i b;cases b<;>simp only<;>first|exact ae.unsupported _|exact ae.stuck _)
 |int k a=>
  cases y<;>simp only[rv,Builtin.max2]<;>first
   |exact ae.pure (by simp[VV,rv])|exact ae.stuck _|exact ae.unsupported _|(rename_i b;cases b<;>simp only[Γ]<;>first|exact ae.unsupported _|exact ae.stuck _)
 |float k a=>
  cases y<;>simp only[rv,Builtin.max2]<;>first
   |(split<;>first|exact ae.pure (by simp[VV,rv])|(refine ae.bind (iC _) ?_;rintro n _ rfl;exact ae.pure (by simp[VV,rv])))
   |exact ae.stuck _|exact ae.unsupported _|(rename_i b;cases b<;>simp only[Γ]<;>first|exact ae.unsupported _|exact ae.stuck _)
 |string a=>
  cases y<;>simp only[rv,Builtin.max2]<;>first
   |(refine ae.bind (kH _ _ _) ?_;rintro v _ rfl;refine ae.bind (xd v) ?_;rintro b _ rfl;exact ae.pure (by simp[VV,rv]))
   |exact ae.stuck _|exact ae.unsupported _|(rename_i b;cases b<;>simp only[Γ]<;>first|exact ae.unsupported _|exact ae.stuck _)
 |_=>
  cases y<;>simp only[rv,Builtin.max2]<;>first
   |exact ae.stuck _|exact ae.unsupported _|(rename_i b;cases b<;>simp only[Γ]<;>first|exact ae.unsupported _|exact ae.stuck _)
theorem xo {f:Δ→Δ→Sem Δ}(hf:∀x y,ae P ρ (VV ρ) (f x y) (f (rv ρ x) (rv ρ y))):∀(l:List Δ) (x:Δ),ae P ρ (VV ρ) (l.foldlM f x) ((l.map (rv ρ)).foldlM f (rv ρ x))
 |[],x=>by simp only[zbt,List.foldlM];exact ae.pure rfl
 |y::l,x=>by
  simp only[zaB,List.foldlM];refine ae.bind (hf x y) ?_;rintro v _ rfl;exact xo hf l v
theorem aac (ts:Array Θ)(ty:Θ)(args:Array Δ):ae P ρ (VV ρ) (Builtin.min_ ts ty args) (Builtin.min_ ts ty (args.map (rv ρ))):=by
 unfold Builtin.min_;rw[zbl];cases args.toList with
 |nil=>exact ae.stuck _
 |cons x l=>exact xo XU l x
theorem aad (ts:Array Θ)(ty:Θ)(args:Array Δ):ae P ρ (VV ρ) (Builtin.max_ ts ty args) (Builtin.max_ ts ty (args.map (rv ρ))):=by
 unfold Builtin.max_;rw[zbl];cases args.toList with
 |nil=>exact ae.stuck _
 |cons x l=>exact xo XV l x
theorem qu (a:Addr)(u:Θ)(n:Nat):ae P ρ Eq (variablesAt a u n) (variablesAt (ra ρ a) u n):=by
 unfold variablesAt;refine ae.bind cL ?_;rintro _ _ ⟨rfl,rfl⟩;refine ae.bind (gT a.block) ?_;rintro sh _ rfl;cases sh<;>exact ae.pure rfl
theorem uP:∀(n:Nat) (a:Addr) (acc:ByteArray),ae P ρ Eq (loadBytes a acc n) (loadBytes (ra ρ a) acc n)
 |0,a,acc=>ae.pure rfl
 |n+1,a,acc=>by
  unfold loadBytes;refine ae.bind (xc a) ?_;rintro v _ rfl;cases v with
  |int k b=>
   simp only[rv];cases k<;>first
    |exact ae.stuck _
    |(rw[jQ];exact uP n (a.add 1) _)
  |_=>simp only[rv];exact ae.stuck _
theorem Ts (f:Δ→Δ)(x:Δ):(⟨[x]⟩:Array Δ).map f=⟨[f x]⟩:=by simp
theorem Tt (f:Δ→Δ)(x y:Δ):(⟨[x,y]⟩:Array Δ).map f=⟨[f x,f y]⟩:=by simp
theorem XW (a:Option Addr):rv ρ (.pointer a)=.pointer (a.map (ra ρ)):=by simp only[rv]
theorem aae (a:Option Addr)(n c:Nat):rv ρ (.slice a n c)=.slice (a.map (ra ρ)) n c:=by simp only[rv]
theorem vE (ts:Array Θ)(ty:Θ)(p:Option Addr)(y:Δ):ae P ρ (VV ρ) (ξ ts ty #[.pointer p,y]) (ξ ts ty #[.pointer (p.map (ra ρ)),rv ρ y]):=by
 unfold ξ;refine ae.bind (mI y) ?_;rintro n _ rfl;cases ts[0]? with
 |none=>exact ae.stuck _
 |some pt=>
  dsimp only;refine ae.aj (λ_=>jG (aX _)) (λ_=>?_);refine ae.aj (λ_=>jG (ae.unsupported _)) (λ_=>?_);cases p with
  |none=>
   exact ae.aj (λ_=>ae.pure (by simp[VV,rv])) (λ_=>aX _)
  |some a=>
   refine ae.aj (λ_=>ae.pure (by simp[VV,rv])) (λ_=>?_);refine ae.bind (xf pt) ?_;rintro e _ rfl;refine ae.bind (qu a e n.toNat) ?_;rintro b _ rfl;refine ae.aj (λ_=>?_) (λ_=>ae.unsupported _);refine ae.bind (uP _ _ _) ?_;rintro s _ rfl;refine ae.bind (N4 a n.toNat) ?_;rintro _ _ rfl;exact ae.pure (by simp[VV,rv])
theorem xp (ts:Array Θ)(ty:Θ)(args:Array Δ):ae P ρ (VV ρ) (ξ ts ty args) (ξ ts ty (args.map (rv ρ))):=by
 rcases args with⟨l⟩
 match l with
 |[]=>exact ae.stuck _
 |[_]=>exact ae.stuck _
 |_::_::_::_=>exact ae.stuck _
 |[x,y]=>
  rw[Tt];cases x with
  |pointer p=>rw[XW];exact vE ts ty p y
  |_=>exact ae.stuck _
theorem qW (ts:Array Θ)(ty:Θ)(a:Option Addr)(n c:Nat):ae P ρ (VV ρ) (π ts ty #[.slice a n c]) (π ts ty #[.slice (a.map (ra ρ)) n c]):=by
 cases a with
 |none=>exact(ae.pure (by simp[VV,rv]):ae P ρ (VV ρ) (pure (.pointer none)) (pure (.pointer none)))
 |some a=>
  have:ae P ρ (VV ρ) (if c≠0 then pure (.pointer (some a))else do
   if(←viewAt a.block).isSome then pure (.pointer (some a))else pure (.pointer (some ⟨←newObj (.view a (←elemOf ty)),0,none⟩)):Sem Δ)
   (if c≠0 then pure (.pointer (some (ra ρ a)))else do
   if(←viewAt (ra ρ a).block).isSome then pure (.pointer (some (ra ρ a)))else pure (.pointer (some ⟨←newObj (.view (ra ρ a) (←elemOf ty)),0,none⟩)):Sem Δ):=by
   refine ae.aj (λ_=>ae.pure (by simp[VV,rv])) (λ_=>?_);refine ae.bind (rP a.block) ?_;rintro x _ rfl;simp only[Option.isSome_map];refine ae.aj (λ_=>ae.pure (by simp[VV,rv])) (λ_=>?_);refine ae.bind (xf ty) ?_;rintro e _ rfl;refine ae.bind (l7 (.view a e)) ?_;rintro r _ rfl;exact ae.pure (by simp[VV,rv,ra])
  exact this
theorem rT (ts:Array Θ)(ty:Θ)(args:Array Δ):ae P ρ (VV ρ) (π ts ty args) (π ts ty (args.map (rv ρ))):=by
 rcases args with⟨l⟩
 match l with
 |[]=>exact ae.stuck _
 |_::_::_=>exact ae.stuck _
 |[x]=>
  rw[Ts];cases x with
  |slice a n c=>rw[aae];exact qW ts ty a n c
  |_=>exact ae.stuck _
theorem jk (empty:Bool):∀(n:Nat) (t:Θ) (v:Δ),ae P ρ Eq (Instr.checkKey empty n t v) (Instr.checkKey empty n t (rv ρ v))
 |0,t,v=>ae.unsupported _
 |n+1,t,v=>by
  unfold Instr.checkKey;refine ae.bind (ax t) ?_;rintro d d' ⟨e,_⟩;subst e;cases d' with
  |interface ms=>
   cases v with
   |iface d x=>
    simp only[rv];refine ae.bind (eQ d) ?_;rintro i i' ⟨e,_⟩;subst e;refine ae.aj (λ_=>?_) (λ_=>jk empty n _ _);refine ae.aj (λ_=>jG (aX _)) (λ_=>?_);refine ae.bind (A3 _) ?_;rintro q _ rfl;exact jG (aX _)
   |nilIface=>simp only[rv];exact ae.pure rfl
   |_=>simp only[rv];exact ae.stuck _
  |array m e=>
   cases v with
   |agg cs=>
    simp only[rv];refine ae.bind (R:=Eq) ?_ (by rintro _ _ rfl;exact ae.pure rfl)
    haveI:=lawful
    rw[Std.Legacy.Range.forIn_eq_forIn_range',Std.Legacy.Range.forIn_eq_forIn_range'];refine mM (R:=Eq) (λf a b hab=>?_) _ _ _ rfl;subst hab;refine ae.bind (cC _) ?_;rintro sz _ rfl;refine ae.bind (og _ _ _) ?_;rintro u _ rfl;refine ae.bind (jk empty n _ _) ?_;rintro _ _ rfl;exact ae.pure (Or.inl ⟨_,_,rfl,rfl,rfl⟩)
   |_=>simp only[rv];exact ae.stuck _
  |struct fs=>
   cases v with
   |agg cs=>
    simp only[rv];refine ae.bind (R:=Eq) ?_ (by rintro _ _ rfl;exact ae.pure rfl)
    haveI:=lawful
    rw[←zbP,←zbP];refine mM (R:=Eq) (λf a b hab=>?_) fs.toList _ _ rfl;subst hab;refine ae.aj (λ_=>?_) (λ_=>ae.pure (Or.inl ⟨_,_,rfl,rfl,rfl⟩));refine ae.bind (og _ _ _) ?_;rintro u _ rfl;refine ae.bind (jk empty n _ _) ?_;rintro _ _ rfl;exact ae.pure (Or.inl ⟨_,_,rfl,rfl,rfl⟩)
   |_=>simp only[rv];exact ae.stuck _
  |_=>cases v<;>simp only<;>exact ae.pure rfl
def re (ρ:Rn)(e:Φ):Φ:={ e with key:=rv ρ e.key,val:=rv ρ e.val }
theorem rU (hp:Plain P ρ)(t:Θ)(k:Δ)(hk:GV P ρ k):∀(es:List Φ) (i:Nat),(∀e∈es,GV P ρ e.key)→ae P ρ (λx y=>y=x.map λz=>(z.1,rv ρ z.2)) (Instr.findAsking t k es i) (Instr.findAsking t (rv ρ k) (es.map (re ρ)) i)
 |[],i,_=>ae.pure rfl
 |e::es,i,h=>by
  simp only[zaB,Instr.findAsking];refine ae.bind (JH hp t k e.key hk (h e (by simp))) ?_;rintro b _ rfl;exact ae.aj (λ_=>ae.pure rfl) (λ_=>rU hp t k hk es (i+1) λx hx=>h x (by simp[hx]))
theorem Hf (d:TypeDesc)(k x:Δ):Instr.sameNow d (rv ρ k) (rv ρ x)=Instr.sameNow d k x:=by
 cases d<;>cases k<;>simp only[rv,Instr.sameNow]<;>cases x<;>simp only[rv]
theorem xq (d:TypeDesc)(k:Δ):∀(es:List Φ) (i:Nat),ώ d (rv ρ k) (es.map (re ρ)) i=(ώ d k es i).map λx=>x.map λz=>(z.1,rv ρ z.2)
 |[],i=>rfl
 |e::es,i=>by
  simp only[zaB,ώ,re,Hf];split
  ·rfl
  ·exact xq d k es (i+1)
  ·rfl
theorem tN (hp:Plain P ρ)(t:Θ)(k:Δ)(es:List Φ)(hk:GV P ρ k)(he:∀e∈es,GV P ρ e.key):ae P ρ (λx y=>y=x.map λz=>(z.1,rv ρ z.2)) (Instr.findKey t k es) (Instr.findKey t (rv ρ k) (es.map (re ρ))):=by
 unfold Instr.findKey;refine ae.bind (ax t) ?_;rintro d d' ⟨e,_⟩;subst e;rw[xq];cases ώ d' k es 0 with
 |some r=>exact ae.pure rfl
 |none=>exact rU hp t k hk es 0 he
theorem Oa {es:Array Φ}{c:Nat}(h:GO P ρ (.map es c)):∀e∈es.toList,GV P ρ e.key:=by
 intro e he;refine h.imp id λh=>?_;simp only[ro,Obj.map.injEq,zay]at h;obtain⟨i,hi,rfl⟩:=zcm.1 (Array.mem_toList_iff.1 he);have e1:(es.map λe=>{ e with key:=rv ρ e.key,val:=rv ρ e.val }:Array Φ)[i]'(by simpa using hi)=es[i]:=by simp only[h]
 simp only[zbX]at e1;generalize es[i]=x at e1 ⊢;obtain⟨k,v,b⟩:=x;simp only[MapEntry.mk.injEq,zay]at e1 ⊢;exact e1.1
theorem Ob (hp:Plain P ρ)(t:Θ)(x k:Δ)(ok:Bool)(hk:GV P ρ k):ae P ρ (VV ρ) (Instr.lookup t x k ok) (Instr.lookup t (rv ρ x) (rv ρ k) ok):=by
 unfold Instr.lookup;generalize 10000=N;refine ae.bind (ax t) ?_;rintro d d' ⟨e,_⟩;subst e;cases d' with
 |map key elem=>
  dsimp only;cases x with
  |map r=>
   cases r with
   |none=>
    simp only[rv,Γ];refine ae.bind (R:=λ(es es':Array Φ)=>es'=es.map (re ρ)∧∀e∈es.toList,GV P ρ e.key) (ae.pure ⟨by simp,by simp⟩) ?_;rintro es _ ⟨rfl,he⟩;rw[show(es.map (re ρ)).isEmpty=es.isEmpty by simp[Array.isEmpty]];refine ae.bind (jk _ _ _ _) ?_;rintro _ _ rfl;rw[zbl];refine ae.bind (tN hp key k es.toList hk he) ?_;rintro r _ rfl;cases r with
    |some z=>exact ae.pure (by cases ok<;>simp[VV,rv])
    |none=>
     simp only[Γ];refine ae.bind (eJ hp elem) ?_;rintro v _ ⟨rfl,hv⟩;exact ae.pure (by cases ok<;>simp[VV,rv,hv])
   |some r=>
    simp only[rv,Γ];refine ae.bind (l9 r) ?_;rintro o _ ⟨rfl,ho⟩;cases o with
    |map es0 c=>
     refine ae.bind (R:=λ(es es':Array Φ)=>es'=es.map (re ρ)∧∀e∈es.toList,GV P ρ e.key) (ae.pure ⟨rfl,Oa ho⟩) ?_;rintro es _ ⟨rfl,he⟩;rw[show(es.map (re ρ)).isEmpty=es.isEmpty by simp[Array.isEmpty]];refine ae.bind (jk _ _ _ _) ?_;rintro _ _ rfl;rw[zbl];refine ae.bind (tN hp key k es.toList hk he) ?_;rintro r _ rfl;cases r with
     |some z=>exact ae.pure (by cases ok<;>simp[VV,rv])
     |none=>
      simp only[Γ];refine ae.bind (eJ hp elem) ?_;rintro v _ ⟨rfl,hv⟩;exact ae.pure (by cases ok<;>simp[VV,rv,hv])
    |_=>exact ae.stuck _
  |_=>simp only[rv];exact ae.stuck _
 |_=>exact ae.stuck _
theorem Ec (hp:Plain P ρ):∀(n:Nat) (x y:Δ),Instr.sameBits n (rv ρ x) (rv ρ y)=Instr.sameBits n x y:=by
 intro n
 induction n with
 |zero=>
  intro x y;cases x<;>cases y<;>simp only[rv,Instr.sameBits]
  ·rename_i a b;cases a<;>cases b<;>simp[xj hp]
  ·rename_i a b;cases a<;>cases b<;>simp[tM hp]
 |succ n ih=>
  intro x y;cases x<;>cases y<;>simp only[rv,Instr.sameBits,ih]
  ·rename_i a b;cases a<;>cases b<;>simp[xj hp]
  ·rename_i a b;cases a<;>cases b<;>simp[tM hp]
  ·rename_i a b;simp only[Array.size_map,zbl,List.zip_map,List.all_map]
   congr 2
   funext z;exact ih z.1 z.2
theorem xr (hp:Plain P ρ)(x y:Δ):ae P ρ (VV ρ) (Instr.keyThatStays x y) (Instr.keyThatStays (rv ρ x) (rv ρ y)):=by
 unfold Instr.keyThatStays;rw[Ec hp];refine ae.aj (λ_=>ae.pure rfl) (λ_=>?_);refine ae.bind (iC _) ?_;rintro n _ rfl;exact ae.pure (by simp only[VV];split<;>rfl)
theorem Ed (hp:Plain P ρ)(t:Θ)(m k v:Δ)(hk:GV P ρ k):ae P ρ Eq (Instr.mapUpdate t m k v) (Instr.mapUpdate t (rv ρ m) (rv ρ k) (rv ρ v)):=by
 unfold Instr.mapUpdate;refine ae.bind (ax t) ?_;rintro d d' ⟨e,_⟩;subst e;cases d' with
 |map key elem=>
  dsimp only;cases m with
  |map r=>
   cases r with
   |none=>simp only[rv,Γ];exact aX _
   |some r=>
    simp only[rv,Γ];refine ae.bind (l9 r) ?_;rintro o _ ⟨rfl,ho⟩;cases o with
    |map es c=>
     simp only[ro];refine ae.bind (jk _ _ _ _) ?_;rintro _ _ rfl;have hf:=tN hp key k es.toList hk (Oa ho);rw[show es.toList.map (re ρ)=(es.map (λe=>{ e with key:=rv ρ e.key,val:=rv ρ e.val }:Φ→Φ)).toList from(zbl ..).symm]at hf;refine ae.bind hf ?_;rintro q _ rfl;cases q with
     |none=>
      refine(D7 (ρ:=ρ) r (.map (es.push { key:=k,val:=v,born:=c }) (c+1)) trivial).mono' ?_;simp[ro]
     |some z=>
      simp only[Γ];have hks:=xr (P:=P) hp (((es[z.1]?).map (·.key)).getD k) k;have e1:rv ρ (((es[z.1]?).map (·.key)).getD k)=((((es.map (λe=>{ e with key:=rv ρ e.key,val:=rv ρ e.val }:Φ→Φ))[z.1]?).map (·.key)).getD (rv ρ k)):=by
       rw[zaz];cases es[z.1]?<;>rfl
      rw[e1]at hks;refine ae.bind hks ?_;rintro k2 _ rfl;refine(D7 (ρ:=ρ) r (.map (es.modify z.1 λe=>{ e with key:=k2,val:=v }) c) trivial).mono' ?_;simp only[ro]
      congr 2
      apply Array.ext
      ·simp
      ·intro i h1 h2;simp only[zbX,Array.getElem_modify];split<;>rfl
    |_=>simp only[ro];exact ae.stuck _
  |_=>simp only[rv];exact ae.stuck _
 |_=>exact ae.stuck _
theorem Lh (t:Θ)(r:Option Δ):ae P ρ (VV ρ) (Instr.makeMap t r) (Instr.makeMap t (r.map (rv ρ))):=by
 unfold Instr.makeMap;have last:ae P ρ (VV ρ) (do pure (.map (some (←newObj (.map #[] 0)))):Sem Δ) (do pure (.map (some (←newObj (.map #[] 0)))):Sem Δ):=by
  have:=l7 (P:=P) (ρ:=ρ) (.map #[] 0) trivial;simp only[ro,zcs]at this;refine ae.bind this ?_;rintro r _ rfl;exact ae.pure (by simp[VV,rv])
 cases r with
 |none=>exact last
 |some h=>
  simp only[Γ];refine ae.bind (ax t) ?_;rintro d d' ⟨e,_⟩;subst e;cases d' with
  |map key elem=>
   dsimp only;refine ae.bind (mI h) ?_;rintro _ _ rfl;exact last
  |_=>exact jG (ae.stuck _)
theorem Cu (hp:Plain P ρ)(x:Δ)(t u:Θ):ae P ρ (VV ρ) (Instr.typeAssert x t u true) (Instr.typeAssert (rv ρ x) t u true):=by
 unfold Instr.typeAssert;have fails:∀(s d:Option Θ) (m:String),ae P ρ (VV ρ) (do pure (.tuple #[←ι u,.bool false]):Sem Δ) (do pure (.tuple #[←ι u,.bool false]):Sem Δ):=λs d m=>by
  refine ae.bind (eJ hp u) ?_;rintro v _ ⟨rfl,hv⟩;exact ae.pure (by simp[VV,rv,hv])
 have holds:∀v:Δ,ae P ρ (VV ρ) (pure (.tuple #[v,.bool true]):Sem Δ) (pure (.tuple #[rv ρ v,.bool true]):Sem Δ):=λv=>ae.pure (by simp[VV,rv]);refine ae.bind (ax u) ?_;rintro d d' ⟨e,_⟩;subst e;cases x with
 |nilIface=>cases d'<;>simp only[rv]<;>exact fails none none ""
 |iface a v=>
  cases d' with
  |interface ms=>
   simp only[rv];refine ae.bind (eQ a) ?_;rintro i i' ⟨e,_⟩;subst e;split
   ·have:=holds (.iface a v);rw[show rv ρ (.iface a v)=.iface a (rv ρ v) by simp only[rv]]at this;exact this
   ·exact fails none none ""
  |_=>simp only[rv];exact ae.aj (λ_=>holds v) (λ_=>fails none none "")
 |_=>cases d'<;>simp only[rv]<;>exact ae.stuck _
end
theorem bF {f:Δ→Δ}:cs.map f=cs↔∀x∈cs,f x=x:=by
 constructor
 ·intro h x hx;obtain⟨i,hi,rfl⟩:=zcm.1 hx;have:(cs.map f)[i]'(by simpa using hi)=cs[i]:=by simp only[h]
  simpa using this
 ·intro h;apply Array.ext
  ·simp
  ·intro i h1 h2;simp only[zbX];exact h _ (Array.getElem_mem h2)
theorem et {f g:Δ→Δ}(h:∀x∈cs,f x=g x):cs.map f=cs.map g:=by
 apply Array.ext
 ·simp
 ·intro i h1 h2;simp only[zbX];exact h _ (Array.getElem_mem (by simpa using h1))
section
variable {σ Oc:Rn}
theorem eY (hb:∀r,σ r=r→Oc r=r)(hf:∀x,σ.f x=x→Oc.f x=x):∀v:Δ,rv σ v=v→rv Oc v=v
 |.pointer none,_=>by simp[rv]
 |.pointer (some a),h=>by
  simp only[rv,Γ,Δ.pointer.injEq,zaE,ra]at h ⊢;obtain⟨b,o,s⟩:=a;simp only[Addr.mk.injEq,zay]at h ⊢;exact hb _ h
 |.slice none _ _,_=>by simp[rv]
 |.slice (some a) l c,h=>by
  simp only[rv,Γ,Δ.slice.injEq,zaE,ra,zay]at h ⊢;obtain⟨b,o,s⟩:=a;simp only[Addr.mk.injEq,zay]at h ⊢;exact hb _ h
 |.map none,_=>by simp[rv]
 |.map (some r),h=>by
  simp only[rv,Γ,Δ.map.injEq,zaE]at h ⊢;exact hb _ h
 |.chan none,_=>by simp[rv]
 |.chan (some r),h=>by
  simp only[rv,Γ,Δ.chan.injEq,zaE]at h ⊢;exact hb _ h
 |.func fn first captured,h=>by
  simp only[rv,Δ.func.injEq]at h ⊢;refine⟨hf _ h.1,bF.2 λx hx=>?_,bF.2 λx hx=>?_⟩
  ·have:=zbj hx;exact eY hb hf x (bF.1 h.2.1 x hx)
  ·have:=zbj hx;exact eY hb hf x (bF.1 h.2.2 x hx)
 |.iface t v,h=>by
  simp only[rv,Δ.iface.injEq,true_and]at h ⊢;exact eY hb hf v h
 |.agg cs,h=>by
  simp only[rv,Δ.agg.injEq]at h ⊢;refine bF.2 λx hx=>?_;have:=zbj hx;exact eY hb hf x (bF.1 h x hx)
 |.tuple cs,h=>by
  simp only[rv,Δ.tuple.injEq]at h ⊢;refine bF.2 λx hx=>?_;have:=zbj hx;exact eY hb hf x (bF.1 h x hx)
 |.bool _,_=>by simp[rv]
 |.int _ _,_=>by simp[rv]
 |.float _ _,_=>by simp[rv]
 |.complex _ _ _,_=>by simp[rv]
 |.string _,_=>by simp[rv]
 |.nilFunc,_=>by simp[rv]
 |.nilIface,_=>by simp[rv]
termination_by v=>SizeOf.sizeOf v
theorem agree {ρ ρ':Rn}(hb:∀r,σ r=r→ρ r=ρ' r)(hf:∀x,σ.f x=x→ρ.f x=ρ'.f x):∀v:Δ,rv σ v=v→rv ρ v=rv ρ' v
 |.pointer none,_=>by simp[rv]
 |.pointer (some a),h=>by
  simp only[rv,Γ,Δ.pointer.injEq,zaE,ra]at h ⊢;obtain⟨b,o,s⟩:=a;simp only[Addr.mk.injEq,zay]at h ⊢;exact hb _ h
 |.slice none _ _,_=>by simp[rv]
 |.slice (some a) l c,h=>by
  simp only[rv,Γ,Δ.slice.injEq,zaE,ra,zay]at h ⊢;obtain⟨b,o,s⟩:=a;simp only[Addr.mk.injEq,zay]at h ⊢;exact hb _ h
 |.map none,_=>by simp[rv]
 |.map (some r),h=>by
  simp only[rv,Γ,Δ.map.injEq,zaE]at h ⊢;exact hb _ h
 |.chan none,_=>by simp[rv]
 |.chan (some r),h=>by
  simp only[rv,Γ,Δ.chan.injEq,zaE]at h ⊢;exact hb _ h
 |.func fn first captured,h=>by
  simp only[rv,Δ.func.injEq]at h ⊢;refine⟨hf _ h.1,et λx hx=>?_,et λx hx=>?_⟩
  ·have:=zbj hx;exact agree hb hf x (bF.1 h.2.1 x hx)
  ·have:=zbj hx;exact agree hb hf x (bF.1 h.2.2 x hx)
 |.iface t v,h=>by
  simp only[rv,Δ.iface.injEq,true_and]at h ⊢;exact agree hb hf v h
 |.agg cs,h=>by
  simp only[rv,Δ.agg.injEq]at h ⊢;refine et λx hx=>?_;have:=zbj hx;exact agree hb hf x (bF.1 h x hx)
 |.tuple cs,h=>by
  simp only[rv,Δ.tuple.injEq]at h ⊢;refine et λx hx=>?_;have:=zbj hx;exact agree hb hf x (bF.1 h x hx)
 |.bool _,_=>by simp[rv]
 |.int _ _,_=>by simp[rv]
 |.float _ _,_=>by simp[rv]
 |.complex _ _ _,_=>by simp[rv]
 |.string _,_=>by simp[rv]
 |.nilFunc,_=>by simp[rv]
 |.nilIface,_=>by simp[rv]
termination_by v=>SizeOf.sizeOf v
theorem gZ:ra σ a=a↔σ a.block=a.block:=by
 obtain⟨b,o,s⟩:=a;simp[ra]
theorem pB (hb:∀r,σ r=r→Oc r=r)(hf:∀x,σ.f x=x→Oc.f x=x){o:Obj}(h:ro σ o=o):ro Oc o=o:=by
 have hv:=eY hb hf;cases o with
 |cells c t f=>simp only[ro,Obj.cells.injEq,zay]at h ⊢;exact bF.2 λx hx=>hv x (bF.1 h x hx)
 |pending c t=>simp only[ro,Obj.pending.injEq,zay]at h ⊢;exact bF.2 λx hx=>hv x (bF.1 h x hx)
 |chan a b c d e f=>simp only[ro,Obj.chan.injEq,zay,true_and]at h ⊢;exact bF.2 λx hx=>hv x (bF.1 h x hx)
 |view a t=>simp only[ro,Obj.view.injEq,zay]at h ⊢;exact gZ.2 (hb _ (gZ.1 h))
 |number a t=>simp only[ro,Obj.number.injEq,zay]at h ⊢;exact gZ.2 (hb _ (gZ.1 h))
 |map es c=>
  simp only[ro,Obj.map.injEq,zay]at h ⊢;apply Array.ext
  ·simp
  ·intro i h1 h2;have e:(es.map λe=>{ e with key:=rv σ e.key,val:=rv σ e.val }:Array Φ)[i]'(by simpa using h2)=es[i]:=by simp only[h]
   simp only[zbX]at e ⊢;generalize es[i]=x at e ⊢;obtain⟨k,v,b⟩:=x;simp only[MapEntry.mk.injEq,zay]at e ⊢;exact⟨hv _ e.1,hv _ e.2⟩
 |_=>rfl
theorem tO {ρ ρ':Rn}(hb:∀r,σ r=r→ρ r=ρ' r)(hf:∀x,σ.f x=x→ρ.f x=ρ'.f x){o:Obj}(h:ro σ o=o):ro ρ o=ro ρ' o:=by
 have hv:=agree hb hf;cases o with
 |cells c t f=>simp only[ro,Obj.cells.injEq,zay]at h ⊢;exact et λx hx=>hv x (bF.1 h x hx)
 |pending c t=>simp only[ro,Obj.pending.injEq,zay]at h ⊢;exact et λx hx=>hv x (bF.1 h x hx)
 |chan a b c d e f=>simp only[ro,Obj.chan.injEq,zay,true_and]at h ⊢;exact et λx hx=>hv x (bF.1 h x hx)
 |view a t=>simp only[ro,Obj.view.injEq,zay]at h ⊢;obtain⟨b,o,s⟩:=a;simp only[ra,Addr.mk.injEq,zay]at h ⊢;exact hb _ h
 |number a t=>simp only[ro,Obj.number.injEq,zay]at h ⊢;obtain⟨b,o,s⟩:=a;simp only[ra,Addr.mk.injEq,zay]at h ⊢;exact hb _ h
 |map es c=>
  simp only[ro,Obj.map.injEq,zay]at h ⊢;apply Array.ext
  ·simp
  ·intro i h1 h2;have hi:i<es.size:=by simpa using h1
   have e:(es.map λe=>{ e with key:=rv σ e.key,val:=rv σ e.val }:Array Φ)[i]'(by simpa using hi)=es[i]:=by simp only[h]
   simp only[zbX]at e ⊢;generalize es[i]=x at e ⊢;obtain⟨k,v,b⟩:=x;simp only[MapEntry.mk.injEq,zay]at e ⊢;exact⟨hv _ e.1,hv _ e.2⟩
 |_=>rfl
end
structure Sd where
 f:ϊ→Bool
 d:Nat
 g:Nat
instance:CoeFun Sd (λ_=>ϊ→Bool):=⟨Sd.f⟩
structure rV (S:Sd) (ρ:Rn):Prop where
 f:∀g,S g=true→ρ.f (.func g)=.func g
 g:∀g,S.d≤g→g<S.g→ρ g=g
 l:∀g,g<S.d→g<ρ.d∨ρ g=g
def sg (S:Sd)(b0 n:Nat):Rn where
 d:=b0
 b:=λr=>if b0≤r∧r<n then r else r+n+1
 f:=λ
  |.func g=>if S g then .func g else .method ""
  |.method _=> .yield 0
  |.methodOf _ _=> .yield 0
  |.via _ _ _ _=> .yield 0
  |.yield _=> .method ""
section
variable {S:Sd}{b0 n m:Nat}
theorem bY {r:Nat}:sg S b0 n r=r↔b0≤r∧r<n:=by
 show(if b0≤r∧r<n then r else r+n+1)=r↔_;split
 ·rename_i h;simp[h]
 ·rename_i h;constructor
  ·intro e;omega
  ·intro e;exact absurd e h
theorem iD {x:Fn}:(sg S b0 n).f x=x↔∃g,x=.func g∧S g=true:=by
 cases x with
 |func g=>
  show(if S g then Fn.func g else .method "")=.func g↔_;split
  ·rename_i h;simp[h]
  ·rename_i h;simp[h]
 |_=>simp[sg]
theorem wC {S:Sd}(h:S.g≤n):rV S (sg S S.d n):=⟨λg hg=>iD.2 ⟨g,rfl,hg⟩,λ_ h1 h2=>bY.2 ⟨h1,by omega⟩,λ_ h=> .inl h⟩
theorem XY (a b:Nat)(h:sg S b0 n a=sg S b0 n b):a=b:=by
 simp only[sg]at h;split at h<;>split at h<;>omega
theorem dY (h:n≤m):(∀r,sg S b0 n r=r→sg S b0 m r=r)∧∀x,(sg S b0 n).f x=x→(sg S b0 m).f x=x:=
 ⟨λr hr=>bY.2 (by have:=bY.1 hr;omega),λx hx=>iD.2 (iD.1 hx)⟩
end
def jl:Δ→Bool
 |.bool _|.int _ _|.float _ _|.complex _ _ _|.string _|.nilFunc |.nilIface=>true
 |.pointer none|.slice none _ _|.map none|.chan none=>true
 |_=>false
theorem ik (h:jl v=true):∀ρ:Rn,rv ρ v=v:=by
 intro ρ;cases v with
 |pointer a=>cases a<;>simp_all [jl,rv]
 |slice a=>cases a<;>simp_all [jl,rv]
 |map a=>cases a<;>simp_all [jl,rv]
 |chan a=>cases a<;>simp_all [jl,rv]
 |_=>simp_all [jl,rv]
def gD (S:Sd):υ→Bool
 |.tmp _=>true
 |.const v=>jl v
 |.global g=>decide (S.d≤g)&&decide (g<S.g)
 |.func f=>S f
def pC:Builtin→Bool
 |.append |.copy |.len |.max |.min |.unsafeSliceData |.unsafeString=>true
 |_=>false
def Hg (P:Ω)(src dst:Θ):Bool:=
 match P.underlying src,P.underlying dst with
 |some (.int _),some (.int _)=>true
 |some (.int _),some .string=>true
 |some (.slice e),some .string=>match P.underlying e with|some (.int .u8)=>true|_=>false
 |some (.pointer _),some .unsafePointer=>true
 |some .unsafePointer,some (.pointer _)=>true
 |_,_=>false
def fo (P:Ω)(F:ϊ→Bool)(S:Sd):Op→Bool
 |.move x|.assign x|.box _ x|.nilCheck x|.unOp _ _ x|.makeInterface _ x|.field _ x _|.fieldAddr _ x _|.extract x _=>gD S x
 |.pick c a b=>gD S c&&gD S a&&gD S b
 |.alloc _=>true
 |.build _ parts=>parts.all λp=>gD S p.2
 |.buildSlice _ _ parts=>parts.all λp=>gD S p.2
 |.load _ (.global g)=>decide (g<S.d)||(decide (S.d≤g)&&decide (g<S.g))
 |.load _ a=>gD S a
 |.store _ a x=>gD S a&&gD S x
 |.binOp _ _ x y _=>gD S x&&gD S y
 |.convert src dst x=>gD S x&&Hg P src dst
 |.makeMap _ r=>r.all (gD S)
 |.makeSlice _ l c=>gD S l&&gD S c
 |.slice _ x lo hi mx=>gD S x&&lo.all (gD S)&&hi.all (gD S)&&mx.all (gD S)
 |.indexAddr _ x i|.index _ x i=>gD S x&&gD S i
 |.lookup _ x i _=>gD S x&&gD S i
 |.mapUpdate _ m k x=>gD S m&&gD S k&&gD S x
 |.typeAssert x _ _ ok=>gD S x&&ok
 |.panic x=>gD S x
 |.call c=>(c.args.all (gD S))&&match c.callee with
  |.value (.func f)=>F f
  |.value (.tmp _)=>true
  |.builtin b=>pC b
  |_=>false
 |_=>false
def FV (S:Sd)(v:Δ):Prop:=∀fn a b,v=.func fn a b→∃g,fn=.func g∧S g=true
def JI (P:Ω)(S:Sd)(f:ϊ):Prop:=∃fn,P.funcs[f]?=some fn∧(fn.name== "runtime.NumGoroutine")=false∧(fn.body.isNone=false∨(fn.body.isNone=true∧Extern.findNext fn=none∧∃e,Extern.find fn=some e∧∀(ρ:Rn) (args:Array Δ),Plain P ρ→rV S ρ→ae P ρ (VV ρ) (e args) (e (args.map (rv ρ)))))
def NN (F:ϊ→Bool)(ρ:Rn):Next→Next→Prop
 |.value v,n=>n=.value (rv ρ v)
 |.skip,n=>n=.skip
 |.enter f args,n=>F f=true∧n=.enter f (args.map (rv ρ))
 |_,_=>False
section
variable {P:Ω}{ρ:Rn}{F:ϊ→Bool}{S:Sd}{α β:Type}
theorem rW {s s':Sem Δ}(h:ae P ρ (VV ρ) s s'):ae P ρ (NN F ρ) (do pure (.value (←s))) (do pure (.value (←s'))):=by
 refine ae.bind h ?_;rintro v _ rfl;exact ae.pure rfl
theorem e_u {s s':Sem Unit}(h:ae P ρ Eq s s'):ae P ρ (NN F ρ) (do s;pure .skip) (do s';pure .skip):=by
 refine ae.bind h ?_;rintro v _ rfl;exact ae.pure rfl
theorem xu (hp:Plain P ρ)(hx:rV S ρ)(f:ϊ)(args:Array Δ)(hF:F f=true)(hf:JI P S f):ae P ρ (NN F ρ) (callFunc f args) (callFunc f (args.map (rv ρ))):=by
 obtain⟨fn,h1,h2,h3⟩:=hf;unfold callFunc;refine ae.bind cL ?_;rintro _ _ ⟨rfl,rfl⟩;rw[h1];simp only[h2,zaU,if_false];rcases h3 with h3|⟨h3,h4,e,h5,h6⟩
 ·simp only[h3,zaU,if_false];exact ae.pure ⟨hF,rfl⟩
 ·simp only[h3,if_true,h4,h5];refine ae.bind (Co (.extern f) trivial) ?_;rintro _ _ rfl;exact rW (h6 ρ args hp hx)
theorem Ee (a:Addr):ae P ρ (AA ρ) (Conv.seenAt a) (Conv.seenAt (ra ρ a)):=by
 unfold Conv.seenAt;refine ae.bind (rP a.block) ?_;rintro x _ rfl;cases x with
 |none=>exact ae.pure rfl
 |some z=>
  obtain⟨s,u⟩:=z;simp only[Γ];have e1:(ra ρ a).off=a.off:=rfl;have e2:(ra ρ a).spot=a.spot:=rfl;have e3:(ra ρ s).spot=s.spot:=rfl;have e4:(ra ρ s).off=s.off:=rfl;rw[e1,e2,e3,e4];refine ae.aj (λ_=>ae.pure rfl) (λ_=>?_);refine ae.aj (λ_=>jG (ae.unsupported _)) (λ_=>?_);refine ae.bind cL ?_;rintro _ _ ⟨rfl,rfl⟩;split
  ·refine ae.bind (gT s.block) ?_;rintro sh _ rfl;cases sh with
   |none=>exact ae.unsupported _
   |some y=>
    obtain⟨e,m⟩:=y;dsimp only;refine ae.aj (λ_=>jG (ae.unsupported _)) (λ_=>?_);split
    ·exact ae.pure rfl
    ·exact ae.unsupported _
  ·exact ae.unsupported _
theorem Li (r:Nat):ae P ρ Eq (cellsIn r) (cellsIn (ρ r)):=by
 unfold cellsIn;refine ae.bind (gT r) ?_;rintro sh _ rfl;cases sh with
 |some x=>exact ae.pure rfl
 |none=>
  refine ae.bind (l9 r) ?_;rintro o _ ⟨rfl,_⟩;cases o<;>simp only[ro]<;>first|exact ae.pure rfl|(simp only[Array.size_map];exact ae.pure rfl)
theorem tP (t:Θ)(src dst:Θ)(x:Δ)(hs:P.underlying src=some (.pointer t))(hd:P.underlying dst=some .unsafePointer):ae P ρ (VV ρ) (Conv.unsafePointer src dst x) (Conv.unsafePointer src dst (rv ρ x)):=by
 unfold Conv.unsafePointer;refine ae.bind (ax src) ?_;rintro d d' ⟨e,h⟩;subst e;rw[hs]at h;cases h;refine ae.bind (ax dst) ?_;rintro d d' ⟨e,h⟩;subst e;rw[hd]at h;cases h;cases x with
 |pointer a=>
  cases a with
  |none=>simp only[rv,Γ];exact ae.pure (by simp[VV,rv])
  |some a=>
   simp only[rv,Γ];refine ae.bind (Ee a) ?_;rintro s _ rfl;refine ae.bind (Li s.block) ?_;rintro q _ rfl;have e1:(ra ρ s).off=s.off:=rfl;have e2:(ra ρ s).spot=s.spot:=rfl;rw[e1,e2];refine ae.bind (cC t) ?_;rintro n _ rfl;refine ae.aj (λ_=>?_) (λ_=>ae.pure (by simp[VV,rv]));refine ae.bind (l7 (.view s t)) ?_;rintro r _ rfl;exact ae.pure (by simp[VV,rv,ra])
 |_=>simp only[rv];exact ae.stuck _
theorem tQ (t:Θ)(src dst:Θ)(x:Δ)(hs:P.underlying src=some .unsafePointer)(hd:P.underlying dst=some (.pointer t)):ae P ρ (VV ρ) (Conv.unsafePointer src dst x) (Conv.unsafePointer src dst (rv ρ x)):=by
 unfold Conv.unsafePointer;refine ae.bind (ax src) ?_;rintro d d' ⟨e,h⟩;subst e;rw[hs]at h;cases h;refine ae.bind (ax dst) ?_;rintro d d' ⟨e,h⟩;subst e;rw[hd]at h;cases h;cases x with
 |pointer a=>
  cases a with
  |none=>simp only[rv,Γ];exact ae.pure (by simp[VV,rv])
  |some a=>
   simp only[rv,Γ];refine ae.bind (Ee a) ?_;rintro s _ rfl;refine ae.bind (cC t) ?_;rintro n _ rfl;refine ae.bind (qu s t 1) ?_;rintro b _ rfl;refine ae.aj (λ_=>ae.pure (by simp[VV,rv])) (λ_=>?_);refine ae.bind (gT s.block) ?_;rintro sh _ rfl;cases sh with
   |none=>exact ae.unsupported _
   |some y=>
    obtain⟨e,m⟩:=y;dsimp only;refine ae.bind cL ?_;rintro _ _ ⟨rfl,rfl⟩;refine ae.bind cL ?_;rintro _ _ ⟨rfl,rfl⟩;refine ae.aj (λ_=>jG (ae.unsupported _)) (λ_=>?_);refine ae.bind (l7 (.view s t)) ?_;rintro r _ rfl;exact ae.pure (by simp[VV,rv,ra])
 |_=>simp only[rv];exact ae.stuck _
theorem vF (x:Δ):ae P ρ (VV ρ) (ζ x) (ζ (rv ρ x)):=by
 unfold ζ;cases x with
 |slice a n c=>
  cases a with
  |none=>simp only[rv,Γ];exact ae.pure (by simp[VV,rv])
  |some a=>
   simp only[rv,Γ];refine ae.bind (od a n) ?_;rintro cs _ rfl;refine ae.bind (R:=Eq) ?_ (by rintro s _ rfl;exact ae.pure (by simp[VV,rv]))
   haveI:=lawful
   rw[←zbP,←zbP,zbl];generalize ByteArray.empty=s0
   induction cs.toList generalizing s0 with
   |nil=>exact ae.pure rfl
   |cons v l ih=>
    simp only[zaB,List.forIn_cons];cases v with
    |int k m=>
     simp only[rv];cases k<;>first|exact jG (ae.stuck _)|exact ih _
    |_=>simp only[rv];exact jG (ae.stuck _)
 |_=>simp only[rv];exact ae.stuck _
theorem xv (k:FloatKind)(b:Nat)(d:IntKind):eX P gq (Conv.floatToInt k b d):=by
 have bi:∀k n,gq (.int k n):=λk n ρ=>by simp[rv]
 unfold Conv.floatToInt;split
 ·dsimp only;split
  ·exact bi _ _
  ·exact λn=>bi _ _
 ·exact λn=>bi _ _
theorem Lj (src dst:Θ)(x:Δ)(h:Hg P src dst=true):ae P ρ (VV ρ) (convert src dst x) (convert src dst (rv ρ x)):=by
 unfold Hg at h;split at h
 ·rename_i k k' hs hd;unfold convert;refine ae.bind (ax src) ?_;rintro d d' ⟨e,h1⟩;subst e;rw[hs]at h1;cases h1;refine ae.bind (ax dst) ?_;rintro d d' ⟨e,h1⟩;subst e;rw[hd]at h1;cases h1;cases x with
  |int k2 n=>simp only[rv];exact ae.pure (by simp[VV,rv])
  |float k2 n=>simp only[rv];exact oq (xv _ _ _)
  |pointer a=>cases a<;>simp only[rv,Γ]<;>exact ae.unsupported _
  |_=>simp only[rv];exact ae.unsupported _
 ·rename_i k hs hd;unfold convert;refine ae.bind (ax src) ?_;rintro d d' ⟨e,h1⟩;subst e;rw[hs]at h1;cases h1;refine ae.bind (ax dst) ?_;rintro d d' ⟨e,h1⟩;subst e;rw[hd]at h1;cases h1;cases x with
  |int k2 n=>simp only[rv];exact ae.pure (by simp[VV,rv])
  |string b=>simp only[rv];exact ae.pure (by simp[VV,rv])
  |pointer a=>cases a<;>simp only[rv,Γ]<;>exact ae.unsupported _
  |_=>simp only[rv];exact ae.unsupported _
 ·rename_i e1 hs hd;unfold convert;refine ae.bind (ax src) ?_;rintro d d' ⟨e,h1⟩;subst e;rw[hs]at h1;cases h1;refine ae.bind (ax dst) ?_;rintro d d' ⟨e,h1⟩;subst e;rw[hd]at h1;cases h1;have he:P.underlying e1=some (.int .u8):=by
   split at h
   ·assumption
   ·cases h
  have tail:∀y y':Δ,ae P ρ (VV ρ) (ζ y) (ζ y')→ae P ρ (VV ρ)
   (underlying e1>>=λd=>match d with|.int .u8=>ζ y|.int .i32=>Conv.runesToString y|_=>stuck "Convert: a slice of what to string?")
   (underlying e1>>=λd=>match d with|.int .u8=>ζ y'|.int .i32=>Conv.runesToString y'|_=>stuck "Convert: a slice of what to string?"):=λy y' hy=>by
   refine ae.bind (ax e1) ?_;rintro d d' ⟨e,h1⟩;subst e;rw[he]at h1;cases h1;exact hy
  have hb:=vF (P:=P) (ρ:=ρ) x;cases x<;>simp only[rv]at hb ⊢<;>first|exact ae.pure (by simp[VV,rv])|exact tail _ _ hb
 ·rename_i t hs hd;have:=tP (ρ:=ρ) t src dst x hs hd;unfold convert;refine ae.bind (ax src) ?_;rintro d d' ⟨e,h1⟩;subst e;rw[hs]at h1;cases h1;refine ae.bind (ax dst) ?_;rintro d d' ⟨e,h1⟩;subst e;rw[hd]at h1;cases h1;cases x<;>simp only[rv]at this ⊢<;>exact this
 ·rename_i t hs hd;have:=tQ (ρ:=ρ) t src dst x hs hd;unfold convert;refine ae.bind (ax src) ?_;rintro d d' ⟨e,h1⟩;subst e;rw[hs]at h1;cases h1;refine ae.bind (ax dst) ?_;rintro d d' ⟨e,h1⟩;subst e;rw[hd]at h1;cases h1;cases x<;>simp only[rv]at this ⊢<;>exact this
 ·cases h
variable {ev ev':υ→Δ}
theorem parts_eq {parts:Array (Nat×υ)}(h:parts.all (λp=>gD S p.2)=true)(he:∀x,gD S x=true→ev' x=rv ρ (ev x)):(parts.map λ(p:Nat×υ)=>(p.1,ev' p.2))=(parts.map λ(p:Nat×υ)=>(p.1,ev p.2)).map λx=>(x.1,rv ρ x.2):=by
 rw[zcl];apply Array.ext
 ·simp
 ·intro i h1 h2;simp only[zbX,Function.comp];rw[he _ (by have:=Array.all_eq_true.1 h i (by simpa using h1);simpa using this)]
theorem Tu {args:Array υ}(h:args.all (gD S)=true)(he:∀x,gD S x=true→ev' x=rv ρ (ev x)):args.map ev'=(args.map ev).map (rv ρ):=by
 rw[zcl];apply Array.ext
 ·simp
 ·intro i h1 h2;simp only[zbX,Function.comp];exact he _ (Array.all_eq_true.1 h i (by simpa using h1))
theorem Cv {x:Option υ}(h:x.all (gD S)=true)(he:∀x,gD S x=true→ev' x=rv ρ (ev x)):x.map ev'=(x.map ev).map (rv ρ):=by
 cases x with
 |none=>rfl
 |some x=>simp only[Γ,Option.all_some]at h ⊢;rw[he x h]
theorem Cw (t:Θ)(g:Nat)(hg:g<ρ.d∨ρ g=g):ae P ρ (VV ρ) (ψ t (.pointer (some ⟨g,0,none⟩))) (ψ t (.pointer (some ⟨g,0,none⟩))):=by
 rcases hg.symm with hg|hg
 ·have e:rv ρ (.pointer (some ⟨g,0,none⟩))=.pointer (some ⟨g,0,none⟩):=by simp[rv,ra,hg]
  have:=DX (P:=P) (ρ:=ρ) t (.pointer (some ⟨g,0,none⟩));rwa[e]at this
 unfold ψ;refine ae.bind (R:=λa b=>a=⟨g,0,none⟩∧b=⟨g,0,none⟩) ⟨_,rfl,rfl,rfl⟩ ?_;rintro _ _ ⟨rfl,rfl⟩;unfold loadVar;refine ae.bind (wA t) ?_;rintro b _ rfl;refine ae.aj (λ_=>?_) (λ_=>Or.inl hg);refine ae.bind (cC t) ?_;rintro n _ rfl;refine ae.bind (R:=λx y=>x=#[]∧y=#[]) ?_ ?_
 ·unfold loadCells;cases n with
  |zero=>exact ae.pure ⟨rfl,rfl⟩
  |succ n=>exact Or.inl (by simpa[Addr.add]using hg)
 ·rintro _ _ ⟨rfl,rfl⟩;exact ae.pure (by simp[VV,rv])
theorem Cx {β:Type}{R:Δ→β→Prop}(x:Δ){s':Sem β}:ae P ρ R (Instr.panic x) s':=by
 unfold Instr.panic;cases x with
 |iface t v=>exact mJ _
 |nilIface=>
  refine λy=>?_;have hp:Tm (λ_:Δ=>False) (runtimePanic .panicNil):=by
   unfold runtimePanic;refine Tm.bind (Q:=λ_=>True) (λq _=>?_) (λp=>trivial);dsimp only;refine Tm.bind (Q:=λ_=>True) (λt _=>?_) ?_
   ·unfold newVar newRow;refine Tm.bind (Q:=λ_=>True) ?_ ?_
    ·intro r _;show DW (.panic _);trivial
    ·exact λr=>trivial
   ·unfold elemOf underlying;refine Tm.bind (Q:=λ_=>True) (λd _=>?_) (Tm.bind (Q:=λ_=>True) (λp' _=>?_) (λp=>trivial))
    ·cases d<;>trivial
    ·split<;>trivial
  cases y with
  |strings env=>
   intro p;show Tm _ (if _ then _ else _);split
   ·trivial
   ·exact hp
  |_=>trivial
 |_=>exact ae.stuck _
theorem ou (hp:Plain P ρ)(hf:rV S ρ)(hSF:∀g,S g=true→F g=true)(hF:∀f,F f=true→JI P S f)(o:Oper)(ho:fo P F S o.op=true)
 (he:∀x,gD S x=true→ev' x=rv ρ (ev x))(hg:∀x,gD S x=true→GV P ρ (ev x))(hv:∀x,gD S x=true→FV S (ev x))
 (SH:∀g,ev (.global g)=.pointer (some ⟨g,0,none⟩))(acH:∀g,ev' (.global g)=.pointer (some ⟨g,0,none⟩))(hfn:∀f,ev (.func f)=.func (.func f) #[] #[])(XZ:∀f,ev' (.func f)=.func (.func f) #[] #[]):
 ae P ρ (NN F ρ) (ϐ ev o) (ϐ ev' o):=by
 obtain⟨dst,op,type,pos,after,guard⟩:=o;simp only at ho;unfold ϐ;dsimp only;cases op<;>simp only[fo,zae,zaU]at ho<;>dsimp only
 case move x=>rw[he x ho];exact ae.pure rfl
 case assign x=>rw[he x ho];exact ae.pure rfl
 case pick c a b=>
  rw[he c ho.1.1,he a ho.1.2,he b ho.2];refine ae.bind (xd _) ?_;rintro q _ rfl;exact ae.pure (by cases q<;>rfl)
 case alloc t=>exact rW (Tb hp t)
 case box t x=>rw[he x ho];exact rW (aaa t _)
 case build t parts=>rw[parts_eq ho he];exact rW (Td hp t _)
 case buildSlice t n parts=>rw[parts_eq ho he];exact rW (Cp hp t n _)
 case load t a=>
  cases a with
  |global g=>rw[SH,acH];exact rW (Cw t g (by
    simp only[Bool.or_eq_true,zae,zaK]at ho;rcases ho with h|h
    ·exact hf.l g h
    ·exact .inr (hf.g g h.1 h.2)))
  |_=>rw[he _ (by simpa[fo]using ho)];exact rW (DX t _)
 case store t a x=>rw[he a ho.1,he x ho.2];exact e_u (K3 t _ _)
 case nilCheck x=>
  rw[he x ho];have hx:=hv x ho;generalize ev x=v at hx;cases v with
  |pointer a=>cases a<;>simp only[rv,Γ]<;>first|exact aX _|exact ae.pure (by simp[NN,rv])
  |func fn a b=>
   obtain⟨g,rfl,hS⟩:=hx fn a b rfl;simp only[rv,hf.f g hS];exact ae.pure (by simp[NN,rv,hf.f g hS])
  |nilFunc=>simp only[rv];exact aX _
  |nilIface=>simp only[rv];exact aX _
  |_=>simp only[rv];exact ae.pure (by simp[NN,rv])
 case binOp op t x y t2=>
  rw[he x ho.1,he y ho.2];refine rW (ae.bind (K9 op t x y _ _) ?_);rintro _ _ rfl;exact Tr hp op t _ _ (hg x ho.1) (hg y ho.2)
 case unOp op t x=>rw[he x ho];exact rW (Tj op _)
 case convert src dst x=>rw[he x ho.1];exact rW (Lj src dst _ ho.2)
 case makeInterface t x=>rw[he x ho];exact rW (vC t _)
 case makeMap t r=>rw[Cv ho he];exact rW (Lh t _)
 case makeSlice t l c=>rw[he l ho.1,he c ho.2];exact rW (D9 hp t _ _)
 case slice t x lo hi mx=>rw[he x ho.1.1.1,Cv ho.1.1.2 he,Cv ho.1.2 he,Cv ho.2 he];exact rW (K5 hp t _ _ _ _)
 case fieldAddr t x f=>rw[he x ho];exact rW (K8 t _ f)
 case field t x f=>rw[he x ho];exact rW (Th t _ f)
 case indexAddr t x i=>rw[he x ho.1,he i ho.2];exact rW (K6 hp t _ _)
 case index t x i=>rw[he x ho.1,he i ho.2];exact rW (Tg hp t _ _)
 case lookup t x i ok=>rw[he x ho.1,he i ho.2];exact rW (Ob hp t _ _ ok (hg i ho.2))
 case mapUpdate t m k x=>rw[he m ho.1.1,he k ho.1.2,he x ho.2];exact e_u (Ed hp t _ _ _ (hg k ho.1.2))
 case typeAssert x t u ok=>
  obtain rfl:=ho.2;rw[he x ho.1];exact rW (Cu hp _ t u)
 case extract x i=>rw[he x ho];exact rW (K4 _ i)
 case panic x=>exact rW (Cx _)
 case call c=>
  obtain⟨callee,args,ats⟩:=c;simp only at ho;unfold resolve;dsimp only;rw[Tu ho.1 he];cases callee with
  |builtin b=>
   refine ae.bind (R:=λd d'=>d.target=d'.target∧(∃ts ty cs,d.target=.builtin b ts ty cs)∧d'.args=d.args.map (rv ρ)) (ae.pure ⟨rfl,⟨_,_,_,rfl⟩,rfl⟩) ?_;rintro ⟨d1,d2⟩ ⟨e1,e2⟩ ⟨h1,⟨ts,ty,cs,h2⟩,h3⟩;simp only at h1 h2 h3;subst h3;rw[←h1,h2];have hb:pC b=true:=ho.2;unfold invoke;dsimp only;unfold builtin;dsimp only;cases b<;>simp only[pC,zaU]at hb
   ·exact rW (N6 hp _ _ _)
   ·exact rW (XS _ _ _)
   ·exact rW (aab _ _ _)
   ·exact rW (aad _ _ _)
   ·exact rW (aac _ _ _)
   ·exact rW (rT _ _ _)
   ·exact rW (xp _ _ _)
  |invoke r n=>exact absurd ho.2 (by simp)
  |value f=>
   cases f with
   |func f=>
    have hff:F f=true:=ho.2;dsimp only;rw[hfn,XZ];simp only[ό];refine ae.bind (R:=λd d'=>d.target=.fn (.func f) #[]∧d'.target=.fn (.func f) #[]∧d'.args=d.args.map (rv ρ)) (ae.pure ⟨rfl,rfl,by simp⟩) ?_;rintro ⟨d1,d2⟩ ⟨e1,e2⟩ ⟨h1,h2,h3⟩;simp only at h1 h2 h3;subst h1 h2 h3;unfold invoke;dsimp only;have:=xu (F:=F) (S:=S) hp hf f (d2++#[]) hff (hF f hff);rw[Array.map_append,zcs]at this;exact this
   |tmp t=>
    dsimp only;rw[he (.tmp t) rfl];have hx:=hv (.tmp t) rfl;generalize ev (.tmp t)=v at hx;cases v with
    |func fn a b=>
     obtain⟨g,rfl,hS⟩:=hx fn a b rfl;simp only[rv,hf.f g hS,ό];refine ae.bind (R:=λd d'=>d.target=.fn (.func g) b∧d'.target=.fn (.func g) (b.map (rv ρ))∧d'.args=d.args.map (rv ρ)) (ae.pure ⟨rfl,rfl,by simp⟩) ?_;rintro ⟨d1,d2⟩ ⟨e1,e2⟩ ⟨h1,h2,h3⟩;simp only at h1 h2 h3;subst h1 h2 h3;unfold invoke;dsimp only;rw[←Array.map_append];exact xu (S:=S) hp hf g _ (hSF g hS) (hF g (hSF g hS))
    |nilFunc=>
     simp only[rv,ό];refine ae.bind (R:=λd d'=>d.target=.nil∧d'.target=.nil) (ae.pure ⟨rfl,rfl⟩) ?_;rintro ⟨d1,d2⟩ ⟨e1,e2⟩ ⟨h1,h2⟩;simp only at h1 h2;subst h1 h2;unfold invoke;exact aX _
    |_=>simp only[rv,ό];exact jG (ae.stuck _)
   |const v=>exact absurd ho.2 (by simp)
   |global g=>exact absurd ho.2 (by simp)
theorem jm (hp:Plain P ρ)(fn:Func)(tmps:Array Δ)(hu:rv ρ φ=φ):ae P ρ (VV ρ) (results fn tmps) (results fn (tmps.map (rv ρ))):=by
 unfold results;have aaf:∀t:Nat,(tmps.map (rv ρ)).getD t φ=rv ρ (tmps.getD t φ):=λt=>by
  simp only[zbE,zaz];cases tmps[t]?<;>simp[hu]
 have one:∀r:ResultVar,ae P ρ (VV ρ)
  (match r with|.tmp t=>pure (tmps.getD t φ)|.cell a t=>do loadVar t (←asAddr (tmps.getD a φ)):Sem Δ)
  (match r with|.tmp t=>pure ((tmps.map (rv ρ)).getD t φ)|.cell a t=>do loadVar t (←asAddr ((tmps.map (rv ρ)).getD a φ)):Sem Δ):=λr=>by
  cases r with
  |tmp t=>dsimp only;rw[aaf];exact ae.pure rfl
  |cell a t=>
   dsimp only;rw[aaf];refine ae.bind (DY hp _) ?_;rintro ad _ rfl;exact A0 t ad
 have all:∀l:List ResultVar,ae P ρ (λx y=>y=x.map (rv ρ))
  (l.mapM λr=>(match r with|.tmp t=>pure (tmps.getD t φ)|.cell a t=>do loadVar t (←asAddr (tmps.getD a φ)):Sem Δ))
  (l.mapM λr=>(match r with|.tmp t=>pure ((tmps.map (rv ρ)).getD t φ)|.cell a t=>do loadVar t (←asAddr ((tmps.map (rv ρ)).getD a φ)):Sem Δ)):=λl=>by
  haveI:=lawful
  induction l with
  |nil=>simp only[List.mapM_nil];exact ae.pure rfl
  |cons r l ih=>
   simp only[List.mapM_cons];refine ae.bind (one r) ?_;rintro v _ rfl;refine ae.bind ih ?_;rintro vs _ rfl;exact ae.pure rfl
 refine ae.bind (R:=λx y=>y=x.map (rv ρ)) ?_ ?_
 ·haveI:=lawful
  rw[zcJ,zcJ];refine ae.bind (f:=λl=>pure l.toArray) (f':=λl=>pure l.toArray) (all fn.results.toList) ?_;rintro l _ rfl;exact ae.pure (by simp)
 ·rintro vs _ rfl;refine ae.pure ?_;by_cases h:vs.size=1
  ·simp[VV,h]
  ·simp[VV,h,rv]
end
structure Live (b0:Nat) (ρ:Rn) (w W:χ):Prop where
 live:∀(r:Nat) (o:Obj),b0≤r→w.heap[r]?=some o→W.heap[ρ r]?=some (ro ρ o)
section
variable {P:Ω}{b0:Nat}{ρ σ:Rn}{w W:χ}
theorem Ef (v:Δ):(rv ρ v).bytes? =v.bytes?:=by cases v<;>simp[rv,Δ.bytes?]
theorem Hh (v:Δ)(bs:List UInt8):(rv ρ v).ofBytes bs=v.ofBytes bs:=by cases v<;>simp[rv,Δ.ofBytes]
theorem qw {u:Δ}{bs:List UInt8}(h:v.ofBytes bs=some u):rv ρ u=u:=by
 cases v<;>simp only[Δ.ofBytes]at h<;>(try cases h)
 ·split at h<;>(try cases h)<;>simp[rv]
 ·split at h<;>(try cases h);simp[rv]
 ·split at h<;>(try cases h);simp[rv]
 ·split at h<;>(try cases h);simp[rv]
theorem rX (c:Array Δ)(e:Θ):∀(f x stop:Nat),seenCells P (c.map (rv ρ)) e f x stop=seenCells P c e f x stop
 |0,x,stop=>rfl
 |f+1,x,stop=>by
  unfold seenCells;split
  ·rfl
  ·dsimp only;split
   ·rfl
   ·split
    ·rfl
    ·rename_i i s _;rw[zaz];cases c[i]? with
     |none=>rfl
     |some v=>
      simp only[Γ,Ef];split
      ·rfl
      ·rfl
      ·rw[rX c e f]
theorem A6 (h:Live b0 ρ w W)(hl:b0≤a.block)(hc:w.cell? a=some v):W.cell? (ra ρ a)=some (rv ρ v):=by
 unfold χ.cell? at hc ⊢;cases hh:w.heap[a.block]? with
 |none=>rw[hh]at hc;cases hc
 |some o=>
  rw[hh]at hc;have:=h.live _ o hl hh;cases o<;>simp only at hc<;>try cases hc
  simp only[ra,ro]at this ⊢;rw[this];simp only;split at hc
  ·cases hc
  ·rename_i hs;simp only[hs,zaU,if_false,zaz,hc,Γ]
theorem Eg {c:Array Δ}{e:Θ}{fz:Nat×Nat}(h1:w.heap[at_.block]?=some (.cells c e fz))(h2:W.heap[ρ at_.block]?=some (.cells (c.map (rv ρ)) e fz)):W.seen P (ra ρ at_) u (ra ρ k) atomic=(w.seen P at_ u k atomic).map λx=>(x.1.map (rv ρ),x.2):=by
 unfold χ.seen;simp only[ra,h1,h2,rX];split
 ·rfl
 ·cases plainCell P P.depth u k.off with
  |none=>rfl
  |some like=>
   simp only;cases like.bytes? with
   |none=>rfl
   |some bs=>
    simp only[Γ];cases byteOfCell P P.depth u k.off with
    |none=>rfl
    |some β=>
     simp only;split
     ·rfl
     ·cases byteOfCell P P.depth e (at_.off%P.cellsOf e)with
      |none=>rfl
      |some b0=>
       simp only[bind,Except.bind];cases seenCells P c e (bs.length+1) (at_.off/P.cellsOf e*P.bytesOf e+b0+β) (at_.off/P.cellsOf e*P.bytesOf e+b0+β+bs.length)with
       |error m=>rfl
       |ok cells=>
        simp only;cases atomic with
        |false=>rfl
        |true=>
         simp only[if_true];split
         ·rename_i s1 bs1;by_cases q1:s1=at_.off/P.cellsOf e*P.bytesOf e+b0+β<;>by_cases q2:bs1.length=bs.length<;>simp[q1,q2,Except.map,pure,Except.pure]<;>rfl
         ·rfl
theorem JJ {x:Array Δ×Θ×(Nat×Nat)×Nat×Δ×List (Nat×Nat×List UInt8)}(hx:w.seen P at_ u k atomic=.ok x):∃c e fz,w.heap[at_.block]?=some (.cells c e fz):=by
 cases hh:w.heap[at_.block]? with
 |none=>
  exfalso;unfold χ.seen at hx;simp only[hh]at hx;split at hx
  ·cases hx
  ·cases h1:plainCell P P.depth u k.off with
   |none=>rw[h1]at hx;cases hx
   |some like=>
    rw[h1]at hx;simp only at hx;cases h2:like.bytes? with
    |none=>rw[h2]at hx;cases hx
    |some bs=>
     rw[h2]at hx;simp only[Γ]at hx;cases h3:byteOfCell P P.depth u k.off with
     |none=>rw[h3]at hx;cases hx
     |some β=>rw[h3]at hx;cases hx
 |some o=>
  cases o with
  |cells c e fz=>exact⟨c,e,fz,rfl⟩
  |_=>
   exfalso;unfold χ.seen at hx;simp only[hh]at hx;split at hx
   ·cases hx
   ·cases h1:plainCell P P.depth u k.off with
    |none=>rw[h1]at hx;cases hx
    |some like=>
     rw[h1]at hx;simp only at hx;cases h2:like.bytes? with
     |none=>rw[h2]at hx;cases hx
     |some bs=>
      rw[h2]at hx;simp only[Γ]at hx;cases h3:byteOfCell P P.depth u k.off with
      |none=>rw[h3]at hx;cases hx
      |some β=>rw[h3]at hx;cases hx
theorem seen_cells {x:Array Δ×Θ×(Nat×Nat)×Nat×Δ×List (Nat×Nat×List UInt8)}{c:Array Δ}{e:Θ}{fz:Nat×Nat}(h1:w.heap[at_.block]?=some (.cells c e fz))(hx:w.seen P at_ u k atomic=.ok x):x.1=c∧x.2.1=e∧x.2.2.1=fz:=by
 unfold χ.seen at hx;simp only[h1]at hx;split at hx
 ·cases hx
 ·cases h1:plainCell P P.depth u k.off with
  |none=>rw[h1]at hx;cases hx
  |some like=>
   rw[h1]at hx;simp only at hx;cases h2:like.bytes? with
   |none=>rw[h2]at hx;cases hx
   |some bs=>
    rw[h2]at hx;simp only[Γ]at hx;cases h3:byteOfCell P P.depth u k.off with
    |none=>rw[h3]at hx;cases hx
    |some β=>
     rw[h3]at hx;simp only at hx;split at hx
     ·cases hx
     ·cases h4:byteOfCell P P.depth e (at_.off%P.cellsOf e)with
      |none=>rw[h4]at hx;cases hx
      |some b0=>
       rw[h4]at hx;simp only[bind,Except.bind]at hx;cases h5:seenCells P c e (bs.length+1) (at_.off/P.cellsOf e*P.bytesOf e+b0+β) (at_.off/P.cellsOf e*P.bytesOf e+b0+β+bs.length)with
       |error m=>rw[h5]at hx;cases hx
       |ok cells=>
        rw[h5]at hx;simp only at hx;cases atomic with
        |false=>simp only[zaU,if_false,pure,Except.pure,zbO]at hx;subst hx;exact⟨rfl,rfl,rfl⟩
        |true=>
         simp only[if_true]at hx;split at hx
         ·split at hx
          ·cases hx
          ·simp only[pure,Except.pure,zbO]at hx;subst hx;exact⟨rfl,rfl,rfl⟩
         ·cases hx
theorem rY (h:Live b0 ρ w W){ts:List Addr}(hl:b0≤at_.block)(hx:w.viewLoad P at_ u k atomic=.ok (v,ts)):∃Aq,W.viewLoad P (ra ρ at_) u (ra ρ k) atomic=.ok (v,Aq)∧(∀t∈Aq,t.block=ρ at_.block)∧(∀τ:Rn,rv τ v=v)∧at_.block<w.heap.size:=by
 unfold χ.viewLoad at hx ⊢;simp only[bind,Except.bind]at hx;cases hs:w.seen P at_ u k atomic with
 |error m=>rw[hs]at hx;cases hx
 |ok x=>
  rw[hs]at hx;obtain⟨c,e,fz,hc⟩:=JJ hs;have hW:=h.live _ _ hl hc;simp only[ro]at hW;rw[Eg hc hW,hs];simp only[Except.map,bind,Except.bind]at hx ⊢;obtain⟨x1,x2,x3,first,like,cells⟩:=x;simp only at hx ⊢;cases ho:like.ofBytes (cells.flatMap λ(x:Nat×Nat×List UInt8)=>(x.2.2.drop (first-x.2.1)).take (first+(like.bytes?.map (·.length)).getD 0-max first x.2.1))with
  |none=>rw[ho]at hx;cases hx
  |some v'=>
   rw[ho]at hx;simp only[pure,Except.pure,zbO,zaf]at hx;obtain⟨rfl,rfl⟩:=hx;refine⟨_,rfl,λt ht=>?_,λτ=>qw ho,(zaj.1 hc).1⟩;simp only[zbo]at ht;obtain⟨y,_,rfl⟩:=ht;rfl
theorem uQ {γ:Type}{F:Array Δ→γ→Except String (Array Δ)}(hF:∀c c' x,F c x=.ok c'→F (c.map (rv ρ)) x=.ok (c'.map (rv ρ))):∀(xs:List γ) {c c':Array Δ},xs.foldlM F c=.ok c'→xs.foldlM F (c.map (rv ρ))=.ok (c'.map (rv ρ))
 |[],c,c',h=>by
  simp only[List.foldlM,pure,Except.pure,zbO]at h ⊢;rw[h]
 |x::xs,c,c',h=>by
  simp only[List.foldlM,bind,Except.bind]at h ⊢;cases h1:F c x with
  |error m=>rw[h1]at h;cases h
  |ok c1=>
   rw[h1]at h;rw[hF _ _ _ h1];exact uQ hF xs h
theorem qx (h:Live b0 ρ w W){w1:χ}{ts:List Addr}(hl:b0≤at_.block)(hx:w.viewStore P at_ u k v atomic=.ok (w1,ts)):∃c c' e fz Aq,w.heap[at_.block]?=some (.cells c e fz)∧w1={ w with heap:=w.heap.setIfInBounds at_.block (.cells c' e fz) }∧(∀τ:Rn,c.map (rv τ)=c→c'.map (rv τ)=c')∧W.viewStore P (ra ρ at_) u (ra ρ k) (rv ρ v) atomic=.ok ({ W with heap:=W.heap.setIfInBounds (ρ at_.block) (.cells (c'.map (rv ρ)) e fz) },Aq)∧∀t∈Aq,t.block=ρ at_.block:=by
 unfold χ.viewStore at hx ⊢;by_cases ht:(!tight P P.depth u)=true
 ·rw[zab ht]at hx;cases hx
 rw[zaa ht]at hx ⊢;simp only[bind,Except.bind,Ef]at hx ⊢;cases hs:w.seen P at_ u k atomic with
 |error m=>rw[hs]at hx;cases hx
 |ok x=>
  rw[hs]at hx;obtain⟨c,e,fz,hc⟩:=JJ hs;have hW:=h.live _ _ hl hc;simp only[ro]at hW;obtain⟨e1,e2,e3⟩:=seen_cells hc hs;rw[Eg hc hW,hs];simp only[Except.map]at hx ⊢;obtain⟨x1,x2,x3,first,like,cells⟩:=x;simp only at hx e1 e2 e3 ⊢;subst e1;subst e2;subst e3;cases hb:v.bytes? with
  |none=>rw[hb]at hx;cases hx
  |some bytes=>
   rw[hb]at hx;simp only at hx ⊢;by_cases hsz:some bytes.length≠Γ (λx=>x.length) like.bytes?
   ·rw[zab hsz]at hx;cases hx
   rw[zaa hsz]at hx ⊢;split at hx
   ·cases hx
   ·rename_i c' hf;simp only[pure,Except.pure,zbO,zaf]at hx;obtain⟨rfl,rfl⟩:=hx;have hF:∀τ:Rn,_:=λτ=>uQ (ρ:=τ) (λc c' x hq=>by
     obtain⟨i,s,bs⟩:=x;simp only at hq ⊢;by_cases h1:(decide (s<first)||decide (s+bs.length>first+bytes.length))=true
     ·rw[zab h1]at hq;cases hq
     rw[zaa h1]at hq ⊢;by_cases h2:(decide (x3.1≤i)&&decide (i<x3.2))=true
     ·rw[zab h2]at hq;cases hq
     rw[zaa h2]at hq ⊢;rw[zaz];cases hc:c[i]? with
     |none=>rw[hc]at hq;cases hq
     |some old=>
      rw[hc]at hq;simp only[Γ,Hh]at hq ⊢;cases ho:old.ofBytes ((bytes.drop (s-first)).take bs.length)with
      |none=>rw[ho]at hq;cases hq
      |some new=>
       rw[ho]at hq;simp only[pure,Except.pure,zbO]at hq ⊢;subst hq;rw[zct,qw ho]) cells hf
    refine⟨x1,c',x2,x3,cells.map λy=>{ block:=ρ at_.block,off:=y.1 },hc,rfl,λτ Eh=>?_,?_,λt ht=>?_⟩
    ·have:=hF τ;rw[Eh,hf]at this;exact(Except.ok.inj this).symm
    ·rw[hF ρ];rfl
    ·simp only[zbo]at ht;obtain⟨y,_,rfl⟩:=ht;rfl
end
end Go.Ren
