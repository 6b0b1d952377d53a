import GoSem.Dispatch
import GoSem.Step
import Derived.Below
import Derived.Calls
import Derived.Conc.Beside
import Derived.Conc.Deaf
import Derived.Conc.Own
import Derived.Laws.AppendOwn
import Derived.Laws.Entries
import Derived.Laws.Rows
import Derived.Laws.Sem
import Derived.Lib.Builder
import Derived.Tactics
import Derived.WalkSmall
import GoSem.Core.Machine
import GoSem.Core.Sem
set_option maxHeartbeats 8000000
set_option maxRecDepth 100000
abbrev zaa:=@if_neg
abbrev zab:=@Nat.le_refl
abbrev zac:=@if_pos
abbrev zad:=@Go.RowKit.Below.refl
abbrev zae:=@Go.Calls.mono
abbrev zaf:=@Array.getElem?_eq_some_iff
abbrev zag:=@Prod.mk.injEq
abbrev zah:=@Nat.le_trans
abbrev zai:=@beq_eq_false_iff_ne
abbrev zaj:=@Bool.and_eq_true
abbrev zak:=@Go.bodyPost_ret
abbrev zal:=@congrArg
abbrev zam:=@List.mem_cons_self
abbrev zan:=@Go.RowKit.Below.setCell
abbrev zao:=@Go.Result.ok.injEq
abbrev zap:=@List.mem_cons_of_mem
abbrev zaq:=@List.getElem?_eq_getElem
abbrev zar:=@List.length_cons
abbrev zas:=@Go.heap_alloc_new
abbrev zat:=@List.all_cons
abbrev zau:=@Go.RowKit.Below.heap_setCell
abbrev zav:=@List.mem_cons
abbrev zaw:=@Nat.zero_le
abbrev zax:=@List.length_drop
abbrev zay:=@Nat.lt_or_ge
abbrev zaz:=@Option.map_eq_some_iff
abbrev zaA:=@and_true
abbrev zaB:=@Array.getElem?_setIfInBounds_ne
abbrev zaC:=@Go.RowKit.Below.alloc
abbrev zaD:=@List.map_cons
abbrev zaE:=@Array.getElem?_map
abbrev zaF:=@Option.some.inj
abbrev zaG:=@Option.some.injEq
abbrev zaH:=@Array.getElem?_eq_getElem
abbrev zaI:=@List.all_eq_true
abbrev zaJ:=@beq_iff_eq
abbrev zaK:=@Go.Lib.alloc_old
abbrev zaL:=@Nat.lt_of_lt_of_le
abbrev zaM:=@List.cons_append
abbrev zaN:=@Go.Conc.Deaf_other
abbrev zaO:=@Go.run_underlying
abbrev zaP:=@Bool.eq_iff_iff
abbrev zaQ:=@decide_eq_true_eq
abbrev zaR:=@Classical.choose_spec
abbrev zaS:=@Go.below_drewN
abbrev zaT:=@Bool.false_eq_true
abbrev zaU:=@Go.Conc.stepG_seq
abbrev zaV:=@Go.Sem.run_bind
abbrev zaW:=@Go.Result.andThen_ok
abbrev zaX:=@Go.Conc.stepG_region
abbrev zaY:=@decide_eq_false
abbrev zaZ:=@Go.Conc.stepG_region_end
abbrev zba:=@List.drop_zero
abbrev zbb:=@Go.Sem.run_pure
abbrev zbc:=@List.mem_map
abbrev zbd:=@List.getElem_mem
abbrev zbe:=@Go.Conc.mem_ofEvents
abbrev zbf:=@Option.bind_eq_some_iff
abbrev zbg:=@List.length_append
abbrev zbh:=@List.drop_succ_cons
abbrev zbi:=@decide_eq_true
abbrev zbj:=@Array.sizeOf_lt_of_mem
abbrev zbk:=@Option.map_some
abbrev zbl:=@Option.getD_some
abbrev zbm:=@List.mem_append
abbrev zbn:=@Array.toList_map
abbrev zbo:=@List.drop_drop
abbrev zbp:=@Int.toNat_natCast
abbrev zbq:=@Array.getElem?_toList
abbrev zbr:=@Go.Result.halt.injEq
abbrev zbs:=@List.getElem?_drop
abbrev zbt:=@Go.Lib.cell_of_heap
abbrev zbu:=@List.map_nil
abbrev zbv:=@Array.getElem?_setIfInBounds_self_of_lt
abbrev zbw:=@List.getElem?_append_right
abbrev zbx:=@List.length_map
abbrev zby:=@Array.getD_eq_getD_getElem?
abbrev zbz:=@List.not_mem_nil
abbrev zbA:=@List.nil_append
abbrev zbB:=@Option.getD_none
abbrev zbC:=@List.take_of_length_le
abbrev zbD:=@Int.eq_ofNat_of_zero_le
abbrev zbE:=@List.drop_of_length_le
abbrev zbF:=@List.getElem?_append_left
abbrev zbG:=@List.getElem?_map
abbrev zbH:=@Go.Stepped.next.injEq
abbrev zbI:=@Array.mem_of_getElem?
abbrev zbJ:=@Bool.and_true
abbrev zbK:=@Array.all_eq_true_iff_forall_mem
abbrev zbL:=@Bool.true_and
abbrev zbM:=@Array.length_toList
abbrev zbN:=@Except.ok.injEq
abbrev zbO:=@Go.World.ownsRow_nil
abbrev zbP:=@Array.forIn_toList
abbrev zbQ:=@Array.getElem?_eq_none
abbrev zbR:=@List.mem_toArray
abbrev zbS:=@Option.bind_some
abbrev zbT:=@List.map_toArray
abbrev zbU:=@List.drop_eq_getElem_cons
abbrev zbV:=@List.getElem?_eq_some_iff
abbrev zbW:=@List.mem_range
abbrev zbX:=@List.getD_eq_getElem?_getD
abbrev zbY:=@Go.Frame.finish_at
abbrev zbZ:=@decide_eq_false_iff_not
abbrev zca:=@List.foldl_cons
abbrev zcb:=@Array.getElem_map
abbrev zcc:=@Array.getElem?_push
abbrev zcd:=@Nat.zero_add
abbrev zce:=@List.eq_nil_of_length_eq_zero
abbrev zcf:=@List.append_assoc
abbrev zcg:=@List.mem_singleton
abbrev zch:=@Array.map_map
abbrev zci:=@Array.mem_iff_getElem
abbrev zcj:=@List.cons.injEq
abbrev zck:=@List.map_append
abbrev zcl:=@List.any_eq_true
abbrev zcm:=@List.lookup_cons
abbrev zcn:=@Array.map_empty
abbrev zco:=@Array.map_setIfInBounds
abbrev zcp:=@Array.getElem?_modify
abbrev zcq:=@Array.size_push
abbrev zcr:=@Nat.eq_zero_or_pos
abbrev zcs:=@List.foldl_append
abbrev zct:=@Int.gcd_pos_of_ne_zero_right
abbrev zcu:=@List.take_succ_cons
abbrev zcv:=@List.replicate_succ
abbrev zcw:=@Go.World.ownsRow.alloc
abbrev zcx:=@Go.World.ownsRow.lt
abbrev zcy:=@Option.isSome_iff_exists
abbrev zcz:=@Array.getElem?_push_size
abbrev zcA:=@List.take_succ_eq_append_getElem
abbrev zcB:=@Option.isSome_none
abbrev zcC:=@List.mem_of_getElem?
abbrev zcD:=@Nat.lt_of_le_of_lt
abbrev zcE:=@List.getElem?_eq_none
abbrev zcF:=@Array.mapM_eq_mapM_toList
abbrev zcG:=@Array.getElem?_setIfInBounds
abbrev zcH:=@List.getElem?_replicate
open Option renaming map→Γ
open Go renaming Value→Δ,TypeId→Θ,MapEntry→Φ,Program→Ω,zeroValue→ι,Operand→υ,undef→φ,World→χ,FuncId→ϊ,typeInfo→ύ,execOp→ϐ
open Go.Builtin renaming firstCells→Λ,holdsCells→η,zeroCells→θ,unsafeString_→ξ,unsafeSliceData_→π
open Go.Sem renaming bind→Ξ
open Go.Conv renaming bytesToString→ζ
open Go.Instr renaming loadAt→ψ,sureAddr→ω,findNow→ώ
open Go.Op renaming equalIn→ϋ
open Go.Deferred renaming ofValue→ό
namespace Go.Ren
structure Rn where
 b:Nat→Nat
 f:Fn→Fn
 d:Nat
instance:CoeFun Rn (λ_=>Nat→Nat):=⟨Rn.b⟩
def ra (ρ:Rn)(a:Addr):Addr:={ a with block:=ρ a.block }
def rv (ρ:Rn):Δ→Δ
 |.pointer a=> .pointer (a.map (ra ρ))
 |.slice a l c=> .slice (a.map (ra ρ)) l c
 |.map r=> .map (r.map ρ.b)
 |.chan r=> .chan (r.map ρ.b)
 |.func fn first captured=> .func (ρ.f fn) (first.map (rv ρ)) (captured.map (rv ρ))
 |.iface t v=> .iface t (rv ρ v)
 |.agg cs=> .agg (cs.map (rv ρ))
 |.tuple vs=> .tuple (vs.map (rv ρ))
 |.bool b=> .bool b
 |.int k n=> .int k n
 |.float k n=> .float k n
 |.complex k a b=> .complex k a b
 |.string s=> .string s
 |.nilFunc=> .nilFunc
 |.nilIface=> .nilIface
def ro (ρ:Rn):Obj→Obj
 |.cells c t f=> .cells (c.map (rv ρ)) t f
 |.map es c=> .map (es.map λe=>{ e with key:=rv ρ e.key,val:=rv ρ e.val }) c
 |.view a t=> .view (ra ρ a) t
 |.number a b=> .number (ra ρ a) b
 |.pending c t=> .pending (c.map (rv ρ)) t
 |.chan cap buf cl s r t=> .chan cap (buf.map (rv ρ)) cl s r t
 |o=>o
def rm (ρ:Rn):Mark→Mark
 |.acquire a=> .acquire (ra ρ a)
 |.release a=> .release (ra ρ a)
 |.releaseMerge a=> .releaseMerge (ra ρ a)
 |.read a=> .read (ra ρ a)
 |.write a=> .write (ra ρ a)
 |m=>m
def mP:Obj→Prop
 |.cells .. |.view .. |.number .. |.map ..=>True
 |_=>False
def MOk:Mark→Prop
 |.extern _|.noRoom=>True
 |_=>False
def Fs:Halt→Prop
 |.panic _|.stuck _=>True
 |.unsupported (.initOrder _)=>False
 |.unsupported _=>True
 |_=>False
def Bw (P:Ω)(ρ:Rn):Prop:=∀r,ρ r<P.globals.size↔r<P.globals.size
def GV (P:Ω)(ρ:Rn)(v:Δ):Prop:=Bw P ρ∨rv ρ v=v
def GA (P:Ω)(ρ:Rn)(a:Addr):Prop:=Bw P ρ∨ra ρ a=a
def GO (P:Ω)(ρ:Rn)(o:Obj):Prop:=Bw P ρ∨ro ρ o=o
def PV:Obj→Prop
 |.map ..=>True
 |_=>False
def Tm {α:Type}(Q:α→Prop):Sem α→Prop
 |.pure a=>Q a
 |.halt h=>Fs h
 |.program k=>∀p,Tm Q (k p)
 |.new _ k=>∀r,Tm Q (k r)
 |.sys _ k=>∀x,Tm Q (k x)
 |_=>False
theorem Tm.bind {α β:Type}{Q:α→Prop}{R:β→Prop}{f:α→Sem β}(hf:∀a,Q a→Tm R (f a)):∀{s:Sem α},Tm Q s→Tm R (s>>=f)
 |.pure a,h=>hf a h
 |.halt _,h=>h
 |.program _k,h=>λp=>Tm.bind hf (h p)
 |.new _ _k,h=>λr=>Tm.bind hf (h r)
 |.sys _ _k,h=>λx=>Tm.bind hf (h x)
 |.load ..,h=>h.elim
 |.store ..,h=>h.elim
 |.shape ..,h=>h.elim
 |.freeze ..,h=>h.elim
 |.frozen ..,h=>h.elim
 |.getObj ..,h=>h.elim
 |.setObj ..,h=>h.elim
 |.choose ..,h=>h.elim
 |.mark ..,h=>h.elim
def aa (P:Ω)(ρ:Rn){α β:Type}(R:α→β→Prop):Sem α→Sem β→Prop
 |.pure a,s=>∃b,s=.pure b∧R a b
 |.load m a k,s=>a.block<ρ.d∨∃k',s=.load m (ra ρ a) k'∧∀v,aa P ρ R (k v) (k' (rv ρ v))
 |.store m a v k,s=>∃k',s=.store m (ra ρ a) (rv ρ v) k'∧aa P ρ R k k'
 |.new o k,s=>mP o∧∃k',s=.new (ro ρ o) k'∧∀r,aa P ρ R (k r) (k' (ρ r))
 |.shape r k,s=>∃k',s=.shape (ρ r) k'∧∀x,aa P ρ R (k x) (k' x)
 |.freeze a n k,s=>∃k',s=.freeze (ra ρ a) n k'∧aa P ρ R k k'
 |.frozen a k,s=>∃k',s=.frozen (ra ρ a) k'∧∀b,aa P ρ R (k b) (k' b)
 |.getObj r k,s=>∃k',s=.getObj (ρ r) k'∧∀o,GO P ρ o→aa P ρ R (k o) (k' (ro ρ o))
 |.setObj r o k,s=>PV o∧∃k',s=.setObj (ρ r) (ro ρ o) k'∧aa P ρ R k k'
 |.choose q k,s=>∃k',s=.choose q k'∧∀n,aa P ρ R (k n) (k' n)
 |.sys _ k,_=>∀x,Tm (λ_=>False) (k x)
 |.program k,s=>∃k',s=.program k'∧aa P ρ R (k P) (k' P)
 |.mark m k,s=>MOk m∧∃k',s=.mark m k'∧aa P ρ R k k'
 |.halt h,_=>Fs h
section
variable {P:Ω}{ρ:Rn}{α β α' β':Type}
theorem aa.bind {R:α→β→Prop}{R':α'→β'→Prop}:∀{s:Sem α} {s':Sem β} {f:α→Sem α'} {f':β→Sem β'},aa P ρ R s s'→(∀a b,R a b→aa P ρ R' (f a) (f' b))→aa P ρ R' (s>>=f) (s'>>=f')
 |.pure a,s',f,f',⟨b,e,h⟩,hf=>by subst e;exact hf a b h
 |.load m a k,s',f,f',h,hf=>by
  rcases h with h|⟨k',e,h⟩
  ·exact .inl h
  ·subst e;exact .inr ⟨_,rfl,λv=>aa.bind (h v) hf⟩
 |.store m a v k,s',f,f',⟨k',e,h⟩,hf=>by subst e;exact⟨_,rfl,aa.bind h hf⟩
 |.new o k,s',f,f',⟨o1,k',e,h⟩,hf=>by subst e;exact⟨o1,_,rfl,λr=>aa.bind (h r) hf⟩
 |.shape r k,s',f,f',⟨k',e,h⟩,hf=>by subst e;exact⟨_,rfl,λr=>aa.bind (h r) hf⟩
 |.freeze a n k,s',f,f',⟨k',e,h⟩,hf=>by subst e;exact⟨_,rfl,aa.bind h hf⟩
 |.frozen a k,s',f,f',⟨k',e,h⟩,hf=>by subst e;exact⟨_,rfl,λr=>aa.bind (h r) hf⟩
 |.getObj r k,s',f,f',⟨k',e,h⟩,hf=>by subst e;exact⟨_,rfl,λr hr=>aa.bind (h r hr) hf⟩
 |.setObj r o k,s',f,f',⟨o1,k',e,h⟩,hf=>by subst e;exact⟨o1,_,rfl,aa.bind h hf⟩
 |.choose q k,s',f,f',⟨k',e,h⟩,hf=>by subst e;exact⟨_,rfl,λr=>aa.bind (h r) hf⟩
 |.sys q k,s',f,f',h,hf=>λx=>Tm.bind (λ_ q=>q.elim) (h x)
 |.program k,s',f,f',⟨k',e,h⟩,hf=>by subst e;exact⟨_,rfl,aa.bind h hf⟩
 |.mark m k,s',f,f',⟨o,k',e,h⟩,hf=>by subst e;exact⟨o,_,rfl,aa.bind h hf⟩
 |.halt h,s',f,f',e,hf=>e
theorem aa.pure {R:α→β→Prop}{a:α}{b:β}(h:R a b):aa P ρ R (Pure.pure a) (Pure.pure b):=⟨b,rfl,h⟩
theorem aa.stuck {R:α→β→Prop}{s':Sem β}(w:String):aa P ρ R (stuck w) s':=trivial
theorem aa.unsupported {R:α→β→Prop}{s':Sem β}(u:Unsupported)(h:Fs (.unsupported u):=by trivial):aa P ρ R (unsupported u) s':=h
abbrev VV (ρ:Rn):Δ→Δ→Prop:=λv v'=>v'=rv ρ v
abbrev AA (ρ:Rn):Addr→Addr→Prop:=λa a'=>a'=ra ρ a
theorem yz (a:Addr):aa P ρ (VV ρ) (load a) (load (ra ρ a)):= .inr ⟨_,rfl,λ_v=>⟨_,rfl,rfl⟩⟩
theorem Vm (a:Addr)(v:Δ):aa P ρ Eq (store a v) (store (ra ρ a) (rv ρ v)):=⟨_,rfl,⟨_,rfl,rfl⟩⟩
theorem mQ (o:Obj)(h:mP o:=by trivial):aa P ρ (λr r'=>r'=ρ r) (newObj o) (newObj (ro ρ o)):=⟨h,_,rfl,λ_r=>⟨_,rfl,rfl⟩⟩
theorem cz:aa P ρ (λp p'=>P=p∧P=p') program program:=⟨_,rfl,⟨_,rfl,rfl,rfl⟩⟩
theorem iD (q:Question):aa P ρ Eq (choose q) (choose q):=⟨_,rfl,λ_=>⟨_,rfl,rfl⟩⟩
theorem eH (t:Θ):aa P ρ (λi i'=>i'=i∧P.info? t=some i) (ύ t) (ύ t):=by
 unfold ύ;refine aa.bind cz ?_;rintro _ _ ⟨rfl,rfl⟩;split
 ·rename_i i h;exact aa.pure ⟨rfl,h⟩
 ·exact aa.stuck _
theorem au (t:Θ):aa P ρ (λi i'=>i'=i∧P.underlying t=some i) (underlying t) (underlying t):=by
 unfold underlying;refine aa.bind cz ?_;rintro _ _ ⟨rfl,rfl⟩;split
 ·rename_i i h;exact aa.pure ⟨rfl,h⟩
 ·exact aa.stuck _
theorem ku (a:Addr)(i:Nat):(ra ρ a).add i=ra ρ (a.add i):=by unfold ra Addr.add;split<;>rfl
theorem oV (a:Addr):∀(n i:Nat) (acc:Array Δ),aa P ρ (λx y=>y=x.map (rv ρ)) (loadCellsFrom a i n acc) (loadCellsFrom (ra ρ a) i n (acc.map (rv ρ)))
 |0,i,acc=>aa.pure rfl
 |n+1,i,acc=>by
  unfold loadCellsFrom;rw[ku];refine aa.bind (yz _) ?_;rintro v _ rfl;have:=oV a n (i+1) (acc.push v);rwa[Array.map_push]at this
theorem pC (a:Addr)(n:Nat):aa P ρ (λx y=>y=x.map (rv ρ)) (loadCells a n) (loadCells (ra ρ a) n):=by
 have:=oV (P:=P) (ρ:=ρ) a n 0 #[];rwa[zcn]at this
theorem xG (t:Θ):aa P ρ Eq (isAgg t) (isAgg t):=by
 unfold isAgg;refine aa.bind (au t) ?_;rintro d d' ⟨e,_⟩;subst e;cases d'<;>exact aa.pure rfl
theorem cd (t:Θ):aa P ρ Eq (sizeOf t) (sizeOf t):=by
 unfold sizeOf;refine aa.bind (eH t) ?_;rintro d _ ⟨rfl,_⟩;exact aa.pure rfl
theorem BZ (t:Θ)(a:Addr):aa P ρ (VV ρ) (loadVar t a) (loadVar t (ra ρ a)):=by
 unfold loadVar;refine aa.bind (xG t) ?_;rintro b _ rfl;cases b
 ·exact yz a
 ·refine aa.bind (cd t) ?_;rintro n _ rfl;refine aa.bind (pC a n) ?_;rintro cs _ rfl;exact aa.pure (by simp only[VV,rv])
theorem kK (a:Addr):∀(vs:List Δ) (i:Nat),aa P ρ Eq (storeCells a vs i) (storeCells (ra ρ a) (vs.map (rv ρ)) i)
 |[],i=>aa.pure rfl
 |v::r,i=>by
  unfold storeCells;simp only[zaD];rw[ku];exact aa.bind (Vm _ v) (λ_ _ _=>kK a r (i+1))
theorem jT (v:Δ):(rv ρ v).cells=v.cells.map (rv ρ):=by
 cases v<;>simp[rv,Δ.cells]
theorem Ju (t:Θ)(a:Addr)(v:Δ):aa P ρ Eq (storeVar t a v) (storeVar t (ra ρ a) (rv ρ v)):=by
 unfold storeVar;refine aa.bind (cd t) ?_;rintro n _ rfl;rw[jT,Array.size_map];split
 ·exact aa.stuck _
 ·rw[zbn];exact kK a _ 0
theorem lj (v:Δ):aa P ρ (AA ρ) (ω v) (ω (rv ρ v)):=by
 cases v with
 |pointer a=>
  cases a with
  |none=>simp only[rv,Γ,ω];exact aa.stuck _
  |some a=>simp only[rv,Γ,ω];exact aa.pure rfl
 |_=>simp only[rv,ω];exact aa.stuck _
theorem Fu (t:Θ)(v:Δ):aa P ρ (VV ρ) (ψ t v) (ψ t (rv ρ v)):=by
 unfold ψ;refine aa.bind (lj v) ?_;rintro a _ rfl;exact BZ t a
theorem MX (t:Θ)(v x:Δ):aa P ρ Eq (Instr.storeAt t v x) (Instr.storeAt t (rv ρ v) (rv ρ x)):=by
 unfold Instr.storeAt;refine aa.bind (lj v) ?_;rintro a _ rfl;exact Ju t a x
theorem qN (v:Δ):aa P ρ Eq (asIntOf v) (asIntOf (rv ρ v)):=by
 cases v with
 |pointer a=>cases a<;>(simp only[rv,Γ,asIntOf];first|exact aa.stuck _|exact aa.unsupported _)
 |int k n=>simp only[rv,asIntOf];exact aa.pure rfl
 |_=>simp only[rv,asIntOf];exact aa.stuck _
theorem nW (v:Δ):aa P ρ Eq (asInt v) (asInt (rv ρ v)):=by
 unfold asInt;refine aa.bind (qN v) ?_;rintro x _ rfl;exact aa.pure rfl
theorem yA (v:Δ):aa P ρ Eq (asBool v) (asBool (rv ρ v)):=by
 cases v with
 |bool b=>simp only[rv,asBool];exact aa.pure rfl
 |_=>simp only[rv,asBool];exact aa.stuck _
theorem Vn (v:Δ):aa P ρ (λx y=>y=x.map (rv ρ)) (asAgg v) (asAgg (rv ρ v)):=by
 cases v with
 |agg b=>simp only[rv,asAgg];exact aa.pure rfl
 |_=>simp only[rv,asAgg];exact aa.stuck _
structure Plain (P:Ω) (ρ:Rn):Prop where
 zero:∀t i v,P.info? t=some i→i.zero=some v→rv ρ v=v
 inj:∀a b,ρ a=ρ b→a=b
theorem eu (hp:Plain P ρ)(t:Θ):aa P ρ (λv v'=>v'=v∧rv ρ v=v) (ι t) (ι t):=by
 unfold ι;refine aa.bind (eH t) ?_;rintro i i' ⟨e,hi⟩;subst e;split
 ·rename_i v hv;exact aa.pure ⟨rfl,hp.zero t _ v hi hv⟩
 ·exact aa.unsupported _
theorem sV (t:Θ)(cs:Array Δ):aa P ρ (AA ρ) (newRow t cs) (newRow t (cs.map (rv ρ))):=by
 unfold newRow;refine aa.bind (mQ (.cells cs t)) ?_;rintro r _ rfl;exact aa.pure rfl
theorem yB (t:Θ)(v:Δ):aa P ρ (AA ρ) (newVar t v) (newVar t (rv ρ v)):=by
 unfold newVar;rw[jT];exact sV t _
theorem pD (t:Θ)(cs:Array Δ)(o:Nat):aa P ρ (VV ρ) (part t cs o) (part t (cs.map (rv ρ)) o):=by
 unfold part;refine aa.bind (xG t) ?_;rintro b _ rfl;cases b
 ·simp only[zaE,zaT,if_false];cases cs[o]? with
  |none=>exact aa.stuck _
  |some v=>exact aa.pure rfl
 ·simp only[if_true];refine aa.bind (cd t) ?_;rintro n _ rfl;exact aa.pure (by simp only[VV,rv];rw[Array.map_extract])
theorem nX {R:α→β→Prop}{s':Sem β}(v:Δ):aa P ρ R (goPanic v) s':=trivial
theorem yC (t:Θ):aa P ρ Eq (elemOf t) (elemOf t):=by
 unfold elemOf;refine aa.bind (au t) ?_;rintro d d' ⟨e,_⟩;subst e;cases d'<;>first|exact aa.stuck _|exact aa.pure rfl
def RuntimeError.adx:RuntimeError→Bool
 |.typeAssertion ..=>false
 |_=>true
theorem aM {R:α→β→Prop}(e:RuntimeError)(he:RuntimeError.adx e=true:=by rfl):aa P ρ R (runtimePanic e) (runtimePanic e):=by
 unfold runtimePanic;refine aa.bind cz ?_;rintro _ _ ⟨rfl,rfl⟩;cases e with
 |bounds x y s c=>exact nX _
 |error m=>exact nX _
 |plain m=>exact nX _
 |nilDeref=>exact nX _
 |typeAssertion i c a m=>cases he
 |panicNil=>
  simp only;refine aa.bind (yC _) ?_;rintro t _ rfl;have hv:=yB (P:=P) (ρ:=ρ) t (.agg #[]);simp only[rv,zcn]at hv;refine aa.bind hv ?_;rintro r _ rfl;exact nX _
 |unhashable t=>exact nX _
theorem Fv (_hp:Plain P ρ)(v:Δ):aa P ρ (AA ρ) (asAddr v) (asAddr (rv ρ v)):=by
 cases v with
 |pointer a=>
  cases a with
  |none=>simp only[rv,Γ,asAddr];exact aM _
  |some a=>simp only[rv,Γ,asAddr];exact aa.pure rfl
 |_=>simp only[rv,asAddr];exact aa.stuck _
theorem gM {R:α→β→Prop}(_hp:Plain P ρ)(k:IntKind)(x y:Int)(c:BoundsCode):aa P ρ R (boundsPanic k x y c) (boundsPanic k x y c):=by
 unfold boundsPanic;dsimp only;split
 ·refine aa.bind (R:=Eq) ?_ ?_
  ·refine aa.bind (iD _) ?_;rintro n _ rfl;exact aa.pure rfl
  ·rintro b _ rfl;exact aM _
 ·refine aa.bind (R:=Eq) (aa.pure rfl) ?_;rintro b _ rfl;exact aM _
theorem aa.aj {R:α→β→Prop}{c:Prop} [Decidable c] {s t:Sem α}{s' t':Sem β}(h1:c→aa P ρ R s s')(h2:¬c→aa P ρ R t t'):aa P ρ R (if c then s else t) (if c then s' else t'):=by
 split
 ·exact h1 ‹_›
 ·exact h2 ‹_›
theorem Vo (hp:Plain P ρ)(t:Θ):aa P ρ (VV ρ) (Instr.alloc t true (.tuple #[])) (Instr.alloc t true (.tuple #[])):=by
 unfold Instr.alloc;refine aa.bind (eu hp t) ?_;rintro v v' ⟨e,hv⟩;subst e;have:=yB (P:=P) (ρ:=ρ) t v';rw[hv]at this;refine aa.bind this ?_;rintro a _ rfl;exact aa.pure (by simp[VV,rv])
theorem abc (t:Θ)(v:Δ):aa P ρ (VV ρ) (Instr.box t v) (Instr.box t (rv ρ v)):=by
 unfold Instr.box;refine aa.bind (yB t v) ?_;rintro a _ rfl;exact aa.pure (by simp[VV,rv])
theorem zipIdx_map (l:List Δ)(k:Nat):∀(off:Nat) (cs:Array Δ),(((l.map (rv ρ)).zipIdx k).foldl (λcs (x:Δ×Nat)=>cs.setIfInBounds (off+x.2) x.1) (cs.map (rv ρ)):Array Δ)=((l.zipIdx k).foldl (λcs (x:Δ×Nat)=>cs.setIfInBounds (off+x.2) x.1) cs).map (rv ρ):=by
 induction l generalizing k with
 |nil=>intro off cs;rfl
 |cons v r ih=>
  intro off cs;simp only[zaD,List.zipIdx_cons,zca];rw[←zco];exact ih (k+1) off _
theorem Jv (place:Nat→Option (Nat×Nat)):∀(l:List (Nat×Δ)) (cs:Array Δ),Instr.fill place (cs.map (rv ρ)) (l.map λx=>(x.1,rv ρ x.2))=(Instr.fill place cs l).map (λx=>x.map (rv ρ))
 |[],cs=>rfl
 |(i,v)::r,cs=>by
  simp only[zaD,Instr.fill];cases place i with
  |none=>rfl
  |some p=>
   obtain⟨off,size⟩:=p;simp only[jT,Array.size_map];split
   ·rfl
   ·rw[←Jv place r]
    congr 1
    have:=zipIdx_map (ρ:=ρ) v.cells.toList 0 off cs;rw[←Array.foldl_toList,←Array.foldl_toList,Array.toList_zipIdx,Array.toList_zipIdx,zbn];exact this
theorem bind_assoc' {γ δ ε:Type}:∀(s:Sem γ) (f:γ→Sem δ) (g:δ→Sem ε),(s.bind f).bind g=s.bind λx=>(f x).bind g
 |.pure a,f,g=>rfl
 |.load m a k,f,g=>by simp only[Ξ];congr 1;funext v;exact bind_assoc' (k v) f g
 |.store m a v k,f,g=>by simp only[Ξ];congr 1;exact bind_assoc' k f g
 |.new o k,f,g=>by simp only[Ξ];congr 1;funext v;exact bind_assoc' (k v) f g
 |.shape o k,f,g=>by simp only[Ξ];congr 1;funext v;exact bind_assoc' (k v) f g
 |.freeze a n k,f,g=>by simp only[Ξ];congr 1;exact bind_assoc' k f g
 |.frozen o k,f,g=>by simp only[Ξ];congr 1;funext v;exact bind_assoc' (k v) f g
 |.getObj o k,f,g=>by simp only[Ξ];congr 1;funext v;exact bind_assoc' (k v) f g
 |.setObj a n k,f,g=>by simp only[Ξ];congr 1;exact bind_assoc' k f g
 |.choose o k,f,g=>by simp only[Ξ];congr 1;funext v;exact bind_assoc' (k v) f g
 |.sys o k,f,g=>by simp only[Ξ];congr 1;funext v;exact bind_assoc' (k v) f g
 |.program k,f,g=>by simp only[Ξ];congr 1;funext v;exact bind_assoc' (k v) f g
 |.mark m k,f,g=>by simp only[Ξ];congr 1;exact bind_assoc' k f g
 |.halt h,f,g=>rfl
theorem bind_pure' {γ:Type}:∀(s:Sem γ),s.bind Sem.pure=s
 |.pure a=>rfl
 |.load m a k=>by simp only[Ξ];congr 1;funext v;exact bind_pure' (k v)
 |.store m a v k=>by simp only[Ξ];congr 1;exact bind_pure' k
 |.new o k=>by simp only[Ξ];congr 1;funext v;exact bind_pure' (k v)
 |.shape o k=>by simp only[Ξ];congr 1;funext v;exact bind_pure' (k v)
 |.freeze a n k=>by simp only[Ξ];congr 1;exact bind_pure' k
 |.frozen o k=>by simp only[Ξ];congr 1;funext v;exact bind_pure' (k v)
 |.getObj o k=>by simp only[Ξ];congr 1;funext v;exact bind_pure' (k v)
 |.setObj a n k=>by simp only[Ξ];congr 1;exact bind_pure' k
 |.choose o k=>by simp only[Ξ];congr 1;funext v;exact bind_pure' (k v)
 |.sys o k=>by simp only[Ξ];congr 1;funext v;exact bind_pure' (k v)
 |.program k=>by simp only[Ξ];congr 1;funext v;exact bind_pure' (k v)
 |.mark m k=>by simp only[Ξ];congr 1;exact bind_pure' k
 |.halt h=>rfl
theorem lawful:LawfulMonad Sem:=LawfulMonad.mk' Sem (id_map:=λx=>bind_pure' x) (pure_bind:=λ_ _=>rfl) (bind_assoc:=λx f g=>bind_assoc' x f g)
theorem PW {γ:Type}{f f':γ→Sem α}(hf:∀x,aa P ρ Eq (f x) (f' x)):∀(l:List γ),aa P ρ Eq (l.mapM f) (l.mapM f')
 |[]=>by haveI:=lawful;simp only[List.mapM_nil];exact aa.pure rfl
 |x::r=>by
  haveI:=lawful
  simp only[List.mapM_cons];refine aa.bind (hf x) ?_;rintro a _ rfl;refine aa.bind (PW hf r) ?_;rintro as _ rfl;exact aa.pure rfl
theorem Vp {γ:Type}{f f':γ→Sem α}(hf:∀x,aa P ρ Eq (f x) (f' x))(l:Array γ):aa P ρ Eq (l.mapM f) (l.mapM f'):=by
 haveI:=lawful
 rw[zcF,zcF];refine aa.bind (PW hf l.toList) ?_;rintro as _ rfl;exact aa.pure rfl
theorem Vq (hp:Plain P ρ)(t:Θ)(parts:Array (Nat×Δ)):aa P ρ (VV ρ) (Instr.build t parts) (Instr.build t (parts.map λx=>(x.1,rv ρ x.2))):=by
 unfold Instr.build;refine aa.bind (eu hp t) ?_;rintro v v' ⟨e,hv⟩;subst e;refine aa.bind (au t) ?_;rintro d d' ⟨e,_⟩;subst e;have hz:v'.cells.map (rv ρ)=v'.cells:=by rw[←jT,hv]
 have hf:=λplace=>Jv (ρ:=ρ) place parts.toList v'.cells;simp only[hz]at hf;cases d' with
 |struct fields=>
  simp only;refine aa.bind (Vp (λf=>?_) fields) ?_
  ·refine aa.bind (cd f.type) ?_;rintro n _ rfl;exact aa.pure rfl
  ·rintro pl _ rfl;rw[zbn,hf];cases Instr.fill (λx=>pl[x]?) v'.cells parts.toList with
   |none=>exact aa.stuck _
   |some cs=>exact aa.pure (by simp[VV,rv])
 |array n e=>
  simp only;refine aa.bind (cd e) ?_;rintro sz _ rfl;rw[zbn,hf];cases Instr.fill (λi=>some (i*sz,sz)) v'.cells parts.toList with
  |none=>exact aa.stuck _
  |some cs=>exact aa.pure (by simp[VV,rv])
 |_=>exact aa.stuck _
theorem MZ (v:Δ)(i:Nat):aa P ρ (VV ρ) (Instr.extract v i) (Instr.extract (rv ρ v) i):=by
 cases v with
 |tuple vs=>
  simp only[rv,Instr.extract,zaE];cases vs[i]? with
  |none=>exact aa.stuck _
  |some v=>exact aa.pure rfl
 |_=>simp only[rv,Instr.extract];exact aa.stuck _
theorem Dm (hp:Plain P ρ)(v:Δ)(y:Nat)(c:BoundsCode):aa P ρ Eq (Instr.sliceBound v y c) (Instr.sliceBound (rv ρ v) y c):=by
 unfold Instr.sliceBound;refine aa.bind (qN v) ?_;rintro x _ rfl;refine aa.aj (λ_=>aa.pure rfl) (λ_=>gM hp _ _ _ _)
theorem rD (hp:Plain P ρ)(b:Bool)(len cap:Nat)(lo hi mx:Option Δ):aa P ρ Eq (Instr.sliceBounds b len cap lo hi mx) (Instr.sliceBounds b len cap (lo.map (rv ρ)) (hi.map (rv ρ)) (mx.map (rv ρ))):=by
 have hb:=λv y c=>Dm (P:=P) (ρ:=ρ) hp v y c;unfold Instr.sliceBounds;cases mx<;>cases hi<;>cases lo<;>simp only[Γ,Option.isSome];all_goals
  repeat' first
   |exact aa.pure rfl
   |exact aa.stuck _
   |(refine aa.bind (R:=Eq) (aa.pure rfl) ?_;rintro _ _ rfl)
   |(refine aa.bind (hb _ _ _) ?_;rintro _ _ rfl)
   |(refine aa.bind (R:=Eq) (aa.stuck _) ?_;rintro _ _ rfl)
theorem Vr (a:Option Addr)(n:Nat):(a.map (ra ρ)).map (·.add n)=(a.map (·.add n)).map (ra ρ):=by
 cases a with
 |none=>rfl
 |some a=>simp[ku]
theorem Vs (hp:Plain P ρ)(t:Θ)(x:Δ)(lo hi mx:Option Δ):aa P ρ (VV ρ) (Instr.slice t x lo hi mx) (Instr.slice t (rv ρ x) (lo.map (rv ρ)) (hi.map (rv ρ)) (mx.map (rv ρ))):=by
 have hs:=λb len cap mx=>rD (P:=P) (ρ:=ρ) hp b len cap lo hi mx;have ha:=Fv hp x;unfold Instr.slice;refine aa.bind (au t) ?_;rintro d d' ⟨e,_⟩;subst e;cases d'<;>cases x<;>simp only[rv]at ha ⊢<;>try exact aa.stuck _
 case string.string=>
  simp only[Option.isSome_map];refine aa.aj (λ_=>aa.bind (R:=Eq) (aa.stuck _) (λ_ _ _=>?_)) (λ_=>?_);all_goals
   refine aa.bind (hs _ _ _ none) ?_;rintro b _ rfl;exact aa.pure (by simp[VV,rv])
 case slice.slice=>
  refine aa.bind (hs _ _ _ mx) ?_;rintro b _ rfl;refine aa.bind (cd _) ?_;rintro n _ rfl;refine aa.pure ?_;simp only[VV,rv,Vr];split<;>rfl
 all_goals
  refine aa.bind ha ?_;rintro a _ rfl;refine aa.bind (au _) ?_;rintro d d' ⟨e,_⟩;subst e;cases d' with
  |array n e=>
   refine aa.bind (hs _ _ _ mx) ?_;rintro b _ rfl;refine aa.bind (cd e) ?_;rintro n _ rfl;refine aa.pure ?_;simp only[VV,rv,Γ,ku];split<;>rfl
  |_=>exact aa.stuck _
theorem M0 (hp:Plain P ρ)(t:Θ)(x:Δ)(lo hi mx:Option Δ):aa P ρ (VV ρ) (Instr.sliceAt t x lo hi mx) (Instr.sliceAt t (rv ρ x) (lo.map (rv ρ)) (hi.map (rv ρ)) (mx.map (rv ρ))):=by
 have hs:=λb len cap mx=>rD (P:=P) (ρ:=ρ) hp b len cap lo hi mx;unfold Instr.sliceAt;refine aa.bind (au t) ?_;rintro d d' ⟨e,_⟩;subst e;cases d' with
 |array n e=>
  refine aa.bind (lj x) ?_;rintro a _ rfl;refine aa.bind (hs _ _ _ mx) ?_;rintro b _ rfl;refine aa.bind (cd e) ?_;rintro n _ rfl;refine aa.pure ?_;simp only[VV,rv,Γ,ku];split<;>rfl
 |_=>exact Vs hp t x lo hi mx
theorem Vt (hp:Plain P ρ)(t:Θ)(x i:Δ):aa P ρ (VV ρ) (Instr.index t x i) (Instr.index t (rv ρ x) (rv ρ i)):=by
 unfold Instr.index;refine aa.bind (qN i) ?_;rintro k _ rfl;refine aa.bind (au t) ?_;rintro d d' ⟨e,_⟩;subst e;cases d'<;>cases x<;>simp only[rv]<;>try exact aa.stuck _
 case array.agg=>
  refine aa.aj (λ_=>?_) (λ_=>gM hp _ _ _ _);refine aa.bind (cd _) ?_;rintro m _ rfl;exact pD _ _ _
 case string.string=>
  split
  ·exact aa.pure (by simp[VV,rv])
  ·exact gM hp _ _ _ _
theorem M3 (hp:Plain P ρ)(t:Θ)(x i:Δ):aa P ρ (VV ρ) (Instr.indexAt t x i) (Instr.indexAt t (rv ρ x) (rv ρ i)):=by
 have Fw:=lj (P:=P) (ρ:=ρ) x;have tail:∀(k:IntKind×Int) (base:Option Addr) (len:Nat) (elem:Θ),aa P ρ (VV ρ)
  (do let d ←underlying t
      match base with
      |some a=>
       if 0≤k.2∧k.2<len then do let n ←sizeOf elem;pure (.pointer (some (a.add (k.2.toNat*n))))
       else if(decide (len≤1)&&(match d with|.array ..=>true|_=>false))=true then unsupported (.noEntry "op/indexAddr.an index out of range at an array of length 0 or 1 (ledger 616)")
       else boundsPanic k.1 k.2 len .index
      |none=>boundsPanic k.1 k.2 0 .index)
  (do let d ←underlying t
      match base.map (ra ρ)with
      |some a=>
       if 0≤k.2∧k.2<len then do let n ←sizeOf elem;pure (.pointer (some (a.add (k.2.toNat*n))))
       else if(decide (len≤1)&&(match d with|.array ..=>true|_=>false))=true then unsupported (.noEntry "op/indexAddr.an index out of range at an array of length 0 or 1 (ledger 616)")
       else boundsPanic k.1 k.2 len .index
      |none=>boundsPanic k.1 k.2 0 .index):=by
  intro k base len elem;refine aa.bind (au t) ?_;rintro d d' ⟨e,_⟩;subst e;cases base with
  |none=>exact gM hp _ _ _ _
  |some a=>
   simp only[Γ];refine aa.aj (λ_=>?_) (λ_=>aa.aj (λ_=>aa.unsupported _) (λ_=>gM hp _ _ _ _));refine aa.bind (cd elem) ?_;rintro n _ rfl;exact aa.pure (by simp[VV,rv,ku])
 unfold Instr.indexAt;refine aa.bind (qN i) ?_;rintro k _ rfl;refine aa.bind (au t) ?_;rintro d d' ⟨e,_⟩;subst e;cases d'<;>cases x<;>simp only[rv]at Fw ⊢<;>first
  |exact aa.bind (R:=λ(_:Option Addr×Nat×Θ) (_:Option Addr×Nat×Θ)=>False) (aa.stuck _) (λ_ _ h=>h.elim)
  |(refine aa.bind (R:=λ(x:Option Addr×Nat×Θ) y=>y=(x.1.map (ra ρ),x.2)) (aa.pure rfl) ?_;rintro ⟨base,len,elem⟩ _ rfl;exact tail k base len elem)
  |(refine aa.bind Fw ?_;rintro a _ rfl;exact tail k (some a) _ _)
theorem gV (r:Nat):aa P ρ Eq (shape r) (shape (ρ r)):=⟨_,rfl,λ_=>⟨_,rfl,rfl⟩⟩
theorem mR (a:Addr):aa P ρ Eq (frozen a) (frozen (ra ρ a)):=⟨_,rfl,λ_=>⟨_,rfl,rfl⟩⟩
theorem PX (a:Addr)(n:Nat):aa P ρ Eq (freeze a n) (freeze (ra ρ a) n):=⟨_,rfl,⟨_,rfl,rfl⟩⟩
theorem mS (r:Nat):aa P ρ (λo o'=>o'=ro ρ o∧GO P ρ o) (getObj r) (getObj (ρ r)):=⟨_,rfl,λ_ h=>⟨_,rfl,rfl,h⟩⟩
theorem Fx (r:Nat)(o:Obj)(h:PV o):aa P ρ Eq (setObj r o) (setObj (ρ r) (ro ρ o)):=⟨h,_,rfl,⟨_,rfl,rfl⟩⟩
theorem Dn (m:Mark)(h:MOk m:=by trivial):aa P ρ Eq (mark m) (mark m):=⟨h,_,rfl,⟨_,rfl,rfl⟩⟩
theorem B0 (n:Nat):aa P ρ Eq (askRoom n) (askRoom n):=by
 unfold askRoom;exact aa.aj (λ_=>Dn _) (λ_=>aa.pure rfl)
theorem Jw:rv ρ default=default:=by
 rw[show(default:Δ)=.bool default from rfl];simp[rv]
theorem M4 {z:Array Δ}(h:z.map (rv ρ)=z)(i:Nat):rv ρ z[i]! =z[i]!:=by
 rw[Array.getElem!_eq_getD,zby];have:(z.map (rv ρ))[i]?=z[i]?:=by rw[h]
 rw[zaE]at this;cases hz:z[i]? with
 |none=>exact Jw
 |some v=>rw[hz]at this;simpa using this
theorem pE {z:Array Δ}(h:z.map (rv ρ)=z)(n m:Nat):((Array.range n).map (λx=>z[x%m]!)).map (rv ρ)=(Array.range n).map (λx=>z[x%m]!):=by
 rw[zch]
 congr 1
 funext x;exact M4 h _
theorem jU {R:α→β→Prop}{γ δ:Type}{s:Sem γ}{s':Sem δ}{f:γ→Sem α}{f':δ→Sem β}(h:aa P ρ (λ_ _=>False) s s'):aa P ρ R (s>>=f) (s'>>=f'):=aa.bind h (λ_ _ h=>h.elim)
theorem Fy (hp:Plain P ρ)(t:Θ)(l c:Δ):aa P ρ (VV ρ) (Instr.makeSlice t l c) (Instr.makeSlice t (rv ρ l) (rv ρ c)):=by
 unfold Instr.makeSlice;refine aa.bind (au t) ?_;rintro d d' ⟨e,_⟩;subst e;cases d'<;>try exact aa.stuck _
 simp only;refine aa.bind (nW l) ?_;rintro l _ rfl;refine aa.bind (nW c) ?_;rintro c _ rfl;refine aa.bind (eH _) ?_;rintro d d' ⟨e,_⟩;subst e;refine aa.aj (λ_=>?_) (λ_=>?_)
 ·refine aa.aj (λ_=>jU (aM _)) (λ_=>aa.aj (λ_=>jU (aM _)) (λ_=>?_));refine aa.bind (iD _) ?_;rintro n _ rfl;exact jU (aM _)
 ·refine aa.bind (B0 _) ?_;rintro _ _ rfl;refine aa.bind (cd _) ?_;rintro n _ rfl;have fin:∀z:Array Δ,z.map (rv ρ)=z→∀m k q:Nat,∀e:Θ,aa P ρ (VV ρ) (do let a ←newRow e ((Array.range m).map (λx=>z[x%z.size]!));pure (.slice (some a) k q)) (do let a ←newRow e ((Array.range m).map (λx=>z[x%z.size]!));pure (.slice (some a) k q)):=λz hz m k q e=>by
   have:=sV (P:=P) (ρ:=ρ) e ((Array.range m).map (λx=>z[x%z.size]!));rw[pE hz]at this;refine aa.bind this ?_;rintro a _ rfl;exact aa.pure (by simp[VV,rv])
  refine aa.aj (λ_=>?_) (λ_=>?_)
  ·refine aa.bind (R:=λz z'=>z'=z∧z.map (rv ρ)=z) (aa.pure ⟨rfl,by simp⟩) ?_;rintro z _ ⟨rfl,hz⟩;exact fin _ hz _ _ _ _
  ·refine aa.bind (eu hp _) ?_;rintro v v' ⟨e,hv⟩;subst e;refine aa.bind (R:=λz z'=>z'=z∧z.map (rv ρ)=z) (aa.pure ⟨rfl,by rw[←jT,hv]⟩) ?_;rintro z _ ⟨rfl,hz⟩;exact fin _ hz _ _ _ _
theorem Dp (hp:Plain P ρ)(t:Θ)(len:Nat)(parts:Array (Nat×Δ)):aa P ρ (VV ρ) (Instr.buildSlice t len parts) (Instr.buildSlice t len (parts.map λx=>(x.1,rv ρ x.2))):=by
 unfold Instr.buildSlice;refine aa.bind (au t) ?_;rintro d d' ⟨e,_⟩;subst e;cases d'<;>try exact aa.stuck _
 simp only;refine aa.bind (cd _) ?_;rintro n _ rfl;have fin:∀z:Array Δ,z.map (rv ρ)=z→∀e:Θ,aa P ρ (VV ρ)
  (match Instr.fill (λi=>some (i*n,n)) ((Array.range (len*n)).map (λx=>z[x%z.size]!)) parts.toList with|some cells=>(do let a ←newRow e cells;pure (.slice (some a) len len))|_=>stuck "buildSlice: a part of the wrong size")
  (match Instr.fill (λi=>some (i*n,n)) ((Array.range (len*n)).map (λx=>z[x%z.size]!)) (parts.map λx=>(x.1,rv ρ x.2)).toList with|some cells=>(do let a ←newRow e cells;pure (.slice (some a) len len))|_=>stuck "buildSlice: a part of the wrong size"):=λz hz e=>by
  have hf:=Jv (ρ:=ρ) (λi=>some (i*n,n)) parts.toList ((Array.range (len*n)).map (λx=>z[x%z.size]!));rw[pE hz]at hf;rw[zbn,hf];cases Instr.fill (λi=>some (i*n,n)) ((Array.range (len*n)).map (λx=>z[x%z.size]!)) parts.toList with
  |none=>exact aa.stuck _
  |some cs=>
   refine aa.bind (sV e cs) ?_;rintro a _ rfl;exact aa.pure (by simp[VV,rv])
 refine aa.aj (λ_=>jU (aa.unsupported _)) (λ_=>?_);refine aa.aj (λ_=>?_) (λ_=>?_)
 ·refine aa.bind (R:=λz z'=>z'=z∧z.map (rv ρ)=z) (aa.pure ⟨rfl,by simp⟩) ?_;rintro z _ ⟨rfl,hz⟩;exact fin _ hz _
 ·refine aa.bind (eu hp _) ?_;rintro v v' ⟨e,hv⟩;subst e;refine aa.bind (R:=λz z'=>z'=z∧z.map (rv ρ)=z) (aa.pure ⟨rfl,by rw[←jT,hv]⟩) ?_;rintro z _ ⟨rfl,hz⟩;exact fin _ hz _
theorem Vu (t:Θ)(x:Δ)(f:Nat):aa P ρ (VV ρ) (Instr.field t x f) (Instr.field t (rv ρ x) f):=by
 unfold Instr.field;refine aa.bind (au t) ?_;rintro d d' ⟨e,_⟩;subst e;cases d'<;>try exact aa.stuck _
 simp only;split
 ·refine aa.bind (Vn x) ?_;rintro cs _ rfl;exact pD _ _ _
 ·exact aa.stuck _
theorem xj (t:Θ)(x:Δ):aa P ρ (VV ρ) (Instr.makeInterface t x) (Instr.makeInterface t (rv ρ x)):=by
 unfold Instr.makeInterface;refine aa.bind (au t) ?_;rintro d d' ⟨e,_⟩;subst e;cases d'<;>first|exact aa.stuck _|exact aa.pure (by simp[VV,rv])
theorem sW (r:Nat):aa P ρ (λx y=>y=x.map λz=>(ra ρ z.1,z.2)) (viewAt r) (viewAt (ρ r)):=by
 unfold viewAt;refine aa.bind (gV r) ?_;rintro sh _ rfl;refine aa.aj (λ_=>aa.pure rfl) (λ_=>?_);refine aa.bind (mS r) ?_;rintro o _ ⟨rfl,_⟩;cases o<;>simp only[ro]<;>exact aa.pure rfl
theorem yD (a:Addr):aa P ρ Eq (noView a) (noView (ra ρ a)):=by
 unfold noView;refine aa.bind (sW a.block) ?_;rintro x _ rfl;simp only[Option.isSome_map];exact aa.aj (λ_=>aa.unsupported _) (λ_=>aa.pure rfl)
theorem lp (a:Addr):aa P ρ Eq (byteOf a) (byteOf (ra ρ a)):=by
 unfold byteOf;have e1:(ra ρ a).spot=a.spot:=rfl;have e2:(ra ρ a).off=a.off:=rfl;have e3:(ra ρ a).block=ρ a.block:=rfl;simp only[e1,e2,e3];cases a.spot with
 |some s=>exact aa.pure rfl
 |none=>
  simp only;refine aa.bind cz ?_;rintro _ _ ⟨rfl,rfl⟩;refine aa.bind (yD a) ?_;rintro _ _ rfl;refine aa.bind (gV a.block) ?_;rintro sh _ rfl;cases sh with
  |none=>exact aa.stuck _
  |some x=>
   simp only;refine aa.aj (λ_=>aa.pure rfl) (λ_=>?_);split
   ·exact aa.pure rfl
   ·exact aa.stuck _
theorem PY (a:Addr)(c b:Nat):aa P ρ (AA ρ) (partAt a c b) (partAt (ra ρ a) c b):=by
 unfold partAt;refine aa.bind (lp a) ?_;rintro x _ rfl;refine aa.bind (lp { block:=a.block,off:=a.off+c }) ?_;rintro y _ rfl;refine aa.pure ?_;simp only[AA,ra];split<;>rfl
theorem Dq (a:Addr)(f:Field):aa P ρ (AA ρ) (fieldPlace a f) (fieldPlace (ra ρ a) f):=by
 unfold fieldPlace;refine aa.bind (cd _) ?_;rintro n _ rfl;exact aa.aj (λ_=>PY _ _ _) (λ_=>aa.pure (ku _ _))
theorem M5 (t:Θ)(x:Δ)(f:Nat):aa P ρ (VV ρ) (Instr.fieldAt t x f) (Instr.fieldAt t (rv ρ x) f):=by
 unfold Instr.fieldAt;refine aa.bind (au t) ?_;rintro d d' ⟨e,_⟩;subst e;cases d'<;>try exact aa.stuck _
 simp only;split
 ·refine aa.bind (lj x) ?_;rintro a _ rfl;refine aa.bind (Dq a _) ?_;rintro b _ rfl;exact aa.pure (by simp[VV,rv])
 ·exact aa.stuck _
theorem LB (v:Δ):aa P ρ Eq (Builtin.lenOf v) (Builtin.lenOf (rv ρ v)):=by
 cases v<;>simp only[rv,Builtin.lenOf]<;>first|exact aa.pure rfl|exact aa.stuck _
theorem nY (size n:Nat)(v:Δ):aa P ρ (λx y=>y=x.map (rv ρ)) (Λ size n v) (Λ size n (rv ρ v)):=by
 cases v with
 |slice a l c=>
  cases a with
  |none=>simp only[rv,Γ,Λ];exact aa.pure (by simp)
  |some a=>simp only[rv,Γ,Λ];exact pC a _
 |string s=>
  simp only[rv,Λ];refine aa.pure ?_;rw[zch]
  congr 1
  funext b;simp[rv]
 |_=>simp only[rv,Λ];exact aa.stuck _
theorem nZ (a:Addr)(n:Nat):aa P ρ Eq (η a n) (η (ra ρ a) n):=by
 unfold η;refine aa.bind (gV a.block) ?_;rintro x _ rfl;cases x<;>exact aa.pure rfl
theorem oW {z:Array Δ}(h:z.map (rv ρ)=z)(n:Nat):(θ z n).map (rv ρ)=θ z n:=pE h _ _
theorem Jx (hp:Plain P ρ)(size mU n:Nat)(a:Option Addr)(x:Δ):aa P ρ Eq (Builtin.mayShare size mU n a x) (Builtin.mayShare size mU n (a.map (ra ρ)) (rv ρ x)):=by
 have hi:∀u v:Nat,(ρ u==ρ v)=(u==v):=λu v=>by
  rw[zaP];simp only[zaJ];exact⟨hp.inj _ _,λh=>by rw[h]⟩
 have h1:∀b:Addr,aa P ρ Eq (do pure ((←η b (mU*size))&&!(←frozen (b.add (mU/2*size))))) (do pure ((←η (ra ρ b) (mU*size))&&!(←frozen ((ra ρ b).add (mU/2*size))))):=λb=>by
  refine aa.bind (nZ b _) ?_;rintro _ _ rfl;rw[ku];refine aa.bind (mR _) ?_;rintro _ _ rfl;exact aa.pure rfl
 have h2:aa P ρ Eq (match x with|.slice (some b) _ _=>do pure (!(←η b (n*size))||a.any (·.block==b.block))|_=>pure false) (match rv ρ x with|.slice (some b) _ _=>do pure (!(←η b (n*size))||(a.map (ra ρ)).any (·.block==b.block))|_=>pure false):=by
  cases x with
  |slice b l c=>
   cases b with
   |none=>simp only[rv,Γ];exact aa.pure rfl
   |some b=>
    simp only[rv,Γ];refine aa.bind (nZ b _) ?_;rintro _ _ rfl;refine aa.pure ?_;cases a with
    |none=>rfl
    |some a=>simp[ra,hi]
  |_=>simp only[rv];exact aa.pure rfl
 unfold Builtin.mayShare;cases a with
 |none=>
  simp only[Γ]at h2 ⊢;refine aa.bind (R:=Eq) (aa.pure rfl) ?_;rintro b _ rfl;exact aa.aj (λ_=>aa.pure rfl) (λ_=>h2)
 |some a=>
  simp only[Γ]at h2 ⊢;refine aa.bind (nZ a _) ?_;rintro b1 _ rfl;rw[ku];refine aa.bind (mR _) ?_;rintro b2 _ rfl;refine aa.bind (R:=Eq) (aa.pure rfl) ?_;rintro b _ rfl;exact aa.aj (λ_=>aa.pure rfl) (λ_=>h2)
theorem ady (a:Option Addr)(size mU Dr:Nat)(new:Array Δ)(k:Nat):aa P ρ (VV ρ)
 (match a with|some b=>(do storeCells (b.add (mU*size)) new.toList;pure (.slice a k Dr))|_=>pure (.slice a k Dr))
 (match a.map (ra ρ)with|some b=>(do storeCells (b.add (mU*size)) (new.map (rv ρ)).toList;pure (.slice (a.map (ra ρ)) k Dr))|_=>pure (.slice (a.map (ra ρ)) k Dr)):=by
 cases a with
 |none=>exact aa.pure (by simp[VV,rv])
 |some b=>
  simp only[Γ,ku,zbn];refine aa.bind (kK _ _ _) ?_;rintro _ _ rfl;exact aa.pure (by simp[VV,rv])
theorem PZ (hp:Plain P ρ)(ts:Array Θ)(ty:Θ)(args:Array Δ):aa P ρ (VV ρ) (Builtin.append_ ts ty args) (Builtin.append_ ts ty (args.map (rv ρ))):=by
 unfold Builtin.append_;simp only[zaE];rcases ts[0]? with _|t0<;>rcases args[0]? with _|s<;>rcases args[1]? with _|x<;>simp only[Γ]<;>try exact aa.stuck _
 refine aa.bind (au t0) ?_;rintro d d' ⟨e,_⟩;subst e;cases d'<;>try exact aa.stuck _
 cases s<;>simp only[rv]<;>try exact aa.stuck _
 rename_i elem _ a mU Dr;have hA:∀(zeros:Bool) (size n:Nat),aa P ρ (λx y=>y=x.map (rv ρ)) (if(!zeros)=true then Λ size n x else if n*size=0 then pure #[]else do let z ←ι elem;pure (θ z.cells n)) (if(!zeros)=true then Λ size n (rv ρ x)else if n*size=0 then pure #[]else do let z ←ι elem;pure (θ z.cells n)):=λzeros size n=>by
  refine aa.aj (λ_=>nY _ _ _) (λ_=>aa.aj (λ_=>aa.pure (by simp)) (λ_=>?_));refine aa.bind (eu hp elem) ?_;rintro v v' ⟨e,hv⟩;subst e;exact aa.pure (oW (by rw[←jT,hv]) n).symm
 have hO:∀size,aa P ρ (λx y=>y=x.map (rv ρ)) (Λ size mU (.slice a mU Dr)) (Λ size mU (.slice (a.map (ra ρ)) mU Dr)):=λsize=>by
  have:=nY (P:=P) (ρ:=ρ) size mU (.slice a mU Dr);simpa only[rv]using this
 refine aa.bind (cd _) ?_;rintro size _ rfl;have hM:=λn=>Jx (P:=P) (ρ:=ρ) hp size mU n a x;have eM:=λnew k=>ady (P:=P) (ρ:=ρ) a size mU Dr new k;have hF:∀(old new:Array Δ) (k q:Nat),aa P ρ (VV ρ)
  (do let z ←ι elem;let r ←newRow elem (old++new++θ z.cells (q-k));pure (.slice (some r) k q))
  (do let z ←ι elem;let r ←newRow elem (old.map (rv ρ)++new.map (rv ρ)++θ z.cells (q-k));pure (.slice (some r) k q)):=λold new k q=>by
  refine aa.bind (eu hp elem) ?_;rintro v v' ⟨e,hv⟩;subst e;have:=sV (P:=P) (ρ:=ρ) elem (old++new++θ v'.cells (q-k));rw[Array.map_append,Array.map_append,oW (by rw[←jT,hv])]at this;refine aa.bind this ?_;rintro r _ rfl;exact aa.pure (by simp[VV,rv])
 have hPn:∀(zeros:Bool) (n:Nat),aa P ρ (λ(_:PUnit) (_:PUnit)=>False)
  (if zeros=true then runtimePanic (.error "growslice: len out of range")else do
    let b ←Builtin.mayShare size mU n a x
    if(!b)=true then do mark .noRoom;unsupported (.resourceLimit "append: a slice or a string whose bytes no memory bears")
    else unsupported (.resourceLimit "append: a slice or a string whose bytes no memory bears"))
  (if zeros=true then runtimePanic (.error "growslice: len out of range")else do
    let b ←Builtin.mayShare size mU n (a.map (ra ρ)) (rv ρ x)
    if(!b)=true then do mark .noRoom;unsupported (.resourceLimit "append: a slice or a string whose bytes no memory bears")
    else unsupported (.resourceLimit "append: a slice or a string whose bytes no memory bears")):=λzeros n=>by
  refine aa.aj (λ_=>aM _) (λ_=>?_);refine aa.bind (hM n) ?_;rintro b _ rfl;refine aa.aj (λ_=>?_) (λ_=>aa.unsupported _);exact aa.bind (Dn _) (λ_ _ _=>aa.unsupported _)
 rcases ts[1]? with _|t1<;>simp only
 all_goals
  repeat' first
   |exact aa.stuck _
   |exact aa.unsupported _
   |exact aM _
   |exact jU (aM _)
   |exact eM _ _
   |exact hF _ _ _ _
   |exact jU (hPn _ _)
   |(refine aa.aj (λ_=>?_) (λ_=>?_))
   |(refine aa.bind (eH _) ?_;rintro _ _ ⟨rfl,_⟩)
   |(refine aa.bind (au _) ?_;rintro _ _ ⟨rfl,_⟩)
   |(refine aa.bind (R:=Eq) (aa.pure rfl) ?_;rintro _ _ rfl)
   |(refine aa.bind (iD _) ?_;rintro _ _ rfl)
   |(refine aa.bind (B0 _) ?_;rintro _ _ rfl)
   |(refine aa.bind (hO _) ?_;rintro _ _ rfl)
   |(refine aa.bind (hA _ _ _) ?_;rintro _ _ rfl)
   |(refine aa.bind (hM _) ?_;rintro _ _ rfl)
   |(refine aa.bind (Dn _) ?_;rintro _ _ rfl)
   |(refine aa.bind (nW x) ?_;rintro _ _ rfl)
   |(refine aa.bind (LB x) ?_;rintro _ _ rfl)
theorem Y4 (ts:Array Θ)(ty:Θ)(args:Array Δ):aa P ρ (VV ρ) (Builtin.copy_ ts ty args) (Builtin.copy_ ts ty (args.map (rv ρ))):=by
 unfold Builtin.copy_;simp only[zaE];rcases ts[0]? with _|t0<;>rcases args[0]? with _|s<;>rcases args[1]? with _|x<;>simp only[Γ]<;>try exact aa.stuck _
 refine aa.bind (au t0) ?_;rintro d d' ⟨e,_⟩;subst e;cases d'<;>try exact aa.stuck _
 cases s<;>simp only[rv]<;>try exact aa.stuck _
 refine aa.bind (LB x) ?_;rintro n _ rfl;refine aa.bind (cd _) ?_;rintro m _ rfl;refine aa.bind (nY _ _ x) ?_;rintro cs _ rfl;rename_i a l c;cases a with
 |none=>exact aa.pure (by simp[VV,rv,goInt])
 |some a=>
  simp only[Γ,zbn];refine aa.bind (kK _ _ _) ?_;rintro _ _ rfl;exact aa.pure (by simp[VV,rv,goInt])
theorem abd (ts:Array Θ)(ty:Θ)(args:Array Δ):aa P ρ (VV ρ) (Builtin.len_ ts ty args) (Builtin.len_ ts ty (args.map (rv ρ))):=by
 unfold Builtin.len_;simp only[zaE];rcases ts[0]? with _|t0<;>rcases args[0]? with _|s<;>simp only[Γ]<;>try exact aa.stuck _
 refine aa.bind (au t0) ?_;rintro d d' ⟨e,_⟩;subst e;cases d'<;>cases s<;>simp only[rv]<;>first
  |exact aa.stuck _
  |exact aa.pure (by simp[VV,rv,goInt])
  |(refine aa.bind (au _) ?_;rintro d d' ⟨e,_⟩;subst e;cases d'<;>first|exact aa.stuck _|exact aa.pure (by simp[VV,rv,goInt]))
  |skip
 all_goals
  rename_i r;cases r with
  |none=>exact aa.pure (by simp[VV,rv,goInt])
  |some r=>
   simp only[Γ];refine aa.bind (mS r) ?_;rintro o _ ⟨rfl,_⟩;cases o<;>simp only[ro]<;>first|exact aa.stuck _|exact aa.pure (by simp[VV,rv,goInt])
theorem yE (r:Nat):aa P ρ (λx y=>y=x.map (λz=>(ra ρ z.1,z.2))∧∀z,x=some z→GA P ρ z.1) (numberAt r) (numberAt (ρ r)):=by
 unfold numberAt;refine aa.bind (gV r) ?_;rintro sh _ rfl;refine aa.aj (λ_=>aa.pure ⟨rfl,λz h=>by cases h⟩) (λ_=>?_);refine aa.bind (mS r) ?_;rintro o _ ⟨rfl,ho⟩;cases o<;>simp only[ro]<;>refine aa.pure ⟨rfl,λz h=>?_⟩<;>cases h;rcases ho with h|h
 ·exact .inl h
 ·simp only[ro,Obj.number.injEq]at h;exact .inr h.1
theorem dN (a:Addr)(ha:GA P ρ a):aa P ρ (λx y=>y=(ra ρ x.1,x.2)∧GA P ρ x.1) (behindNumber a) (behindNumber (ra ρ a)):=by
 unfold behindNumber;refine aa.bind (yE a.block) ?_;rintro x _ ⟨rfl,hx⟩;refine aa.pure ?_;cases x with
 |none=>exact⟨rfl,ha⟩
 |some z=>exact⟨rfl,hx z rfl⟩
theorem xH (t:Θ)(cs:Array Δ)(o:Nat)(h:Bw P ρ∨cs.map (rv ρ)=cs):aa P ρ (λv v'=>v'=rv ρ v∧GV P ρ v) (part t cs o) (part t (cs.map (rv ρ)) o):=by
 unfold part;refine aa.bind (xG t) ?_;rintro b _ rfl;cases b
 ·simp only[zaE,zaT,if_false];cases hc:cs[o]? with
  |none=>exact aa.stuck _
  |some v=>
   refine aa.pure ⟨rfl,h.imp id λh=>?_⟩;have h1:(cs.map (rv ρ))[o]?=some v:=by rw[h];exact hc
   rw[zaE,hc]at h1;simpa using h1
 ·simp only[if_true];refine aa.bind (cd t) ?_;rintro n _ rfl;exact aa.pure ⟨by simp only[rv];rw[Array.map_extract],h.imp id λh=>by simp only[rv];rw[Array.map_extract,h]⟩
theorem yF (hp:Plain P ρ)(a b:Addr):(ra ρ a==ra ρ b)=(a==b):=by
 rw[zaP];simp only[zaJ];refine⟨λh=>?_,λh=>by rw[h]⟩;obtain⟨a1,a2,a3⟩:=a;obtain⟨b1,b2,b3⟩:=b;simp only[ra,Addr.mk.injEq]at h;rw[hp.inj _ _ h.1,h.2.1,h.2.2]
theorem vd (hp:Plain P ρ)(u v:Nat):(ρ u==ρ v)=(u==v):=by
 rw[zaP];simp only[zaJ];exact⟨hp.inj _ _,λh=>by rw[h]⟩
theorem wE (a:Addr):aa P ρ Eq (stringish a) (stringish (ra ρ a)):=by
 unfold stringish;refine aa.bind (mR a) ?_;rintro b _ rfl;refine aa.aj (λ_=>aa.pure rfl) (λ_=>?_);refine aa.bind (gV a.block) ?_;rintro sh _ rfl;cases sh with
 |none=>exact aa.pure rfl
 |some x=>exact mR { block:=a.block,off:=x.2 }
theorem B1 (x:Addr):aa P ρ Eq (do pure ((←shape x.block) matches some (_,0))) (do pure ((←shape (ra ρ x).block) matches some (_,0))):=by
 refine aa.bind (gV x.block) ?_;rintro sh _ rfl;exact aa.pure rfl
theorem Jy (a b:Addr):aa P ρ Eq (mayBeOne a b) (mayBeOne (ra ρ a) (ra ρ b)):=by
 unfold mayBeOne;dsimp only;refine aa.bind (wE a) ?_;rintro s1 _ rfl;refine aa.bind (wE b) ?_;rintro s2 _ rfl;refine aa.bind (B1 a) ?_;rintro s3 _ rfl;refine aa.bind (B1 b) ?_;rintro s4 _ rfl;exact aa.pure rfl
theorem yG (hp:Plain P ρ)(a b:Addr):aa P ρ Eq (sameAddr a b) (sameAddr (ra ρ a) (ra ρ b)):=by
 unfold sameAddr;rw[yF hp];have e:((ra ρ a).block==(ra ρ b).block)=(a.block==b.block):=vd hp _ _;rw[e];refine aa.aj (λ_=>aa.pure rfl) (λ_=>?_);refine aa.bind (mR a) ?_;rintro f1 _ rfl;refine aa.bind (mR b) ?_;rintro f2 _ rfl;refine aa.aj (λ_=>jU (aa.unsupported _)) (λ_=>?_);refine aa.bind (yD a) ?_;rintro _ _ rfl;refine aa.bind (yD b) ?_;rintro _ _ rfl;refine aa.bind (Jy a b) ?_;rintro m _ rfl;refine aa.aj (λ_=>?_) (λ_=>aa.pure rfl);refine aa.bind (iD _) ?_;rintro n _ rfl;exact aa.pure rfl
theorem Bx (hp:Plain P ρ)(a b:Option Addr):aa P ρ Eq (samePointer a b) (samePointer (a.map (ra ρ)) (b.map (ra ρ))):=by
 cases a<;>cases b<;>simp only[Γ,samePointer]<;>first|exact yG hp _ _|exact aa.pure rfl
theorem B2 (t:Θ):aa P ρ Eq (typeStr t) (typeStr t):=by
 unfold typeStr;refine aa.bind (eH t) ?_;rintro i i' ⟨e,_⟩;subst e;exact aa.aj (λ_=>aa.unsupported _) (λ_=>aa.pure rfl)
theorem n6 {γ:Type}{R:α→β→Prop}{f:γ→α→Sem (ForInStep α)}{f':γ→β→Sem (ForInStep β)}
 (hf:∀x a b,R a b→aa P ρ (λs t=>(∃a b,s=.yield a∧t=.yield b∧R a b)∨(∃a b,s=.done a∧t=.done b∧R a b)) (f x a) (f' x b)):∀(l:List γ) (a:α) (b:β),R a b→aa P ρ R (forIn l a f) (forIn l b f')
 |[],a,b,h=>by haveI:=lawful;simp only[List.forIn_nil];exact aa.pure h
 |x::r,a,b,h=>by
  haveI:=lawful
  simp only[List.forIn_cons];refine aa.bind (hf x a b h) ?_;rintro s t (⟨a',b',rfl,rfl,h'⟩|⟨a',b',rfl,rfl,h'⟩)
  ·exact n6 hf r a' b' h'
  ·exact aa.pure h'
end
section
variable {P:Ω}{ρ:Rn}{α β α' β':Type}
theorem Ds {cs:Array Δ}(h:GV P ρ (.agg cs)):Bw P ρ∨cs.map (rv ρ)=cs:=h.imp id λh=>by simpa[rv]using h
theorem FA {t:Θ}{v:Δ}(h:GV P ρ (.iface t v)):GV P ρ v:=h.imp id λh=>by simpa[rv]using h
theorem rV {a:Addr}(h:GV P ρ (.pointer (some a))):GA P ρ a:=h.imp id λh=>by simpa[rv]using h
theorem LC {a:Addr}(h:GA P ρ a):(ra ρ a).block <P.globals.size↔a.block<P.globals.size:=by
 rcases h with h|h
 ·exact h _
 ·rw[h]
theorem qO (hp:Plain P ρ):∀(n:Nat) (t:Θ) (x y:Δ),GV P ρ x→GV P ρ y→aa P ρ Eq (ϋ n t x y) (ϋ n t (rv ρ x) (rv ρ y))
 |0,t,x,y,_,_=>by unfold ϋ;exact aa.unsupported _
 |n+1,t,x,y,hx,hy=>by
  unfold ϋ;refine aa.bind (au t) ?_;rintro d d' ⟨e,_⟩;subst e;cases d' with
  |bool=>
   cases x<;>simp only[rv]<;>try exact aa.stuck _
   cases y<;>simp only[rv]<;>first|exact aa.stuck _|exact aa.pure rfl
  |string=>
   cases x<;>simp only[rv]<;>try exact aa.stuck _
   cases y<;>simp only[rv]<;>first|exact aa.stuck _|exact aa.pure rfl
  |int k=>
   cases x with
   |pointer a=>
    cases y with
    |pointer b=>
     cases a<;>cases b<;>simp only[rv,Γ]<;>try exact aa.unsupported _
     rename_i a b;refine aa.bind (dN a (rV hx)) ?_;rintro a1 _ ⟨rfl,ga⟩;refine aa.bind (dN b (rV hy)) ?_;rintro b1 _ ⟨rfl,gb⟩;refine aa.bind cz ?_;rintro _ _ ⟨rfl,rfl⟩;have e1:((ra ρ a1.1).block==(ra ρ b1.1).block)=(a1.1.block==b1.1.block):=vd hp _ _;have e2:decide ((ra ρ a1.1).block <P.globals.size)=decide (a1.1.block<P.globals.size):=by
      rw[decide_eq_decide];exact LC ga
     simp only[e1,e2];refine aa.aj (λ_=>?_) (λ_=>?_)
     ·refine aa.bind (lp _) ?_;rintro q _ rfl;refine aa.bind (lp _) ?_;rintro q2 _ rfl;exact aa.pure rfl
     ·refine aa.bind (eH _) ?_;rintro i i' ⟨e,_⟩;subst e;rw[yF hp];split
      ·exact aa.aj (λ_=>aa.pure rfl) (λ_=>aa.unsupported _)
      ·exact aa.unsupported _
    |int k' m=>
     cases a<;>simp only[rv,Γ]
     ·exact aa.unsupported _
     ·rcases m with z|z
      ·cases z<;>first|exact aa.pure rfl|exact aa.unsupported _
      ·exact aa.unsupported _
    |_=>cases a<;>simp only[rv,Γ]<;>exact aa.unsupported _
   |int k' m=>
    cases y with
    |pointer b=>
     cases b<;>simp only[rv,Γ]
     ·rcases m with z|z
      ·cases z<;>first|exact aa.pure rfl|exact aa.unsupported _
      ·exact aa.unsupported _
     ·rcases m with z|z
      ·cases z<;>first|exact aa.pure rfl|exact aa.unsupported _
      ·exact aa.unsupported _
    |int k2 m2=>simp only[rv];exact aa.aj (λ_=>aa.pure rfl) (λ_=>aa.stuck _)
    |_=>simp only[rv];exact aa.stuck _
   |_=>cases y<;>simp only[rv]<;>first|exact aa.stuck _|exact aa.unsupported _
  |float k=>
   cases x<;>simp only[rv]<;>try exact aa.stuck _
   cases y<;>simp only[rv]<;>first|exact aa.stuck _|exact aa.aj (λ_=>aa.pure rfl) (λ_=>aa.stuck _)
  |complex k=>
   cases x<;>simp only[rv]<;>try exact aa.stuck _
   cases y<;>simp only[rv]<;>first|exact aa.stuck _|exact aa.aj (λ_=>aa.pure rfl) (λ_=>aa.stuck _)
  |pointer e=>
   cases x with
   |pointer a=>
    cases y with
    |pointer b=>
     cases a<;>cases b<;>simp only[rv,Γ]<;>try exact aa.pure rfl
     refine aa.bind (cd _) ?_;rintro m _ rfl;refine aa.aj (λ_=>yG hp _ _) (λ_=>?_);rw[yF hp];refine aa.aj (λ_=>aa.pure rfl) (λ_=>?_);refine aa.bind (iD _) ?_;rintro q _ rfl;exact aa.pure rfl
    |_=>cases a<;>simp only[rv,Γ]<;>exact aa.stuck _
   |_=>cases y<;>simp only[rv]<;>exact aa.stuck _
  |unsafePointer=>
   cases x<;>simp only[rv]<;>try exact aa.stuck _
   cases y<;>simp only[rv]<;>first|exact aa.stuck _|exact Bx hp _ _
  |chan dr e=>
   cases x<;>simp only[rv]<;>try exact aa.stuck _
   cases y<;>simp only[rv]<;>try exact aa.stuck _
   rename_i a b;refine aa.pure ?_;cases a<;>cases b<;>simp[vd hp]
  |interface ms=>
   cases x<;>simp only[rv]<;>try exact aa.stuck _
   all_goals cases y<;>simp only[rv]<;>try first|exact aa.stuck _|exact aa.pure rfl
   refine aa.aj (λ_=>aa.pure rfl) (λ_=>?_);refine aa.bind (eH _) ?_;rintro i i' ⟨e,_⟩;subst e;refine aa.aj (λ_=>?_) (λ_=>qO hp n _ _ _ (FA hx) (FA hy));refine aa.bind cz ?_;rintro _ _ ⟨rfl,rfl⟩;refine aa.bind cz ?_;rintro _ _ ⟨rfl,rfl⟩;refine aa.aj (λ_=>jU (aa.unsupported _)) (λ_=>?_);refine aa.bind (B2 _) ?_;rintro q _ rfl;exact aM _
  |struct fs=>
   cases x<;>simp only[rv]<;>try exact aa.stuck _
   cases y<;>simp only[rv]<;>try exact aa.stuck _
   have hl:∀(xs ys:Array Δ),(Bw P ρ∨xs.map (rv ρ)=xs)→(Bw P ρ∨ys.map (rv ρ)=ys)→aa P ρ Eq
    (forIn fs ((none,()):Option Bool×Unit) λf _=>if f.name≠ "_" then do
      let a ←part f.type xs f.offset;let b ←part f.type ys f.offset;let r ←ϋ n f.type a b
      if(!r)=true then pure (ForInStep.done (some false,()))else pure (ForInStep.yield (none,()))
      else pure (ForInStep.yield (none,())))
    (forIn fs ((none,()):Option Bool×Unit) λf _=>if f.name≠ "_" then do
      let a ←part f.type (xs.map (rv ρ)) f.offset;let b ←part f.type (ys.map (rv ρ)) f.offset;let r ←ϋ n f.type a b
      if(!r)=true then pure (ForInStep.done (some false,()))else pure (ForInStep.yield (none,()))
      else pure (ForInStep.yield (none,()))):=λxs ys gx gy=>by
    rw[←zbP,←zbP];refine n6 (R:=Eq) (λf a b hab=>?_) fs.toList _ _ rfl;subst hab;refine aa.aj (λ_=>?_) (λ_=>aa.pure (Or.inl ⟨_,_,rfl,rfl,rfl⟩));refine aa.bind (xH _ _ _ gx) ?_;rintro v _ ⟨rfl,gv⟩;refine aa.bind (xH _ _ _ gy) ?_;rintro u _ ⟨rfl,gu⟩;refine aa.bind (qO hp n _ _ _ gv gu) ?_;rintro r _ rfl;exact aa.aj (λ_=>aa.pure (Or.inr ⟨_,_,rfl,rfl,rfl⟩)) (λ_=>aa.pure (Or.inl ⟨_,_,rfl,rfl,rfl⟩))
   refine aa.bind cz ?_;rintro _ _ ⟨rfl,rfl⟩;refine aa.aj (λ_=>jU (aa.unsupported _)) (λ_=>?_);refine aa.bind (hl _ _ (Ds hx) (Ds hy)) ?_;rintro r _ rfl;split<;>exact aa.pure rfl
  |array m e=>
   cases x<;>simp only[rv]<;>try exact aa.stuck _
   cases y<;>simp only[rv]<;>try exact aa.stuck _
   refine aa.bind (cd _) ?_;rintro sz _ rfl;refine aa.bind (R:=Eq) ?_ ?_
   ·haveI:=lawful
    rw[Std.Legacy.Range.forIn_eq_forIn_range',Std.Legacy.Range.forIn_eq_forIn_range'];refine n6 (R:=Eq) (λf a b hab=>?_) _ _ _ rfl;subst hab;refine aa.bind (xH _ _ _ (Ds hx)) ?_;rintro v _ ⟨rfl,gv⟩;refine aa.bind (xH _ _ _ (Ds hy)) ?_;rintro u _ ⟨rfl,gu⟩;refine aa.bind (qO hp n _ _ _ gv gu) ?_;rintro r _ rfl;exact aa.aj (λ_=>aa.pure (Or.inr ⟨_,_,rfl,rfl,rfl⟩)) (λ_=>aa.pure (Or.inl ⟨_,_,rfl,rfl,rfl⟩))
   ·rintro r _ rfl;split<;>exact aa.pure rfl
  |slice e=>
   cases x with
   |slice a l c=>
    cases y with
    |slice b l2 c2=>cases a<;>cases b<;>simp only[rv,Γ]<;>first|exact aa.pure rfl|exact aa.stuck _
    |_=>cases a<;>simp only[rv,Γ]<;>exact aa.stuck _
   |_=>cases y<;>simp only[rv]<;>exact aa.stuck _
  |map k e=>
   cases x with
   |map a=>
    cases y with
    |map b=>cases a<;>cases b<;>simp only[rv,Γ]<;>first|exact aa.pure rfl|exact aa.stuck _
    |_=>cases a<;>simp only[rv,Γ]<;>exact aa.stuck _
   |_=>cases y<;>simp only[rv]<;>exact aa.stuck _
  |func ps rs v=>
   cases x<;>simp only[rv]<;>try exact aa.stuck _
   all_goals cases y<;>simp only[rv]<;>first|exact aa.stuck _|exact aa.pure rfl
  |_=>cases x<;>simp only<;>try exact aa.stuck _
end
section
variable {P:Ω}{ρ:Rn}{α β α' β':Type}
theorem LD (hp:Plain P ρ)(t:Θ)(x y:Δ)(hx:GV P ρ x)(hy:GV P ρ y):aa P ρ Eq (Op.equal t x y) (Op.equal t (rv ρ x) (rv ρ y)):=qO hp _ t x y hx hy
theorem pF:∀(n:Nat) (t:Θ) (x y:Δ),aa P ρ Eq (Op.eqGuardIn n t x y) (Op.eqGuardIn n t (rv ρ x) (rv ρ y))
 |0,t,x,y=>by unfold Op.eqGuardIn;exact aa.unsupported _
 |n+1,t,x,y=>by
  unfold Op.eqGuardIn;refine aa.bind (au t) ?_;rintro d d' ⟨e,_⟩;subst e;cases d' with
  |interface ms=>cases x<;>cases y<;>simp only[rv]<;>exact aa.pure rfl
  |struct fs=>
   cases x<;>simp only[rv]<;>try exact aa.pure rfl
   cases y<;>simp only[rv]<;>try exact aa.pure rfl
   refine aa.bind (R:=Eq) ?_ ?_
   ·rw[←zbP,←zbP];refine n6 (R:=Eq) (λf a b hab=>?_) fs.toList _ _ rfl;subst hab;refine aa.aj (λ_=>?_) (λ_=>aa.pure (Or.inl ⟨_,_,rfl,rfl,rfl⟩));refine aa.bind (pD _ _ _) ?_;rintro v _ rfl;refine aa.bind (pD _ _ _) ?_;rintro u _ rfl;refine aa.bind (pF n _ _ _) ?_;rintro r _ rfl;exact aa.aj (λ_=>aa.pure (Or.inr ⟨_,_,rfl,rfl,rfl⟩)) (λ_=>aa.pure (Or.inl ⟨_,_,rfl,rfl,rfl⟩))
   ·rintro r _ rfl;split<;>exact aa.pure rfl
  |array m e=>
   cases x<;>simp only[rv]<;>try exact aa.pure rfl
   cases y<;>simp only[rv]<;>try exact aa.pure rfl
   refine aa.bind (cd _) ?_;rintro sz _ rfl;refine aa.bind (R:=Eq) ?_ ?_
   ·haveI:=lawful
    rw[Std.Legacy.Range.forIn_eq_forIn_range',Std.Legacy.Range.forIn_eq_forIn_range'];refine n6 (R:=Eq) (λf a b hab=>?_) _ _ _ rfl;subst hab;refine aa.bind (pD _ _ _) ?_;rintro v _ rfl;refine aa.bind (pD _ _ _) ?_;rintro u _ rfl;refine aa.bind (pF n _ _ _) ?_;rintro r _ rfl;exact aa.aj (λ_=>aa.pure (Or.inr ⟨_,_,rfl,rfl,rfl⟩)) (λ_=>aa.pure (Or.inl ⟨_,_,rfl,rfl,rfl⟩))
   ·rintro r _ rfl;split<;>exact aa.pure rfl
  |_=>cases x<;>simp only<;>exact aa.pure rfl
theorem M6 (op:BinOp)(t:Θ)(x y:υ)(a b:Δ):aa P ρ Eq (eqGuard op t x y a b) (eqGuard op t x y (rv ρ a) (rv ρ b)):=by
 have hg:=pF (P:=P) (ρ:=ρ) Op.maxDepth t a b;unfold eqGuard;refine aa.aj (λ_=>aa.pure rfl) (λ_=>?_);cases a<;>cases b<;>simp only[rv]at hg ⊢<;>try exact aa.pure rfl
 ·refine aa.aj (λ_=>aa.pure rfl) (λ_=>?_);refine aa.bind hg ?_;rintro r _ rfl;exact aa.aj (λ_=>aa.unsupported _) (λ_=>aa.pure rfl)
 ·refine aa.bind cz ?_;rintro _ _ ⟨rfl,rfl⟩;refine aa.bind cz ?_;rintro _ _ ⟨rfl,rfl⟩;refine aa.aj (λ_=>aa.pure rfl) (λ_=>?_);refine aa.bind hg ?_;rintro r _ rfl;exact aa.aj (λ_=>aa.unsupported _) (λ_=>aa.pure rfl)
theorem yH (op:BinOp)(k:IntKind)(a b:Int):aa P ρ (VV ρ) (Op.intArith op k a b) (Op.intArith op k a b):=by
 cases op<;>simp only[Op.intArith]<;>first|exact aa.stuck _|exact aa.pure (by simp[VV,rv])
theorem P0 (_hp:Plain P ρ)(op:BinOp)(k:IntKind)(a b:Int):aa P ρ (VV ρ) (Op.intDiv op k a b) (Op.intDiv op k a b):=by
 unfold Op.intDiv;refine aa.aj (λ_=>aM _) (λ_=>?_);cases op<;>first|exact aa.stuck _|exact aa.pure (by simp[VV,rv])
theorem B3 (op:BinOp)(k:IntKind)(a b:Int):aa P ρ (VV ρ) (Op.intBits op k a b) (Op.intBits op k a b):=by
 cases op<;>simp only[Op.intBits]<;>first|exact aa.stuck _|exact aa.pure (by simp[VV,rv])
theorem yI (op:BinOp)(a b:Int):aa P ρ (VV ρ) (Op.intCmp op a b) (Op.intCmp op a b):=by
 cases op<;>simp only[Op.intCmp]<;>first|exact aa.stuck _|exact aa.pure (by simp[VV,rv])
theorem Vv (_hp:Plain P ρ)(op:BinOp)(k:IntKind)(a:Int)(k2:IntKind)(b:Int):aa P ρ (VV ρ) (Op.shift op k a k2 b) (Op.shift op k a k2 b):=by
 unfold Op.shift;refine aa.aj (λ_=>aM _) (λ_=>?_);cases op<;>first|exact aa.stuck _|exact aa.pure (by simp[VV,rv])
theorem lq (op:BinOp)(a b:ByteArray):aa P ρ (VV ρ) (Op.stringOp op a b) (Op.stringOp op a b):=by
 cases op<;>simp only[Op.stringOp]<;>first|exact aa.stuck _|exact aa.pure (by simp[VV,rv])|exact aa.aj (λ_=>aa.unsupported _) (λ_=>aa.pure (by simp[VV,rv]))
theorem Vw (op:UnOp)(x:Δ):aa P ρ (VV ρ) (Op.unary op x) (Op.unary op (rv ρ x)):=by
 cases x with
 |pointer a=>cases op<;>cases a<;>simp only[rv,Γ,Op.unary]<;>first|exact aa.stuck _|exact aa.unsupported _
 |int k n=>cases op<;>simp only[rv,Op.unary]<;>first|exact aa.stuck _|exact yH _ _ _ _|exact B3 _ _ _ _
 |_=>cases op<;>simp only[rv,Op.unary]<;>first|exact aa.stuck _|exact aa.pure (by simp[VV,rv])
def eN (P:Ω){α:Type}(A:α→Prop):Sem α→Prop
 |.pure a=>A a
 |.choose _ k=>∀n,eN P A (k n)
 |.program k=>eN P A (k P)
 |.halt h=>Fs h
 |_=>False
theorem eN.bind {A:α→Prop}{B:β→Prop}:∀{s:Sem α} {f:α→Sem β},eN P A s→(∀a,A a→eN P B (f a))→eN P B (s>>=f)
 |.pure a,_f,h,hf=>hf a h
 |.choose _ _k,_f,h,hf=>λn=>eN.bind (h n) hf
 |.program k,_f,h,hf=>eN.bind (s:=k P) h hf
 |.halt _,_f,h,_hf=>h
 |.load ..,_f,h,_hf=>h.elim
 |.store ..,_f,h,_hf=>h.elim
 |.new ..,_f,h,_hf=>h.elim
 |.shape ..,_f,h,_hf=>h.elim
 |.freeze ..,_f,h,_hf=>h.elim
 |.frozen ..,_f,h,_hf=>h.elim
 |.getObj ..,_f,h,_hf=>h.elim
 |.setObj ..,_f,h,_hf=>h.elim
 |.sys ..,_f,h,_hf=>h.elim
 |.mark ..,_f,h,_hf=>h.elim
theorem eN.mono {A B:α→Prop}(hAB:∀a,A a→B a):∀{s:Sem α},eN P A s→eN P B s
 |.pure a,h=>hAB a h
 |.choose _ _k,h=>λn=>eN.mono hAB (h n)
 |.program k,h=>eN.mono (s:=k P) hAB h
 |.halt _,h=>h
 |.load ..,h=>h.elim
 |.store ..,h=>h.elim
 |.new ..,h=>h.elim
 |.shape ..,h=>h.elim
 |.freeze ..,h=>h.elim
 |.frozen ..,h=>h.elim
 |.getObj ..,h=>h.elim
 |.setObj ..,h=>h.elim
 |.sys ..,h=>h.elim
 |.mark ..,h=>h.elim
theorem P1 {A:α→Prop}{R:α→α→Prop}(hA:∀a,A a→R a a):∀{s:Sem α},eN P A s→aa P ρ R s s
 |.pure a,h=>⟨a,rfl,hA a h⟩
 |.choose _ k,h=>⟨k,rfl,λn=>P1 hA (h n)⟩
 |.program k,h=>⟨k,rfl,P1 (s:=k P) hA h⟩
 |.halt _,h=>h
 |.load ..,h=>h.elim
 |.store ..,h=>h.elim
 |.new ..,h=>h.elim
 |.shape ..,h=>h.elim
 |.freeze ..,h=>h.elim
 |.frozen ..,h=>h.elim
 |.getObj ..,h=>h.elim
 |.setObj ..,h=>h.elim
 |.sys ..,h=>h.elim
 |.mark ..,h=>h.elim
def gq (v:Δ):Prop:=∀ρ:Rn,rv ρ v=v
theorem pG {s:Sem Δ}(h:eN P gq s):aa P ρ (VV ρ) s s:=P1 (λ_a h=>(h ρ).symm) h
theorem Y5 (k:FloatKind)(q:Question)(r:Option Nat):eN P (λv=>∃r,v=.float k r) (match r with|some r=>pure (Δ.float k r)|none=>do let x ←choose q;pure (Δ.float k x):Sem Δ):=by
 cases r with
 |none=>exact λn=>⟨_,rfl⟩
 |some r=>exact⟨r,rfl⟩
theorem pH (op:BinOp)(k:FloatKind)(x y:Nat):eN P (λv=>∃r,v=.float k r) (Op.floatArith op k x y):=by
 unfold Op.floatArith;cases op<;>first|exact Y5 k _ _|trivial
theorem Jz (k:FloatKind)(r:Nat):gq (.float k r):=λρ=>by simp[rv]
theorem qP (b:Bool):gq (.bool b):=λρ=>by simp[rv]
theorem kL (op:BinOp)(k:FloatKind)(x y:Nat):eN P (λv=>∃r,v=.bool r) (Op.floatCmp op k x y):=by
 unfold Op.floatCmp;cases op<;>first|exact⟨_,rfl⟩|trivial
open Op.Complex in
theorem aP (op:BinOp)(k:FloatKind)(x y:Nat):eN P (λ_=>True) (arith op k x y):=by
 unfold arith;refine eN.bind (pH op k x y) ?_;rintro _ ⟨r,rfl⟩;trivial
open Op.Complex in
theorem sX (op:BinOp)(k:FloatKind)(x y:Nat):eN P (λ_=>True) (cmp op k x y):=by
 unfold cmp;refine eN.bind (kL op k x y) ?_;rintro _ ⟨r,rfl⟩;trivial
open Op.Complex in
theorem jV (k:FloatKind)(x:Nat)(d:FloatKind):eN P (λ_=>True) (conv k x d):=by
 unfold conv
 split
 ·trivial
 ·refine eN.bind (A:=λv=>∃k r,v=.float k r) ?_ ?_
  ·unfold Conv.floatToFloat
   split
   ·exact⟨_,_,rfl⟩
   ·split
    ·exact λn=>⟨_,_,rfl⟩
    ·exact⟨_,_,rfl⟩
    ·dsimp only;split
     ·exact λn=>⟨_,_,rfl⟩
     ·exact⟨_,_,rfl⟩
  ·rintro _ ⟨_,r,rfl⟩;trivial
open Op.Complex in
theorem FB (a b c d:Nat):eN P (λ_=>True) (product a b c d):=by
 unfold product;refine eN.bind (aP _ _ _ _) λ_ _=>eN.bind (aP _ _ _ _) λ_ _=>eN.bind (aP _ _ _ _) λ_ _=>eN.bind (aP _ _ _ _) λ_ _=>eN.bind (aP _ _ _ _) λ_ _=>eN.bind (aP _ _ _ _) λ_ _=>trivial
open Op.Complex in
theorem rE (s a b c d:Nat):eN P (λ_=>True) (corrected s a b c d):=by
 unfold corrected;refine eN.bind (aP _ _ _ _) λ_ _=>eN.bind (aP _ _ _ _) λ_ _=>eN.bind (aP _ _ _ _) λ_ _=>eN.bind (aP _ _ _ _) λ_ _=>eN.bind (aP _ _ _ _) λ_ _=>eN.bind (aP _ _ _ _) λ_ _=>eN.bind (aP _ _ _ _) λ_ _=>eN.bind (aP _ _ _ _) λ_ _=>trivial
open Op.Complex in
theorem Du (a b c d:Nat):eN P (λ_=>True) (quotient a b c d):=by
 unfold quotient;have tail:∀x:Nat×Nat,eN P (λ_=>True) (do
  let zero:=(←cmp .eql .f64 c 0)&&(←cmp .eql .f64 d 0)
  if !(isNaN x.1&&isNaN x.2)then pure x
  else if zero&&(!isNaN a||!isNaN b)then
   pure (←mul (copysign inf c) a,←mul (copysign inf c) b)
  else if(isInf a||isInf b)&&isFinite c&&isFinite d then corrected inf (inf2one a) (inf2one b) c d
  else if(isInf c||isInf d)&&isFinite a&&isFinite b then corrected 0 a b (inf2one c) (inf2one d)
  else pure x:Sem (Nat×Nat)):=λx=>by
  refine eN.bind (sX _ _ _ _) λ_ _=>eN.bind (sX _ _ _ _) λ_ _=>?_;dsimp only;split
  ·trivial
  ·split
   ·exact eN.bind (aP _ _ _ _) λ_ _=>eN.bind (aP _ _ _ _) λ_ _=>trivial
   ·split
    ·exact rE _ _ _ _ _
    ·split
     ·exact rE _ _ _ _ _
     ·trivial
 refine eN.bind (sX _ _ _ _) λq _=>?_;cases q
 ·refine eN.bind (aP _ _ _ _) λ_ _=>eN.bind (aP _ _ _ _) λ_ _=>eN.bind (aP _ _ _ _) λ_ _=>eN.bind (aP _ _ _ _) λ_ _=>eN.bind (aP _ _ _ _) λ_ _=>eN.bind (aP _ _ _ _) λ_ _=>eN.bind (aP _ _ _ _) λ_ _=>eN.bind (aP _ _ _ _) λ_ _=>eN.bind (aP _ _ _ _) λ_ _=>?_;exact tail (_,_)
 ·refine eN.bind (aP _ _ _ _) λ_ _=>eN.bind (aP _ _ _ _) λ_ _=>eN.bind (aP _ _ _ _) λ_ _=>eN.bind (aP _ _ _ _) λ_ _=>eN.bind (aP _ _ _ _) λ_ _=>eN.bind (aP _ _ _ _) λ_ _=>eN.bind (aP _ _ _ _) λ_ _=>eN.bind (aP _ _ _ _) λ_ _=>eN.bind (aP _ _ _ _) λ_ _=>?_;exact tail (_,_)
open Op.Complex in
theorem my (op:BinOp)(k:FloatKind)(a b c d:Nat):eN P gq (Op.complexOp op k a b c d):=by
 have bc:∀a b,gq (.complex k a b):=λa b ρ=>by simp[rv]
 unfold Op.complexOp;cases op<;>first
  |exact eN.bind (aP _ _ _ _) λ_ _=>eN.bind (aP _ _ _ _) λ_ _=>bc _ _
  |exact eN.bind (sX _ _ _ _) λ_ _=>eN.bind (sX _ _ _ _) λ_ _=>qP _
  |(refine eN.bind (jV _ _ _) λ_ _=>eN.bind (jV _ _ _) λ_ _=>eN.bind (jV _ _ _) λ_ _=>eN.bind (jV _ _ _) λ_ _=>?_
    first
    |exact eN.bind (FB _ _ _ _) λ_ _=>eN.bind (jV _ _ _) λ_ _=>eN.bind (jV _ _ _) λ_ _=>bc _ _
    |exact eN.bind (Du _ _ _ _) λ_ _=>eN.bind (jV _ _ _) λ_ _=>eN.bind (jV _ _ _) λ_ _=>bc _ _)
  |trivial
end
end Go.Ren
namespace Go.Ren
open Go
section
variable {P:Ω}{ρ:Rn}{α β α' β':Type}
theorem wF (hp:Plain P ρ)(a b:Addr)(ha:GA P ρ a):aa P ρ Eq (Op.twoPlaces a b) (Op.twoPlaces (ra ρ a) (ra ρ b)):=by
 unfold Op.twoPlaces;refine aa.bind cz ?_;rintro _ _ ⟨rfl,rfl⟩;have e1:((ra ρ a).block != (ra ρ b).block)=(a.block != b.block):=by
  show(!((ra ρ a).block==(ra ρ b).block))=_;rw[show((ra ρ a).block==(ra ρ b).block)=(a.block==b.block) from vd hp _ _];rfl
 have e2:decide ((ra ρ a).block≥P.globals.size)=decide (a.block≥P.globals.size):=by
  rw[decide_eq_decide];have:=LC ha;omega
 simp only[e1,e2];refine aa.aj (λ_=>jU (aa.unsupported _)) (λ_=>?_);refine aa.bind (lp _) ?_;rintro x _ rfl;refine aa.bind (lp _) ?_;rintro y _ rfl;exact aa.pure rfl
theorem M7 (hp:Plain P ρ)(k:IntKind)(a b:Addr)(ha:GA P ρ a):aa P ρ (VV ρ) (Op.addrSub k a b) (Op.addrSub k (ra ρ a) (ra ρ b)):=by
 unfold Op.addrSub;refine aa.bind (wF hp a b ha) ?_;rintro x _ rfl;exact aa.pure (by simp[VV,rv])
theorem M9 (hp:Plain P ρ)(op:BinOp)(a b:Addr)(ha:GA P ρ a):aa P ρ (VV ρ) (Op.addrCmp op a b) (Op.addrCmp op (ra ρ a) (ra ρ b)):=by
 unfold Op.addrCmp;refine aa.bind (wF hp a b ha) ?_;rintro x _ rfl;cases op<;>first|exact aa.unsupported _|exact aa.pure (by simp[VV,rv])
theorem B4 (k:IntKind)(a:Addr)(n:Int):aa P ρ (VV ρ) (Op.addrMod k a n) (Op.addrMod k (ra ρ a) n):=by
 unfold Op.addrMod;refine aa.bind (gV a.block) ?_;rintro sh _ rfl;cases sh with
 |none=>exact aa.unsupported _
 |some x=>
  obtain⟨e,m⟩:=x;dsimp only;refine aa.bind (eH _) ?_;rintro i i' ⟨e,_⟩;subst e;refine aa.aj (λ_=>jU (aa.unsupported _)) (λ_=>?_);refine aa.bind (lp _) ?_;rintro q _ rfl;exact aa.pure (by simp[VV,rv])
theorem l6 (ts:Array Θ)(t:Θ)(a:Option Addr)(y:Δ):aa P ρ (VV ρ) (Builtin.unsafeAdd_ ts t #[.pointer a,y]) (Builtin.unsafeAdd_ ts t #[.pointer (a.map (ra ρ)),rv ρ y]):=by
 unfold Builtin.unsafeAdd_;dsimp only;refine aa.bind (nW y) ?_;rintro n _ rfl;refine aa.aj (λ_=>?_) (λ_=>?_)
 ·cases a with
  |none=>exact aa.unsupported _
  |some a=>
   simp only[Γ];refine aa.bind (sW a.block) ?_;rintro x _ rfl;simp only[Option.isSome_map];exact aa.aj (λ_=>jU (aa.unsupported _)) (λ_=>aa.pure (by simp[VV,rv]))
 ·refine aa.aj (λ_=>jU (aa.unsupported _)) (λ_=>?_);cases a with
  |none=>exact aa.unsupported _
  |some a=>
   simp only[Γ];refine aa.bind (gV a.block) ?_;rintro sh _ rfl;cases sh with
   |none=>exact aa.unsupported _
   |some x=>
    obtain⟨e,m⟩:=x;dsimp only;refine aa.bind cz ?_;rintro _ _ ⟨rfl,rfl⟩;have:(ra ρ a).off=a.off:=rfl;rw[this];split
    ·exact aa.pure (by simp[VV,rv,ra])
    ·exact aa.unsupported _
theorem JA (a:Addr)(l:Bool):aa P ρ (VV ρ) (asNumber a l) (asNumber (ra ρ a) l):=by
 unfold asNumber;refine aa.bind (mQ (.number a l)) ?_;rintro r _ rfl;exact aa.pure (by simp[VV,rv,ra])
theorem Bz (t:Θ)(a:Option Addr)(y:Δ)(ha:GV P ρ (.pointer a)):aa P ρ (VV ρ) (movedNumber t (.pointer a) y) (movedNumber t (.pointer (a.map (ra ρ))) (rv ρ y)):=by
 unfold movedNumber;refine aa.bind (au t) ?_;rintro d d' ⟨e,_⟩;subst e;refine aa.aj (λ_=>jU (aa.unsupported _)) (λ_=>?_);cases a with
 |none=>exact l6 _ _ none y
 |some n=>
  simp only[Γ];refine aa.bind (dN n (rV ha)) ?_;rintro x _ ⟨rfl,_⟩;refine aa.bind (l6 _ _ (some x.1) y) ?_;rintro v _ rfl;cases v with
  |pointer b=>
   cases b with
   |none=>simp only[rv,Γ];exact aa.pure (by simp[VV,rv])
   |some b=>simp only[rv,Γ];exact JA b x.2
  |_=>simp only[rv];exact aa.pure (by simp[VV,rv])
theorem yJ (t:Θ)(a:Option Addr)(y:Δ):aa P ρ (VV ρ) (movedPointer t (.pointer a) y) (movedPointer t (.pointer (a.map (ra ρ))) (rv ρ y)):=by
 unfold movedPointer;cases a with
 |none=>exact l6 _ _ none y
 |some n=>
  simp only[Γ];refine aa.bind (yE n.block) ?_;rintro x _ ⟨rfl,_⟩;simp only[Option.isSome_map];exact aa.aj (λ_=>jU (aa.unsupported _)) (λ_=>l6 _ _ (some n) y)
theorem lr (t:Θ)(a:Option Addr)(k:IntKind)(n:Int)(ha:GV P ρ (.pointer a)):aa P ρ (VV ρ) (movedNumber t (.pointer a) (.int k n)) (movedNumber t (.pointer (a.map (ra ρ))) (.int k n)):=by
 have h:=Bz t a (.int k n) ha;simpa only[rv]using h
theorem xk (t:Θ)(a:Option Addr)(k:IntKind)(n:Int):aa P ρ (VV ρ) (movedPointer t (.pointer a) (.int k n)) (movedPointer t (.pointer (a.map (ra ρ))) (.int k n)):=by
 have h:=yJ (P:=P) (ρ:=ρ) t a (.int k n);simpa only[rv]using h
theorem Vx (hp:Plain P ρ)(op:BinOp)(t:Θ)(a b:Option Addr)(hx:GV P ρ (.pointer a))(hy:GV P ρ (.pointer b))(h1:op≠.eql)(h2:op≠.neq):aa P ρ (VV ρ) (binOp op t (.pointer a) (.pointer b)) (binOp op t (.pointer (a.map (ra ρ))) (.pointer (b.map (ra ρ)))):=by
 cases a<;>cases b<;>cases op<;>simp only[binOp,Γ]<;>first
  |exact absurd rfl h1|exact absurd rfl h2
  |exact aa.unsupported _|exact aa.stuck _
  |(refine aa.bind (dN _ (rV hx)) ?_;rintro x1 _ ⟨rfl,gx⟩;refine aa.bind (dN _ (rV hy)) ?_;rintro y1 _ ⟨rfl,gy⟩;first|exact M7 hp _ _ _ gx|exact M9 hp _ _ _ gx)
theorem Vy (_hp:Plain P ρ)(op:BinOp)(t:Θ)(a:Option Addr)(k:IntKind)(b:Int)(hx:GV P ρ (.pointer a))(h1:op≠.eql)(h2:op≠.neq):aa P ρ (VV ρ) (binOp op t (.pointer a) (.int k b)) (binOp op t (.pointer (a.map (ra ρ))) (.int k b)):=by
 cases op<;>simp only[binOp]<;>first
  |exact absurd rfl h1|exact absurd rfl h2
  |exact lr t _ k _ hx
  |(refine aa.bind (au t) ?_;rintro d d' ⟨e,_⟩;subst e;exact aa.aj (λ_=>xk t _ k b) (λ_=>lr t _ k b hx))
  |exact aa.unsupported _
  |(cases a<;>simp only[Γ]<;>first|exact aa.unsupported _|(refine aa.bind (dN _ (rV hx)) ?_;rintro x1 _ ⟨rfl,gx⟩;exact B4 _ _ _))
theorem Vz (_hp:Plain P ρ)(op:BinOp)(t:Θ)(a:Option Addr)(k:IntKind)(b:Int)(hx:GV P ρ (.pointer a))(h1:op≠.eql)(h2:op≠.neq):aa P ρ (VV ρ) (binOp op t (.int k b) (.pointer a)) (binOp op t (.int k b) (.pointer (a.map (ra ρ)))):=by
 cases op<;>simp only[binOp]<;>first
  |exact absurd rfl h1|exact absurd rfl h2
  |exact lr t _ k _ hx
  |exact aa.unsupported _
  |(cases a<;>simp only[Γ]<;>first|exact aa.unsupported _|(refine aa.bind (dN _ (rV hx)) ?_;rintro x1 _ ⟨rfl,gx⟩;exact B4 _ _ _))
theorem VA (hp:Plain P ρ)(op:BinOp)(t:Θ)(x y:Δ)(hx:GV P ρ x)(hy:GV P ρ y):aa P ρ (VV ρ) (binOp op t x y) (binOp op t (rv ρ x) (rv ρ y)):=by
 have he:=LD (P:=P) (ρ:=ρ) hp t x y hx hy;have hE:aa P ρ (VV ρ) (do pure (.bool (←Op.equal t x y))) (do pure (.bool (←Op.equal t (rv ρ x) (rv ρ y)))):=by
  refine aa.bind he ?_;rintro b _ rfl;exact aa.pure (by simp[VV,rv])
 have hN:aa P ρ (VV ρ) (do pure (.bool (!(←Op.equal t x y)))) (do pure (.bool (!(←Op.equal t (rv ρ x) (rv ρ y))))):=by
  refine aa.bind he ?_;rintro b _ rfl;exact aa.pure (by simp[VV,rv])
 clear he;by_cases h1:op=.eql
 ·subst h1;cases x<;>first
   |(cases y<;>simp only[rv,binOp]at hE ⊢<;>first
      |exact hE
      |(refine aa.aj (λ_=>aa.stuck _) (λ_=>?_);first
         |exact yI _ _ _
         |exact pG (eN.mono (by rintro _ ⟨r,rfl⟩;exact qP _) (kL _ _ _ _))
         |exact pG (my _ _ _ _ _ _))
      |exact lq _ _ _)
 by_cases h2:op=.neq
 ·subst h2;cases x<;>first
   |(cases y<;>simp only[rv,binOp]at hN ⊢<;>first
      |exact hN
      |(refine aa.aj (λ_=>aa.stuck _) (λ_=>?_);first
         |exact yI _ _ _
         |exact pG (eN.mono (by rintro _ ⟨r,rfl⟩;exact qP _) (kL _ _ _ _))
         |exact pG (my _ _ _ _ _ _))
      |exact lq _ _ _)
 clear hE hN;cases x with
 |int k a=>
  cases y with
  |int k2 b=>
   simp only[rv];cases op<;>simp only[binOp]<;>first
    |exact Vv hp _ _ _ _ _
    |exact absurd rfl h1|exact absurd rfl h2
    |(refine aa.aj (λ_=>aa.stuck _) (λ_=>?_);first|exact yH _ _ _ _|exact P0 hp _ _ _ _|exact B3 _ _ _ _|exact yI _ _ _)
  |pointer b=>simp only[rv];exact Vz hp op t b k a hy h1 h2
  |_=>simp only[rv];cases op<;>simp only[binOp]<;>first|exact aa.stuck _|exact absurd rfl h1|exact absurd rfl h2
 |float k a=>
  cases y with
  |float k2 b=>
   simp only[rv];cases op<;>simp only[binOp]<;>first
    |exact absurd rfl h1|exact absurd rfl h2
    |(refine aa.aj (λ_=>aa.stuck _) (λ_=>?_);first
       |exact pG (eN.mono (by rintro _ ⟨r,rfl⟩;exact Jz _ _) (pH _ _ _ _))
       |exact pG (eN.mono (by rintro _ ⟨r,rfl⟩;exact qP _) (kL _ _ _ _)))
    |exact aa.stuck _
  |pointer b=>simp only[rv];cases op<;>simp only[binOp]<;>first|exact aa.unsupported _|exact absurd rfl h1|exact absurd rfl h2
  |_=>simp only[rv];cases op<;>simp only[binOp]<;>first|exact aa.stuck _|exact absurd rfl h1|exact absurd rfl h2
 |complex k a a2=>
  cases y with
  |complex k2 b b2=>
   simp only[rv];cases op<;>simp only[binOp]<;>first
    |exact absurd rfl h1|exact absurd rfl h2
    |(refine aa.aj (λ_=>aa.stuck _) (λ_=>?_);exact pG (my _ _ _ _ _ _))
    |exact aa.stuck _
  |pointer b=>simp only[rv];cases op<;>simp only[binOp]<;>first|exact aa.unsupported _|exact absurd rfl h1|exact absurd rfl h2
  |_=>simp only[rv];cases op<;>simp only[binOp]<;>first|exact aa.stuck _|exact absurd rfl h1|exact absurd rfl h2
 |string a=>
  cases y with
  |string b=>simp only[rv,binOp];exact lq _ _ _
  |pointer b=>simp only[rv];cases op<;>simp only[binOp]<;>first|exact aa.unsupported _|exact absurd rfl h1|exact absurd rfl h2
  |_=>simp only[rv];cases op<;>simp only[binOp]<;>first|exact aa.stuck _|exact absurd rfl h1|exact absurd rfl h2
 |pointer a=>
  cases y with
  |pointer b=>simp only[rv];exact Vx hp op t a b hx hy h1 h2
  |int k b=>simp only[rv];exact Vy hp op t a k b hx h1 h2
  |_=>simp only[rv];cases op<;>simp only[binOp]<;>first|exact aa.unsupported _|exact absurd rfl h1|exact absurd rfl h2
 |_=>
  cases y with
  |pointer b=>simp only[rv];cases op<;>simp only[binOp]<;>first|exact aa.unsupported _|exact absurd rfl h1|exact absurd rfl h2
  |_=>simp only[rv];cases op<;>simp only[binOp]<;>first|exact aa.stuck _|exact absurd rfl h1|exact absurd rfl h2
end
section
variable {P:Ω}{ρ:Rn}{α β α' β':Type}
theorem aa.mono' {R:α→β→Prop}{s:Sem α}{s1 s2:Sem β}(h:aa P ρ R s s1)(e:s1=s2):aa P ρ R s s2:=e▸h
theorem Y6 (x y:Δ):aa P ρ (VV ρ) (Builtin.min2 x y) (Builtin.min2 (rv ρ x) (rv ρ y)):=by
 cases x with
 |pointer a=>
  cases a<;>cases y<;>simp only[rv,Γ,Builtin.min2]<;>first
   |exact aa.unsupported _|exact aa.stuck _|(rename_i b;cases b<;>simp only<;>first|exact aa.unsupported _|exact aa.stuck _)
 |int k a=>
  cases y<;>simp only[rv,Builtin.min2]<;>first
   |exact aa.pure (by simp[VV,rv])|exact aa.stuck _|exact aa.unsupported _|(rename_i b;cases b<;>simp only[Γ]<;>first|exact aa.unsupported _|exact aa.stuck _)
 |float k a=>
  cases y<;>simp only[rv,Builtin.min2]<;>first
   |(split<;>first|exact aa.pure (by simp[VV,rv])|(refine aa.bind (iD _) ?_;rintro n _ rfl;exact aa.pure (by simp[VV,rv])))
   |exact aa.stuck _|exact aa.unsupported _|(rename_i b;cases b<;>simp only[Γ]<;>first|exact aa.unsupported _|exact aa.stuck _)
 |string a=>
  cases y<;>simp only[rv,Builtin.min2]<;>first
   |(refine aa.bind (lq _ _ _) ?_;rintro v _ rfl;refine aa.bind (yA v) ?_;rintro b _ rfl;exact aa.pure (by simp[VV,rv]))
   |exact aa.stuck _|exact aa.unsupported _|(rename_i b;cases b<;>simp only[Γ]<;>first|exact aa.unsupported _|exact aa.stuck _)
 |_=>
  cases y<;>simp only[rv,Builtin.min2]<;>first
   |exact aa.stuck _|exact aa.unsupported _|(rename_i b;cases b<;>simp only[Γ]<;>first|exact aa.unsupported _|exact aa.stuck _)
theorem Y7 (x y:Δ):aa P ρ (VV ρ) (Builtin.max2 x y) (Builtin.max2 (rv ρ x) (rv ρ y)):=by
 cases x with
 |pointer a=>
  cases a<;>cases y<;>simp only[rv,Γ,Builtin.max2]<;>first
   |exact aa.unsupported _|exact aa.stuck _|(rename_i b;cases b<;>simp only<;>first|exact aa.unsupported _|exact aa.stuck _)
 |int k a=>
  cases y<;>simp only[rv,Builtin.max2]<;>first
   |exact aa.pure (by simp[VV,rv])|exact aa.stuck _|exact aa.unsupported _|(rename_i b;cases b<;>simp only[Γ]<;>first|exact aa.unsupported _|exact aa.stuck _)
 |float k a=>
  cases y<;>simp only[rv,Builtin.max2]<;>first
   |(split<;>first|exact aa.pure (by simp[VV,rv])|(refine aa.bind (iD _) ?_;rintro n _ rfl;exact aa.pure (by simp[VV,rv])))
   |exact aa.stuck _|exact aa.unsupported _|(rename_i b;cases b<;>simp only[Γ]<;>first|exact aa.unsupported _|exact aa.stuck _)
 |string a=>
  cases y<;>simp only[rv,Builtin.max2]<;>first
   |(refine aa.bind (lq _ _ _) ?_;rintro v _ rfl;refine aa.bind (yA v) ?_;rintro b _ rfl;exact aa.pure (by simp[VV,rv]))
   |exact aa.stuck _|exact aa.unsupported _|(rename_i b;cases b<;>simp only[Γ]<;>first|exact aa.unsupported _|exact aa.stuck _)
 |_=>
  cases y<;>simp only[rv,Builtin.max2]<;>first
   |exact aa.stuck _|exact aa.unsupported _|(rename_i b;cases b<;>simp only[Γ]<;>first|exact aa.unsupported _|exact aa.stuck _)
theorem yK {f:Δ→Δ→Sem Δ}(hf:∀x y,aa P ρ (VV ρ) (f x y) (f (rv ρ x) (rv ρ y))):∀(l:List Δ) (x:Δ),aa P ρ (VV ρ) (l.foldlM f x) ((l.map (rv ρ)).foldlM f (rv ρ x))
 |[],x=>by simp only[zbu,List.foldlM];exact aa.pure rfl
 |y::l,x=>by
  simp only[zaD,List.foldlM];refine aa.bind (hf x y) ?_;rintro v _ rfl;exact yK hf l v
theorem abe (ts:Array Θ)(ty:Θ)(args:Array Δ):aa P ρ (VV ρ) (Builtin.min_ ts ty args) (Builtin.min_ ts ty (args.map (rv ρ))):=by
 unfold Builtin.min_;rw[zbn];cases args.toList with
 |nil=>exact aa.stuck _
 |cons x l=>exact yK Y6 l x
theorem abf (ts:Array Θ)(ty:Θ)(args:Array Δ):aa P ρ (VV ρ) (Builtin.max_ ts ty args) (Builtin.max_ ts ty (args.map (rv ρ))):=by
 unfold Builtin.max_;rw[zbn];cases args.toList with
 |nil=>exact aa.stuck _
 |cons x l=>exact yK Y7 l x
theorem rF (a:Addr)(u:Θ)(n:Nat):aa P ρ Eq (variablesAt a u n) (variablesAt (ra ρ a) u n):=by
 unfold variablesAt;refine aa.bind cz ?_;rintro _ _ ⟨rfl,rfl⟩;refine aa.bind (gV a.block) ?_;rintro sh _ rfl;cases sh<;>exact aa.pure rfl
theorem wH:∀(n:Nat) (a:Addr) (acc:ByteArray),aa P ρ Eq (loadBytes a acc n) (loadBytes (ra ρ a) acc n)
 |0,a,acc=>aa.pure rfl
 |n+1,a,acc=>by
  unfold loadBytes;refine aa.bind (yz a) ?_;rintro v _ rfl;cases v with
  |int k b=>
   simp only[rv];cases k<;>first
    |exact aa.stuck _
    |(rw[ku];exact wH n (a.add 1) _)
  |_=>simp only[rv];exact aa.stuck _
theorem VB (f:Δ→Δ)(x:Δ):(⟨[x]⟩:Array Δ).map f=⟨[f x]⟩:=by simp
theorem VC (f:Δ→Δ)(x y:Δ):(⟨[x,y]⟩:Array Δ).map f=⟨[f x,f y]⟩:=by simp
theorem Y8 (a:Option Addr):rv ρ (.pointer a)=.pointer (a.map (ra ρ)):=by simp only[rv]
theorem abg (a:Option Addr)(n c:Nat):rv ρ (.slice a n c)=.slice (a.map (ra ρ)) n c:=by simp only[rv]
theorem xl (ts:Array Θ)(ty:Θ)(p:Option Addr)(y:Δ):aa P ρ (VV ρ) (ξ ts ty #[.pointer p,y]) (ξ ts ty #[.pointer (p.map (ra ρ)),rv ρ y]):=by
 unfold ξ;refine aa.bind (nW y) ?_;rintro n _ rfl;cases ts[0]? with
 |none=>exact aa.stuck _
 |some pt=>
  dsimp only;refine aa.aj (λ_=>jU (aM _)) (λ_=>?_);refine aa.aj (λ_=>jU (aa.unsupported _)) (λ_=>?_);cases p with
  |none=>
   exact aa.aj (λ_=>aa.pure (by simp[VV,rv])) (λ_=>aM _)
  |some a=>
   refine aa.aj (λ_=>aa.pure (by simp[VV,rv])) (λ_=>?_);refine aa.bind (yC pt) ?_;rintro e _ rfl;refine aa.bind (rF a e n.toNat) ?_;rintro b _ rfl;refine aa.aj (λ_=>?_) (λ_=>aa.unsupported _);refine aa.bind (wH _ _ _) ?_;rintro s _ rfl;refine aa.bind (PX a n.toNat) ?_;rintro _ _ rfl;exact aa.pure (by simp[VV,rv])
theorem yL (ts:Array Θ)(ty:Θ)(args:Array Δ):aa P ρ (VV ρ) (ξ ts ty args) (ξ ts ty (args.map (rv ρ))):=by
 rcases args with⟨l⟩
 match l with
 |[]=>exact aa.stuck _
 |[_]=>exact aa.stuck _
 |_::_::_::_=>exact aa.stuck _
 |[x,y]=>
  rw[VC];cases x with
  |pointer p=>rw[Y8];exact xl ts ty p y
  |_=>exact aa.stuck _
theorem rW (ts:Array Θ)(ty:Θ)(a:Option Addr)(n c:Nat):aa P ρ (VV ρ) (π ts ty #[.slice a n c]) (π ts ty #[.slice (a.map (ra ρ)) n c]):=by
 cases a with
 |none=>exact(aa.pure (by simp[VV,rv]):aa P ρ (VV ρ) (pure (.pointer none)) (pure (.pointer none)))
 |some a=>
  have:aa P ρ (VV ρ) (if c≠0 then pure (.pointer (some a))else do
   if(←viewAt a.block).isSome then pure (.pointer (some a))else pure (.pointer (some ⟨←newObj (.view a (←elemOf ty)),0,none⟩)):Sem Δ)
   (if c≠0 then pure (.pointer (some (ra ρ a)))else do
   if(←viewAt (ra ρ a).block).isSome then pure (.pointer (some (ra ρ a)))else pure (.pointer (some ⟨←newObj (.view (ra ρ a) (←elemOf ty)),0,none⟩)):Sem Δ):=by
   refine aa.aj (λ_=>aa.pure (by simp[VV,rv])) (λ_=>?_);refine aa.bind (sW a.block) ?_;rintro x _ rfl;simp only[Option.isSome_map];refine aa.aj (λ_=>aa.pure (by simp[VV,rv])) (λ_=>?_);refine aa.bind (yC ty) ?_;rintro e _ rfl;refine aa.bind (mQ (.view a e)) ?_;rintro r _ rfl;exact aa.pure (by simp[VV,rv,ra])
  exact this
theorem sY (ts:Array Θ)(ty:Θ)(args:Array Δ):aa P ρ (VV ρ) (π ts ty args) (π ts ty (args.map (rv ρ))):=by
 rcases args with⟨l⟩
 match l with
 |[]=>exact aa.stuck _
 |_::_::_=>exact aa.stuck _
 |[x]=>
  rw[VB];cases x with
  |slice a n c=>rw[abg];exact rW ts ty a n c
  |_=>exact aa.stuck _
theorem js (empty:Bool):∀(n:Nat) (t:Θ) (v:Δ),aa P ρ Eq (Instr.checkKey empty n t v) (Instr.checkKey empty n t (rv ρ v))
 |0,t,v=>aa.unsupported _
 |n+1,t,v=>by
  unfold Instr.checkKey;refine aa.bind (au t) ?_;rintro d d' ⟨e,_⟩;subst e;cases d' with
  |interface ms=>
   cases v with
   |iface d x=>
    simp only[rv];refine aa.bind (eH d) ?_;rintro i i' ⟨e,_⟩;subst e;refine aa.aj (λ_=>?_) (λ_=>js empty n _ _);refine aa.aj (λ_=>jU (aM _)) (λ_=>?_);refine aa.bind (B2 _) ?_;rintro q _ rfl;exact jU (aM _)
   |nilIface=>simp only[rv];exact aa.pure rfl
   |_=>simp only[rv];exact aa.stuck _
  |array m e=>
   cases v with
   |agg cs=>
    simp only[rv];refine aa.bind (R:=Eq) ?_ (by rintro _ _ rfl;exact aa.pure rfl)
    haveI:=lawful
    rw[Std.Legacy.Range.forIn_eq_forIn_range',Std.Legacy.Range.forIn_eq_forIn_range'];refine n6 (R:=Eq) (λf a b hab=>?_) _ _ _ rfl;subst hab;refine aa.bind (cd _) ?_;rintro sz _ rfl;refine aa.bind (pD _ _ _) ?_;rintro u _ rfl;refine aa.bind (js empty n _ _) ?_;rintro _ _ rfl;exact aa.pure (Or.inl ⟨_,_,rfl,rfl,rfl⟩)
   |_=>simp only[rv];exact aa.stuck _
  |struct fs=>
   cases v with
   |agg cs=>
    simp only[rv];refine aa.bind (R:=Eq) ?_ (by rintro _ _ rfl;exact aa.pure rfl)
    haveI:=lawful
    rw[←zbP,←zbP];refine n6 (R:=Eq) (λf a b hab=>?_) fs.toList _ _ rfl;subst hab;refine aa.aj (λ_=>?_) (λ_=>aa.pure (Or.inl ⟨_,_,rfl,rfl,rfl⟩));refine aa.bind (pD _ _ _) ?_;rintro u _ rfl;refine aa.bind (js empty n _ _) ?_;rintro _ _ rfl;exact aa.pure (Or.inl ⟨_,_,rfl,rfl,rfl⟩)
   |_=>simp only[rv];exact aa.stuck _
  |_=>cases v<;>simp only<;>exact aa.pure rfl
def re (ρ:Rn)(e:Φ):Φ:={ e with key:=rv ρ e.key,val:=rv ρ e.val }
theorem sZ (hp:Plain P ρ)(t:Θ)(k:Δ)(hk:GV P ρ k):∀(es:List Φ) (i:Nat),(∀e∈es,GV P ρ e.key)→aa P ρ (λx y=>y=x.map λz=>(z.1,rv ρ z.2)) (Instr.findAsking t k es i) (Instr.findAsking t (rv ρ k) (es.map (re ρ)) i)
 |[],i,_=>aa.pure rfl
 |e::es,i,h=>by
  simp only[zaD,Instr.findAsking];refine aa.bind (LD hp t k e.key hk (h e (by simp))) ?_;rintro b _ rfl;exact aa.aj (λ_=>aa.pure rfl) (λ_=>sZ hp t k hk es (i+1) λx hx=>h x (by simp[hx]))
theorem JB (d:TypeDesc)(k x:Δ):Instr.sameNow d (rv ρ k) (rv ρ x)=Instr.sameNow d k x:=by
 cases d<;>cases k<;>simp only[rv,Instr.sameNow]<;>cases x<;>simp only[rv]
theorem yM (d:TypeDesc)(k:Δ):∀(es:List Φ) (i:Nat),ώ d (rv ρ k) (es.map (re ρ)) i=(ώ d k es i).map λx=>x.map λz=>(z.1,rv ρ z.2)
 |[],i=>rfl
 |e::es,i=>by
  simp only[zaD,ώ,re,JB];split
  ·rfl
  ·exact yM d k es (i+1)
  ·rfl
theorem ve (hp:Plain P ρ)(t:Θ)(k:Δ)(es:List Φ)(hk:GV P ρ k)(he:∀e∈es,GV P ρ e.key):aa P ρ (λx y=>y=x.map λz=>(z.1,rv ρ z.2)) (Instr.findKey t k es) (Instr.findKey t (rv ρ k) (es.map (re ρ))):=by
 unfold Instr.findKey;refine aa.bind (au t) ?_;rintro d d' ⟨e,_⟩;subst e;rw[yM];cases ώ d' k es 0 with
 |some r=>exact aa.pure rfl
 |none=>exact sZ hp t k hk es 0 he
theorem P2 {es:Array Φ}{c:Nat}(h:GO P ρ (.map es c)):∀e∈es.toList,GV P ρ e.key:=by
 intro e he;refine h.imp id λh=>?_;simp only[ro,Obj.map.injEq,zaA]at h;obtain⟨i,hi,rfl⟩:=zci.1 (Array.mem_toList_iff.1 he);have e1:(es.map λe=>{ e with key:=rv ρ e.key,val:=rv ρ e.val }:Array Φ)[i]'(by simpa using hi)=es[i]:=by simp only[h]
 simp only[zcb]at e1;generalize es[i]=x at e1 ⊢;obtain⟨k,v,b⟩:=x;simp only[MapEntry.mk.injEq,zaA]at e1 ⊢;exact e1.1
theorem P3 (hp:Plain P ρ)(t:Θ)(x k:Δ)(ok:Bool)(hk:GV P ρ k):aa P ρ (VV ρ) (Instr.lookup t x k ok) (Instr.lookup t (rv ρ x) (rv ρ k) ok):=by
 unfold Instr.lookup;generalize 10000=N;refine aa.bind (au t) ?_;rintro d d' ⟨e,_⟩;subst e;cases d' with
 |map key elem=>
  dsimp only;cases x with
  |map r=>
   cases r with
   |none=>
    simp only[rv,Γ];refine aa.bind (R:=λ(es es':Array Φ)=>es'=es.map (re ρ)∧∀e∈es.toList,GV P ρ e.key) (aa.pure ⟨by simp,by simp⟩) ?_;rintro es _ ⟨rfl,he⟩;rw[show(es.map (re ρ)).isEmpty=es.isEmpty by simp[Array.isEmpty]];refine aa.bind (js _ _ _ _) ?_;rintro _ _ rfl;rw[zbn];refine aa.bind (ve hp key k es.toList hk he) ?_;rintro r _ rfl;cases r with
    |some z=>exact aa.pure (by cases ok<;>simp[VV,rv])
    |none=>
     simp only[Γ];refine aa.bind (eu hp elem) ?_;rintro v _ ⟨rfl,hv⟩;exact aa.pure (by cases ok<;>simp[VV,rv,hv])
   |some r=>
    simp only[rv,Γ];refine aa.bind (mS r) ?_;rintro o _ ⟨rfl,ho⟩;cases o with
    |map es0 c=>
     refine aa.bind (R:=λ(es es':Array Φ)=>es'=es.map (re ρ)∧∀e∈es.toList,GV P ρ e.key) (aa.pure ⟨rfl,P2 ho⟩) ?_;rintro es _ ⟨rfl,he⟩;rw[show(es.map (re ρ)).isEmpty=es.isEmpty by simp[Array.isEmpty]];refine aa.bind (js _ _ _ _) ?_;rintro _ _ rfl;rw[zbn];refine aa.bind (ve hp key k es.toList hk he) ?_;rintro r _ rfl;cases r with
     |some z=>exact aa.pure (by cases ok<;>simp[VV,rv])
     |none=>
      simp only[Γ];refine aa.bind (eu hp elem) ?_;rintro v _ ⟨rfl,hv⟩;exact aa.pure (by cases ok<;>simp[VV,rv,hv])
    |_=>exact aa.stuck _
  |_=>simp only[rv];exact aa.stuck _
 |_=>exact aa.stuck _
theorem FC (hp:Plain P ρ):∀(n:Nat) (x y:Δ),Instr.sameBits n (rv ρ x) (rv ρ y)=Instr.sameBits n x y:=by
 intro n
 induction n with
 |zero=>
  intro x y;cases x<;>cases y<;>simp only[rv,Instr.sameBits]
  ·rename_i a b;cases a<;>cases b<;>simp[yF hp]
  ·rename_i a b;cases a<;>cases b<;>simp[vd hp]
 |succ n ih=>
  intro x y;cases x<;>cases y<;>simp only[rv,Instr.sameBits,ih]
  ·rename_i a b;cases a<;>cases b<;>simp[yF hp]
  ·rename_i a b;cases a<;>cases b<;>simp[vd hp]
  ·rename_i a b;simp only[Array.size_map,zbn,List.zip_map,List.all_map]
   congr 2
   funext z;exact ih z.1 z.2
theorem yN (hp:Plain P ρ)(x y:Δ):aa P ρ (VV ρ) (Instr.keyThatStays x y) (Instr.keyThatStays (rv ρ x) (rv ρ y)):=by
 unfold Instr.keyThatStays;rw[FC hp];refine aa.aj (λ_=>aa.pure rfl) (λ_=>?_);refine aa.bind (iD _) ?_;rintro n _ rfl;exact aa.pure (by simp only[VV];split<;>rfl)
theorem FD (hp:Plain P ρ)(t:Θ)(m k v:Δ)(hk:GV P ρ k):aa P ρ Eq (Instr.mapUpdate t m k v) (Instr.mapUpdate t (rv ρ m) (rv ρ k) (rv ρ v)):=by
 unfold Instr.mapUpdate;refine aa.bind (au t) ?_;rintro d d' ⟨e,_⟩;subst e;cases d' with
 |map key elem=>
  dsimp only;cases m with
  |map r=>
   cases r with
   |none=>simp only[rv,Γ];exact aM _
   |some r=>
    simp only[rv,Γ];refine aa.bind (mS r) ?_;rintro o _ ⟨rfl,ho⟩;cases o with
    |map es c=>
     simp only[ro];refine aa.bind (js _ _ _ _) ?_;rintro _ _ rfl;have hf:=ve hp key k es.toList hk (P2 ho);rw[show es.toList.map (re ρ)=(es.map (λe=>{ e with key:=rv ρ e.key,val:=rv ρ e.val }:Φ→Φ)).toList from(zbn ..).symm]at hf;refine aa.bind hf ?_;rintro q _ rfl;cases q with
     |none=>
      refine(Fx (ρ:=ρ) r (.map (es.push { key:=k,val:=v,born:=c }) (c+1)) trivial).mono' ?_;simp[ro]
     |some z=>
      simp only[Γ];have hks:=yN (P:=P) hp (((es[z.1]?).map (·.key)).getD k) k;have e1:rv ρ (((es[z.1]?).map (·.key)).getD k)=((((es.map (λe=>{ e with key:=rv ρ e.key,val:=rv ρ e.val }:Φ→Φ))[z.1]?).map (·.key)).getD (rv ρ k)):=by
       rw[zaE];cases es[z.1]?<;>rfl
      rw[e1]at hks;refine aa.bind hks ?_;rintro k2 _ rfl;refine(Fx (ρ:=ρ) r (.map (es.modify z.1 λe=>{ e with key:=k2,val:=v }) c) trivial).mono' ?_;simp only[ro]
      congr 2
      apply Array.ext
      ·simp
      ·intro i h1 h2;simp only[zcb,Array.getElem_modify];split<;>rfl
    |_=>simp only[ro];exact aa.stuck _
  |_=>simp only[rv];exact aa.stuck _
 |_=>exact aa.stuck _
theorem Na (t:Θ)(r:Option Δ):aa P ρ (VV ρ) (Instr.makeMap t r) (Instr.makeMap t (r.map (rv ρ))):=by
 unfold Instr.makeMap;have last:aa P ρ (VV ρ) (do pure (.map (some (←newObj (.map #[] 0)))):Sem Δ) (do pure (.map (some (←newObj (.map #[] 0)))):Sem Δ):=by
  have:=mQ (P:=P) (ρ:=ρ) (.map #[] 0) trivial;simp only[ro,zcn]at this;refine aa.bind this ?_;rintro r _ rfl;exact aa.pure (by simp[VV,rv])
 cases r with
 |none=>exact last
 |some h=>
  simp only[Γ];refine aa.bind (au t) ?_;rintro d d' ⟨e,_⟩;subst e;cases d' with
  |map key elem=>
   dsimp only;refine aa.bind (nW h) ?_;rintro _ _ rfl;exact last
  |_=>exact jU (aa.stuck _)
theorem Dv (hp:Plain P ρ)(x:Δ)(t u:Θ):aa P ρ (VV ρ) (Instr.typeAssert x t u true) (Instr.typeAssert (rv ρ x) t u true):=by
 unfold Instr.typeAssert;have fails:∀(s d:Option Θ) (m:String),aa P ρ (VV ρ) (do pure (.tuple #[←ι u,.bool false]):Sem Δ) (do pure (.tuple #[←ι u,.bool false]):Sem Δ):=λs d m=>by
  refine aa.bind (eu hp u) ?_;rintro v _ ⟨rfl,hv⟩;exact aa.pure (by simp[VV,rv,hv])
 have holds:∀v:Δ,aa P ρ (VV ρ) (pure (.tuple #[v,.bool true]):Sem Δ) (pure (.tuple #[rv ρ v,.bool true]):Sem Δ):=λv=>aa.pure (by simp[VV,rv]);refine aa.bind (au u) ?_;rintro d d' ⟨e,_⟩;subst e;cases x with
 |nilIface=>cases d'<;>simp only[rv]<;>exact fails none none ""
 |iface a v=>
  cases d' with
  |interface ms=>
   simp only[rv];refine aa.bind (eH a) ?_;rintro i i' ⟨e,_⟩;subst e;split
   ·have:=holds (.iface a v);rw[show rv ρ (.iface a v)=.iface a (rv ρ v) by simp only[rv]]at this;exact this
   ·exact fails none none ""
  |_=>simp only[rv];exact aa.aj (λ_=>holds v) (λ_=>fails none none "")
 |_=>cases d'<;>simp only[rv]<;>exact aa.stuck _
end
theorem ba {f:Δ→Δ}{cs:Array Δ}:cs.map f=cs↔∀x∈cs,f x=x:=by
 constructor
 ·intro h x hx;obtain⟨i,hi,rfl⟩:=zci.1 hx;have:(cs.map f)[i]'(by simpa using hi)=cs[i]:=by simp only[h]
  simpa using this
 ·intro h;apply Array.ext
  ·simp
  ·intro i h1 h2;simp only[zcb];exact h _ (Array.getElem_mem h2)
theorem dA {f g:Δ→Δ}{cs:Array Δ}(h:∀x∈cs,f x=g x):cs.map f=cs.map g:=by
 apply Array.ext
 ·simp
 ·intro i h1 h2;simp only[zcb];exact h _ (Array.getElem_mem (by simpa using h1))
section
variable {σ Fh:Rn}
theorem dO (hb:∀r,σ r=r→Fh r=r)(hf:∀x,σ.f x=x→Fh.f x=x):∀v:Δ,rv σ v=v→rv Fh v=v
 |.pointer none,_=>by simp[rv]
 |.pointer (some a),h=>by
  simp only[rv,Γ,Δ.pointer.injEq,zaG,ra]at h ⊢;obtain⟨b,o,s⟩:=a;simp only[Addr.mk.injEq,zaA]at h ⊢;exact hb _ h
 |.slice none _ _,_=>by simp[rv]
 |.slice (some a) l c,h=>by
  simp only[rv,Γ,Δ.slice.injEq,zaG,ra,zaA]at h ⊢;obtain⟨b,o,s⟩:=a;simp only[Addr.mk.injEq,zaA]at h ⊢;exact hb _ h
 |.map none,_=>by simp[rv]
 |.map (some r),h=>by
  simp only[rv,Γ,Δ.map.injEq,zaG]at h ⊢;exact hb _ h
 |.chan none,_=>by simp[rv]
 |.chan (some r),h=>by
  simp only[rv,Γ,Δ.chan.injEq,zaG]at h ⊢;exact hb _ h
 |.func fn first captured,h=>by
  simp only[rv,Δ.func.injEq]at h ⊢;refine⟨hf _ h.1,ba.2 λx hx=>?_,ba.2 λx hx=>?_⟩
  ·have:=zbj hx;exact dO hb hf x (ba.1 h.2.1 x hx)
  ·have:=zbj hx;exact dO hb hf x (ba.1 h.2.2 x hx)
 |.iface t v,h=>by
  simp only[rv,Δ.iface.injEq,true_and]at h ⊢;exact dO hb hf v h
 |.agg cs,h=>by
  simp only[rv,Δ.agg.injEq]at h ⊢;refine ba.2 λx hx=>?_;have:=zbj hx;exact dO hb hf x (ba.1 h x hx)
 |.tuple cs,h=>by
  simp only[rv,Δ.tuple.injEq]at h ⊢;refine ba.2 λx hx=>?_;have:=zbj hx;exact dO hb hf x (ba.1 h x hx)
 |.bool _,_=>by simp[rv]
 |.int _ _,_=>by simp[rv]
 |.float _ _,_=>by simp[rv]
 |.complex _ _ _,_=>by simp[rv]
 |.string _,_=>by simp[rv]
 |.nilFunc,_=>by simp[rv]
 |.nilIface,_=>by simp[rv]
termination_by v=>SizeOf.sizeOf v
theorem agree {ρ ρ':Rn}(hb:∀r,σ r=r→ρ r=ρ' r)(hf:∀x,σ.f x=x→ρ.f x=ρ'.f x):∀v:Δ,rv σ v=v→rv ρ v=rv ρ' v
 |.pointer none,_=>by simp[rv]
 |.pointer (some a),h=>by
  simp only[rv,Γ,Δ.pointer.injEq,zaG,ra]at h ⊢;obtain⟨b,o,s⟩:=a;simp only[Addr.mk.injEq,zaA]at h ⊢;exact hb _ h
 |.slice none _ _,_=>by simp[rv]
 |.slice (some a) l c,h=>by
  simp only[rv,Γ,Δ.slice.injEq,zaG,ra,zaA]at h ⊢;obtain⟨b,o,s⟩:=a;simp only[Addr.mk.injEq,zaA]at h ⊢;exact hb _ h
 |.map none,_=>by simp[rv]
 |.map (some r),h=>by
  simp only[rv,Γ,Δ.map.injEq,zaG]at h ⊢;exact hb _ h
 |.chan none,_=>by simp[rv]
 |.chan (some r),h=>by
  simp only[rv,Γ,Δ.chan.injEq,zaG]at h ⊢;exact hb _ h
 |.func fn first captured,h=>by
  simp only[rv,Δ.func.injEq]at h ⊢;refine⟨hf _ h.1,dA λx hx=>?_,dA λx hx=>?_⟩
  ·have:=zbj hx;exact agree hb hf x (ba.1 h.2.1 x hx)
  ·have:=zbj hx;exact agree hb hf x (ba.1 h.2.2 x hx)
 |.iface t v,h=>by
  simp only[rv,Δ.iface.injEq,true_and]at h ⊢;exact agree hb hf v h
 |.agg cs,h=>by
  simp only[rv,Δ.agg.injEq]at h ⊢;refine dA λx hx=>?_;have:=zbj hx;exact agree hb hf x (ba.1 h x hx)
 |.tuple cs,h=>by
  simp only[rv,Δ.tuple.injEq]at h ⊢;refine dA λx hx=>?_;have:=zbj hx;exact agree hb hf x (ba.1 h x hx)
 |.bool _,_=>by simp[rv]
 |.int _ _,_=>by simp[rv]
 |.float _ _,_=>by simp[rv]
 |.complex _ _ _,_=>by simp[rv]
 |.string _,_=>by simp[rv]
 |.nilFunc,_=>by simp[rv]
 |.nilIface,_=>by simp[rv]
termination_by v=>SizeOf.sizeOf v
theorem ib {a:Addr}:ra σ a=a↔σ a.block=a.block:=by
 obtain⟨b,o,s⟩:=a;simp[ra]
theorem qQ (hb:∀r,σ r=r→Fh r=r)(hf:∀x,σ.f x=x→Fh.f x=x){o:Obj}(h:ro σ o=o):ro Fh o=o:=by
 have hv:=dO hb hf;cases o with
 |cells c t f=>simp only[ro,Obj.cells.injEq,zaA]at h ⊢;exact ba.2 λx hx=>hv x (ba.1 h x hx)
 |pending c t=>simp only[ro,Obj.pending.injEq,zaA]at h ⊢;exact ba.2 λx hx=>hv x (ba.1 h x hx)
 |chan a b c d e f=>simp only[ro,Obj.chan.injEq,zaA,true_and]at h ⊢;exact ba.2 λx hx=>hv x (ba.1 h x hx)
 |view a t=>simp only[ro,Obj.view.injEq,zaA]at h ⊢;exact ib.2 (hb _ (ib.1 h))
 |number a t=>simp only[ro,Obj.number.injEq,zaA]at h ⊢;exact ib.2 (hb _ (ib.1 h))
 |map es c=>
  simp only[ro,Obj.map.injEq,zaA]at h ⊢;apply Array.ext
  ·simp
  ·intro i h1 h2;have e:(es.map λe=>{ e with key:=rv σ e.key,val:=rv σ e.val }:Array Φ)[i]'(by simpa using h2)=es[i]:=by simp only[h]
   simp only[zcb]at e ⊢;generalize es[i]=x at e ⊢;obtain⟨k,v,b⟩:=x;simp only[MapEntry.mk.injEq,zaA]at e ⊢;exact⟨hv _ e.1,hv _ e.2⟩
 |_=>rfl
theorem vg {ρ ρ':Rn}(hb:∀r,σ r=r→ρ r=ρ' r)(hf:∀x,σ.f x=x→ρ.f x=ρ'.f x){o:Obj}(h:ro σ o=o):ro ρ o=ro ρ' o:=by
 have hv:=agree hb hf;cases o with
 |cells c t f=>simp only[ro,Obj.cells.injEq,zaA]at h ⊢;exact dA λx hx=>hv x (ba.1 h x hx)
 |pending c t=>simp only[ro,Obj.pending.injEq,zaA]at h ⊢;exact dA λx hx=>hv x (ba.1 h x hx)
 |chan a b c d e f=>simp only[ro,Obj.chan.injEq,zaA,true_and]at h ⊢;exact dA λx hx=>hv x (ba.1 h x hx)
 |view a t=>simp only[ro,Obj.view.injEq,zaA]at h ⊢;obtain⟨b,o,s⟩:=a;simp only[ra,Addr.mk.injEq,zaA]at h ⊢;exact hb _ h
 |number a t=>simp only[ro,Obj.number.injEq,zaA]at h ⊢;obtain⟨b,o,s⟩:=a;simp only[ra,Addr.mk.injEq,zaA]at h ⊢;exact hb _ h
 |map es c=>
  simp only[ro,Obj.map.injEq,zaA]at h ⊢;apply Array.ext
  ·simp
  ·intro i h1 h2;have hi:i<es.size:=by simpa using h1
   have e:(es.map λe=>{ e with key:=rv σ e.key,val:=rv σ e.val }:Array Φ)[i]'(by simpa using hi)=es[i]:=by simp only[h]
   simp only[zcb]at e ⊢;generalize es[i]=x at e ⊢;obtain⟨k,v,b⟩:=x;simp only[MapEntry.mk.injEq,zaA]at e ⊢;exact⟨hv _ e.1,hv _ e.2⟩
 |_=>rfl
end
structure Sd where
 f:ϊ→Bool
 d:Nat
 g:Nat
instance:CoeFun Sd (λ_=>ϊ→Bool):=⟨Sd.f⟩
structure s7 (S:Sd) (ρ:Rn):Prop where
 f:∀g,S g=true→ρ.f (.func g)=.func g
 g:∀g,S.d≤g→g<S.g→ρ g=g
 l:∀g,g<S.d→g<ρ.d∨ρ g=g
def sg (S:Sd)(b0 n:Nat):Rn where
 d:=b0
 b:=λr=>if b0≤r∧r<n then r else r+n+1
 f:=λ
  |.func g=>if S g then .func g else .method ""
  |.method _=> .yield 0
  |.methodOf _ _=> .yield 0
  |.via _ _ _ _=> .yield 0
  |.yield _=> .method ""
section
variable {S:Sd}{b0 n m:Nat}
theorem bK {r:Nat}:sg S b0 n r=r↔b0≤r∧r<n:=by
 show(if b0≤r∧r<n then r else r+n+1)=r↔_;split
 ·rename_i h;simp[h]
 ·rename_i h;constructor
  ·intro e;omega
  ·intro e;exact absurd e h
theorem iE {x:Fn}:(sg S b0 n).f x=x↔∃g,x=.func g∧S g=true:=by
 cases x with
 |func g=>
  show(if S g then Fn.func g else .method "")=.func g↔_;split
  ·rename_i h;simp[h]
  ·rename_i h;simp[h]
 |_=>simp[sg]
theorem xI {S:Sd}(h:S.g≤n):s7 S (sg S S.d n):=⟨λg hg=>iE.2 ⟨g,rfl,hg⟩,λ_ h1 h2=>bK.2 ⟨h1,by omega⟩,λ_ h=> .inl h⟩
theorem Y9 (a b:Nat)(h:sg S b0 n a=sg S b0 n b):a=b:=by
 simp only[sg]at h;split at h<;>split at h<;>omega
theorem cO (h:n≤m):(∀r,sg S b0 n r=r→sg S b0 m r=r)∧∀x,(sg S b0 n).f x=x→(sg S b0 m).f x=x:=
 ⟨λr hr=>bK.2 (by have:=bK.1 hr;omega),λx hx=>iE.2 (iE.1 hx)⟩
end
def lu:Δ→Bool
 |.bool _|.int _ _|.float _ _|.complex _ _ _|.string _|.nilFunc |.nilIface=>true
 |.pointer none|.slice none _ _|.map none|.chan none=>true
 |_=>false
theorem il {v:Δ}(h:lu v=true):∀ρ:Rn,rv ρ v=v:=by
 intro ρ;cases v with
 |pointer a=>cases a<;>simp_all [lu,rv]
 |slice a=>cases a<;>simp_all [lu,rv]
 |map a=>cases a<;>simp_all [lu,rv]
 |chan a=>cases a<;>simp_all [lu,rv]
 |_=>simp_all [lu,rv]
def gG (S:Sd):υ→Bool
 |.tmp _=>true
 |.const v=>lu v
 |.global g=>decide (S.d≤g)&&decide (g<S.g)
 |.func f=>S f
def qR:Builtin→Bool
 |.append |.copy |.len |.max |.min |.unsafeSliceData |.unsafeString=>true
 |_=>false
def JC (P:Ω)(src dst:Θ):Bool:=
 match P.underlying src,P.underlying dst with
 |some (.int _),some (.int _)=>true
 |some (.int _),some .string=>true
 |some (.slice e),some .string=>match P.underlying e with|some (.int .u8)=>true|_=>false
 |some (.pointer _),some .unsafePointer=>true
 |some .unsafePointer,some (.pointer _)=>true
 |_,_=>false
def gw (P:Ω)(F:ϊ→Bool)(S:Sd):Op→Bool
 |.move x|.assign x|.box _ x|.nilCheck x|.unOp _ _ x|.makeInterface _ x|.field _ x _|.fieldAddr _ x _|.extract x _=>gG S x
 |.pick c a b=>gG S c&&gG S a&&gG S b
 |.alloc _=>true
 |.build _ parts=>parts.all λp=>gG S p.2
 |.buildSlice _ _ parts=>parts.all λp=>gG S p.2
 |.load _ (.global g)=>decide (g<S.d)||(decide (S.d≤g)&&decide (g<S.g))
 |.load _ a=>gG S a
 |.store _ a x=>gG S a&&gG S x
 |.binOp _ _ x y _=>gG S x&&gG S y
 |.convert src dst x=>gG S x&&JC P src dst
 |.makeMap _ r=>r.all (gG S)
 |.makeSlice _ l c=>gG S l&&gG S c
 |.slice _ x lo hi mx=>gG S x&&lo.all (gG S)&&hi.all (gG S)&&mx.all (gG S)
 |.indexAddr _ x i|.index _ x i=>gG S x&&gG S i
 |.lookup _ x i _=>gG S x&&gG S i
 |.mapUpdate _ m k x=>gG S m&&gG S k&&gG S x
 |.typeAssert x _ _ ok=>gG S x&&ok
 |.panic x=>gG S x
 |.call c=>(c.args.all (gG S))&&match c.callee with
  |.value (.func f)=>F f
  |.value (.tmp _)=>true
  |.builtin b=>qR b
  |_=>false
 |_=>false
def FV (S:Sd)(v:Δ):Prop:=∀fn a b,v=.func fn a b→∃g,fn=.func g∧S g=true
def LF (P:Ω)(S:Sd)(f:ϊ):Prop:=∃fn,P.funcs[f]?=some fn∧(fn.name== "runtime.NumGoroutine")=false∧(fn.body.isNone=false∨(fn.body.isNone=true∧Extern.findNext fn=none∧∃e,Extern.find fn=some e∧∀(ρ:Rn) (args:Array Δ),Plain P ρ→s7 S ρ→aa P ρ (VV ρ) (e args) (e (args.map (rv ρ)))))
def NN (F:ϊ→Bool)(ρ:Rn):Next→Next→Prop
 |.value v,n=>n=.value (rv ρ v)
 |.skip,n=>n=.skip
 |.enter f args,n=>F f=true∧n=.enter f (args.map (rv ρ))
 |_,_=>False
section
variable {P:Ω}{ρ:Rn}{F:ϊ→Bool}{S:Sd}{α β:Type}
theorem s8 {s s':Sem Δ}(h:aa P ρ (VV ρ) s s'):aa P ρ (NN F ρ) (do pure (.value (←s))) (do pure (.value (←s'))):=by
 refine aa.bind h ?_;rintro v _ rfl;exact aa.pure rfl
theorem e_u {s s':Sem Unit}(h:aa P ρ Eq s s'):aa P ρ (NN F ρ) (do s;pure .skip) (do s';pure .skip):=by
 refine aa.bind h ?_;rintro v _ rfl;exact aa.pure rfl
theorem yO (hp:Plain P ρ)(hx:s7 S ρ)(f:ϊ)(args:Array Δ)(hF:F f=true)(hf:LF P S f):aa P ρ (NN F ρ) (callFunc f args) (callFunc f (args.map (rv ρ))):=by
 obtain⟨fn,h1,h2,h3⟩:=hf;unfold callFunc;refine aa.bind cz ?_;rintro _ _ ⟨rfl,rfl⟩;rw[h1];simp only[h2,zaT,if_false];rcases h3 with h3|⟨h3,h4,e,h5,h6⟩
 ·simp only[h3,zaT,if_false];exact aa.pure ⟨hF,rfl⟩
 ·simp only[h3,if_true,h4,h5];refine aa.bind (Dn (.extern f) trivial) ?_;rintro _ _ rfl;exact s8 (h6 ρ args hp hx)
theorem FE (a:Addr):aa P ρ (AA ρ) (Conv.seenAt a) (Conv.seenAt (ra ρ a)):=by
 unfold Conv.seenAt;refine aa.bind (sW a.block) ?_;rintro x _ rfl;cases x with
 |none=>exact aa.pure rfl
 |some z=>
  obtain⟨s,u⟩:=z;simp only[Γ];have e1:(ra ρ a).off=a.off:=rfl;have e2:(ra ρ a).spot=a.spot:=rfl;have e3:(ra ρ s).spot=s.spot:=rfl;have e4:(ra ρ s).off=s.off:=rfl;rw[e1,e2,e3,e4];refine aa.aj (λ_=>aa.pure rfl) (λ_=>?_);refine aa.aj (λ_=>jU (aa.unsupported _)) (λ_=>?_);refine aa.bind cz ?_;rintro _ _ ⟨rfl,rfl⟩;split
  ·refine aa.bind (gV s.block) ?_;rintro sh _ rfl;cases sh with
   |none=>exact aa.unsupported _
   |some y=>
    obtain⟨e,m⟩:=y;dsimp only;refine aa.aj (λ_=>jU (aa.unsupported _)) (λ_=>?_);split
    ·exact aa.pure rfl
    ·exact aa.unsupported _
  ·exact aa.unsupported _
theorem Nb (r:Nat):aa P ρ Eq (cellsIn r) (cellsIn (ρ r)):=by
 unfold cellsIn;refine aa.bind (gV r) ?_;rintro sh _ rfl;cases sh with
 |some x=>exact aa.pure rfl
 |none=>
  refine aa.bind (mS r) ?_;rintro o _ ⟨rfl,_⟩;cases o<;>simp only[ro]<;>first|exact aa.pure rfl|(simp only[Array.size_map];exact aa.pure rfl)
theorem vh (t:Θ)(src dst:Θ)(x:Δ)(hs:P.underlying src=some (.pointer t))(hd:P.underlying dst=some .unsafePointer):aa P ρ (VV ρ) (Conv.unsafePointer src dst x) (Conv.unsafePointer src dst (rv ρ x)):=by
 unfold Conv.unsafePointer;refine aa.bind (au src) ?_;rintro d d' ⟨e,h⟩;subst e;rw[hs]at h;cases h;refine aa.bind (au dst) ?_;rintro d d' ⟨e,h⟩;subst e;rw[hd]at h;cases h;cases x with
 |pointer a=>
  cases a with
  |none=>simp only[rv,Γ];exact aa.pure (by simp[VV,rv])
  |some a=>
   simp only[rv,Γ];refine aa.bind (FE a) ?_;rintro s _ rfl;refine aa.bind (Nb s.block) ?_;rintro q _ rfl;have e1:(ra ρ s).off=s.off:=rfl;have e2:(ra ρ s).spot=s.spot:=rfl;rw[e1,e2];refine aa.bind (cd t) ?_;rintro n _ rfl;refine aa.aj (λ_=>?_) (λ_=>aa.pure (by simp[VV,rv]));refine aa.bind (mQ (.view s t)) ?_;rintro r _ rfl;exact aa.pure (by simp[VV,rv,ra])
 |_=>simp only[rv];exact aa.stuck _
theorem vn (t:Θ)(src dst:Θ)(x:Δ)(hs:P.underlying src=some .unsafePointer)(hd:P.underlying dst=some (.pointer t)):aa P ρ (VV ρ) (Conv.unsafePointer src dst x) (Conv.unsafePointer src dst (rv ρ x)):=by
 unfold Conv.unsafePointer;refine aa.bind (au src) ?_;rintro d d' ⟨e,h⟩;subst e;rw[hs]at h;cases h;refine aa.bind (au dst) ?_;rintro d d' ⟨e,h⟩;subst e;rw[hd]at h;cases h;cases x with
 |pointer a=>
  cases a with
  |none=>simp only[rv,Γ];exact aa.pure (by simp[VV,rv])
  |some a=>
   simp only[rv,Γ];refine aa.bind (FE a) ?_;rintro s _ rfl;refine aa.bind (cd t) ?_;rintro n _ rfl;refine aa.bind (rF s t 1) ?_;rintro b _ rfl;refine aa.aj (λ_=>aa.pure (by simp[VV,rv])) (λ_=>?_);refine aa.bind (gV s.block) ?_;rintro sh _ rfl;cases sh with
   |none=>exact aa.unsupported _
   |some y=>
    obtain⟨e,m⟩:=y;dsimp only;refine aa.bind cz ?_;rintro _ _ ⟨rfl,rfl⟩;refine aa.bind cz ?_;rintro _ _ ⟨rfl,rfl⟩;refine aa.aj (λ_=>jU (aa.unsupported _)) (λ_=>?_);refine aa.bind (mQ (.view s t)) ?_;rintro r _ rfl;exact aa.pure (by simp[VV,rv,ra])
 |_=>simp only[rv];exact aa.stuck _
theorem xm (x:Δ):aa P ρ (VV ρ) (ζ x) (ζ (rv ρ x)):=by
 unfold ζ;cases x with
 |slice a n c=>
  cases a with
  |none=>simp only[rv,Γ];exact aa.pure (by simp[VV,rv])
  |some a=>
   simp only[rv,Γ];refine aa.bind (pC a n) ?_;rintro cs _ rfl;refine aa.bind (R:=Eq) ?_ (by rintro s _ rfl;exact aa.pure (by simp[VV,rv]))
   haveI:=lawful
   rw[←zbP,←zbP,zbn];generalize ByteArray.empty=s0
   induction cs.toList generalizing s0 with
   |nil=>exact aa.pure rfl
   |cons v l ih=>
    simp only[zaD,List.forIn_cons];cases v with
    |int k m=>
     simp only[rv];cases k<;>first|exact jU (aa.stuck _)|exact ih _
    |_=>simp only[rv];exact jU (aa.stuck _)
 |_=>simp only[rv];exact aa.stuck _
theorem yP (k:FloatKind)(b:Nat)(d:IntKind):eN P gq (Conv.floatToInt k b d):=by
 have bi:∀k n,gq (.int k n):=λk n ρ=>by simp[rv]
 unfold Conv.floatToInt;split
 ·dsimp only;split
  ·exact bi _ _
  ·exact λn=>bi _ _
 ·exact λn=>bi _ _
theorem Nc (src dst:Θ)(x:Δ)(h:JC P src dst=true):aa P ρ (VV ρ) (convert src dst x) (convert src dst (rv ρ x)):=by
 unfold JC at h;split at h
 ·rename_i k k' hs hd;unfold convert;refine aa.bind (au src) ?_;rintro d d' ⟨e,h1⟩;subst e;rw[hs]at h1;cases h1;refine aa.bind (au dst) ?_;rintro d d' ⟨e,h1⟩;subst e;rw[hd]at h1;cases h1;cases x with
  |int k2 n=>simp only[rv];exact aa.pure (by simp[VV,rv])
  |float k2 n=>simp only[rv];exact pG (yP _ _ _)
  |pointer a=>cases a<;>simp only[rv,Γ]<;>exact aa.unsupported _
  |_=>simp only[rv];exact aa.unsupported _
 ·rename_i k hs hd;unfold convert;refine aa.bind (au src) ?_;rintro d d' ⟨e,h1⟩;subst e;rw[hs]at h1;cases h1;refine aa.bind (au dst) ?_;rintro d d' ⟨e,h1⟩;subst e;rw[hd]at h1;cases h1;cases x with
  |int k2 n=>simp only[rv];exact aa.pure (by simp[VV,rv])
  |string b=>simp only[rv];exact aa.pure (by simp[VV,rv])
  |pointer a=>cases a<;>simp only[rv,Γ]<;>exact aa.unsupported _
  |_=>simp only[rv];exact aa.unsupported _
 ·rename_i e1 hs hd;unfold convert;refine aa.bind (au src) ?_;rintro d d' ⟨e,h1⟩;subst e;rw[hs]at h1;cases h1;refine aa.bind (au dst) ?_;rintro d d' ⟨e,h1⟩;subst e;rw[hd]at h1;cases h1;have he:P.underlying e1=some (.int .u8):=by
   split at h
   ·assumption
   ·cases h
  have tail:∀y y':Δ,aa P ρ (VV ρ) (ζ y) (ζ y')→aa P ρ (VV ρ)
   (underlying e1>>=λd=>match d with|.int .u8=>ζ y|.int .i32=>Conv.runesToString y|_=>stuck "Convert: a slice of what to string?")
   (underlying e1>>=λd=>match d with|.int .u8=>ζ y'|.int .i32=>Conv.runesToString y'|_=>stuck "Convert: a slice of what to string?"):=λy y' hy=>by
   refine aa.bind (au e1) ?_;rintro d d' ⟨e,h1⟩;subst e;rw[he]at h1;cases h1;exact hy
  have hb:=xm (P:=P) (ρ:=ρ) x;cases x<;>simp only[rv]at hb ⊢<;>first|exact aa.pure (by simp[VV,rv])|exact tail _ _ hb
 ·rename_i t hs hd;have:=vh (ρ:=ρ) t src dst x hs hd;unfold convert;refine aa.bind (au src) ?_;rintro d d' ⟨e,h1⟩;subst e;rw[hs]at h1;cases h1;refine aa.bind (au dst) ?_;rintro d d' ⟨e,h1⟩;subst e;rw[hd]at h1;cases h1;cases x<;>simp only[rv]at this ⊢<;>exact this
 ·rename_i t hs hd;have:=vn (ρ:=ρ) t src dst x hs hd;unfold convert;refine aa.bind (au src) ?_;rintro d d' ⟨e,h1⟩;subst e;rw[hs]at h1;cases h1;refine aa.bind (au dst) ?_;rintro d d' ⟨e,h1⟩;subst e;rw[hd]at h1;cases h1;cases x<;>simp only[rv]at this ⊢<;>exact this
 ·cases h
variable {ev ev':υ→Δ}
theorem parts_eq {parts:Array (Nat×υ)}(h:parts.all (λp=>gG S p.2)=true)(he:∀x,gG S x=true→ev' x=rv ρ (ev x)):(parts.map λ(p:Nat×υ)=>(p.1,ev' p.2))=(parts.map λ(p:Nat×υ)=>(p.1,ev p.2)).map λx=>(x.1,rv ρ x.2):=by
 rw[zch];apply Array.ext
 ·simp
 ·intro i h1 h2;simp only[zcb,Function.comp];rw[he _ (by have:=Array.all_eq_true.1 h i (by simpa using h1);simpa using this)]
theorem VD {args:Array υ}(h:args.all (gG S)=true)(he:∀x,gG S x=true→ev' x=rv ρ (ev x)):args.map ev'=(args.map ev).map (rv ρ):=by
 rw[zch];apply Array.ext
 ·simp
 ·intro i h1 h2;simp only[zcb,Function.comp];exact he _ (Array.all_eq_true.1 h i (by simpa using h1))
theorem Dw {x:Option υ}(h:x.all (gG S)=true)(he:∀x,gG S x=true→ev' x=rv ρ (ev x)):x.map ev'=(x.map ev).map (rv ρ):=by
 cases x with
 |none=>rfl
 |some x=>simp only[Γ,Option.all_some]at h ⊢;rw[he x h]
theorem Dx (t:Θ)(g:Nat)(hg:g<ρ.d∨ρ g=g):aa P ρ (VV ρ) (ψ t (.pointer (some ⟨g,0,none⟩))) (ψ t (.pointer (some ⟨g,0,none⟩))):=by
 rcases hg.symm with hg|hg
 ·have e:rv ρ (.pointer (some ⟨g,0,none⟩))=.pointer (some ⟨g,0,none⟩):=by simp[rv,ra,hg]
  have:=Fu (P:=P) (ρ:=ρ) t (.pointer (some ⟨g,0,none⟩));rwa[e]at this
 unfold ψ;refine aa.bind (R:=λa b=>a=⟨g,0,none⟩∧b=⟨g,0,none⟩) ⟨_,rfl,rfl,rfl⟩ ?_;rintro _ _ ⟨rfl,rfl⟩;unfold loadVar;refine aa.bind (xG t) ?_;rintro b _ rfl;refine aa.aj (λ_=>?_) (λ_=>Or.inl hg);refine aa.bind (cd t) ?_;rintro n _ rfl;refine aa.bind (R:=λx y=>x=#[]∧y=#[]) ?_ ?_
 ·unfold loadCells;cases n with
  |zero=>exact aa.pure ⟨rfl,rfl⟩
  |succ n=>exact Or.inl (by simpa[Addr.add]using hg)
 ·rintro _ _ ⟨rfl,rfl⟩;exact aa.pure (by simp[VV,rv])
theorem Dy {β:Type}{R:Δ→β→Prop}(x:Δ){s':Sem β}:aa P ρ R (Instr.panic x) s':=by
 unfold Instr.panic;cases x with
 |iface t v=>exact nX _
 |nilIface=>
  refine λy=>?_;have hp:Tm (λ_:Δ=>False) (runtimePanic .panicNil):=by
   unfold runtimePanic;refine Tm.bind (Q:=λ_=>True) (λq _=>?_) (λp=>trivial);dsimp only;refine Tm.bind (Q:=λ_=>True) (λt _=>?_) ?_
   ·unfold newVar newRow;refine Tm.bind (Q:=λ_=>True) ?_ ?_
    ·intro r _;show Fs (.panic _);trivial
    ·exact λr=>trivial
   ·unfold elemOf underlying;refine Tm.bind (Q:=λ_=>True) (λd _=>?_) (Tm.bind (Q:=λ_=>True) (λp' _=>?_) (λp=>trivial))
    ·cases d<;>trivial
    ·split<;>trivial
  cases y with
  |strings env=>
   intro p;show Tm _ (if _ then _ else _);split
   ·trivial
   ·exact hp
  |_=>trivial
 |_=>exact aa.stuck _
theorem pI (hp:Plain P ρ)(hf:s7 S ρ)(hSF:∀g,S g=true→F g=true)(hF:∀f,F f=true→LF P S f)(o:Oper)(ho:gw P F S o.op=true)
 (he:∀x,gG S x=true→ev' x=rv ρ (ev x))(hg:∀x,gG S x=true→GV P ρ (ev x))(hv:∀x,gG S x=true→FV S (ev x))
 (Jj:∀g,ev (.global g)=.pointer (some ⟨g,0,none⟩))(adz:∀g,ev' (.global g)=.pointer (some ⟨g,0,none⟩))(hfn:∀f,ev (.func f)=.func (.func f) #[] #[])(Za:∀f,ev' (.func f)=.func (.func f) #[] #[]):
 aa P ρ (NN F ρ) (ϐ ev o) (ϐ ev' o):=by
 obtain⟨dst,op,type,pos,after,guard⟩:=o;simp only at ho;unfold ϐ;dsimp only;cases op<;>simp only[gw,zaj,zaT]at ho<;>dsimp only
 case move x=>rw[he x ho];exact aa.pure rfl
 case assign x=>rw[he x ho];exact aa.pure rfl
 case pick c a b=>
  rw[he c ho.1.1,he a ho.1.2,he b ho.2];refine aa.bind (yA _) ?_;rintro q _ rfl;exact aa.pure (by cases q<;>rfl)
 case alloc t=>exact s8 (Vo hp t)
 case box t x=>rw[he x ho];exact s8 (abc t _)
 case build t parts=>rw[parts_eq ho he];exact s8 (Vq hp t _)
 case buildSlice t n parts=>rw[parts_eq ho he];exact s8 (Dp hp t n _)
 case load t a=>
  cases a with
  |global g=>rw[Jj,adz];exact s8 (Dx t g (by
    simp only[Bool.or_eq_true,zaj,zaQ]at ho;rcases ho with h|h
    ·exact hf.l g h
    ·exact .inr (hf.g g h.1 h.2)))
  |_=>rw[he _ (by simpa[gw]using ho)];exact s8 (Fu t _)
 case store t a x=>rw[he a ho.1,he x ho.2];exact e_u (MX t _ _)
 case nilCheck x=>
  rw[he x ho];have hx:=hv x ho;generalize ev x=v at hx;cases v with
  |pointer a=>cases a<;>simp only[rv,Γ]<;>first|exact aM _|exact aa.pure (by simp[NN,rv])
  |func fn a b=>
   obtain⟨g,rfl,hS⟩:=hx fn a b rfl;simp only[rv,hf.f g hS];exact aa.pure (by simp[NN,rv,hf.f g hS])
  |nilFunc=>simp only[rv];exact aM _
  |nilIface=>simp only[rv];exact aM _
  |_=>simp only[rv];exact aa.pure (by simp[NN,rv])
 case binOp op t x y t2=>
  rw[he x ho.1,he y ho.2];refine s8 (aa.bind (M6 op t x y _ _) ?_);rintro _ _ rfl;exact VA hp op t _ _ (hg x ho.1) (hg y ho.2)
 case unOp op t x=>rw[he x ho];exact s8 (Vw op _)
 case convert src dst x=>rw[he x ho.1];exact s8 (Nc src dst _ ho.2)
 case makeInterface t x=>rw[he x ho];exact s8 (xj t _)
 case makeMap t r=>rw[Dw ho he];exact s8 (Na t _)
 case makeSlice t l c=>rw[he l ho.1,he c ho.2];exact s8 (Fy hp t _ _)
 case slice t x lo hi mx=>rw[he x ho.1.1.1,Dw ho.1.1.2 he,Dw ho.1.2 he,Dw ho.2 he];exact s8 (M0 hp t _ _ _ _)
 case fieldAddr t x f=>rw[he x ho];exact s8 (M5 t _ f)
 case field t x f=>rw[he x ho];exact s8 (Vu t _ f)
 case indexAddr t x i=>rw[he x ho.1,he i ho.2];exact s8 (M3 hp t _ _)
 case index t x i=>rw[he x ho.1,he i ho.2];exact s8 (Vt hp t _ _)
 case lookup t x i ok=>rw[he x ho.1,he i ho.2];exact s8 (P3 hp t _ _ ok (hg i ho.2))
 case mapUpdate t m k x=>rw[he m ho.1.1,he k ho.1.2,he x ho.2];exact e_u (FD hp t _ _ _ (hg k ho.1.2))
 case typeAssert x t u ok=>
  obtain rfl:=ho.2;rw[he x ho.1];exact s8 (Dv hp _ t u)
 case extract x i=>rw[he x ho];exact s8 (MZ _ i)
 case panic x=>exact s8 (Dy _)
 case call c=>
  obtain⟨callee,args,ats⟩:=c;simp only at ho;unfold resolve;dsimp only;rw[VD ho.1 he];cases callee with
  |builtin b=>
   refine aa.bind (R:=λd d'=>d.target=d'.target∧(∃ts ty cs,d.target=.builtin b ts ty cs)∧d'.args=d.args.map (rv ρ)) (aa.pure ⟨rfl,⟨_,_,_,rfl⟩,rfl⟩) ?_;rintro ⟨d1,d2⟩ ⟨e1,e2⟩ ⟨h1,⟨ts,ty,cs,h2⟩,h3⟩;simp only at h1 h2 h3;subst h3;rw[←h1,h2];have hb:qR b=true:=ho.2;unfold invoke;dsimp only;unfold builtin;dsimp only;cases b<;>simp only[qR,zaT]at hb
   ·exact s8 (PZ hp _ _ _)
   ·exact s8 (Y4 _ _ _)
   ·exact s8 (abd _ _ _)
   ·exact s8 (abf _ _ _)
   ·exact s8 (abe _ _ _)
   ·exact s8 (sY _ _ _)
   ·exact s8 (yL _ _ _)
  |invoke r n=>exact absurd ho.2 (by simp)
  |value f=>
   cases f with
   |func f=>
    have hff:F f=true:=ho.2;dsimp only;rw[hfn,Za];simp only[ό];refine aa.bind (R:=λd d'=>d.target=.fn (.func f) #[]∧d'.target=.fn (.func f) #[]∧d'.args=d.args.map (rv ρ)) (aa.pure ⟨rfl,rfl,by simp⟩) ?_;rintro ⟨d1,d2⟩ ⟨e1,e2⟩ ⟨h1,h2,h3⟩;simp only at h1 h2 h3;subst h1 h2 h3;unfold invoke;dsimp only;have:=yO (F:=F) (S:=S) hp hf f (d2++#[]) hff (hF f hff);rw[Array.map_append,zcn]at this;exact this
   |tmp t=>
    dsimp only;rw[he (.tmp t) rfl];have hx:=hv (.tmp t) rfl;generalize ev (.tmp t)=v at hx;cases v with
    |func fn a b=>
     obtain⟨g,rfl,hS⟩:=hx fn a b rfl;simp only[rv,hf.f g hS,ό];refine aa.bind (R:=λd d'=>d.target=.fn (.func g) b∧d'.target=.fn (.func g) (b.map (rv ρ))∧d'.args=d.args.map (rv ρ)) (aa.pure ⟨rfl,rfl,by simp⟩) ?_;rintro ⟨d1,d2⟩ ⟨e1,e2⟩ ⟨h1,h2,h3⟩;simp only at h1 h2 h3;subst h1 h2 h3;unfold invoke;dsimp only;rw[←Array.map_append];exact yO (S:=S) hp hf g _ (hSF g hS) (hF g (hSF g hS))
    |nilFunc=>
     simp only[rv,ό];refine aa.bind (R:=λd d'=>d.target=.nil∧d'.target=.nil) (aa.pure ⟨rfl,rfl⟩) ?_;rintro ⟨d1,d2⟩ ⟨e1,e2⟩ ⟨h1,h2⟩;simp only at h1 h2;subst h1 h2;unfold invoke;exact aM _
    |_=>simp only[rv,ό];exact jU (aa.stuck _)
   |const v=>exact absurd ho.2 (by simp)
   |global g=>exact absurd ho.2 (by simp)
theorem ju (hp:Plain P ρ)(fn:Func)(tmps:Array Δ)(hu:rv ρ φ=φ):aa P ρ (VV ρ) (results fn tmps) (results fn (tmps.map (rv ρ))):=by
 unfold results;have P4:∀t:Nat,(tmps.map (rv ρ)).getD t φ=rv ρ (tmps.getD t φ):=λt=>by
  simp only[zby,zaE];cases tmps[t]?<;>simp[hu]
 have one:∀r:ResultVar,aa P ρ (VV ρ)
  (match r with|.tmp t=>pure (tmps.getD t φ)|.cell a t=>do loadVar t (←asAddr (tmps.getD a φ)):Sem Δ)
  (match r with|.tmp t=>pure ((tmps.map (rv ρ)).getD t φ)|.cell a t=>do loadVar t (←asAddr ((tmps.map (rv ρ)).getD a φ)):Sem Δ):=λr=>by
  cases r with
  |tmp t=>dsimp only;rw[P4];exact aa.pure rfl
  |cell a t=>
   dsimp only;rw[P4];refine aa.bind (Fv hp _) ?_;rintro ad _ rfl;exact BZ t ad
 have all:∀l:List ResultVar,aa P ρ (λx y=>y=x.map (rv ρ))
  (l.mapM λr=>(match r with|.tmp t=>pure (tmps.getD t φ)|.cell a t=>do loadVar t (←asAddr (tmps.getD a φ)):Sem Δ))
  (l.mapM λr=>(match r with|.tmp t=>pure ((tmps.map (rv ρ)).getD t φ)|.cell a t=>do loadVar t (←asAddr ((tmps.map (rv ρ)).getD a φ)):Sem Δ)):=λl=>by
  haveI:=lawful
  induction l with
  |nil=>simp only[List.mapM_nil];exact aa.pure rfl
  |cons r l ih=>
   simp only[List.mapM_cons];refine aa.bind (one r) ?_;rintro v _ rfl;refine aa.bind ih ?_;rintro vs _ rfl;exact aa.pure rfl
 refine aa.bind (R:=λx y=>y=x.map (rv ρ)) ?_ ?_
 ·haveI:=lawful
  rw[zcF,zcF];refine aa.bind (f:=λl=>pure l.toArray) (f':=λl=>pure l.toArray) (all fn.results.toList) ?_;rintro l _ rfl;exact aa.pure (by simp)
 ·rintro vs _ rfl;refine aa.pure ?_;by_cases h:vs.size=1
  ·simp[VV,h]
  ·simp[VV,h,rv]
end
structure Live (b0:Nat) (ρ:Rn) (w W:χ):Prop where
 live:∀(r:Nat) (o:Obj),b0≤r→w.heap[r]?=some o→W.heap[ρ r]?=some (ro ρ o)
section
variable {P:Ω}{b0:Nat}{ρ σ:Rn}{w W:χ}
theorem FH (v:Δ):(rv ρ v).bytes? =v.bytes?:=by cases v<;>simp[rv,Δ.bytes?]
theorem JD (v:Δ)(bs:List UInt8):(rv ρ v).ofBytes bs=v.ofBytes bs:=by cases v<;>simp[rv,Δ.ofBytes]
theorem rG {v u:Δ}{bs:List UInt8}(h:v.ofBytes bs=some u):rv ρ u=u:=by
 cases v<;>simp only[Δ.ofBytes]at h<;>(try cases h)
 ·split at h<;>(try cases h)<;>simp[rv]
 ·split at h<;>(try cases h);simp[rv]
 ·split at h<;>(try cases h);simp[rv]
 ·split at h<;>(try cases h);simp[rv]
theorem s9 (c:Array Δ)(e:Θ):∀(f x stop:Nat),seenCells P (c.map (rv ρ)) e f x stop=seenCells P c e f x stop
 |0,x,stop=>rfl
 |f+1,x,stop=>by
  unfold seenCells;split
  ·rfl
  ·dsimp only;split
   ·rfl
   ·split
    ·rfl
    ·rename_i i s _;rw[zaE];cases c[i]? with
     |none=>rfl
     |some v=>
      simp only[Γ,FH];split
      ·rfl
      ·rfl
      ·rw[s9 c e f]
theorem B5 (h:Live b0 ρ w W){a:Addr}{v:Δ}(hl:b0≤a.block)(hc:w.cell? a=some v):W.cell? (ra ρ a)=some (rv ρ v):=by
 unfold χ.cell? at hc ⊢;cases hh:w.heap[a.block]? with
 |none=>rw[hh]at hc;cases hc
 |some o=>
  rw[hh]at hc;have:=h.live _ o hl hh;cases o<;>simp only at hc<;>try cases hc
  simp only[ra,ro]at this ⊢;rw[this];simp only;split at hc
  ·cases hc
  ·rename_i hs;simp only[hs,zaT,if_false,zaE,hc,Γ]
theorem FI {at_:Addr}{u:Θ}{k:Addr}{atomic:Bool}{c:Array Δ}{e:Θ}{fz:Nat×Nat}(h1:w.heap[at_.block]?=some (.cells c e fz))(h2:W.heap[ρ at_.block]?=some (.cells (c.map (rv ρ)) e fz)):W.seen P (ra ρ at_) u (ra ρ k) atomic=(w.seen P at_ u k atomic).map λx=>(x.1.map (rv ρ),x.2):=by
 unfold χ.seen;simp only[ra,h1,h2,s9];split
 ·rfl
 ·cases plainCell P P.depth u k.off with
  |none=>rfl
  |some like=>
   simp only;cases like.bytes? with
   |none=>rfl
   |some bs=>
    simp only[Γ];cases byteOfCell P P.depth u k.off with
    |none=>rfl
    |some β=>
     simp only;split
     ·rfl
     ·cases byteOfCell P P.depth e (at_.off%P.cellsOf e)with
      |none=>rfl
      |some b0=>
       simp only[bind,Except.bind];cases seenCells P c e (bs.length+1) (at_.off/P.cellsOf e*P.bytesOf e+b0+β) (at_.off/P.cellsOf e*P.bytesOf e+b0+β+bs.length)with
       |error m=>rfl
       |ok cells=>
        simp only;cases atomic with
        |false=>rfl
        |true=>
         simp only[if_true];split
         ·rename_i s1 bs1;by_cases q1:s1=at_.off/P.cellsOf e*P.bytesOf e+b0+β<;>by_cases q2:bs1.length=bs.length<;>simp[q1,q2,Except.map,pure,Except.pure]<;>rfl
         ·rfl
theorem LG {at_:Addr}{u:Θ}{k:Addr}{atomic:Bool}{x:Array Δ×Θ×(Nat×Nat)×Nat×Δ×List (Nat×Nat×List UInt8)}(hx:w.seen P at_ u k atomic=.ok x):∃c e fz,w.heap[at_.block]?=some (.cells c e fz):=by
 cases hh:w.heap[at_.block]? with
 |none=>
  exfalso;unfold χ.seen at hx;simp only[hh]at hx;split at hx
  ·cases hx
  ·cases h1:plainCell P P.depth u k.off with
   |none=>rw[h1]at hx;cases hx
   |some like=>
    rw[h1]at hx;simp only at hx;cases h2:like.bytes? with
    |none=>rw[h2]at hx;cases hx
    |some bs=>
     rw[h2]at hx;simp only[Γ]at hx;cases h3:byteOfCell P P.depth u k.off with
     |none=>rw[h3]at hx;cases hx
     |some β=>rw[h3]at hx;cases hx
 |some o=>
  cases o with
  |cells c e fz=>exact⟨c,e,fz,rfl⟩
  |_=>
   exfalso;unfold χ.seen at hx;simp only[hh]at hx;split at hx
   ·cases hx
   ·cases h1:plainCell P P.depth u k.off with
    |none=>rw[h1]at hx;cases hx
    |some like=>
     rw[h1]at hx;simp only at hx;cases h2:like.bytes? with
     |none=>rw[h2]at hx;cases hx
     |some bs=>
      rw[h2]at hx;simp only[Γ]at hx;cases h3:byteOfCell P P.depth u k.off with
      |none=>rw[h3]at hx;cases hx
      |some β=>rw[h3]at hx;cases hx
theorem seen_cells {at_:Addr}{u:Θ}{k:Addr}{atomic:Bool}{x:Array Δ×Θ×(Nat×Nat)×Nat×Δ×List (Nat×Nat×List UInt8)}{c:Array Δ}{e:Θ}{fz:Nat×Nat}(h1:w.heap[at_.block]?=some (.cells c e fz))(hx:w.seen P at_ u k atomic=.ok x):x.1=c∧x.2.1=e∧x.2.2.1=fz:=by
 unfold χ.seen at hx;simp only[h1]at hx;split at hx
 ·cases hx
 ·cases h1:plainCell P P.depth u k.off with
  |none=>rw[h1]at hx;cases hx
  |some like=>
   rw[h1]at hx;simp only at hx;cases h2:like.bytes? with
   |none=>rw[h2]at hx;cases hx
   |some bs=>
    rw[h2]at hx;simp only[Γ]at hx;cases h3:byteOfCell P P.depth u k.off with
    |none=>rw[h3]at hx;cases hx
    |some β=>
     rw[h3]at hx;simp only at hx;split at hx
     ·cases hx
     ·cases h4:byteOfCell P P.depth e (at_.off%P.cellsOf e)with
      |none=>rw[h4]at hx;cases hx
      |some b0=>
       rw[h4]at hx;simp only[bind,Except.bind]at hx;cases h5:seenCells P c e (bs.length+1) (at_.off/P.cellsOf e*P.bytesOf e+b0+β) (at_.off/P.cellsOf e*P.bytesOf e+b0+β+bs.length)with
       |error m=>rw[h5]at hx;cases hx
       |ok cells=>
        rw[h5]at hx;simp only at hx;cases atomic with
        |false=>simp only[zaT,if_false,pure,Except.pure,zbN]at hx;subst hx;exact⟨rfl,rfl,rfl⟩
        |true=>
         simp only[if_true]at hx;split at hx
         ·split at hx
          ·cases hx
          ·simp only[pure,Except.pure,zbN]at hx;subst hx;exact⟨rfl,rfl,rfl⟩
         ·cases hx
theorem td (h:Live b0 ρ w W){at_:Addr}{u:Θ}{k:Addr}{atomic:Bool}{v:Δ}{ts:List Addr}(hl:b0≤at_.block)(hx:w.viewLoad P at_ u k atomic=.ok (v,ts)):∃BA,W.viewLoad P (ra ρ at_) u (ra ρ k) atomic=.ok (v,BA)∧(∀t∈BA,t.block=ρ at_.block)∧(∀τ:Rn,rv τ v=v)∧at_.block<w.heap.size:=by
 unfold χ.viewLoad at hx ⊢;simp only[bind,Except.bind]at hx;cases hs:w.seen P at_ u k atomic with
 |error m=>rw[hs]at hx;cases hx
 |ok x=>
  rw[hs]at hx;obtain⟨c,e,fz,hc⟩:=LG hs;have hW:=h.live _ _ hl hc;simp only[ro]at hW;rw[FI hc hW,hs];simp only[Except.map,bind,Except.bind]at hx ⊢;obtain⟨x1,x2,x3,first,like,cells⟩:=x;simp only at hx ⊢;cases ho:like.ofBytes (cells.flatMap λ(x:Nat×Nat×List UInt8)=>(x.2.2.drop (first-x.2.1)).take (first+(like.bytes?.map (·.length)).getD 0-max first x.2.1))with
  |none=>rw[ho]at hx;cases hx
  |some v'=>
   rw[ho]at hx;simp only[pure,Except.pure,zbN,zag]at hx;obtain⟨rfl,rfl⟩:=hx;refine⟨_,rfl,λt ht=>?_,λτ=>rG ho,(zaf.1 hc).1⟩;simp only[zbc]at ht;obtain⟨y,_,rfl⟩:=ht;rfl
theorem wI {γ:Type}{F:Array Δ→γ→Except String (Array Δ)}(hF:∀c c' x,F c x=.ok c'→F (c.map (rv ρ)) x=.ok (c'.map (rv ρ))):∀(xs:List γ) {c c':Array Δ},xs.foldlM F c=.ok c'→xs.foldlM F (c.map (rv ρ))=.ok (c'.map (rv ρ))
 |[],c,c',h=>by
  simp only[List.foldlM,pure,Except.pure,zbN]at h ⊢;rw[h]
 |x::xs,c,c',h=>by
  simp only[List.foldlM,bind,Except.bind]at h ⊢;cases h1:F c x with
  |error m=>rw[h1]at h;cases h
  |ok c1=>
   rw[h1]at h;rw[hF _ _ _ h1];exact wI hF xs h
theorem rH (h:Live b0 ρ w W){at_:Addr}{u:Θ}{k:Addr}{atomic:Bool}{v:Δ}{w1:χ}{ts:List Addr}(hl:b0≤at_.block)(hx:w.viewStore P at_ u k v atomic=.ok (w1,ts)):∃c c' e fz BA,w.heap[at_.block]?=some (.cells c e fz)∧w1={ w with heap:=w.heap.setIfInBounds at_.block (.cells c' e fz) }∧(∀τ:Rn,c.map (rv τ)=c→c'.map (rv τ)=c')∧W.viewStore P (ra ρ at_) u (ra ρ k) (rv ρ v) atomic=.ok ({ W with heap:=W.heap.setIfInBounds (ρ at_.block) (.cells (c'.map (rv ρ)) e fz) },BA)∧∀t∈BA,t.block=ρ at_.block:=by
 unfold χ.viewStore at hx ⊢;by_cases ht:(!tight P P.depth u)=true
 ·rw[zac ht]at hx;cases hx
 rw[zaa ht]at hx ⊢;simp only[bind,Except.bind,FH]at hx ⊢;cases hs:w.seen P at_ u k atomic with
 |error m=>rw[hs]at hx;cases hx
 |ok x=>
  rw[hs]at hx;obtain⟨c,e,fz,hc⟩:=LG hs;have hW:=h.live _ _ hl hc;simp only[ro]at hW;obtain⟨e1,e2,e3⟩:=seen_cells hc hs;rw[FI hc hW,hs];simp only[Except.map]at hx ⊢;obtain⟨x1,x2,x3,first,like,cells⟩:=x;simp only at hx e1 e2 e3 ⊢;subst e1;subst e2;subst e3;cases hb:v.bytes? with
  |none=>rw[hb]at hx;cases hx
  |some bytes=>
   rw[hb]at hx;simp only at hx ⊢;by_cases hsz:some bytes.length≠Γ (λx=>x.length) like.bytes?
   ·rw[zac hsz]at hx;cases hx
   rw[zaa hsz]at hx ⊢;split at hx
   ·cases hx
   ·rename_i c' hf;simp only[pure,Except.pure,zbN,zag]at hx;obtain⟨rfl,rfl⟩:=hx;have hF:∀τ:Rn,_:=λτ=>wI (ρ:=τ) (λc c' x hq=>by
     obtain⟨i,s,bs⟩:=x;simp only at hq ⊢;by_cases h1:(decide (s<first)||decide (s+bs.length>first+bytes.length))=true
     ·rw[zac h1]at hq;cases hq
     rw[zaa h1]at hq ⊢;by_cases h2:(decide (x3.1≤i)&&decide (i<x3.2))=true
     ·rw[zac h2]at hq;cases hq
     rw[zaa h2]at hq ⊢;rw[zaE];cases hc:c[i]? with
     |none=>rw[hc]at hq;cases hq
     |some old=>
      rw[hc]at hq;simp only[Γ,JD]at hq ⊢;cases ho:old.ofBytes ((bytes.drop (s-first)).take bs.length)with
      |none=>rw[ho]at hq;cases hq
      |some new=>
       rw[ho]at hq;simp only[pure,Except.pure,zbN]at hq ⊢;subst hq;rw[zco,rG ho]) cells hf
    refine⟨x1,c',x2,x3,cells.map λy=>{ block:=ρ at_.block,off:=y.1 },hc,rfl,λτ hτ=>?_,?_,λt ht=>?_⟩
    ·have:=hF τ;rw[hτ,hf]at this;exact(Except.ok.inj this).symm
    ·rw[hF ρ];rfl
    ·simp only[zbc]at ht;obtain⟨y,_,rfl⟩:=ht;rfl
end
end Go.Ren
