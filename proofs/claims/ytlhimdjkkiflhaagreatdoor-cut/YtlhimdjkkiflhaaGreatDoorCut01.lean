import GoSem.Dispatch
set_option maxHeartbeats 8000000
set_option maxRecDepth 100000
abbrev zaa:=@Nat.le_refl
abbrev zab:=@Prod.mk.injEq
abbrev zac:=@Bool.and_eq_true
abbrev zad:=@Nat.le_trans
abbrev zae:=@Array.getElem?_eq_some_iff
abbrev zaf:=@List.all_cons
abbrev zag:=@Nat.lt_or_ge
abbrev zah:=@List.length_drop
abbrev zai:=@List.getElem?_eq_getElem
abbrev zaj:=@Nat.zero_le
abbrev zak:=@List.length_cons
abbrev zal:=@Array.getElem?_map
abbrev zam:=@Option.map_eq_some_iff
abbrev zan:=@Array.getElem?_setIfInBounds_ne
abbrev zao:=@List.map_cons
abbrev zap:=@Option.some.injEq
abbrev zaq:=@Nat.lt_of_lt_of_le
abbrev zar:=@Array.getElem?_eq_getElem
abbrev zas:=@List.mem_cons
abbrev zat:=@List.cons_append
abbrev zau:=@List.mem_cons_self
abbrev zav:=@Bool.false_eq_true
abbrev zaw:=@List.length_append
abbrev zax:=@List.mem_cons_of_mem
abbrev zay:=@Option.bind_eq_some_iff
abbrev zaz:=@Bool.eq_iff_iff
abbrev zaA:=@Array.sizeOf_lt_of_mem
abbrev zaB:=@Int.toNat_natCast
abbrev zaC:=@Array.toList_map
abbrev zaD:=@Option.getD_some
abbrev zaE:=@List.all_eq_true
abbrev zaF:=@List.getElem?_append_left
abbrev zaG:=@List.map_nil
abbrev zaH:=@List.mem_map
abbrev zaI:=@List.take_of_length_le
abbrev zaJ:=@List.drop_zero
abbrev zaK:=@List.getElem?_append_right
abbrev zaL:=@Array.getD_eq_getD_getElem?
abbrev zaM:=@Option.map_some
abbrev zaN:=@List.getElem_mem
abbrev zaO:=@List.mem_append
abbrev zaP:=@List.append_assoc
abbrev zaQ:=@List.getElem?_drop
abbrev zaR:=@Array.getElem?_toList
abbrev zaS:=@List.length_nil
abbrev zaT:=@Array.mem_of_getElem?
abbrev zaU:=@Array.getElem?_eq_none
abbrev zaV:=@Array.getElem?_setIfInBounds_self_of_lt
abbrev zaW:=@Bool.true_and
abbrev zaX:=@List.drop_succ_cons
abbrev zaY:=@List.suffix_refl
abbrev zaZ:=@Array.forIn_toList
abbrev zba:=@Bool.and_true
abbrev zbb:=@List.mem_toArray
abbrev zbc:=@List.not_mem_nil
abbrev zbd:=@Option.getD_none
abbrev zbe:=@List.map_toArray
abbrev zbf:=@List.drop_of_length_le
abbrev zbg:=@List.getElem?_eq_some_iff
abbrev zbh:=@Array.length_toList
abbrev zbi:=@Array.getElem_map
abbrev zbj:=@Array.getElem?_push
abbrev zbk:=@Option.bind_some
abbrev zbl:=@Int.eq_ofNat_of_zero_le
abbrev zbm:=@List.drop_drop
abbrev zbn:=@List.length_map
abbrev zbo:=@Array.map_map
abbrev zbp:=@Array.mem_iff_getElem
abbrev zbq:=@Option.isSome_iff_exists
abbrev zbr:=@Array.all_eq_true_iff_forall_mem
abbrev zbs:=@List.map_append
abbrev zbt:=@List.getElem?_map
abbrev zbu:=@Array.map_empty
abbrev zbv:=@Array.map_setIfInBounds
abbrev zbw:=@Array.size_push
abbrev zbx:=@List.cons.injEq
abbrev zby:=@List.eq_nil_of_length_eq_zero
abbrev zbz:=@Nat.eq_zero_or_pos
abbrev zbA:=@List.take_succ_eq_append_getElem
abbrev zbB:=@List.drop_eq_getElem_cons
abbrev zbC:=@List.length_pos_iff
abbrev zbD:=@List.mem_of_getElem?
abbrev zbE:=@Nat.lt_of_le_of_lt
abbrev zbF:=@List.getElem?_eq_none
abbrev zbG:=@List.getD_eq_getElem?_getD
abbrev zbH:=@Array.mapM_eq_mapM_toList
abbrev zbI:=@Array.getElem?_setIfInBounds
abbrev zbJ:=@Int.gcd_pos_of_ne_zero_right
abbrev zbK:=@List.getElem?_replicate
namespace Go.Ren
structure Rn where
 b:Nat→Nat
 f:Fn→Fn
 d:Nat
instance:CoeFun Rn (λ_=>Nat→Nat):=⟨Rn.b⟩
def ra (ρ:Rn)(a:Addr):Addr:={ a with block:=ρ a.block }
def rv (ρ:Rn):Value→Value
 |.pointer a=> .pointer (a.map (ra ρ))
 |.slice a l c=> .slice (a.map (ra ρ)) l c
 |.map r=> .map (r.map ρ.b)
 |.chan r=> .chan (r.map ρ.b)
 |.func fn first captured=> .func (ρ.f fn) (first.map (rv ρ)) (captured.map (rv ρ))
 |.iface t v=> .iface t (rv ρ v)
 |.agg cs=> .agg (cs.map (rv ρ))
 |.tuple vs=> .tuple (vs.map (rv ρ))
 |.bool b=> .bool b
 |.int k n=> .int k n
 |.float k n=> .float k n
 |.complex k a b=> .complex k a b
 |.string s=> .string s
 |.nilFunc=> .nilFunc
 |.nilIface=> .nilIface
def ro (ρ:Rn):Obj→Obj
 |.cells c t f=> .cells (c.map (rv ρ)) t f
 |.map es c=> .map (es.map λe=>{ e with key:=rv ρ e.key,val:=rv ρ e.val }) c
 |.view a t=> .view (ra ρ a) t
 |.number a b=> .number (ra ρ a) b
 |.pending c t=> .pending (c.map (rv ρ)) t
 |.chan cap buf cl s r t=> .chan cap (buf.map (rv ρ)) cl s r t
 |o=>o
def rm (ρ:Rn):Mark→Mark
 |.acquire a=> .acquire (ra ρ a)
 |.release a=> .release (ra ρ a)
 |.releaseMerge a=> .releaseMerge (ra ρ a)
 |.read a=> .read (ra ρ a)
 |.write a=> .write (ra ρ a)
 |m=>m
def lO:Obj→Prop
 |.cells .. |.view .. |.number .. |.map ..=>True
 |_=>False
def MOk:Mark→Prop
 |.extern _|.noRoom=>True
 |_=>False
def Bu:Halt→Prop
 |.panic _|.stuck _=>True
 |.unsupported (.initOrder _)=>False
 |.unsupported _=>True
 |_=>False
def xU (P:Program)(ρ:Rn):Prop:=∀r,ρ r<P.globals.size↔r<P.globals.size
def GV (P:Program)(ρ:Rn)(v:Value):Prop:=xU P ρ∨rv ρ v=v
def GA (P:Program)(ρ:Rn)(a:Addr):Prop:=xU P ρ∨ra ρ a=a
def GO (P:Program)(ρ:Rn)(o:Obj):Prop:=xU P ρ∨ro ρ o=o
def Ky:Obj→Prop
 |.map ..=>True
 |_=>False
def Tm {α:Type}(Q:α→Prop):Sem α→Prop
 |.pure a=>Q a
 |.halt h=>Bu h
 |.program k=>∀p,Tm Q (k p)
 |.new _ k=>∀r,Tm Q (k r)
 |.sys _ k=>∀x,Tm Q (k x)
 |_=>False
theorem Tm.bind {α β:Type}{Q:α→Prop}{R:β→Prop}{f:α→Sem β}(hf:∀a,Q a→Tm R (f a)):∀{s:Sem α},Tm Q s→Tm R (s>>=f)
 |.pure a,h=>hf a h
 |.halt _,h=>h
 |.program _k,h=>λp=>Tm.bind hf (h p)
 |.new _ _k,h=>λr=>Tm.bind hf (h r)
 |.sys _ _k,h=>λx=>Tm.bind hf (h x)
 |.load ..,h=>h.elim
 |.store ..,h=>h.elim
 |.shape ..,h=>h.elim
 |.freeze ..,h=>h.elim
 |.frozen ..,h=>h.elim
 |.getObj ..,h=>h.elim
 |.setObj ..,h=>h.elim
 |.choose ..,h=>h.elim
 |.mark ..,h=>h.elim
def aa (P:Program)(ρ:Rn){α β:Type}(R:α→β→Prop):Sem α→Sem β→Prop
 |.pure a,s=>∃b,s=.pure b∧R a b
 |.load m a k,s=>a.block<ρ.d∨∃k',s=.load m (ra ρ a) k'∧∀v,aa P ρ R (k v) (k' (rv ρ v))
 |.store m a v k,s=>∃k',s=.store m (ra ρ a) (rv ρ v) k'∧aa P ρ R k k'
 |.new o k,s=>lO o∧∃k',s=.new (ro ρ o) k'∧∀r,aa P ρ R (k r) (k' (ρ r))
 |.shape r k,s=>∃k',s=.shape (ρ r) k'∧∀x,aa P ρ R (k x) (k' x)
 |.freeze a n k,s=>∃k',s=.freeze (ra ρ a) n k'∧aa P ρ R k k'
 |.frozen a k,s=>∃k',s=.frozen (ra ρ a) k'∧∀b,aa P ρ R (k b) (k' b)
 |.getObj r k,s=>∃k',s=.getObj (ρ r) k'∧∀o,GO P ρ o→aa P ρ R (k o) (k' (ro ρ o))
 |.setObj r o k,s=>Ky o∧∃k',s=.setObj (ρ r) (ro ρ o) k'∧aa P ρ R k k'
 |.choose q k,s=>∃k',s=.choose q k'∧∀n,aa P ρ R (k n) (k' n)
 |.sys _ k,_=>∀x,Tm (λ_=>False) (k x)
 |.program k,s=>∃k',s=.program k'∧aa P ρ R (k P) (k' P)
 |.mark m k,s=>MOk m∧∃k',s=.mark m k'∧aa P ρ R k k'
 |.halt h,_=>Bu h
section
variable {P:Program}{ρ:Rn}{α β Wl Wm:Type}
theorem aa.bind {R:α→β→Prop}{R':Wl→Wm→Prop}:∀{s:Sem α} {s':Sem β} {f:α→Sem Wl} {f':β→Sem Wm},aa P ρ R s s'→(∀a b,R a b→aa P ρ R' (f a) (f' b))→aa P ρ R' (s>>=f) (s'>>=f')
 |.pure a,s',f,f',⟨b,e,h⟩,hf=>by subst e;exact hf a b h
 |.load m a k,s',f,f',h,hf=>by
  rcases h with h|⟨k',e,h⟩
  ·exact .inl h
  ·subst e;exact .inr ⟨_,rfl,λv=>aa.bind (h v) hf⟩
 |.store m a v k,s',f,f',⟨k',e,h⟩,hf=>by subst e;exact⟨_,rfl,aa.bind h hf⟩
 |.new o k,s',f,f',⟨o1,k',e,h⟩,hf=>by subst e;exact⟨o1,_,rfl,λr=>aa.bind (h r) hf⟩
 |.shape r k,s',f,f',⟨k',e,h⟩,hf=>by subst e;exact⟨_,rfl,λr=>aa.bind (h r) hf⟩
 |.freeze a n k,s',f,f',⟨k',e,h⟩,hf=>by subst e;exact⟨_,rfl,aa.bind h hf⟩
 |.frozen a k,s',f,f',⟨k',e,h⟩,hf=>by subst e;exact⟨_,rfl,λr=>aa.bind (h r) hf⟩
 |.getObj r k,s',f,f',⟨k',e,h⟩,hf=>by subst e;exact⟨_,rfl,λr hr=>aa.bind (h r hr) hf⟩
 |.setObj r o k,s',f,f',⟨o1,k',e,h⟩,hf=>by subst e;exact⟨o1,_,rfl,aa.bind h hf⟩
 |.choose q k,s',f,f',⟨k',e,h⟩,hf=>by subst e;exact⟨_,rfl,λr=>aa.bind (h r) hf⟩
 |.sys q k,s',f,f',h,hf=>λx=>Tm.bind (λ_ q=>q.elim) (h x)
 |.program k,s',f,f',⟨k',e,h⟩,hf=>by subst e;exact⟨_,rfl,aa.bind h hf⟩
 |.mark m k,s',f,f',⟨o,k',e,h⟩,hf=>by subst e;exact⟨o,_,rfl,aa.bind h hf⟩
 |.halt h,s',f,f',e,hf=>e
theorem aa.pure {R:α→β→Prop}{a:α}{b:β}(h:R a b):aa P ρ R (Pure.pure a) (Pure.pure b):=⟨b,rfl,h⟩
theorem aa.stuck {R:α→β→Prop}{s':Sem β}(w:String):aa P ρ R (stuck w) s':=trivial
theorem aa.unsupported {R:α→β→Prop}{s':Sem β}(u:Unsupported)(h:Bu (.unsupported u):=by trivial):aa P ρ R (unsupported u) s':=h
abbrev VV (ρ:Rn):Value→Value→Prop:=λv v'=>v'=rv ρ v
abbrev AA (ρ:Rn):Addr→Addr→Prop:=λa a'=>a'=ra ρ a
theorem vg (a:Addr):aa P ρ (VV ρ) (load a) (load (ra ρ a)):= .inr ⟨_,rfl,λ_v=>⟨_,rfl,rfl⟩⟩
theorem Ob (a:Addr)(v:Value):aa P ρ Eq (store a v) (store (ra ρ a) (rv ρ v)):=⟨_,rfl,⟨_,rfl,rfl⟩⟩
theorem lQ (o:Obj)(h:lO o:=by trivial):aa P ρ (λr r'=>r'=ρ r) (newObj o) (newObj (ro ρ o)):=⟨h,_,rfl,λ_r=>⟨_,rfl,rfl⟩⟩
theorem cI:aa P ρ (λp p'=>P=p∧P=p') program program:=⟨_,rfl,⟨_,rfl,rfl,rfl⟩⟩
theorem iE (q:Question):aa P ρ Eq (choose q) (choose q):=⟨_,rfl,λ_=>⟨_,rfl,rfl⟩⟩
theorem eM (t:TypeId):aa P ρ (λi i'=>i'=i∧P.info? t=some i) (typeInfo t) (typeInfo t):=by
 unfold typeInfo;refine aa.bind cI ?_;rintro _ _ ⟨rfl,rfl⟩;split
 ·rename_i i h;exact aa.pure ⟨rfl,h⟩
 ·exact aa.stuck _
theorem aC (t:TypeId):aa P ρ (λi i'=>i'=i∧P.underlying t=some i) (underlying t) (underlying t):=by
 unfold underlying;refine aa.bind cI ?_;rintro _ _ ⟨rfl,rfl⟩;split
 ·rename_i i h;exact aa.pure ⟨rfl,h⟩
 ·exact aa.stuck _
theorem jQ (a:Addr)(i:Nat):(ra ρ a).add i=ra ρ (a.add i):=by unfold ra Addr.add;split<;>rfl
theorem nk (a:Addr):∀(n i:Nat) (acc:Array Value),aa P ρ (λx y=>y=x.map (rv ρ)) (loadCellsFrom a i n acc) (loadCellsFrom (ra ρ a) i n (acc.map (rv ρ)))
 |0,i,acc=>aa.pure rfl
 |n+1,i,acc=>by
  unfold loadCellsFrom;rw[jQ];refine aa.bind (vg _) ?_;rintro v _ rfl;have:=nk a n (i+1) (acc.push v);rwa[Array.map_push]at this
theorem nJ (a:Addr)(n:Nat):aa P ρ (λx y=>y=x.map (rv ρ)) (loadCells a n) (loadCells (ra ρ a) n):=by
 have:=nk (P:=P) (ρ:=ρ) a n 0 #[];rwa[zbu]at this
theorem uK (t:TypeId):aa P ρ Eq (isAgg t) (isAgg t):=by
 unfold isAgg;refine aa.bind (aC t) ?_;rintro d d' ⟨e,_⟩;subst e;cases d'<;>exact aa.pure rfl
theorem cD (t:TypeId):aa P ρ Eq (sizeOf t) (sizeOf t):=by
 unfold sizeOf;refine aa.bind (eM t) ?_;rintro d _ ⟨rfl,_⟩;exact aa.pure rfl
theorem yD (t:TypeId)(a:Addr):aa P ρ (VV ρ) (loadVar t a) (loadVar t (ra ρ a)):=by
 unfold loadVar;refine aa.bind (uK t) ?_;rintro b _ rfl;cases b
 ·exact vg a
 ·refine aa.bind (cD t) ?_;rintro n _ rfl;refine aa.bind (nJ a n) ?_;rintro cs _ rfl;exact aa.pure (by simp only[VV,rv])
theorem j9 (a:Addr):∀(vs:List Value) (i:Nat),aa P ρ Eq (storeCells a vs i) (storeCells (ra ρ a) (vs.map (rv ρ)) i)
 |[],i=>aa.pure rfl
 |v::r,i=>by
  unfold storeCells;simp only[zao];rw[jQ];exact aa.bind (Ob _ v) (λ_ _ _=>j9 a r (i+1))
theorem jx (v:Value):(rv ρ v).cells=v.cells.map (rv ρ):=by
 cases v<;>simp[rv,Value.cells]
theorem D9 (t:TypeId)(a:Addr)(v:Value):aa P ρ Eq (storeVar t a v) (storeVar t (ra ρ a) (rv ρ v)):=by
 unfold storeVar;refine aa.bind (cD t) ?_;rintro n _ rfl;rw[jx,Array.size_map];split
 ·exact aa.stuck _
 ·rw[zaC];exact j9 a _ 0
theorem kz (v:Value):aa P ρ (AA ρ) (Instr.sureAddr v) (Instr.sureAddr (rv ρ v)):=by
 cases v with
 |pointer a=>
  cases a with
  |none=>simp only[rv,Option.map,Instr.sureAddr];exact aa.stuck _
  |some a=>simp only[rv,Option.map,Instr.sureAddr];exact aa.pure rfl
 |_=>simp only[rv,Instr.sureAddr];exact aa.stuck _
theorem Bv (t:TypeId)(v:Value):aa P ρ (VV ρ) (Instr.loadAt t v) (Instr.loadAt t (rv ρ v)):=by
 unfold Instr.loadAt;refine aa.bind (kz v) ?_;rintro a _ rfl;exact yD t a
theorem Hw (t:TypeId)(v x:Value):aa P ρ Eq (Instr.storeAt t v x) (Instr.storeAt t (rv ρ v) (rv ρ x)):=by
 unfold Instr.storeAt;refine aa.bind (kz v) ?_;rintro a _ rfl;exact D9 t a x
theorem oL (v:Value):aa P ρ Eq (asIntOf v) (asIntOf (rv ρ v)):=by
 cases v with
 |pointer a=>cases a<;>(simp only[rv,Option.map,asIntOf];first|exact aa.stuck _|exact aa.unsupported _)
 |int k n=>simp only[rv,asIntOf];exact aa.pure rfl
 |_=>simp only[rv,asIntOf];exact aa.stuck _
theorem mB (v:Value):aa P ρ Eq (asInt v) (asInt (rv ρ v)):=by
 unfold asInt;refine aa.bind (oL v) ?_;rintro x _ rfl;exact aa.pure rfl
theorem vh (v:Value):aa P ρ Eq (asBool v) (asBool (rv ρ v)):=by
 cases v with
 |bool b=>simp only[rv,asBool];exact aa.pure rfl
 |_=>simp only[rv,asBool];exact aa.stuck _
theorem Oc (v:Value):aa P ρ (λx y=>y=x.map (rv ρ)) (asAgg v) (asAgg (rv ρ v)):=by
 cases v with
 |agg b=>simp only[rv,asAgg];exact aa.pure rfl
 |_=>simp only[rv,asAgg];exact aa.stuck _
structure Plain (P:Program) (ρ:Rn):Prop where
 zero:∀t i v,P.info? t=some i→i.zero=some v→rv ρ v=v
 inj:∀a b,ρ a=ρ b→a=b
theorem eI (hp:Plain P ρ)(t:TypeId):aa P ρ (λv v'=>v'=v∧rv ρ v=v) (zeroValue t) (zeroValue t):=by
 unfold zeroValue;refine aa.bind (eM t) ?_;rintro i i' ⟨e,hi⟩;subst e;split
 ·rename_i v hv;exact aa.pure ⟨rfl,hp.zero t _ v hi hv⟩
 ·exact aa.unsupported _
theorem qI (t:TypeId)(cs:Array Value):aa P ρ (AA ρ) (newRow t cs) (newRow t (cs.map (rv ρ))):=by
 unfold newRow;refine aa.bind (lQ (.cells cs t)) ?_;rintro r _ rfl;exact aa.pure rfl
theorem vn (t:TypeId)(v:Value):aa P ρ (AA ρ) (newVar t v) (newVar t (rv ρ v)):=by
 unfold newVar;rw[jx];exact qI t _
theorem nK (t:TypeId)(cs:Array Value)(o:Nat):aa P ρ (VV ρ) (part t cs o) (part t (cs.map (rv ρ)) o):=by
 unfold part;refine aa.bind (uK t) ?_;rintro b _ rfl;cases b
 ·simp only[zal,zav,if_false];cases cs[o]? with
  |none=>exact aa.stuck _
  |some v=>exact aa.pure rfl
 ·simp only[if_true];refine aa.bind (cD t) ?_;rintro n _ rfl;exact aa.pure (by simp only[VV,rv];rw[Array.map_extract])
theorem mC {R:α→β→Prop}{s':Sem β}(v:Value):aa P ρ R (goPanic v) s':=trivial
theorem vo (t:TypeId):aa P ρ Eq (elemOf t) (elemOf t):=by
 unfold elemOf;refine aa.bind (aC t) ?_;rintro d d' ⟨e,_⟩;subst e;cases d'<;>first|exact aa.stuck _|exact aa.pure rfl
def RuntimeError.aas:RuntimeError→Bool
 |.typeAssertion ..=>false
 |_=>true
theorem aT {R:α→β→Prop}(e:RuntimeError)(he:RuntimeError.aas e=true:=by rfl):aa P ρ R (runtimePanic e) (runtimePanic e):=by
 unfold runtimePanic;refine aa.bind cI ?_;rintro _ _ ⟨rfl,rfl⟩;cases e with
 |bounds x y s c=>exact mC _
 |error m=>exact mC _
 |plain m=>exact mC _
 |nilDeref=>exact mC _
 |typeAssertion i c a m=>cases he
 |panicNil=>
  simp only;refine aa.bind (vo _) ?_;rintro t _ rfl;have hv:=vn (P:=P) (ρ:=ρ) t (.agg #[]);simp only[rv,zbu]at hv;refine aa.bind hv ?_;rintro r _ rfl;exact mC _
 |unhashable t=>exact mC _
theorem Bw (_hp:Plain P ρ)(v:Value):aa P ρ (AA ρ) (asAddr v) (asAddr (rv ρ v)):=by
 cases v with
 |pointer a=>
  cases a with
  |none=>simp only[rv,Option.map,asAddr];exact aT _
  |some a=>simp only[rv,Option.map,asAddr];exact aa.pure rfl
 |_=>simp only[rv,asAddr];exact aa.stuck _
theorem gN {R:α→β→Prop}(_hp:Plain P ρ)(k:IntKind)(x y:Int)(c:BoundsCode):aa P ρ R (boundsPanic k x y c) (boundsPanic k x y c):=by
 unfold boundsPanic;dsimp only;split
 ·refine aa.bind (R:=Eq) ?_ ?_
  ·refine aa.bind (iE _) ?_;rintro n _ rfl;exact aa.pure rfl
  ·rintro b _ rfl;exact aT _
 ·refine aa.bind (R:=Eq) (aa.pure rfl) ?_;rintro b _ rfl;exact aT _
theorem aa.ay {R:α→β→Prop}{c:Prop} [Decidable c] {s t:Sem α}{s' t':Sem β}(h1:c→aa P ρ R s s')(h2:¬c→aa P ρ R t t'):aa P ρ R (if c then s else t) (if c then s' else t'):=by
 split
 ·exact h1 ‹_›
 ·exact h2 ‹_›
theorem Od (hp:Plain P ρ)(t:TypeId):aa P ρ (VV ρ) (Instr.alloc t true (.tuple #[])) (Instr.alloc t true (.tuple #[])):=by
 unfold Instr.alloc;refine aa.bind (eI hp t) ?_;rintro v v' ⟨e,hv⟩;subst e;have:=vn (P:=P) (ρ:=ρ) t v';rw[hv]at this;refine aa.bind this ?_;rintro a _ rfl;exact aa.pure (by simp[VV,rv])
theorem Xo (t:TypeId)(v:Value):aa P ρ (VV ρ) (Instr.box t v) (Instr.box t (rv ρ v)):=by
 unfold Instr.box;refine aa.bind (vn t v) ?_;rintro a _ rfl;exact aa.pure (by simp[VV,rv])
theorem zipIdx_map (l:List Value)(k:Nat):∀(off:Nat) (cs:Array Value),(((l.map (rv ρ)).zipIdx k).foldl (λcs (x:Value×Nat)=>cs.setIfInBounds (off+x.2) x.1) (cs.map (rv ρ)):Array Value)=((l.zipIdx k).foldl (λcs (x:Value×Nat)=>cs.setIfInBounds (off+x.2) x.1) cs).map (rv ρ):=by
 induction l generalizing k with
 |nil=>intro off cs;rfl
 |cons v r ih=>
  intro off cs;simp only[zao,List.zipIdx_cons,List.foldl_cons];rw[←zbv];exact ih (k+1) off _
theorem Ea (place:Nat→Option (Nat×Nat)):∀(l:List (Nat×Value)) (cs:Array Value),Instr.fill place (cs.map (rv ρ)) (l.map λx=>(x.1,rv ρ x.2))=(Instr.fill place cs l).map (λx=>x.map (rv ρ))
 |[],cs=>rfl
 |(i,v)::r,cs=>by
  simp only[zao,Instr.fill];cases place i with
  |none=>rfl
  |some p=>
   obtain⟨off,size⟩:=p;simp only[jx,Array.size_map];split
   ·rfl
   ·rw[←Ea place r]
    congr 1
    have:=zipIdx_map (ρ:=ρ) v.cells.toList 0 off cs;rw[←Array.foldl_toList,←Array.foldl_toList,Array.toList_zipIdx,Array.toList_zipIdx,zaC];exact this
theorem bind_assoc' {γ δ ε:Type}:∀(s:Sem γ) (f:γ→Sem δ) (g:δ→Sem ε),(s.bind f).bind g=s.bind λx=>(f x).bind g
 |.pure a,f,g=>rfl
 |.load m a k,f,g=>by simp only[Sem.bind];congr 1;funext v;exact bind_assoc' (k v) f g
 |.store m a v k,f,g=>by simp only[Sem.bind];congr 1;exact bind_assoc' k f g
 |.new o k,f,g=>by simp only[Sem.bind];congr 1;funext v;exact bind_assoc' (k v) f g
 |.shape o k,f,g=>by simp only[Sem.bind];congr 1;funext v;exact bind_assoc' (k v) f g
 |.freeze a n k,f,g=>by simp only[Sem.bind];congr 1;exact bind_assoc' k f g
 |.frozen o k,f,g=>by simp only[Sem.bind];congr 1;funext v;exact bind_assoc' (k v) f g
 |.getObj o k,f,g=>by simp only[Sem.bind];congr 1;funext v;exact bind_assoc' (k v) f g
 |.setObj a n k,f,g=>by simp only[Sem.bind];congr 1;exact bind_assoc' k f g
 |.choose o k,f,g=>by simp only[Sem.bind];congr 1;funext v;exact bind_assoc' (k v) f g
 |.sys o k,f,g=>by simp only[Sem.bind];congr 1;funext v;exact bind_assoc' (k v) f g
 |.program k,f,g=>by simp only[Sem.bind];congr 1;funext v;exact bind_assoc' (k v) f g
 |.mark m k,f,g=>by simp only[Sem.bind];congr 1;exact bind_assoc' k f g
 |.halt h,f,g=>rfl
theorem bind_pure' {γ:Type}:∀(s:Sem γ),s.bind Sem.pure=s
 |.pure a=>rfl
 |.load m a k=>by simp only[Sem.bind];congr 1;funext v;exact bind_pure' (k v)
 |.store m a v k=>by simp only[Sem.bind];congr 1;exact bind_pure' k
 |.new o k=>by simp only[Sem.bind];congr 1;funext v;exact bind_pure' (k v)
 |.shape o k=>by simp only[Sem.bind];congr 1;funext v;exact bind_pure' (k v)
 |.freeze a n k=>by simp only[Sem.bind];congr 1;exact bind_pure' k
 |.frozen o k=>by simp only[Sem.bind];congr 1;funext v;exact bind_pure' (k v)
 |.getObj o k=>by simp only[Sem.bind];congr 1;funext v;exact bind_pure' (k v)
 |.setObj a n k=>by simp only[Sem.bind];congr 1;exact bind_pure' k
 |.choose o k=>by simp only[Sem.bind];congr 1;funext v;exact bind_pure' (k v)
 |.sys o k=>by simp only[Sem.bind];congr 1;funext v;exact bind_pure' (k v)
 |.program k=>by simp only[Sem.bind];congr 1;funext v;exact bind_pure' (k v)
 |.mark m k=>by simp only[Sem.bind];congr 1;exact bind_pure' k
 |.halt h=>rfl
theorem lawful:LawfulMonad Sem:=LawfulMonad.mk' Sem (id_map:=λx=>bind_pure' x) (pure_bind:=λ_ _=>rfl) (bind_assoc:=λx f g=>bind_assoc' x f g)
theorem Kz {γ:Type}{f f':γ→Sem α}(hf:∀x,aa P ρ Eq (f x) (f' x)):∀(l:List γ),aa P ρ Eq (l.mapM f) (l.mapM f')
 |[]=>by haveI:=lawful;simp only[List.mapM_nil];exact aa.pure rfl
 |x::r=>by
  haveI:=lawful
  simp only[List.mapM_cons];refine aa.bind (hf x) ?_;rintro a _ rfl;refine aa.bind (Kz hf r) ?_;rintro as _ rfl;exact aa.pure rfl
theorem Oe {γ:Type}{f f':γ→Sem α}(hf:∀x,aa P ρ Eq (f x) (f' x))(l:Array γ):aa P ρ Eq (l.mapM f) (l.mapM f'):=by
 haveI:=lawful
 rw[zbH,zbH];refine aa.bind (Kz hf l.toList) ?_;rintro as _ rfl;exact aa.pure rfl
theorem Og (hp:Plain P ρ)(t:TypeId)(parts:Array (Nat×Value)):aa P ρ (VV ρ) (Instr.build t parts) (Instr.build t (parts.map λx=>(x.1,rv ρ x.2))):=by
 unfold Instr.build;refine aa.bind (eI hp t) ?_;rintro v v' ⟨e,hv⟩;subst e;refine aa.bind (aC t) ?_;rintro d d' ⟨e,_⟩;subst e;have hz:v'.cells.map (rv ρ)=v'.cells:=by rw[←jx,hv]
 have hf:=λplace=>Ea (ρ:=ρ) place parts.toList v'.cells;simp only[hz]at hf;cases d' with
 |struct fields=>
  simp only;refine aa.bind (Oe (λf=>?_) fields) ?_
  ·refine aa.bind (cD f.type) ?_;rintro n _ rfl;exact aa.pure rfl
  ·rintro pl _ rfl;rw[zaC,hf];cases Instr.fill (λx=>pl[x]?) v'.cells parts.toList with
   |none=>exact aa.stuck _
   |some cs=>exact aa.pure (by simp[VV,rv])
 |array n e=>
  simp only;refine aa.bind (cD e) ?_;rintro sz _ rfl;rw[zaC,hf];cases Instr.fill (λi=>some (i*sz,sz)) v'.cells parts.toList with
  |none=>exact aa.stuck _
  |some cs=>exact aa.pure (by simp[VV,rv])
 |_=>exact aa.stuck _
theorem Hy (v:Value)(i:Nat):aa P ρ (VV ρ) (Instr.extract v i) (Instr.extract (rv ρ v) i):=by
 cases v with
 |tuple vs=>
  simp only[rv,Instr.extract,zal];cases vs[i]? with
  |none=>exact aa.stuck _
  |some v=>exact aa.pure rfl
 |_=>simp only[rv,Instr.extract];exact aa.stuck _
theorem zJ (hp:Plain P ρ)(v:Value)(y:Nat)(c:BoundsCode):aa P ρ Eq (Instr.sliceBound v y c) (Instr.sliceBound (rv ρ v) y c):=by
 unfold Instr.sliceBound;refine aa.bind (oL v) ?_;rintro x _ rfl;refine aa.ay (λ_=>aa.pure rfl) (λ_=>gN hp _ _ _ _)
theorem pD (hp:Plain P ρ)(b:Bool)(len cap:Nat)(lo hi mx:Option Value):aa P ρ Eq (Instr.sliceBounds b len cap lo hi mx) (Instr.sliceBounds b len cap (lo.map (rv ρ)) (hi.map (rv ρ)) (mx.map (rv ρ))):=by
 have hb:=λv y c=>zJ (P:=P) (ρ:=ρ) hp v y c;unfold Instr.sliceBounds;cases mx<;>cases hi<;>cases lo<;>simp only[Option.map,Option.isSome];all_goals
  repeat' first
   |exact aa.pure rfl
   |exact aa.stuck _
   |(refine aa.bind (R:=Eq) (aa.pure rfl) ?_;rintro _ _ rfl)
   |(refine aa.bind (hb _ _ _) ?_;rintro _ _ rfl)
   |(refine aa.bind (R:=Eq) (aa.stuck _) ?_;rintro _ _ rfl)
theorem Oh (a:Option Addr)(n:Nat):(a.map (ra ρ)).map (·.add n)=(a.map (·.add n)).map (ra ρ):=by
 cases a with
 |none=>rfl
 |some a=>simp[jQ]
theorem Oi (hp:Plain P ρ)(t:TypeId)(x:Value)(lo hi mx:Option Value):aa P ρ (VV ρ) (Instr.slice t x lo hi mx) (Instr.slice t (rv ρ x) (lo.map (rv ρ)) (hi.map (rv ρ)) (mx.map (rv ρ))):=by
 have hs:=λb len cap mx=>pD (P:=P) (ρ:=ρ) hp b len cap lo hi mx;have ha:=Bw hp x;unfold Instr.slice;refine aa.bind (aC t) ?_;rintro d d' ⟨e,_⟩;subst e;cases d'<;>cases x<;>simp only[rv]at ha ⊢<;>try exact aa.stuck _
 case string.string=>
  simp only[Option.isSome_map];refine aa.ay (λ_=>aa.bind (R:=Eq) (aa.stuck _) (λ_ _ _=>?_)) (λ_=>?_);all_goals
   refine aa.bind (hs _ _ _ none) ?_;rintro b _ rfl;exact aa.pure (by simp[VV,rv])
 case slice.slice=>
  refine aa.bind (hs _ _ _ mx) ?_;rintro b _ rfl;refine aa.bind (cD _) ?_;rintro n _ rfl;refine aa.pure ?_;simp only[VV,rv,Oh];split<;>rfl
 all_goals
  refine aa.bind ha ?_;rintro a _ rfl;refine aa.bind (aC _) ?_;rintro d d' ⟨e,_⟩;subst e;cases d' with
  |array n e=>
   refine aa.bind (hs _ _ _ mx) ?_;rintro b _ rfl;refine aa.bind (cD e) ?_;rintro n _ rfl;refine aa.pure ?_;simp only[VV,rv,Option.map,jQ];split<;>rfl
  |_=>exact aa.stuck _
theorem Hz (hp:Plain P ρ)(t:TypeId)(x:Value)(lo hi mx:Option Value):aa P ρ (VV ρ) (Instr.sliceAt t x lo hi mx) (Instr.sliceAt t (rv ρ x) (lo.map (rv ρ)) (hi.map (rv ρ)) (mx.map (rv ρ))):=by
 have hs:=λb len cap mx=>pD (P:=P) (ρ:=ρ) hp b len cap lo hi mx;unfold Instr.sliceAt;refine aa.bind (aC t) ?_;rintro d d' ⟨e,_⟩;subst e;cases d' with
 |array n e=>
  refine aa.bind (kz x) ?_;rintro a _ rfl;refine aa.bind (hs _ _ _ mx) ?_;rintro b _ rfl;refine aa.bind (cD e) ?_;rintro n _ rfl;refine aa.pure ?_;simp only[VV,rv,Option.map,jQ];split<;>rfl
 |_=>exact Oi hp t x lo hi mx
theorem Oj (hp:Plain P ρ)(t:TypeId)(x i:Value):aa P ρ (VV ρ) (Instr.index t x i) (Instr.index t (rv ρ x) (rv ρ i)):=by
 unfold Instr.index;refine aa.bind (oL i) ?_;rintro k _ rfl;refine aa.bind (aC t) ?_;rintro d d' ⟨e,_⟩;subst e;cases d'<;>cases x<;>simp only[rv]<;>try exact aa.stuck _
 case array.agg=>
  refine aa.ay (λ_=>?_) (λ_=>gN hp _ _ _ _);refine aa.bind (cD _) ?_;rintro m _ rfl;exact nK _ _ _
 case string.string=>
  split
  ·exact aa.pure (by simp[VV,rv])
  ·exact gN hp _ _ _ _
theorem HJ (hp:Plain P ρ)(t:TypeId)(x i:Value):aa P ρ (VV ρ) (Instr.indexAt t x i) (Instr.indexAt t (rv ρ x) (rv ρ i)):=by
 have Bx:=kz (P:=P) (ρ:=ρ) x;have tail:∀(k:IntKind×Int) (base:Option Addr) (len:Nat) (elem:TypeId),aa P ρ (VV ρ)
  (do let d ←underlying t
      match base with
      |some a=>
       if 0≤k.2∧k.2<len then do let n ←sizeOf elem;pure (.pointer (some (a.add (k.2.toNat*n))))
       else if(decide (len≤1)&&(match d with|.array ..=>true|_=>false))=true then unsupported (.noEntry "op/indexAddr.an index out of range at an array of length 0 or 1 (ledger 616)")
       else boundsPanic k.1 k.2 len .index
      |none=>boundsPanic k.1 k.2 0 .index)
  (do let d ←underlying t
      match base.map (ra ρ)with
      |some a=>
       if 0≤k.2∧k.2<len then do let n ←sizeOf elem;pure (.pointer (some (a.add (k.2.toNat*n))))
       else if(decide (len≤1)&&(match d with|.array ..=>true|_=>false))=true then unsupported (.noEntry "op/indexAddr.an index out of range at an array of length 0 or 1 (ledger 616)")
       else boundsPanic k.1 k.2 len .index
      |none=>boundsPanic k.1 k.2 0 .index):=by
  intro k base len elem;refine aa.bind (aC t) ?_;rintro d d' ⟨e,_⟩;subst e;cases base with
  |none=>exact gN hp _ _ _ _
  |some a=>
   simp only[Option.map];refine aa.ay (λ_=>?_) (λ_=>aa.ay (λ_=>aa.unsupported _) (λ_=>gN hp _ _ _ _));refine aa.bind (cD elem) ?_;rintro n _ rfl;exact aa.pure (by simp[VV,rv,jQ])
 unfold Instr.indexAt;refine aa.bind (oL i) ?_;rintro k _ rfl;refine aa.bind (aC t) ?_;rintro d d' ⟨e,_⟩;subst e;cases d'<;>cases x<;>simp only[rv]at Bx ⊢<;>first
  |exact aa.bind (R:=λ(_:Option Addr×Nat×TypeId) (_:Option Addr×Nat×TypeId)=>False) (aa.stuck _) (λ_ _ h=>h.elim)
  |(refine aa.bind (R:=λ(x:Option Addr×Nat×TypeId) y=>y=(x.1.map (ra ρ),x.2)) (aa.pure rfl) ?_;rintro ⟨base,len,elem⟩ _ rfl;exact tail k base len elem)
  |(refine aa.bind Bx ?_;rintro a _ rfl;exact tail k (some a) _ _)
theorem gS (r:Nat):aa P ρ Eq (shape r) (shape (ρ r)):=⟨_,rfl,λ_=>⟨_,rfl,rfl⟩⟩
theorem lR (a:Addr):aa P ρ Eq (frozen a) (frozen (ra ρ a)):=⟨_,rfl,λ_=>⟨_,rfl,rfl⟩⟩
theorem KA (a:Addr)(n:Nat):aa P ρ Eq (freeze a n) (freeze (ra ρ a) n):=⟨_,rfl,⟨_,rfl,rfl⟩⟩
theorem lS (r:Nat):aa P ρ (λo o'=>o'=ro ρ o∧GO P ρ o) (getObj r) (getObj (ρ r)):=⟨_,rfl,λ_ h=>⟨_,rfl,rfl,h⟩⟩
theorem Bz (r:Nat)(o:Obj)(h:Ky o):aa P ρ Eq (setObj r o) (setObj (ρ r) (ro ρ o)):=⟨h,_,rfl,⟨_,rfl,rfl⟩⟩
theorem zK (m:Mark)(h:MOk m:=by trivial):aa P ρ Eq (mark m) (mark m):=⟨h,_,rfl,⟨_,rfl,rfl⟩⟩
theorem yE (n:Nat):aa P ρ Eq (askRoom n) (askRoom n):=by
 unfold askRoom;exact aa.ay (λ_=>zK _) (λ_=>aa.pure rfl)
theorem Eb:rv ρ default=default:=by
 rw[show(default:Value)=.bool default from rfl];simp[rv]
theorem HY {z:Array Value}(h:z.map (rv ρ)=z)(i:Nat):rv ρ z[i]! =z[i]!:=by
 rw[Array.getElem!_eq_getD,zaL];have:(z.map (rv ρ))[i]?=z[i]?:=by rw[h]
 rw[zal]at this;cases hz:z[i]? with
 |none=>exact Eb
 |some v=>rw[hz]at this;simpa using this
theorem nL {z:Array Value}(h:z.map (rv ρ)=z)(n m:Nat):((Array.range n).map (λx=>z[x%m]!)).map (rv ρ)=(Array.range n).map (λx=>z[x%m]!):=by
 rw[zbo]
 congr 1
 funext x;exact HY h _
theorem jy {R:α→β→Prop}{γ δ:Type}{s:Sem γ}{s':Sem δ}{f:γ→Sem α}{f':δ→Sem β}(h:aa P ρ (λ_ _=>False) s s'):aa P ρ R (s>>=f) (s'>>=f'):=aa.bind h (λ_ _ h=>h.elim)
theorem BA (hp:Plain P ρ)(t:TypeId)(l c:Value):aa P ρ (VV ρ) (Instr.makeSlice t l c) (Instr.makeSlice t (rv ρ l) (rv ρ c)):=by
 unfold Instr.makeSlice;refine aa.bind (aC t) ?_;rintro d d' ⟨e,_⟩;subst e;cases d'<;>try exact aa.stuck _
 simp only;refine aa.bind (mB l) ?_;rintro l _ rfl;refine aa.bind (mB c) ?_;rintro c _ rfl;refine aa.bind (eM _) ?_;rintro d d' ⟨e,_⟩;subst e;refine aa.ay (λ_=>?_) (λ_=>?_)
 ·refine aa.ay (λ_=>jy (aT _)) (λ_=>aa.ay (λ_=>jy (aT _)) (λ_=>?_));refine aa.bind (iE _) ?_;rintro n _ rfl;exact jy (aT _)
 ·refine aa.bind (yE _) ?_;rintro _ _ rfl;refine aa.bind (cD _) ?_;rintro n _ rfl;have fin:∀z:Array Value,z.map (rv ρ)=z→∀m k q:Nat,∀e:TypeId,aa P ρ (VV ρ) (do let a ←newRow e ((Array.range m).map (λx=>z[x%z.size]!));pure (.slice (some a) k q)) (do let a ←newRow e ((Array.range m).map (λx=>z[x%z.size]!));pure (.slice (some a) k q)):=λz hz m k q e=>by
   have:=qI (P:=P) (ρ:=ρ) e ((Array.range m).map (λx=>z[x%z.size]!));rw[nL hz]at this;refine aa.bind this ?_;rintro a _ rfl;exact aa.pure (by simp[VV,rv])
  refine aa.ay (λ_=>?_) (λ_=>?_)
  ·refine aa.bind (R:=λz z'=>z'=z∧z.map (rv ρ)=z) (aa.pure ⟨rfl,by simp⟩) ?_;rintro z _ ⟨rfl,hz⟩;exact fin _ hz _ _ _ _
  ·refine aa.bind (eI hp _) ?_;rintro v v' ⟨e,hv⟩;subst e;refine aa.bind (R:=λz z'=>z'=z∧z.map (rv ρ)=z) (aa.pure ⟨rfl,by rw[←jx,hv]⟩) ?_;rintro z _ ⟨rfl,hz⟩;exact fin _ hz _ _ _ _
theorem zL (hp:Plain P ρ)(t:TypeId)(len:Nat)(parts:Array (Nat×Value)):aa P ρ (VV ρ) (Instr.buildSlice t len parts) (Instr.buildSlice t len (parts.map λx=>(x.1,rv ρ x.2))):=by
 unfold Instr.buildSlice;refine aa.bind (aC t) ?_;rintro d d' ⟨e,_⟩;subst e;cases d'<;>try exact aa.stuck _
 simp only;refine aa.bind (cD _) ?_;rintro n _ rfl;have fin:∀z:Array Value,z.map (rv ρ)=z→∀e:TypeId,aa P ρ (VV ρ)
  (match Instr.fill (λi=>some (i*n,n)) ((Array.range (len*n)).map (λx=>z[x%z.size]!)) parts.toList with|some cells=>(do let a ←newRow e cells;pure (.slice (some a) len len))|_=>stuck "buildSlice: a part of the wrong size")
  (match Instr.fill (λi=>some (i*n,n)) ((Array.range (len*n)).map (λx=>z[x%z.size]!)) (parts.map λx=>(x.1,rv ρ x.2)).toList with|some cells=>(do let a ←newRow e cells;pure (.slice (some a) len len))|_=>stuck "buildSlice: a part of the wrong size"):=λz hz e=>by
  have hf:=Ea (ρ:=ρ) (λi=>some (i*n,n)) parts.toList ((Array.range (len*n)).map (λx=>z[x%z.size]!));rw[nL hz]at hf;rw[zaC,hf];cases Instr.fill (λi=>some (i*n,n)) ((Array.range (len*n)).map (λx=>z[x%z.size]!)) parts.toList with
  |none=>exact aa.stuck _
  |some cs=>
   refine aa.bind (qI e cs) ?_;rintro a _ rfl;exact aa.pure (by simp[VV,rv])
 refine aa.ay (λ_=>jy (aa.unsupported _)) (λ_=>?_);refine aa.ay (λ_=>?_) (λ_=>?_)
 ·refine aa.bind (R:=λz z'=>z'=z∧z.map (rv ρ)=z) (aa.pure ⟨rfl,by simp⟩) ?_;rintro z _ ⟨rfl,hz⟩;exact fin _ hz _
 ·refine aa.bind (eI hp _) ?_;rintro v v' ⟨e,hv⟩;subst e;refine aa.bind (R:=λz z'=>z'=z∧z.map (rv ρ)=z) (aa.pure ⟨rfl,by rw[←jx,hv]⟩) ?_;rintro z _ ⟨rfl,hz⟩;exact fin _ hz _
theorem Ol (t:TypeId)(x:Value)(f:Nat):aa P ρ (VV ρ) (Instr.field t x f) (Instr.field t (rv ρ x) f):=by
 unfold Instr.field;refine aa.bind (aC t) ?_;rintro d d' ⟨e,_⟩;subst e;cases d'<;>try exact aa.stuck _
 simp only;split
 ·refine aa.bind (Oc x) ?_;rintro cs _ rfl;exact nK _ _ _
 ·exact aa.stuck _
theorem um (t:TypeId)(x:Value):aa P ρ (VV ρ) (Instr.makeInterface t x) (Instr.makeInterface t (rv ρ x)):=by
 unfold Instr.makeInterface;refine aa.bind (aC t) ?_;rintro d d' ⟨e,_⟩;subst e;cases d'<;>first|exact aa.stuck _|exact aa.pure (by simp[VV,rv])
theorem qJ (r:Nat):aa P ρ (λx y=>y=x.map λz=>(ra ρ z.1,z.2)) (viewAt r) (viewAt (ρ r)):=by
 unfold viewAt;refine aa.bind (gS r) ?_;rintro sh _ rfl;refine aa.ay (λ_=>aa.pure rfl) (λ_=>?_);refine aa.bind (lS r) ?_;rintro o _ ⟨rfl,_⟩;cases o<;>simp only[ro]<;>exact aa.pure rfl
theorem vp (a:Addr):aa P ρ Eq (noView a) (noView (ra ρ a)):=by
 unfold noView;refine aa.bind (qJ a.block) ?_;rintro x _ rfl;simp only[Option.isSome_map];exact aa.ay (λ_=>aa.unsupported _) (λ_=>aa.pure rfl)
theorem kA (a:Addr):aa P ρ Eq (byteOf a) (byteOf (ra ρ a)):=by
 unfold byteOf;have e1:(ra ρ a).spot=a.spot:=rfl;have e2:(ra ρ a).off=a.off:=rfl;have e3:(ra ρ a).block=ρ a.block:=rfl;simp only[e1,e2,e3];cases a.spot with
 |some s=>exact aa.pure rfl
 |none=>
  simp only;refine aa.bind cI ?_;rintro _ _ ⟨rfl,rfl⟩;refine aa.bind (vp a) ?_;rintro _ _ rfl;refine aa.bind (gS a.block) ?_;rintro sh _ rfl;cases sh with
  |none=>exact aa.stuck _
  |some x=>
   simp only;refine aa.ay (λ_=>aa.pure rfl) (λ_=>?_);split
   ·exact aa.pure rfl
   ·exact aa.stuck _
theorem KB (a:Addr)(c b:Nat):aa P ρ (AA ρ) (partAt a c b) (partAt (ra ρ a) c b):=by
 unfold partAt;refine aa.bind (kA a) ?_;rintro x _ rfl;refine aa.bind (kA { block:=a.block,off:=a.off+c }) ?_;rintro y _ rfl;refine aa.pure ?_;simp only[AA,ra];split<;>rfl
theorem zM (a:Addr)(f:Field):aa P ρ (AA ρ) (fieldPlace a f) (fieldPlace (ra ρ a) f):=by
 unfold fieldPlace;refine aa.bind (cD _) ?_;rintro n _ rfl;exact aa.ay (λ_=>KB _ _ _) (λ_=>aa.pure (jQ _ _))
theorem H5 (t:TypeId)(x:Value)(f:Nat):aa P ρ (VV ρ) (Instr.fieldAt t x f) (Instr.fieldAt t (rv ρ x) f):=by
 unfold Instr.fieldAt;refine aa.bind (aC t) ?_;rintro d d' ⟨e,_⟩;subst e;cases d'<;>try exact aa.stuck _
 simp only;split
 ·refine aa.bind (kz x) ?_;rintro a _ rfl;refine aa.bind (zM a _) ?_;rintro b _ rfl;exact aa.pure (by simp[VV,rv])
 ·exact aa.stuck _
theorem Gc (v:Value):aa P ρ Eq (Builtin.lenOf v) (Builtin.lenOf (rv ρ v)):=by
 cases v<;>simp only[rv,Builtin.lenOf]<;>first|exact aa.pure rfl|exact aa.stuck _
theorem mD (size n:Nat)(v:Value):aa P ρ (λx y=>y=x.map (rv ρ)) (Builtin.firstCells size n v) (Builtin.firstCells size n (rv ρ v)):=by
 cases v with
 |slice a l c=>
  cases a with
  |none=>simp only[rv,Option.map,Builtin.firstCells];exact aa.pure (by simp)
  |some a=>simp only[rv,Option.map,Builtin.firstCells];exact nJ a _
 |string s=>
  simp only[rv,Builtin.firstCells];refine aa.pure ?_;rw[zbo]
  congr 1
  funext b;simp[rv]
 |_=>simp only[rv,Builtin.firstCells];exact aa.stuck _
theorem mE (a:Addr)(n:Nat):aa P ρ Eq (Builtin.holdsCells a n) (Builtin.holdsCells (ra ρ a) n):=by
 unfold Builtin.holdsCells;refine aa.bind (gS a.block) ?_;rintro x _ rfl;cases x<;>exact aa.pure rfl
theorem np {z:Array Value}(h:z.map (rv ρ)=z)(n:Nat):(Builtin.zeroCells z n).map (rv ρ)=Builtin.zeroCells z n:=nL h _ _
theorem Ec (hp:Plain P ρ)(size lT n:Nat)(a:Option Addr)(x:Value):aa P ρ Eq (Builtin.mayShare size lT n a x) (Builtin.mayShare size lT n (a.map (ra ρ)) (rv ρ x)):=by
 have hi:∀u v:Nat,(ρ u==ρ v)=(u==v):=λu v=>by
  rw[zaz];simp only[beq_iff_eq];exact⟨hp.inj _ _,λh=>by rw[h]⟩
 have h1:∀b:Addr,aa P ρ Eq (do pure ((←Builtin.holdsCells b (lT*size))&&!(←frozen (b.add (lT/2*size))))) (do pure ((←Builtin.holdsCells (ra ρ b) (lT*size))&&!(←frozen ((ra ρ b).add (lT/2*size))))):=λb=>by
  refine aa.bind (mE b _) ?_;rintro _ _ rfl;rw[jQ];refine aa.bind (lR _) ?_;rintro _ _ rfl;exact aa.pure rfl
 have h2:aa P ρ Eq (match x with|.slice (some b) _ _=>do pure (!(←Builtin.holdsCells b (n*size))||a.any (·.block==b.block))|_=>pure false) (match rv ρ x with|.slice (some b) _ _=>do pure (!(←Builtin.holdsCells b (n*size))||(a.map (ra ρ)).any (·.block==b.block))|_=>pure false):=by
  cases x with
  |slice b l c=>
   cases b with
   |none=>simp only[rv,Option.map];exact aa.pure rfl
   |some b=>
    simp only[rv,Option.map];refine aa.bind (mE b _) ?_;rintro _ _ rfl;refine aa.pure ?_;cases a with
    |none=>rfl
    |some a=>simp[ra,hi]
  |_=>simp only[rv];exact aa.pure rfl
 unfold Builtin.mayShare;cases a with
 |none=>
  simp only[Option.map]at h2 ⊢;refine aa.bind (R:=Eq) (aa.pure rfl) ?_;rintro b _ rfl;exact aa.ay (λ_=>aa.pure rfl) (λ_=>h2)
 |some a=>
  simp only[Option.map]at h2 ⊢;refine aa.bind (mE a _) ?_;rintro b1 _ rfl;rw[jQ];refine aa.bind (lR _) ?_;rintro b2 _ rfl;refine aa.bind (R:=Eq) (aa.pure rfl) ?_;rintro b _ rfl;exact aa.ay (λ_=>aa.pure rfl) (λ_=>h2)
theorem aat (a:Option Addr)(size lT zN:Nat)(new:Array Value)(k:Nat):aa P ρ (VV ρ)
 (match a with|some b=>(do storeCells (b.add (lT*size)) new.toList;pure (.slice a k zN))|_=>pure (.slice a k zN))
 (match a.map (ra ρ)with|some b=>(do storeCells (b.add (lT*size)) (new.map (rv ρ)).toList;pure (.slice (a.map (ra ρ)) k zN))|_=>pure (.slice (a.map (ra ρ)) k zN)):=by
 cases a with
 |none=>exact aa.pure (by simp[VV,rv])
 |some b=>
  simp only[Option.map,jQ,zaC];refine aa.bind (j9 _ _ _) ?_;rintro _ _ rfl;exact aa.pure (by simp[VV,rv])
theorem KC (hp:Plain P ρ)(ts:Array TypeId)(ty:TypeId)(args:Array Value):aa P ρ (VV ρ) (Builtin.append_ ts ty args) (Builtin.append_ ts ty (args.map (rv ρ))):=by
 unfold Builtin.append_;simp only[zal];rcases ts[0]? with _|t0<;>rcases args[0]? with _|s<;>rcases args[1]? with _|x<;>simp only[Option.map]<;>try exact aa.stuck _
 refine aa.bind (aC t0) ?_;rintro d d' ⟨e,_⟩;subst e;cases d'<;>try exact aa.stuck _
 cases s<;>simp only[rv]<;>try exact aa.stuck _
 rename_i elem _ a lT zN;have hA:∀(zeros:Bool) (size n:Nat),aa P ρ (λx y=>y=x.map (rv ρ)) (if(!zeros)=true then Builtin.firstCells size n x else if n*size=0 then pure #[]else do let z ←zeroValue elem;pure (Builtin.zeroCells z.cells n)) (if(!zeros)=true then Builtin.firstCells size n (rv ρ x)else if n*size=0 then pure #[]else do let z ←zeroValue elem;pure (Builtin.zeroCells z.cells n)):=λzeros size n=>by
  refine aa.ay (λ_=>mD _ _ _) (λ_=>aa.ay (λ_=>aa.pure (by simp)) (λ_=>?_));refine aa.bind (eI hp elem) ?_;rintro v v' ⟨e,hv⟩;subst e;exact aa.pure (np (by rw[←jx,hv]) n).symm
 have hO:∀size,aa P ρ (λx y=>y=x.map (rv ρ)) (Builtin.firstCells size lT (.slice a lT zN)) (Builtin.firstCells size lT (.slice (a.map (ra ρ)) lT zN)):=λsize=>by
  have:=mD (P:=P) (ρ:=ρ) size lT (.slice a lT zN);simpa only[rv]using this
 refine aa.bind (cD _) ?_;rintro size _ rfl;have hM:=λn=>Ec (P:=P) (ρ:=ρ) hp size lT n a x;have eV:=λnew k=>aat (P:=P) (ρ:=ρ) a size lT zN new k;have hF:∀(old new:Array Value) (k q:Nat),aa P ρ (VV ρ)
  (do let z ←zeroValue elem;let r ←newRow elem (old++new++Builtin.zeroCells z.cells (q-k));pure (.slice (some r) k q))
  (do let z ←zeroValue elem;let r ←newRow elem (old.map (rv ρ)++new.map (rv ρ)++Builtin.zeroCells z.cells (q-k));pure (.slice (some r) k q)):=λold new k q=>by
  refine aa.bind (eI hp elem) ?_;rintro v v' ⟨e,hv⟩;subst e;have:=qI (P:=P) (ρ:=ρ) elem (old++new++Builtin.zeroCells v'.cells (q-k));rw[Array.map_append,Array.map_append,np (by rw[←jx,hv])]at this;refine aa.bind this ?_;rintro r _ rfl;exact aa.pure (by simp[VV,rv])
 have hPn:∀(zeros:Bool) (n:Nat),aa P ρ (λ(_:PUnit) (_:PUnit)=>False)
  (if zeros=true then runtimePanic (.error "growslice: len out of range")else do
    let b ←Builtin.mayShare size lT n a x
    if(!b)=true then do mark .noRoom;unsupported (.resourceLimit "append: a slice or a string whose bytes no memory bears")
    else unsupported (.resourceLimit "append: a slice or a string whose bytes no memory bears"))
  (if zeros=true then runtimePanic (.error "growslice: len out of range")else do
    let b ←Builtin.mayShare size lT n (a.map (ra ρ)) (rv ρ x)
    if(!b)=true then do mark .noRoom;unsupported (.resourceLimit "append: a slice or a string whose bytes no memory bears")
    else unsupported (.resourceLimit "append: a slice or a string whose bytes no memory bears")):=λzeros n=>by
  refine aa.ay (λ_=>aT _) (λ_=>?_);refine aa.bind (hM n) ?_;rintro b _ rfl;refine aa.ay (λ_=>?_) (λ_=>aa.unsupported _);exact aa.bind (zK _) (λ_ _ _=>aa.unsupported _)
 rcases ts[1]? with _|t1<;>simp only
 all_goals
  repeat' first
   |exact aa.stuck _
   |exact aa.unsupported _
   |exact aT _
   |exact jy (aT _)
   |exact eV _ _
   |exact hF _ _ _ _
   |exact jy (hPn _ _)
   |(refine aa.ay (λ_=>?_) (λ_=>?_))
   |(refine aa.bind (eM _) ?_;rintro _ _ ⟨rfl,_⟩)
   |(refine aa.bind (aC _) ?_;rintro _ _ ⟨rfl,_⟩)
   |(refine aa.bind (R:=Eq) (aa.pure rfl) ?_;rintro _ _ rfl)
   |(refine aa.bind (iE _) ?_;rintro _ _ rfl)
   |(refine aa.bind (yE _) ?_;rintro _ _ rfl)
   |(refine aa.bind (hO _) ?_;rintro _ _ rfl)
   |(refine aa.bind (hA _ _ _) ?_;rintro _ _ rfl)
   |(refine aa.bind (hM _) ?_;rintro _ _ rfl)
   |(refine aa.bind (zK _) ?_;rintro _ _ rfl)
   |(refine aa.bind (mB x) ?_;rintro _ _ rfl)
   |(refine aa.bind (Gc x) ?_;rintro _ _ rfl)
theorem Tk (ts:Array TypeId)(ty:TypeId)(args:Array Value):aa P ρ (VV ρ) (Builtin.copy_ ts ty args) (Builtin.copy_ ts ty (args.map (rv ρ))):=by
 unfold Builtin.copy_;simp only[zal];rcases ts[0]? with _|t0<;>rcases args[0]? with _|s<;>rcases args[1]? with _|x<;>simp only[Option.map]<;>try exact aa.stuck _
 refine aa.bind (aC t0) ?_;rintro d d' ⟨e,_⟩;subst e;cases d'<;>try exact aa.stuck _
 cases s<;>simp only[rv]<;>try exact aa.stuck _
 refine aa.bind (Gc x) ?_;rintro n _ rfl;refine aa.bind (cD _) ?_;rintro m _ rfl;refine aa.bind (mD _ _ x) ?_;rintro cs _ rfl;rename_i a l c;cases a with
 |none=>exact aa.pure (by simp[VV,rv,goInt])
 |some a=>
  simp only[Option.map,zaC];refine aa.bind (j9 _ _ _) ?_;rintro _ _ rfl;exact aa.pure (by simp[VV,rv,goInt])
theorem Xp (ts:Array TypeId)(ty:TypeId)(args:Array Value):aa P ρ (VV ρ) (Builtin.len_ ts ty args) (Builtin.len_ ts ty (args.map (rv ρ))):=by
 unfold Builtin.len_;simp only[zal];rcases ts[0]? with _|t0<;>rcases args[0]? with _|s<;>simp only[Option.map]<;>try exact aa.stuck _
 refine aa.bind (aC t0) ?_;rintro d d' ⟨e,_⟩;subst e;cases d'<;>cases s<;>simp only[rv]<;>first
  |exact aa.stuck _
  |exact aa.pure (by simp[VV,rv,goInt])
  |(refine aa.bind (aC _) ?_;rintro d d' ⟨e,_⟩;subst e;cases d'<;>first|exact aa.stuck _|exact aa.pure (by simp[VV,rv,goInt]))
  |skip
 all_goals
  rename_i r;cases r with
  |none=>exact aa.pure (by simp[VV,rv,goInt])
  |some r=>
   simp only[Option.map];refine aa.bind (lS r) ?_;rintro o _ ⟨rfl,_⟩;cases o<;>simp only[ro]<;>first|exact aa.stuck _|exact aa.pure (by simp[VV,rv,goInt])
theorem vq (r:Nat):aa P ρ (λx y=>y=x.map (λz=>(ra ρ z.1,z.2))∧∀z,x=some z→GA P ρ z.1) (numberAt r) (numberAt (ρ r)):=by
 unfold numberAt;refine aa.bind (gS r) ?_;rintro sh _ rfl;refine aa.ay (λ_=>aa.pure ⟨rfl,λz h=>by cases h⟩) (λ_=>?_);refine aa.bind (lS r) ?_;rintro o _ ⟨rfl,ho⟩;cases o<;>simp only[ro]<;>refine aa.pure ⟨rfl,λz h=>?_⟩<;>cases h;rcases ho with h|h
 ·exact .inl h
 ·simp only[ro,Obj.number.injEq]at h;exact .inr h.1
theorem ei (a:Addr)(ha:GA P ρ a):aa P ρ (λx y=>y=(ra ρ x.1,x.2)∧GA P ρ x.1) (behindNumber a) (behindNumber (ra ρ a)):=by
 unfold behindNumber;refine aa.bind (vq a.block) ?_;rintro x _ ⟨rfl,hx⟩;refine aa.pure ?_;cases x with
 |none=>exact⟨rfl,ha⟩
 |some z=>exact⟨rfl,hx z rfl⟩
theorem uL (t:TypeId)(cs:Array Value)(o:Nat)(h:xU P ρ∨cs.map (rv ρ)=cs):aa P ρ (λv v'=>v'=rv ρ v∧GV P ρ v) (part t cs o) (part t (cs.map (rv ρ)) o):=by
 unfold part;refine aa.bind (uK t) ?_;rintro b _ rfl;cases b
 ·simp only[zal,zav,if_false];cases hc:cs[o]? with
  |none=>exact aa.stuck _
  |some v=>
   refine aa.pure ⟨rfl,h.imp id λh=>?_⟩;have h1:(cs.map (rv ρ))[o]?=some v:=by rw[h];exact hc
   rw[zal,hc]at h1;simpa using h1
 ·simp only[if_true];refine aa.bind (cD t) ?_;rintro n _ rfl;exact aa.pure ⟨by simp only[rv];rw[Array.map_extract],h.imp id λh=>by simp only[rv];rw[Array.map_extract,h]⟩
theorem vt (hp:Plain P ρ)(a b:Addr):(ra ρ a==ra ρ b)=(a==b):=by
 rw[zaz];simp only[beq_iff_eq];refine⟨λh=>?_,λh=>by rw[h]⟩;obtain⟨a1,a2,a3⟩:=a;obtain⟨b1,b2,b3⟩:=b;simp only[ra,Addr.mk.injEq]at h;rw[hp.inj _ _ h.1,h.2.1,h.2.2]
theorem sr (hp:Plain P ρ)(u v:Nat):(ρ u==ρ v)=(u==v):=by
 rw[zaz];simp only[beq_iff_eq];exact⟨hp.inj _ _,λh=>by rw[h]⟩
theorem tF (a:Addr):aa P ρ Eq (stringish a) (stringish (ra ρ a)):=by
 unfold stringish;refine aa.bind (lR a) ?_;rintro b _ rfl;refine aa.ay (λ_=>aa.pure rfl) (λ_=>?_);refine aa.bind (gS a.block) ?_;rintro sh _ rfl;cases sh with
 |none=>exact aa.pure rfl
 |some x=>exact lR { block:=a.block,off:=x.2 }
theorem yF (x:Addr):aa P ρ Eq (do pure ((←shape x.block) matches some (_,0))) (do pure ((←shape (ra ρ x).block) matches some (_,0))):=by
 refine aa.bind (gS x.block) ?_;rintro sh _ rfl;exact aa.pure rfl
theorem Ed (a b:Addr):aa P ρ Eq (mayBeOne a b) (mayBeOne (ra ρ a) (ra ρ b)):=by
 unfold mayBeOne;dsimp only;refine aa.bind (tF a) ?_;rintro s1 _ rfl;refine aa.bind (tF b) ?_;rintro s2 _ rfl;refine aa.bind (yF a) ?_;rintro s3 _ rfl;refine aa.bind (yF b) ?_;rintro s4 _ rfl;exact aa.pure rfl
theorem vu (hp:Plain P ρ)(a b:Addr):aa P ρ Eq (sameAddr a b) (sameAddr (ra ρ a) (ra ρ b)):=by
 unfold sameAddr;rw[vt hp];have e:((ra ρ a).block==(ra ρ b).block)=(a.block==b.block):=sr hp _ _;rw[e];refine aa.ay (λ_=>aa.pure rfl) (λ_=>?_);refine aa.bind (lR a) ?_;rintro f1 _ rfl;refine aa.bind (lR b) ?_;rintro f2 _ rfl;refine aa.ay (λ_=>jy (aa.unsupported _)) (λ_=>?_);refine aa.bind (vp a) ?_;rintro _ _ rfl;refine aa.bind (vp b) ?_;rintro _ _ rfl;refine aa.bind (Ed a b) ?_;rintro m _ rfl;refine aa.ay (λ_=>?_) (λ_=>aa.pure rfl);refine aa.bind (iE _) ?_;rintro n _ rfl;exact aa.pure rfl
theorem xV (hp:Plain P ρ)(a b:Option Addr):aa P ρ Eq (samePointer a b) (samePointer (a.map (ra ρ)) (b.map (ra ρ))):=by
 cases a<;>cases b<;>simp only[Option.map,samePointer]<;>first|exact vu hp _ _|exact aa.pure rfl
theorem yG (t:TypeId):aa P ρ Eq (typeStr t) (typeStr t):=by
 unfold typeStr;refine aa.bind (eM t) ?_;rintro i i' ⟨e,_⟩;subst e;exact aa.ay (λ_=>aa.unsupported _) (λ_=>aa.pure rfl)
theorem mF {γ:Type}{R:α→β→Prop}{f:γ→α→Sem (ForInStep α)}{f':γ→β→Sem (ForInStep β)}
 (hf:∀x a b,R a b→aa P ρ (λs t=>(∃a b,s=.yield a∧t=.yield b∧R a b)∨(∃a b,s=.done a∧t=.done b∧R a b)) (f x a) (f' x b)):∀(l:List γ) (a:α) (b:β),R a b→aa P ρ R (forIn l a f) (forIn l b f')
 |[],a,b,h=>by haveI:=lawful;simp only[List.forIn_nil];exact aa.pure h
 |x::r,a,b,h=>by
  haveI:=lawful
  simp only[List.forIn_cons];refine aa.bind (hf x a b h) ?_;rintro s t (⟨a',b',rfl,rfl,h'⟩|⟨a',b',rfl,rfl,h'⟩)
  ·exact mF hf r a' b' h'
  ·exact aa.pure h'
end
end Go.Ren
