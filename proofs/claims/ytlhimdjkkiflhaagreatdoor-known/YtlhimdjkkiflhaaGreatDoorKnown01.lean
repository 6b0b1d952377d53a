import GoSem.Dispatch
set_option maxHeartbeats 8000000
set_option maxRecDepth 100000
abbrev zaa:=@Nat.le_refl
abbrev zab:=@Prod.mk.injEq
abbrev zac:=@Array.getElem?_eq_some_iff
abbrev zad:=@Nat.le_trans
abbrev zae:=@Bool.and_eq_true
abbrev zaf:=@List.getElem?_eq_getElem
abbrev zag:=@Nat.lt_or_ge
abbrev zah:=@Nat.zero_le
abbrev zai:=@Option.map_eq_some_iff
abbrev zaj:=@List.length_drop
abbrev zak:=@Array.getElem?_setIfInBounds_ne
abbrev zal:=@Array.getElem?_map
abbrev zam:=@Option.some.injEq
abbrev zan:=@List.map_cons
abbrev zao:=@List.mem_cons
abbrev zap:=@List.mem_cons_self
abbrev zaq:=@Array.getElem?_eq_getElem
abbrev zar:=@Bool.eq_iff_iff
abbrev zas:=@List.mem_cons_of_mem
abbrev zat:=@List.length_cons
abbrev zau:=@Bool.false_eq_true
abbrev zav:=@List.all_eq_true
abbrev zaw:=@Nat.lt_of_lt_of_le
abbrev zax:=@List.all_cons
abbrev zay:=@List.cons_append
abbrev zaz:=@Option.bind_eq_some_iff
abbrev zaA:=@List.drop_zero
abbrev zaB:=@Array.sizeOf_lt_of_mem
abbrev zaC:=@List.getElem_mem
abbrev zaD:=@Array.toList_map
abbrev zaE:=@Int.toNat_natCast
abbrev zaF:=@Option.getD_some
abbrev zaG:=@List.drop_succ_cons
abbrev zaH:=@Option.map_some
abbrev zaI:=@List.getElem?_append_left
abbrev zaJ:=@Array.getElem?_setIfInBounds_self_of_lt
abbrev zaK:=@List.getElem?_append_right
abbrev zaL:=@List.length_append
abbrev zaM:=@List.mem_append
abbrev zaN:=@Array.getElem?_toList
abbrev zaO:=@List.map_nil
abbrev zaP:=@List.mem_map
abbrev zaQ:=@List.drop_of_length_le
abbrev zaR:=@List.mem_range
abbrev zaS:=@List.take_of_length_le
abbrev zaT:=@List.getElem?_eq_some_iff
abbrev zaU:=@List.getElem?_drop
abbrev zaV:=@Array.getD_eq_getD_getElem?
abbrev zaW:=@Array.forIn_toList
abbrev zaX:=@Array.mem_of_getElem?
abbrev zaY:=@Array.getElem?_eq_none
abbrev zaZ:=@List.map_toArray
abbrev zba:=@List.drop_eq_getElem_cons
abbrev zbb:=@List.drop_drop
abbrev zbc:=@Option.getD_none
abbrev zbd:=@Array.getElem_map
abbrev zbe:=@Array.getElem?_push
abbrev zbf:=@List.mem_toArray
abbrev zbg:=@List.not_mem_nil
abbrev zbh:=@Int.eq_ofNat_of_zero_le
abbrev zbi:=@List.eq_nil_of_length_eq_zero
abbrev zbj:=@List.getElem?_map
abbrev zbk:=@List.length_map
abbrev zbl:=@Array.length_toList
abbrev zbm:=@Array.map_map
abbrev zbn:=@Array.mem_iff_getElem
abbrev zbo:=@Bool.true_and
abbrev zbp:=@List.any_eq_true
abbrev zbq:=@Array.map_empty
abbrev zbr:=@Array.map_setIfInBounds
abbrev zbs:=@Array.getElem?_modify
abbrev zbt:=@Array.size_push
abbrev zbu:=@List.map_append
abbrev zbv:=@Option.bind_some
abbrev zbw:=@Int.gcd_pos_of_ne_zero_right
abbrev zbx:=@List.take_succ_cons
abbrev zby:=@List.lookup_cons
abbrev zbz:=@List.replicate_succ
abbrev zbA:=@Nat.eq_zero_or_pos
abbrev zbB:=@Option.isSome_iff_exists
abbrev zbC:=@List.mem_singleton
abbrev zbD:=@Array.getElem?_push_size
abbrev zbE:=@List.take_succ_eq_append_getElem
abbrev zbF:=@Option.isSome_none
abbrev zbG:=@Nat.lt_of_le_of_lt
abbrev zbH:=@List.getElem?_eq_none
abbrev zbI:=@Array.mapM_eq_mapM_toList
abbrev zbJ:=@Array.getElem?_setIfInBounds
abbrev zbK:=@List.getElem?_replicate
namespace Go.Ren
structure Rn where
 b:Nat→Nat
 f:Fn→Fn
 d:Nat
instance:CoeFun Rn (λ_=>Nat→Nat):=⟨Rn.b⟩
def ra (ρ:Rn)(a:Addr):Addr:={ a with block:=ρ a.block }
def rv (ρ:Rn):Value→Value
 |.pointer a=> .pointer (a.map (ra ρ))
 |.slice a l c=> .slice (a.map (ra ρ)) l c
 |.map r=> .map (r.map ρ.b)
 |.chan r=> .chan (r.map ρ.b)
 |.func fn first captured=> .func (ρ.f fn) (first.map (rv ρ)) (captured.map (rv ρ))
 |.iface t v=> .iface t (rv ρ v)
 |.agg cs=> .agg (cs.map (rv ρ))
 |.tuple vs=> .tuple (vs.map (rv ρ))
 |.bool b=> .bool b
 |.int k n=> .int k n
 |.float k n=> .float k n
 |.complex k a b=> .complex k a b
 |.string s=> .string s
 |.nilFunc=> .nilFunc
 |.nilIface=> .nilIface
def ro (ρ:Rn):Obj→Obj
 |.cells c t f=> .cells (c.map (rv ρ)) t f
 |.map es c=> .map (es.map λe=>{ e with key:=rv ρ e.key,val:=rv ρ e.val }) c
 |.view a t=> .view (ra ρ a) t
 |.number a b=> .number (ra ρ a) b
 |.pending c t=> .pending (c.map (rv ρ)) t
 |.chan cap buf cl s r t=> .chan cap (buf.map (rv ρ)) cl s r t
 |o=>o
def rm (ρ:Rn):Mark→Mark
 |.acquire a=> .acquire (ra ρ a)
 |.release a=> .release (ra ρ a)
 |.releaseMerge a=> .releaseMerge (ra ρ a)
 |.read a=> .read (ra ρ a)
 |.write a=> .write (ra ρ a)
 |m=>m
def lr:Obj→Prop
 |.cells .. |.view .. |.number .. |.map ..=>True
 |_=>False
def Xb:Mark→Prop
 |.extern _|.noRoom=>True
 |_=>False
def BR:Halt→Prop
 |.panic _|.stuck _=>True
 |.unsupported (.initOrder _)=>False
 |.unsupported _=>True
 |_=>False
def yc (P:Program)(ρ:Rn):Prop:=∀r,ρ r<P.globals.size↔r<P.globals.size
def GV (P:Program)(ρ:Rn)(v:Value):Prop:=yc P ρ∨rv ρ v=v
def GA (P:Program)(ρ:Rn)(a:Addr):Prop:=yc P ρ∨ra ρ a=a
def GO (P:Program)(ρ:Rn)(o:Obj):Prop:=yc P ρ∨ro ρ o=o
def L4:Obj→Prop
 |.map ..=>True
 |_=>False
def Tm {α:Type}(Q:α→Prop):Sem α→Prop
 |.pure a=>Q a
 |.halt h=>BR h
 |.program k=>∀p,Tm Q (k p)
 |.new _ k=>∀r,Tm Q (k r)
 |.sys _ k=>∀x,Tm Q (k x)
 |_=>False
theorem Tm.bind {α β:Type}{Q:α→Prop}{R:β→Prop}{f:α→Sem β}(hf:∀a,Q a→Tm R (f a)):∀{s:Sem α},Tm Q s→Tm R (s>>=f)
 |.pure a,h=>hf a h
 |.halt _,h=>h
 |.program _k,h=>λp=>Tm.bind hf (h p)
 |.new _ _k,h=>λr=>Tm.bind hf (h r)
 |.sys _ _k,h=>λx=>Tm.bind hf (h x)
 |.load ..,h=>h.elim
 |.store ..,h=>h.elim
 |.shape ..,h=>h.elim
 |.freeze ..,h=>h.elim
 |.frozen ..,h=>h.elim
 |.getObj ..,h=>h.elim
 |.setObj ..,h=>h.elim
 |.choose ..,h=>h.elim
 |.mark ..,h=>h.elim
def ae (P:Program)(ρ:Rn){α β:Type}(R:α→β→Prop):Sem α→Sem β→Prop
 |.pure a,s=>∃b,s=.pure b∧R a b
 |.load m a k,s=>a.block<ρ.d∨∃k',s=.load m (ra ρ a) k'∧∀v,ae P ρ R (k v) (k' (rv ρ v))
 |.store m a v k,s=>∃k',s=.store m (ra ρ a) (rv ρ v) k'∧ae P ρ R k k'
 |.new o k,s=>lr o∧∃k',s=.new (ro ρ o) k'∧∀r,ae P ρ R (k r) (k' (ρ r))
 |.shape r k,s=>∃k',s=.shape (ρ r) k'∧∀x,ae P ρ R (k x) (k' x)
 |.freeze a n k,s=>∃k',s=.freeze (ra ρ a) n k'∧ae P ρ R k k'
 |.frozen a k,s=>∃k',s=.frozen (ra ρ a) k'∧∀b,ae P ρ R (k b) (k' b)
 |.getObj r k,s=>∃k',s=.getObj (ρ r) k'∧∀o,GO P ρ o→ae P ρ R (k o) (k' (ro ρ o))
 |.setObj r o k,s=>L4 o∧∃k',s=.setObj (ρ r) (ro ρ o) k'∧ae P ρ R k k'
 |.choose q k,s=>∃k',s=.choose q k'∧∀n,ae P ρ R (k n) (k' n)
 |.sys _ k,_=>∀x,Tm (λ_=>False) (k x)
 |.program k,s=>∃k',s=.program k'∧ae P ρ R (k P) (k' P)
 |.mark m k,s=>Xb m∧∃k',s=.mark m k'∧ae P ρ R k k'
 |.halt h,_=>BR h
section
variable {P:Program}{ρ:Rn}{α β Wy Wz:Type}
theorem ae.bind {R:α→β→Prop}{R':Wy→Wz→Prop}:∀{s:Sem α} {s':Sem β} {f:α→Sem Wy} {f':β→Sem Wz},ae P ρ R s s'→(∀a b,R a b→ae P ρ R' (f a) (f' b))→ae P ρ R' (s>>=f) (s'>>=f')
 |.pure a,s',f,f',⟨b,e,h⟩,hf=>by subst e;exact hf a b h
 |.load m a k,s',f,f',h,hf=>by
  rcases h with h|⟨k',e,h⟩
  ·exact .inl h
  ·subst e;exact .inr ⟨_,rfl,λv=>ae.bind (h v) hf⟩
 |.store m a v k,s',f,f',⟨k',e,h⟩,hf=>by subst e;exact⟨_,rfl,ae.bind h hf⟩
 |.new o k,s',f,f',⟨o1,k',e,h⟩,hf=>by subst e;exact⟨o1,_,rfl,λr=>ae.bind (h r) hf⟩
 |.shape r k,s',f,f',⟨k',e,h⟩,hf=>by subst e;exact⟨_,rfl,λr=>ae.bind (h r) hf⟩
 |.freeze a n k,s',f,f',⟨k',e,h⟩,hf=>by subst e;exact⟨_,rfl,ae.bind h hf⟩
 |.frozen a k,s',f,f',⟨k',e,h⟩,hf=>by subst e;exact⟨_,rfl,λr=>ae.bind (h r) hf⟩
 |.getObj r k,s',f,f',⟨k',e,h⟩,hf=>by subst e;exact⟨_,rfl,λr hr=>ae.bind (h r hr) hf⟩
 |.setObj r o k,s',f,f',⟨o1,k',e,h⟩,hf=>by subst e;exact⟨o1,_,rfl,ae.bind h hf⟩
 |.choose q k,s',f,f',⟨k',e,h⟩,hf=>by subst e;exact⟨_,rfl,λr=>ae.bind (h r) hf⟩
 |.sys q k,s',f,f',h,hf=>λx=>Tm.bind (λ_ q=>q.elim) (h x)
 |.program k,s',f,f',⟨k',e,h⟩,hf=>by subst e;exact⟨_,rfl,ae.bind h hf⟩
 |.mark m k,s',f,f',⟨o,k',e,h⟩,hf=>by subst e;exact⟨o,_,rfl,ae.bind h hf⟩
 |.halt h,s',f,f',e,hf=>e
theorem ae.pure {R:α→β→Prop}{a:α}{b:β}(h:R a b):ae P ρ R (Pure.pure a) (Pure.pure b):=⟨b,rfl,h⟩
theorem ae.stuck {R:α→β→Prop}{s':Sem β}(w:String):ae P ρ R (stuck w) s':=trivial
theorem ae.unsupported {R:α→β→Prop}{s':Sem β}(u:Unsupported)(h:BR (.unsupported u):=by trivial):ae P ρ R (unsupported u) s':=h
abbrev VV (ρ:Rn):Value→Value→Prop:=λv v'=>v'=rv ρ v
abbrev AA (ρ:Rn):Addr→Addr→Prop:=λa a'=>a'=ra ρ a
theorem vu (a:Addr):ae P ρ (VV ρ) (load a) (load (ra ρ a)):= .inr ⟨_,rfl,λ_v=>⟨_,rfl,rfl⟩⟩
theorem Qf (a:Addr)(v:Value):ae P ρ Eq (store a v) (store (ra ρ a) (rv ρ v)):=⟨_,rfl,⟨_,rfl,rfl⟩⟩
theorem lu (o:Obj)(h:lr o:=by trivial):ae P ρ (λr r'=>r'=ρ r) (newObj o) (newObj (ro ρ o)):=⟨h,_,rfl,λ_r=>⟨_,rfl,rfl⟩⟩
theorem cn:ae P ρ (λp p'=>P=p∧P=p') program program:=⟨_,rfl,⟨_,rfl,rfl,rfl⟩⟩
theorem gX (q:Question):ae P ρ Eq (choose q) (choose q):=⟨_,rfl,λ_=>⟨_,rfl,rfl⟩⟩
theorem ed (t:TypeId):ae P ρ (λi i'=>i'=i∧P.info? t=some i) (typeInfo t) (typeInfo t):=by
 unfold typeInfo;refine ae.bind cn ?_;rintro _ _ ⟨rfl,rfl⟩;split
 ·rename_i i h;exact ae.pure ⟨rfl,h⟩
 ·exact ae.stuck _
theorem aw (t:TypeId):ae P ρ (λi i'=>i'=i∧P.underlying t=some i) (underlying t) (underlying t):=by
 unfold underlying;refine ae.bind cn ?_;rintro _ _ ⟨rfl,rfl⟩;split
 ·rename_i i h;exact ae.pure ⟨rfl,h⟩
 ·exact ae.stuck _
theorem ju (a:Addr)(i:Nat):(ra ρ a).add i=ra ρ (a.add i):=by unfold ra Addr.add;split<;>rfl
theorem mO (a:Addr):∀(n i:Nat) (acc:Array Value),ae P ρ (λx y=>y=x.map (rv ρ)) (loadCellsFrom a i n acc) (loadCellsFrom (ra ρ a) i n (acc.map (rv ρ)))
 |0,i,acc=>ae.pure rfl
 |n+1,i,acc=>by
  unfold loadCellsFrom;rw[ju];refine ae.bind (vu _) ?_;rintro v _ rfl;have:=mO a n (i+1) (acc.push v);rwa[Array.map_push]at this
theorem np (a:Addr)(n:Nat):ae P ρ (λx y=>y=x.map (rv ρ)) (loadCells a n) (loadCells (ra ρ a) n):=by
 have:=mO (P:=P) (ρ:=ρ) a n 0 #[];rwa[zbq]at this
theorem uR (t:TypeId):ae P ρ Eq (isAgg t) (isAgg t):=by
 unfold isAgg;refine ae.bind (aw t) ?_;rintro d d' ⟨e,_⟩;subst e;cases d'<;>exact ae.pure rfl
theorem bU (t:TypeId):ae P ρ Eq (sizeOf t) (sizeOf t):=by
 unfold sizeOf;refine ae.bind (ed t) ?_;rintro d _ ⟨rfl,_⟩;exact ae.pure rfl
theorem yN (t:TypeId)(a:Addr):ae P ρ (VV ρ) (loadVar t a) (loadVar t (ra ρ a)):=by
 unfold loadVar;refine ae.bind (uR t) ?_;rintro b _ rfl;cases b
 ·exact vu a
 ·refine ae.bind (bU t) ?_;rintro n _ rfl;refine ae.bind (np a n) ?_;rintro cs _ rfl;exact ae.pure (by simp only[VV,rv])
theorem jE (a:Addr):∀(vs:List Value) (i:Nat),ae P ρ Eq (storeCells a vs i) (storeCells (ra ρ a) (vs.map (rv ρ)) i)
 |[],i=>ae.pure rfl
 |v::r,i=>by
  unfold storeCells;simp only[zan];rw[ju];exact ae.bind (Qf _ v) (λ_ _ _=>jE a r (i+1))
theorem ja (v:Value):(rv ρ v).cells=v.cells.map (rv ρ):=by
 cases v<;>simp[rv,Value.cells]
theorem EW (t:TypeId)(a:Addr)(v:Value):ae P ρ Eq (storeVar t a v) (storeVar t (ra ρ a) (rv ρ v)):=by
 unfold storeVar;refine ae.bind (bU t) ?_;rintro n _ rfl;rw[ja,Array.size_map];split
 ·exact ae.stuck _
 ·rw[zaD];exact jE a _ 0
theorem jR (v:Value):ae P ρ (AA ρ) (Instr.sureAddr v) (Instr.sureAddr (rv ρ v)):=by
 cases v with
 |pointer a=>
  cases a with
  |none=>simp only[rv,Option.map,Instr.sureAddr];exact ae.stuck _
  |some a=>simp only[rv,Option.map,Instr.sureAddr];exact ae.pure rfl
 |_=>simp only[rv,Instr.sureAddr];exact ae.stuck _
theorem BS (t:TypeId)(v:Value):ae P ρ (VV ρ) (Instr.loadAt t v) (Instr.loadAt t (rv ρ v)):=by
 unfold Instr.loadAt;refine ae.bind (jR v) ?_;rintro a _ rfl;exact yN t a
theorem Ja (t:TypeId)(v x:Value):ae P ρ Eq (Instr.storeAt t v x) (Instr.storeAt t (rv ρ v) (rv ρ x)):=by
 unfold Instr.storeAt;refine ae.bind (jR v) ?_;rintro a _ rfl;exact EW t a x
theorem oB (v:Value):ae P ρ Eq (asIntOf v) (asIntOf (rv ρ v)):=by
 cases v with
 |pointer a=>cases a<;>(simp only[rv,Option.map,asIntOf];first|exact ae.stuck _|exact ae.unsupported _)
 |int k n=>simp only[rv,asIntOf];exact ae.pure rfl
 |_=>simp only[rv,asIntOf];exact ae.stuck _
theorem ma (v:Value):ae P ρ Eq (asInt v) (asInt (rv ρ v)):=by
 unfold asInt;refine ae.bind (oB v) ?_;rintro x _ rfl;exact ae.pure rfl
theorem vv (v:Value):ae P ρ Eq (asBool v) (asBool (rv ρ v)):=by
 cases v with
 |bool b=>simp only[rv,asBool];exact ae.pure rfl
 |_=>simp only[rv,asBool];exact ae.stuck _
theorem Qg (v:Value):ae P ρ (λx y=>y=x.map (rv ρ)) (asAgg v) (asAgg (rv ρ v)):=by
 cases v with
 |agg b=>simp only[rv,asAgg];exact ae.pure rfl
 |_=>simp only[rv,asAgg];exact ae.stuck _
structure Plain (P:Program) (ρ:Rn):Prop where
 zero:∀t i v,P.info? t=some i→i.zero=some v→rv ρ v=v
 inj:∀a b,ρ a=ρ b→a=b
theorem dT (hp:Plain P ρ)(t:TypeId):ae P ρ (λv v'=>v'=v∧rv ρ v=v) (zeroValue t) (zeroValue t):=by
 unfold zeroValue;refine ae.bind (ed t) ?_;rintro i i' ⟨e,hi⟩;subst e;split
 ·rename_i v hv;exact ae.pure ⟨rfl,hp.zero t _ v hi hv⟩
 ·exact ae.unsupported _
theorem qy (t:TypeId)(cs:Array Value):ae P ρ (AA ρ) (newRow t cs) (newRow t (cs.map (rv ρ))):=by
 unfold newRow;refine ae.bind (lu (.cells cs t)) ?_;rintro r _ rfl;exact ae.pure rfl
theorem vw (t:TypeId)(v:Value):ae P ρ (AA ρ) (newVar t v) (newVar t (rv ρ v)):=by
 unfold newVar;rw[ja];exact qy t _
theorem nt (t:TypeId)(cs:Array Value)(o:Nat):ae P ρ (VV ρ) (part t cs o) (part t (cs.map (rv ρ)) o):=by
 unfold part;refine ae.bind (uR t) ?_;rintro b _ rfl;cases b
 ·simp only[zal,zau,if_false];cases cs[o]? with
  |none=>exact ae.stuck _
  |some v=>exact ae.pure rfl
 ·simp only[if_true];refine ae.bind (bU t) ?_;rintro n _ rfl;exact ae.pure (by simp only[VV,rv];rw[Array.map_extract])
theorem mb {R:α→β→Prop}{s':Sem β}(v:Value):ae P ρ R (goPanic v) s':=trivial
theorem vA (t:TypeId):ae P ρ Eq (elemOf t) (elemOf t):=by
 unfold elemOf;refine ae.bind (aw t) ?_;rintro d d' ⟨e,_⟩;subst e;cases d'<;>first|exact ae.stuck _|exact ae.pure rfl
def RuntimeError.aci:RuntimeError→Bool
 |.typeAssertion ..=>false
 |_=>true
theorem aM {R:α→β→Prop}(e:RuntimeError)(he:RuntimeError.aci e=true:=by rfl):ae P ρ R (runtimePanic e) (runtimePanic e):=by
 unfold runtimePanic;refine ae.bind cn ?_;rintro _ _ ⟨rfl,rfl⟩;cases e with
 |bounds x y s c=>exact mb _
 |error m=>exact mb _
 |plain m=>exact mb _
 |nilDeref=>exact mb _
 |typeAssertion i c a m=>cases he
 |panicNil=>
  simp only;refine ae.bind (vA _) ?_;rintro t _ rfl;have hv:=vw (P:=P) (ρ:=ρ) t (.agg #[]);simp only[rv,zbq]at hv;refine ae.bind hv ?_;rintro r _ rfl;exact mb _
 |unhashable t=>exact mb _
theorem BU (_hp:Plain P ρ)(v:Value):ae P ρ (AA ρ) (asAddr v) (asAddr (rv ρ v)):=by
 cases v with
 |pointer a=>
  cases a with
  |none=>simp only[rv,Option.map,asAddr];exact aM _
  |some a=>simp only[rv,Option.map,asAddr];exact ae.pure rfl
 |_=>simp only[rv,asAddr];exact ae.stuck _
theorem fW {R:α→β→Prop}(_hp:Plain P ρ)(k:IntKind)(x y:Int)(c:BoundsCode):ae P ρ R (boundsPanic k x y c) (boundsPanic k x y c):=by
 unfold boundsPanic;dsimp only;split
 ·refine ae.bind (R:=Eq) ?_ ?_
  ·refine ae.bind (gX _) ?_;rintro n _ rfl;exact ae.pure rfl
  ·rintro b _ rfl;exact aM _
 ·refine ae.bind (R:=Eq) (ae.pure rfl) ?_;rintro b _ rfl;exact aM _
theorem ae.ar {R:α→β→Prop}{c:Prop} [Decidable c] {s t:Sem α}{s' t':Sem β}(h1:c→ae P ρ R s s')(h2:¬c→ae P ρ R t t'):ae P ρ R (if c then s else t) (if c then s' else t'):=by
 split
 ·exact h1 ‹_›
 ·exact h2 ‹_›
theorem Qh (hp:Plain P ρ)(t:TypeId):ae P ρ (VV ρ) (Instr.alloc t true (.tuple #[])) (Instr.alloc t true (.tuple #[])):=by
 unfold Instr.alloc;refine ae.bind (dT hp t) ?_;rintro v v' ⟨e,hv⟩;subst e;have:=vw (P:=P) (ρ:=ρ) t v';rw[hv]at this;refine ae.bind this ?_;rintro a _ rfl;exact ae.pure (by simp[VV,rv])
theorem XM (t:TypeId)(v:Value):ae P ρ (VV ρ) (Instr.box t v) (Instr.box t (rv ρ v)):=by
 unfold Instr.box;refine ae.bind (vw t v) ?_;rintro a _ rfl;exact ae.pure (by simp[VV,rv])
theorem zipIdx_map (l:List Value)(k:Nat):∀(off:Nat) (cs:Array Value),(((l.map (rv ρ)).zipIdx k).foldl (λcs (x:Value×Nat)=>cs.setIfInBounds (off+x.2) x.1) (cs.map (rv ρ)):Array Value)=((l.zipIdx k).foldl (λcs (x:Value×Nat)=>cs.setIfInBounds (off+x.2) x.1) cs).map (rv ρ):=by
 induction l generalizing k with
 |nil=>intro off cs;rfl
 |cons v r ih=>
  intro off cs;simp only[zan,List.zipIdx_cons,List.foldl_cons];rw[←zbr];exact ih (k+1) off _
theorem EX (place:Nat→Option (Nat×Nat)):∀(l:List (Nat×Value)) (cs:Array Value),Instr.fill place (cs.map (rv ρ)) (l.map λx=>(x.1,rv ρ x.2))=(Instr.fill place cs l).map (λx=>x.map (rv ρ))
 |[],cs=>rfl
 |(i,v)::r,cs=>by
  simp only[zan,Instr.fill];cases place i with
  |none=>rfl
  |some p=>
   obtain⟨off,size⟩:=p;simp only[ja,Array.size_map];split
   ·rfl
   ·rw[←EX place r]
    congr 1
    have:=zipIdx_map (ρ:=ρ) v.cells.toList 0 off cs;rw[←Array.foldl_toList,←Array.foldl_toList,Array.toList_zipIdx,Array.toList_zipIdx,zaD];exact this
theorem bind_assoc' {γ δ ε:Type}:∀(s:Sem γ) (f:γ→Sem δ) (g:δ→Sem ε),(s.bind f).bind g=s.bind λx=>(f x).bind g
 |.pure a,f,g=>rfl
 |.load m a k,f,g=>by simp only[Sem.bind];congr 1;funext v;exact bind_assoc' (k v) f g
 |.store m a v k,f,g=>by simp only[Sem.bind];congr 1;exact bind_assoc' k f g
 |.new o k,f,g=>by simp only[Sem.bind];congr 1;funext v;exact bind_assoc' (k v) f g
 |.shape o k,f,g=>by simp only[Sem.bind];congr 1;funext v;exact bind_assoc' (k v) f g
 |.freeze a n k,f,g=>by simp only[Sem.bind];congr 1;exact bind_assoc' k f g
 |.frozen o k,f,g=>by simp only[Sem.bind];congr 1;funext v;exact bind_assoc' (k v) f g
 |.getObj o k,f,g=>by simp only[Sem.bind];congr 1;funext v;exact bind_assoc' (k v) f g
 |.setObj a n k,f,g=>by simp only[Sem.bind];congr 1;exact bind_assoc' k f g
 |.choose o k,f,g=>by simp only[Sem.bind];congr 1;funext v;exact bind_assoc' (k v) f g
 |.sys o k,f,g=>by simp only[Sem.bind];congr 1;funext v;exact bind_assoc' (k v) f g
 |.program k,f,g=>by simp only[Sem.bind];congr 1;funext v;exact bind_assoc' (k v) f g
 |.mark m k,f,g=>by simp only[Sem.bind];congr 1;exact bind_assoc' k f g
 |.halt h,f,g=>rfl
theorem bind_pure' {γ:Type}:∀(s:Sem γ),s.bind Sem.pure=s
 |.pure a=>rfl
 |.load m a k=>by simp only[Sem.bind];congr 1;funext v;exact bind_pure' (k v)
 |.store m a v k=>by simp only[Sem.bind];congr 1;exact bind_pure' k
 |.new o k=>by simp only[Sem.bind];congr 1;funext v;exact bind_pure' (k v)
 |.shape o k=>by simp only[Sem.bind];congr 1;funext v;exact bind_pure' (k v)
 |.freeze a n k=>by simp only[Sem.bind];congr 1;exact bind_pure' k
 |.frozen o k=>by simp only[Sem.bind];congr 1;funext v;exact bind_pure' (k v)
 |.getObj o k=>by simp only[Sem.bind];congr 1;funext v;exact bind_pure' (k v)
 |.setObj a n k=>by simp only[Sem.bind];congr 1;exact bind_pure' k
 |.choose o k=>by simp only[Sem.bind];congr 1;funext v;exact bind_pure' (k v)
 |.sys o k=>by simp only[Sem.bind];congr 1;funext v;exact bind_pure' (k v)
 |.program k=>by simp only[Sem.bind];congr 1;funext v;exact bind_pure' (k v)
 |.mark m k=>by simp only[Sem.bind];congr 1;exact bind_pure' k
 |.halt h=>rfl
theorem lawful:LawfulMonad Sem:=LawfulMonad.mk' Sem (id_map:=λx=>bind_pure' x) (pure_bind:=λ_ _=>rfl) (bind_assoc:=λx f g=>bind_assoc' x f g)
theorem L5 {γ:Type}{f f':γ→Sem α}(hf:∀x,ae P ρ Eq (f x) (f' x)):∀(l:List γ),ae P ρ Eq (l.mapM f) (l.mapM f')
 |[]=>by haveI:=lawful;simp only[List.mapM_nil];exact ae.pure rfl
 |x::r=>by
  haveI:=lawful
  simp only[List.mapM_cons];refine ae.bind (hf x) ?_;rintro a _ rfl;refine ae.bind (L5 hf r) ?_;rintro as _ rfl;exact ae.pure rfl
theorem Qi {γ:Type}{f f':γ→Sem α}(hf:∀x,ae P ρ Eq (f x) (f' x))(l:Array γ):ae P ρ Eq (l.mapM f) (l.mapM f'):=by
 haveI:=lawful
 rw[zbI,zbI];refine ae.bind (L5 hf l.toList) ?_;rintro as _ rfl;exact ae.pure rfl
theorem Qj (hp:Plain P ρ)(t:TypeId)(parts:Array (Nat×Value)):ae P ρ (VV ρ) (Instr.build t parts) (Instr.build t (parts.map λx=>(x.1,rv ρ x.2))):=by
 unfold Instr.build;refine ae.bind (dT hp t) ?_;rintro v v' ⟨e,hv⟩;subst e;refine ae.bind (aw t) ?_;rintro d d' ⟨e,_⟩;subst e;have hz:v'.cells.map (rv ρ)=v'.cells:=by rw[←ja,hv]
 have hf:=λplace=>EX (ρ:=ρ) place parts.toList v'.cells;simp only[hz]at hf;cases d' with
 |struct fields=>
  simp only;refine ae.bind (Qi (λf=>?_) fields) ?_
  ·refine ae.bind (bU f.type) ?_;rintro n _ rfl;exact ae.pure rfl
  ·rintro pl _ rfl;rw[zaD,hf];cases Instr.fill (λx=>pl[x]?) v'.cells parts.toList with
   |none=>exact ae.stuck _
   |some cs=>exact ae.pure (by simp[VV,rv])
 |array n e=>
  simp only;refine ae.bind (bU e) ?_;rintro sz _ rfl;rw[zaD,hf];cases Instr.fill (λi=>some (i*sz,sz)) v'.cells parts.toList with
  |none=>exact ae.stuck _
  |some cs=>exact ae.pure (by simp[VV,rv])
 |_=>exact ae.stuck _
theorem Jb (v:Value)(i:Nat):ae P ρ (VV ρ) (Instr.extract v i) (Instr.extract (rv ρ v) i):=by
 cases v with
 |tuple vs=>
  simp only[rv,Instr.extract,zal];cases vs[i]? with
  |none=>exact ae.stuck _
  |some v=>exact ae.pure rfl
 |_=>simp only[rv,Instr.extract];exact ae.stuck _
theorem zZ (hp:Plain P ρ)(v:Value)(y:Nat)(c:BoundsCode):ae P ρ Eq (Instr.sliceBound v y c) (Instr.sliceBound (rv ρ v) y c):=by
 unfold Instr.sliceBound;refine ae.bind (oB v) ?_;rintro x _ rfl;refine ae.ar (λ_=>ae.pure rfl) (λ_=>fW hp _ _ _ _)
theorem pj (hp:Plain P ρ)(b:Bool)(len cap:Nat)(lo hi mx:Option Value):ae P ρ Eq (Instr.sliceBounds b len cap lo hi mx) (Instr.sliceBounds b len cap (lo.map (rv ρ)) (hi.map (rv ρ)) (mx.map (rv ρ))):=by
 have hb:=λv y c=>zZ (P:=P) (ρ:=ρ) hp v y c;unfold Instr.sliceBounds;cases mx<;>cases hi<;>cases lo<;>simp only[Option.map,Option.isSome];all_goals
  repeat' first
   |exact ae.pure rfl
   |exact ae.stuck _
   |(refine ae.bind (R:=Eq) (ae.pure rfl) ?_;rintro _ _ rfl)
   |(refine ae.bind (hb _ _ _) ?_;rintro _ _ rfl)
   |(refine ae.bind (R:=Eq) (ae.stuck _) ?_;rintro _ _ rfl)
theorem Qk (a:Option Addr)(n:Nat):(a.map (ra ρ)).map (·.add n)=(a.map (·.add n)).map (ra ρ):=by
 cases a with
 |none=>rfl
 |some a=>simp[ju]
theorem Ql (hp:Plain P ρ)(t:TypeId)(x:Value)(lo hi mx:Option Value):ae P ρ (VV ρ) (Instr.slice t x lo hi mx) (Instr.slice t (rv ρ x) (lo.map (rv ρ)) (hi.map (rv ρ)) (mx.map (rv ρ))):=by
 have hs:=λb len cap mx=>pj (P:=P) (ρ:=ρ) hp b len cap lo hi mx;have ha:=BU hp x;unfold Instr.slice;refine ae.bind (aw t) ?_;rintro d d' ⟨e,_⟩;subst e;cases d'<;>cases x<;>simp only[rv]at ha ⊢<;>try exact ae.stuck _
 case string.string=>
  simp only[Option.isSome_map];refine ae.ar (λ_=>ae.bind (R:=Eq) (ae.stuck _) (λ_ _ _=>?_)) (λ_=>?_);all_goals
   refine ae.bind (hs _ _ _ none) ?_;rintro b _ rfl;exact ae.pure (by simp[VV,rv])
 case slice.slice=>
  refine ae.bind (hs _ _ _ mx) ?_;rintro b _ rfl;refine ae.bind (bU _) ?_;rintro n _ rfl;refine ae.pure ?_;simp only[VV,rv,Qk];split<;>rfl
 all_goals
  refine ae.bind ha ?_;rintro a _ rfl;refine ae.bind (aw _) ?_;rintro d d' ⟨e,_⟩;subst e;cases d' with
  |array n e=>
   refine ae.bind (hs _ _ _ mx) ?_;rintro b _ rfl;refine ae.bind (bU e) ?_;rintro n _ rfl;refine ae.pure ?_;simp only[VV,rv,Option.map,ju];split<;>rfl
  |_=>exact ae.stuck _
theorem Jc (hp:Plain P ρ)(t:TypeId)(x:Value)(lo hi mx:Option Value):ae P ρ (VV ρ) (Instr.sliceAt t x lo hi mx) (Instr.sliceAt t (rv ρ x) (lo.map (rv ρ)) (hi.map (rv ρ)) (mx.map (rv ρ))):=by
 have hs:=λb len cap mx=>pj (P:=P) (ρ:=ρ) hp b len cap lo hi mx;unfold Instr.sliceAt;refine ae.bind (aw t) ?_;rintro d d' ⟨e,_⟩;subst e;cases d' with
 |array n e=>
  refine ae.bind (jR x) ?_;rintro a _ rfl;refine ae.bind (hs _ _ _ mx) ?_;rintro b _ rfl;refine ae.bind (bU e) ?_;rintro n _ rfl;refine ae.pure ?_;simp only[VV,rv,Option.map,ju];split<;>rfl
 |_=>exact Ql hp t x lo hi mx
theorem Qm (hp:Plain P ρ)(t:TypeId)(x i:Value):ae P ρ (VV ρ) (Instr.index t x i) (Instr.index t (rv ρ x) (rv ρ i)):=by
 unfold Instr.index;refine ae.bind (oB i) ?_;rintro k _ rfl;refine ae.bind (aw t) ?_;rintro d d' ⟨e,_⟩;subst e;cases d'<;>cases x<;>simp only[rv]<;>try exact ae.stuck _
 case array.agg=>
  refine ae.ar (λ_=>?_) (λ_=>fW hp _ _ _ _);refine ae.bind (bU _) ?_;rintro m _ rfl;exact nt _ _ _
 case string.string=>
  split
  ·exact ae.pure (by simp[VV,rv])
  ·exact fW hp _ _ _ _
theorem Jd (hp:Plain P ρ)(t:TypeId)(x i:Value):ae P ρ (VV ρ) (Instr.indexAt t x i) (Instr.indexAt t (rv ρ x) (rv ρ i)):=by
 have LD:=jR (P:=P) (ρ:=ρ) x;have tail:∀(k:IntKind×Int) (base:Option Addr) (len:Nat) (elem:TypeId),ae P ρ (VV ρ)
  (do let d ←underlying t
      match base with
      |some a=>
       if 0≤k.2∧k.2<len then do let n ←sizeOf elem;pure (.pointer (some (a.add (k.2.toNat*n))))
       else if(decide (len≤1)&&(match d with|.array ..=>true|_=>false))=true then unsupported (.noEntry "op/indexAddr.an index out of range at an array of length 0 or 1 (ledger 616)")
       else boundsPanic k.1 k.2 len .index
      |none=>boundsPanic k.1 k.2 0 .index)
  (do let d ←underlying t
      match base.map (ra ρ)with
      |some a=>
       if 0≤k.2∧k.2<len then do let n ←sizeOf elem;pure (.pointer (some (a.add (k.2.toNat*n))))
       else if(decide (len≤1)&&(match d with|.array ..=>true|_=>false))=true then unsupported (.noEntry "op/indexAddr.an index out of range at an array of length 0 or 1 (ledger 616)")
       else boundsPanic k.1 k.2 len .index
      |none=>boundsPanic k.1 k.2 0 .index):=by
  intro k base len elem;refine ae.bind (aw t) ?_;rintro d d' ⟨e,_⟩;subst e;cases base with
  |none=>exact fW hp _ _ _ _
  |some a=>
   simp only[Option.map];refine ae.ar (λ_=>?_) (λ_=>ae.ar (λ_=>ae.unsupported _) (λ_=>fW hp _ _ _ _));refine ae.bind (bU elem) ?_;rintro n _ rfl;exact ae.pure (by simp[VV,rv,ju])
 unfold Instr.indexAt;refine ae.bind (oB i) ?_;rintro k _ rfl;refine ae.bind (aw t) ?_;rintro d d' ⟨e,_⟩;subst e;cases d'<;>cases x<;>simp only[rv]at LD ⊢<;>first
  |exact ae.bind (R:=λ(_:Option Addr×Nat×TypeId) (_:Option Addr×Nat×TypeId)=>False) (ae.stuck _) (λ_ _ h=>h.elim)
  |(refine ae.bind (R:=λ(x:Option Addr×Nat×TypeId) y=>y=(x.1.map (ra ρ),x.2)) (ae.pure rfl) ?_;rintro ⟨base,len,elem⟩ _ rfl;exact tail k base len elem)
  |(refine ae.bind LD ?_;rintro a _ rfl;exact tail k (some a) _ _)
theorem gp (r:Nat):ae P ρ Eq (shape r) (shape (ρ r)):=⟨_,rfl,λ_=>⟨_,rfl,rfl⟩⟩
theorem lx (a:Addr):ae P ρ Eq (frozen a) (frozen (ra ρ a)):=⟨_,rfl,λ_=>⟨_,rfl,rfl⟩⟩
theorem L6 (a:Addr)(n:Nat):ae P ρ Eq (freeze a n) (freeze (ra ρ a) n):=⟨_,rfl,⟨_,rfl,rfl⟩⟩
theorem ly (r:Nat):ae P ρ (λo o'=>o'=ro ρ o∧GO P ρ o) (getObj r) (getObj (ρ r)):=⟨_,rfl,λ_ h=>⟨_,rfl,rfl,h⟩⟩
theorem BV (r:Nat)(o:Obj)(h:L4 o):ae P ρ Eq (setObj r o) (setObj (ρ r) (ro ρ o)):=⟨h,_,rfl,⟨_,rfl,rfl⟩⟩
theorem z7 (m:Mark)(h:Xb m:=by trivial):ae P ρ Eq (mark m) (mark m):=⟨h,_,rfl,⟨_,rfl,rfl⟩⟩
theorem yO (n:Nat):ae P ρ Eq (askRoom n) (askRoom n):=by
 unfold askRoom;exact ae.ar (λ_=>z7 _) (λ_=>ae.pure rfl)
theorem EY:rv ρ default=default:=by
 rw[show(default:Value)=.bool default from rfl];simp[rv]
theorem Je {z:Array Value}(h:z.map (rv ρ)=z)(i:Nat):rv ρ z[i]! =z[i]!:=by
 rw[Array.getElem!_eq_getD,zaV];have:(z.map (rv ρ))[i]?=z[i]?:=by rw[h]
 rw[zal]at this;cases hz:z[i]? with
 |none=>exact EY
 |some v=>rw[hz]at this;simpa using this
theorem nu {z:Array Value}(h:z.map (rv ρ)=z)(n m:Nat):((Array.range n).map (λx=>z[x%m]!)).map (rv ρ)=(Array.range n).map (λx=>z[x%m]!):=by
 rw[zbm]
 congr 1
 funext x;exact Je h _
theorem jb {R:α→β→Prop}{γ δ:Type}{s:Sem γ}{s':Sem δ}{f:γ→Sem α}{f':δ→Sem β}(h:ae P ρ (λ_ _=>False) s s'):ae P ρ R (s>>=f) (s'>>=f'):=ae.bind h (λ_ _ h=>h.elim)
theorem BW (hp:Plain P ρ)(t:TypeId)(l c:Value):ae P ρ (VV ρ) (Instr.makeSlice t l c) (Instr.makeSlice t (rv ρ l) (rv ρ c)):=by
 unfold Instr.makeSlice;refine ae.bind (aw t) ?_;rintro d d' ⟨e,_⟩;subst e;cases d'<;>try exact ae.stuck _
 simp only;refine ae.bind (ma l) ?_;rintro l _ rfl;refine ae.bind (ma c) ?_;rintro c _ rfl;refine ae.bind (ed _) ?_;rintro d d' ⟨e,_⟩;subst e;refine ae.ar (λ_=>?_) (λ_=>?_)
 ·refine ae.ar (λ_=>jb (aM _)) (λ_=>ae.ar (λ_=>jb (aM _)) (λ_=>?_));refine ae.bind (gX _) ?_;rintro n _ rfl;exact jb (aM _)
 ·refine ae.bind (yO _) ?_;rintro _ _ rfl;refine ae.bind (bU _) ?_;rintro n _ rfl;have fin:∀z:Array Value,z.map (rv ρ)=z→∀m k q:Nat,∀e:TypeId,ae P ρ (VV ρ) (do let a ←newRow e ((Array.range m).map (λx=>z[x%z.size]!));pure (.slice (some a) k q)) (do let a ←newRow e ((Array.range m).map (λx=>z[x%z.size]!));pure (.slice (some a) k q)):=λz hz m k q e=>by
   have:=qy (P:=P) (ρ:=ρ) e ((Array.range m).map (λx=>z[x%z.size]!));rw[nu hz]at this;refine ae.bind this ?_;rintro a _ rfl;exact ae.pure (by simp[VV,rv])
  refine ae.ar (λ_=>?_) (λ_=>?_)
  ·refine ae.bind (R:=λz z'=>z'=z∧z.map (rv ρ)=z) (ae.pure ⟨rfl,by simp⟩) ?_;rintro z _ ⟨rfl,hz⟩;exact fin _ hz _ _ _ _
  ·refine ae.bind (dT hp _) ?_;rintro v v' ⟨e,hv⟩;subst e;refine ae.bind (R:=λz z'=>z'=z∧z.map (rv ρ)=z) (ae.pure ⟨rfl,by rw[←ja,hv]⟩) ?_;rintro z _ ⟨rfl,hz⟩;exact fin _ hz _ _ _ _
theorem z8 (hp:Plain P ρ)(t:TypeId)(len:Nat)(parts:Array (Nat×Value)):ae P ρ (VV ρ) (Instr.buildSlice t len parts) (Instr.buildSlice t len (parts.map λx=>(x.1,rv ρ x.2))):=by
 unfold Instr.buildSlice;refine ae.bind (aw t) ?_;rintro d d' ⟨e,_⟩;subst e;cases d'<;>try exact ae.stuck _
 simp only;refine ae.bind (bU _) ?_;rintro n _ rfl;have fin:∀z:Array Value,z.map (rv ρ)=z→∀e:TypeId,ae P ρ (VV ρ)
  (match Instr.fill (λi=>some (i*n,n)) ((Array.range (len*n)).map (λx=>z[x%z.size]!)) parts.toList with|some cells=>(do let a ←newRow e cells;pure (.slice (some a) len len))|_=>stuck "buildSlice: a part of the wrong size")
  (match Instr.fill (λi=>some (i*n,n)) ((Array.range (len*n)).map (λx=>z[x%z.size]!)) (parts.map λx=>(x.1,rv ρ x.2)).toList with|some cells=>(do let a ←newRow e cells;pure (.slice (some a) len len))|_=>stuck "buildSlice: a part of the wrong size"):=λz hz e=>by
  have hf:=EX (ρ:=ρ) (λi=>some (i*n,n)) parts.toList ((Array.range (len*n)).map (λx=>z[x%z.size]!));rw[nu hz]at hf;rw[zaD,hf];cases Instr.fill (λi=>some (i*n,n)) ((Array.range (len*n)).map (λx=>z[x%z.size]!)) parts.toList with
  |none=>exact ae.stuck _
  |some cs=>
   refine ae.bind (qy e cs) ?_;rintro a _ rfl;exact ae.pure (by simp[VV,rv])
 refine ae.ar (λ_=>jb (ae.unsupported _)) (λ_=>?_);refine ae.ar (λ_=>?_) (λ_=>?_)
 ·refine ae.bind (R:=λz z'=>z'=z∧z.map (rv ρ)=z) (ae.pure ⟨rfl,by simp⟩) ?_;rintro z _ ⟨rfl,hz⟩;exact fin _ hz _
 ·refine ae.bind (dT hp _) ?_;rintro v v' ⟨e,hv⟩;subst e;refine ae.bind (R:=λz z'=>z'=z∧z.map (rv ρ)=z) (ae.pure ⟨rfl,by rw[←ja,hv]⟩) ?_;rintro z _ ⟨rfl,hz⟩;exact fin _ hz _
theorem Qn (t:TypeId)(x:Value)(f:Nat):ae P ρ (VV ρ) (Instr.field t x f) (Instr.field t (rv ρ x) f):=by
 unfold Instr.field;refine ae.bind (aw t) ?_;rintro d d' ⟨e,_⟩;subst e;cases d'<;>try exact ae.stuck _
 simp only;split
 ·refine ae.bind (Qg x) ?_;rintro cs _ rfl;exact nt _ _ _
 ·exact ae.stuck _
theorem uu (t:TypeId)(x:Value):ae P ρ (VV ρ) (Instr.makeInterface t x) (Instr.makeInterface t (rv ρ x)):=by
 unfold Instr.makeInterface;refine ae.bind (aw t) ?_;rintro d d' ⟨e,_⟩;subst e;cases d'<;>first|exact ae.stuck _|exact ae.pure (by simp[VV,rv])
theorem qz (r:Nat):ae P ρ (λx y=>y=x.map λz=>(ra ρ z.1,z.2)) (viewAt r) (viewAt (ρ r)):=by
 unfold viewAt;refine ae.bind (gp r) ?_;rintro sh _ rfl;refine ae.ar (λ_=>ae.pure rfl) (λ_=>?_);refine ae.bind (ly r) ?_;rintro o _ ⟨rfl,_⟩;cases o<;>simp only[ro]<;>exact ae.pure rfl
theorem vB (a:Addr):ae P ρ Eq (noView a) (noView (ra ρ a)):=by
 unfold noView;refine ae.bind (qz a.block) ?_;rintro x _ rfl;simp only[Option.isSome_map];exact ae.ar (λ_=>ae.unsupported _) (λ_=>ae.pure rfl)
theorem jS (a:Addr):ae P ρ Eq (byteOf a) (byteOf (ra ρ a)):=by
 unfold byteOf;have e1:(ra ρ a).spot=a.spot:=rfl;have e2:(ra ρ a).off=a.off:=rfl;have e3:(ra ρ a).block=ρ a.block:=rfl;simp only[e1,e2,e3];cases a.spot with
 |some s=>exact ae.pure rfl
 |none=>
  simp only;refine ae.bind cn ?_;rintro _ _ ⟨rfl,rfl⟩;refine ae.bind (vB a) ?_;rintro _ _ rfl;refine ae.bind (gp a.block) ?_;rintro sh _ rfl;cases sh with
  |none=>exact ae.stuck _
  |some x=>
   simp only;refine ae.ar (λ_=>ae.pure rfl) (λ_=>?_);split
   ·exact ae.pure rfl
   ·exact ae.stuck _
theorem L8 (a:Addr)(c b:Nat):ae P ρ (AA ρ) (partAt a c b) (partAt (ra ρ a) c b):=by
 unfold partAt;refine ae.bind (jS a) ?_;rintro x _ rfl;refine ae.bind (jS { block:=a.block,off:=a.off+c }) ?_;rintro y _ rfl;refine ae.pure ?_;simp only[AA,ra];split<;>rfl
theorem Aa (a:Addr)(f:Field):ae P ρ (AA ρ) (fieldPlace a f) (fieldPlace (ra ρ a) f):=by
 unfold fieldPlace;refine ae.bind (bU _) ?_;rintro n _ rfl;exact ae.ar (λ_=>L8 _ _ _) (λ_=>ae.pure (ju _ _))
theorem Jf (t:TypeId)(x:Value)(f:Nat):ae P ρ (VV ρ) (Instr.fieldAt t x f) (Instr.fieldAt t (rv ρ x) f):=by
 unfold Instr.fieldAt;refine ae.bind (aw t) ?_;rintro d d' ⟨e,_⟩;subst e;cases d'<;>try exact ae.stuck _
 simp only;split
 ·refine ae.bind (jR x) ?_;rintro a _ rfl;refine ae.bind (Aa a _) ?_;rintro b _ rfl;exact ae.pure (by simp[VV,rv])
 ·exact ae.stuck _
theorem G9 (v:Value):ae P ρ Eq (Builtin.lenOf v) (Builtin.lenOf (rv ρ v)):=by
 cases v<;>simp only[rv,Builtin.lenOf]<;>first|exact ae.pure rfl|exact ae.stuck _
theorem mf (size n:Nat)(v:Value):ae P ρ (λx y=>y=x.map (rv ρ)) (Builtin.firstCells size n v) (Builtin.firstCells size n (rv ρ v)):=by
 cases v with
 |slice a l c=>
  cases a with
  |none=>simp only[rv,Option.map,Builtin.firstCells];exact ae.pure (by simp)
  |some a=>simp only[rv,Option.map,Builtin.firstCells];exact np a _
 |string s=>
  simp only[rv,Builtin.firstCells];refine ae.pure ?_;rw[zbm]
  congr 1
  funext b;simp[rv]
 |_=>simp only[rv,Builtin.firstCells];exact ae.stuck _
theorem mg (a:Addr)(n:Nat):ae P ρ Eq (Builtin.holdsCells a n) (Builtin.holdsCells (ra ρ a) n):=by
 unfold Builtin.holdsCells;refine ae.bind (gp a.block) ?_;rintro x _ rfl;cases x<;>exact ae.pure rfl
theorem mP {z:Array Value}(h:z.map (rv ρ)=z)(n:Nat):(Builtin.zeroCells z n).map (rv ρ)=Builtin.zeroCells z n:=nu h _ _
theorem EZ (hp:Plain P ρ)(size lz n:Nat)(a:Option Addr)(x:Value):ae P ρ Eq (Builtin.mayShare size lz n a x) (Builtin.mayShare size lz n (a.map (ra ρ)) (rv ρ x)):=by
 have hi:∀u v:Nat,(ρ u==ρ v)=(u==v):=λu v=>by
  rw[zar];simp only[beq_iff_eq];exact⟨hp.inj _ _,λh=>by rw[h]⟩
 have h1:∀b:Addr,ae P ρ Eq (do pure ((←Builtin.holdsCells b (lz*size))&&!(←frozen (b.add (lz/2*size))))) (do pure ((←Builtin.holdsCells (ra ρ b) (lz*size))&&!(←frozen ((ra ρ b).add (lz/2*size))))):=λb=>by
  refine ae.bind (mg b _) ?_;rintro _ _ rfl;rw[ju];refine ae.bind (lx _) ?_;rintro _ _ rfl;exact ae.pure rfl
 have h2:ae P ρ Eq (match x with|.slice (some b) _ _=>do pure (!(←Builtin.holdsCells b (n*size))||a.any (·.block==b.block))|_=>pure false) (match rv ρ x with|.slice (some b) _ _=>do pure (!(←Builtin.holdsCells b (n*size))||(a.map (ra ρ)).any (·.block==b.block))|_=>pure false):=by
  cases x with
  |slice b l c=>
   cases b with
   |none=>simp only[rv,Option.map];exact ae.pure rfl
   |some b=>
    simp only[rv,Option.map];refine ae.bind (mg b _) ?_;rintro _ _ rfl;refine ae.pure ?_;cases a with
    |none=>rfl
    |some a=>simp[ra,hi]
  |_=>simp only[rv];exact ae.pure rfl
 unfold Builtin.mayShare;cases a with
 |none=>
  simp only[Option.map]at h2 ⊢;refine ae.bind (R:=Eq) (ae.pure rfl) ?_;rintro b _ rfl;exact ae.ar (λ_=>ae.pure rfl) (λ_=>h2)
 |some a=>
  simp only[Option.map]at h2 ⊢;refine ae.bind (mg a _) ?_;rintro b1 _ rfl;rw[ju];refine ae.bind (lx _) ?_;rintro b2 _ rfl;refine ae.bind (R:=Eq) (ae.pure rfl) ?_;rintro b _ rfl;exact ae.ar (λ_=>ae.pure rfl) (λ_=>h2)
theorem acj (a:Option Addr)(size lz Ab:Nat)(new:Array Value)(k:Nat):ae P ρ (VV ρ)
 (match a with|some b=>(do storeCells (b.add (lz*size)) new.toList;pure (.slice a k Ab))|_=>pure (.slice a k Ab))
 (match a.map (ra ρ)with|some b=>(do storeCells (b.add (lz*size)) (new.map (rv ρ)).toList;pure (.slice (a.map (ra ρ)) k Ab))|_=>pure (.slice (a.map (ra ρ)) k Ab)):=by
 cases a with
 |none=>exact ae.pure (by simp[VV,rv])
 |some b=>
  simp only[Option.map,ju,zaD];refine ae.bind (jE _ _ _) ?_;rintro _ _ rfl;exact ae.pure (by simp[VV,rv])
theorem L9 (hp:Plain P ρ)(ts:Array TypeId)(ty:TypeId)(args:Array Value):ae P ρ (VV ρ) (Builtin.append_ ts ty args) (Builtin.append_ ts ty (args.map (rv ρ))):=by
 unfold Builtin.append_;simp only[zal];rcases ts[0]? with _|t0<;>rcases args[0]? with _|s<;>rcases args[1]? with _|x<;>simp only[Option.map]<;>try exact ae.stuck _
 refine ae.bind (aw t0) ?_;rintro d d' ⟨e,_⟩;subst e;cases d'<;>try exact ae.stuck _
 cases s<;>simp only[rv]<;>try exact ae.stuck _
 rename_i elem _ a lz Ab;have hA:∀(zeros:Bool) (size n:Nat),ae P ρ (λx y=>y=x.map (rv ρ)) (if(!zeros)=true then Builtin.firstCells size n x else if n*size=0 then pure #[]else do let z ←zeroValue elem;pure (Builtin.zeroCells z.cells n)) (if(!zeros)=true then Builtin.firstCells size n (rv ρ x)else if n*size=0 then pure #[]else do let z ←zeroValue elem;pure (Builtin.zeroCells z.cells n)):=λzeros size n=>by
  refine ae.ar (λ_=>mf _ _ _) (λ_=>ae.ar (λ_=>ae.pure (by simp)) (λ_=>?_));refine ae.bind (dT hp elem) ?_;rintro v v' ⟨e,hv⟩;subst e;exact ae.pure (mP (by rw[←ja,hv]) n).symm
 have hO:∀size,ae P ρ (λx y=>y=x.map (rv ρ)) (Builtin.firstCells size lz (.slice a lz Ab)) (Builtin.firstCells size lz (.slice (a.map (ra ρ)) lz Ab)):=λsize=>by
  have:=mf (P:=P) (ρ:=ρ) size lz (.slice a lz Ab);simpa only[rv]using this
 refine ae.bind (bU _) ?_;rintro size _ rfl;have hM:=λn=>EZ (P:=P) (ρ:=ρ) hp size lz n a x;have en:=λnew k=>acj (P:=P) (ρ:=ρ) a size lz Ab new k;have hF:∀(old new:Array Value) (k q:Nat),ae P ρ (VV ρ)
  (do let z ←zeroValue elem;let r ←newRow elem (old++new++Builtin.zeroCells z.cells (q-k));pure (.slice (some r) k q))
  (do let z ←zeroValue elem;let r ←newRow elem (old.map (rv ρ)++new.map (rv ρ)++Builtin.zeroCells z.cells (q-k));pure (.slice (some r) k q)):=λold new k q=>by
  refine ae.bind (dT hp elem) ?_;rintro v v' ⟨e,hv⟩;subst e;have:=qy (P:=P) (ρ:=ρ) elem (old++new++Builtin.zeroCells v'.cells (q-k));rw[Array.map_append,Array.map_append,mP (by rw[←ja,hv])]at this;refine ae.bind this ?_;rintro r _ rfl;exact ae.pure (by simp[VV,rv])
 have hPn:∀(zeros:Bool) (n:Nat),ae P ρ (λ(_:PUnit) (_:PUnit)=>False)
  (if zeros=true then runtimePanic (.error "growslice: len out of range")else do
    let b ←Builtin.mayShare size lz n a x
    if(!b)=true then do mark .noRoom;unsupported (.resourceLimit "append: a slice or a string whose bytes no memory bears")
    else unsupported (.resourceLimit "append: a slice or a string whose bytes no memory bears"))
  (if zeros=true then runtimePanic (.error "growslice: len out of range")else do
    let b ←Builtin.mayShare size lz n (a.map (ra ρ)) (rv ρ x)
    if(!b)=true then do mark .noRoom;unsupported (.resourceLimit "append: a slice or a string whose bytes no memory bears")
    else unsupported (.resourceLimit "append: a slice or a string whose bytes no memory bears")):=λzeros n=>by
  refine ae.ar (λ_=>aM _) (λ_=>?_);refine ae.bind (hM n) ?_;rintro b _ rfl;refine ae.ar (λ_=>?_) (λ_=>ae.unsupported _);exact ae.bind (z7 _) (λ_ _ _=>ae.unsupported _)
 rcases ts[1]? with _|t1<;>simp only
 all_goals
  repeat' first
   |exact ae.stuck _
   |exact ae.unsupported _
   |exact aM _
   |exact jb (aM _)
   |exact en _ _
   |exact hF _ _ _ _
   |exact jb (hPn _ _)
   |(refine ae.ar (λ_=>?_) (λ_=>?_))
   |(refine ae.bind (ed _) ?_;rintro _ _ ⟨rfl,_⟩)
   |(refine ae.bind (aw _) ?_;rintro _ _ ⟨rfl,_⟩)
   |(refine ae.bind (R:=Eq) (ae.pure rfl) ?_;rintro _ _ rfl)
   |(refine ae.bind (gX _) ?_;rintro _ _ rfl)
   |(refine ae.bind (yO _) ?_;rintro _ _ rfl)
   |(refine ae.bind (hO _) ?_;rintro _ _ rfl)
   |(refine ae.bind (hA _ _ _) ?_;rintro _ _ rfl)
   |(refine ae.bind (hM _) ?_;rintro _ _ rfl)
   |(refine ae.bind (z7 _) ?_;rintro _ _ rfl)
   |(refine ae.bind (ma x) ?_;rintro _ _ rfl)
   |(refine ae.bind (G9 x) ?_;rintro _ _ rfl)
theorem Ub (ts:Array TypeId)(ty:TypeId)(args:Array Value):ae P ρ (VV ρ) (Builtin.copy_ ts ty args) (Builtin.copy_ ts ty (args.map (rv ρ))):=by
 unfold Builtin.copy_;simp only[zal];rcases ts[0]? with _|t0<;>rcases args[0]? with _|s<;>rcases args[1]? with _|x<;>simp only[Option.map]<;>try exact ae.stuck _
 refine ae.bind (aw t0) ?_;rintro d d' ⟨e,_⟩;subst e;cases d'<;>try exact ae.stuck _
 cases s<;>simp only[rv]<;>try exact ae.stuck _
 refine ae.bind (G9 x) ?_;rintro n _ rfl;refine ae.bind (bU _) ?_;rintro m _ rfl;refine ae.bind (mf _ _ x) ?_;rintro cs _ rfl;rename_i a l c;cases a with
 |none=>exact ae.pure (by simp[VV,rv,goInt])
 |some a=>
  simp only[Option.map,zaD];refine ae.bind (jE _ _ _) ?_;rintro _ _ rfl;exact ae.pure (by simp[VV,rv,goInt])
theorem XN (ts:Array TypeId)(ty:TypeId)(args:Array Value):ae P ρ (VV ρ) (Builtin.len_ ts ty args) (Builtin.len_ ts ty (args.map (rv ρ))):=by
 unfold Builtin.len_;simp only[zal];rcases ts[0]? with _|t0<;>rcases args[0]? with _|s<;>simp only[Option.map]<;>try exact ae.stuck _
 refine ae.bind (aw t0) ?_;rintro d d' ⟨e,_⟩;subst e;cases d'<;>cases s<;>simp only[rv]<;>first
  |exact ae.stuck _
  |exact ae.pure (by simp[VV,rv,goInt])
  |(refine ae.bind (aw _) ?_;rintro d d' ⟨e,_⟩;subst e;cases d'<;>first|exact ae.stuck _|exact ae.pure (by simp[VV,rv,goInt]))
  |skip
 all_goals
  rename_i r;cases r with
  |none=>exact ae.pure (by simp[VV,rv,goInt])
  |some r=>
   simp only[Option.map];refine ae.bind (ly r) ?_;rintro o _ ⟨rfl,_⟩;cases o<;>simp only[ro]<;>first|exact ae.stuck _|exact ae.pure (by simp[VV,rv,goInt])
theorem vC (r:Nat):ae P ρ (λx y=>y=x.map (λz=>(ra ρ z.1,z.2))∧∀z,x=some z→GA P ρ z.1) (numberAt r) (numberAt (ρ r)):=by
 unfold numberAt;refine ae.bind (gp r) ?_;rintro sh _ rfl;refine ae.ar (λ_=>ae.pure ⟨rfl,λz h=>by cases h⟩) (λ_=>?_);refine ae.bind (ly r) ?_;rintro o _ ⟨rfl,ho⟩;cases o<;>simp only[ro]<;>refine ae.pure ⟨rfl,λz h=>?_⟩<;>cases h;rcases ho with h|h
 ·exact .inl h
 ·simp only[ro,Obj.number.injEq]at h;exact .inr h.1
theorem dE (a:Addr)(ha:GA P ρ a):ae P ρ (λx y=>y=(ra ρ x.1,x.2)∧GA P ρ x.1) (behindNumber a) (behindNumber (ra ρ a)):=by
 unfold behindNumber;refine ae.bind (vC a.block) ?_;rintro x _ ⟨rfl,hx⟩;refine ae.pure ?_;cases x with
 |none=>exact⟨rfl,ha⟩
 |some z=>exact⟨rfl,hx z rfl⟩
theorem uS (t:TypeId)(cs:Array Value)(o:Nat)(h:yc P ρ∨cs.map (rv ρ)=cs):ae P ρ (λv v'=>v'=rv ρ v∧GV P ρ v) (part t cs o) (part t (cs.map (rv ρ)) o):=by
 unfold part;refine ae.bind (uR t) ?_;rintro b _ rfl;cases b
 ·simp only[zal,zau,if_false];cases hc:cs[o]? with
  |none=>exact ae.stuck _
  |some v=>
   refine ae.pure ⟨rfl,h.imp id λh=>?_⟩;have h1:(cs.map (rv ρ))[o]?=some v:=by rw[h];exact hc
   rw[zal,hc]at h1;simpa using h1
 ·simp only[if_true];refine ae.bind (bU t) ?_;rintro n _ rfl;exact ae.pure ⟨by simp only[rv];rw[Array.map_extract],h.imp id λh=>by simp only[rv];rw[Array.map_extract,h]⟩
theorem vD (hp:Plain P ρ)(a b:Addr):(ra ρ a==ra ρ b)=(a==b):=by
 rw[zar];simp only[beq_iff_eq];refine⟨λh=>?_,λh=>by rw[h]⟩;obtain⟨a1,a2,a3⟩:=a;obtain⟨b1,b2,b3⟩:=b;simp only[ra,Addr.mk.injEq]at h;rw[hp.inj _ _ h.1,h.2.1,h.2.2]
theorem sw (hp:Plain P ρ)(u v:Nat):(ρ u==ρ v)=(u==v):=by
 rw[zar];simp only[beq_iff_eq];exact⟨hp.inj _ _,λh=>by rw[h]⟩
theorem tQ (a:Addr):ae P ρ Eq (stringish a) (stringish (ra ρ a)):=by
 unfold stringish;refine ae.bind (lx a) ?_;rintro b _ rfl;refine ae.ar (λ_=>ae.pure rfl) (λ_=>?_);refine ae.bind (gp a.block) ?_;rintro sh _ rfl;cases sh with
 |none=>exact ae.pure rfl
 |some x=>exact lx { block:=a.block,off:=x.2 }
theorem yP (x:Addr):ae P ρ Eq (do pure ((←shape x.block) matches some (_,0))) (do pure ((←shape (ra ρ x).block) matches some (_,0))):=by
 refine ae.bind (gp x.block) ?_;rintro sh _ rfl;exact ae.pure rfl
theorem E0 (a b:Addr):ae P ρ Eq (mayBeOne a b) (mayBeOne (ra ρ a) (ra ρ b)):=by
 unfold mayBeOne;dsimp only;refine ae.bind (tQ a) ?_;rintro s1 _ rfl;refine ae.bind (tQ b) ?_;rintro s2 _ rfl;refine ae.bind (yP a) ?_;rintro s3 _ rfl;refine ae.bind (yP b) ?_;rintro s4 _ rfl;exact ae.pure rfl
theorem vE (hp:Plain P ρ)(a b:Addr):ae P ρ Eq (sameAddr a b) (sameAddr (ra ρ a) (ra ρ b)):=by
 unfold sameAddr;rw[vD hp];have e:((ra ρ a).block==(ra ρ b).block)=(a.block==b.block):=sw hp _ _;rw[e];refine ae.ar (λ_=>ae.pure rfl) (λ_=>?_);refine ae.bind (lx a) ?_;rintro f1 _ rfl;refine ae.bind (lx b) ?_;rintro f2 _ rfl;refine ae.ar (λ_=>jb (ae.unsupported _)) (λ_=>?_);refine ae.bind (vB a) ?_;rintro _ _ rfl;refine ae.bind (vB b) ?_;rintro _ _ rfl;refine ae.bind (E0 a b) ?_;rintro m _ rfl;refine ae.ar (λ_=>?_) (λ_=>ae.pure rfl);refine ae.bind (gX _) ?_;rintro n _ rfl;exact ae.pure rfl
theorem ye (hp:Plain P ρ)(a b:Option Addr):ae P ρ Eq (samePointer a b) (samePointer (a.map (ra ρ)) (b.map (ra ρ))):=by
 cases a<;>cases b<;>simp only[Option.map,samePointer]<;>first|exact vE hp _ _|exact ae.pure rfl
theorem yQ (t:TypeId):ae P ρ Eq (typeStr t) (typeStr t):=by
 unfold typeStr;refine ae.bind (ed t) ?_;rintro i i' ⟨e,_⟩;subst e;exact ae.ar (λ_=>ae.unsupported _) (λ_=>ae.pure rfl)
theorem mh {γ:Type}{R:α→β→Prop}{f:γ→α→Sem (ForInStep α)}{f':γ→β→Sem (ForInStep β)}
 (hf:∀x a b,R a b→ae P ρ (λs t=>(∃a b,s=.yield a∧t=.yield b∧R a b)∨(∃a b,s=.done a∧t=.done b∧R a b)) (f x a) (f' x b)):∀(l:List γ) (a:α) (b:β),R a b→ae P ρ R (forIn l a f) (forIn l b f')
 |[],a,b,h=>by haveI:=lawful;simp only[List.forIn_nil];exact ae.pure h
 |x::r,a,b,h=>by
  haveI:=lawful
  simp only[List.forIn_cons];refine ae.bind (hf x a b h) ?_;rintro s t (⟨a',b',rfl,rfl,h'⟩|⟨a',b',rfl,rfl,h'⟩)
  ·exact mh hf r a' b' h'
  ·exact ae.pure h'
end
end Go.Ren
