import GoSem.Dispatch
namespace Go.Ren
structure Rn where
 b:Nat→Nat
 f:Fn→Fn
 d:Nat
instance:CoeFun Rn (fun _=>Nat→Nat):=⟨Rn.b⟩
def ra (ρ:Rn)(a:Addr):Addr:={ a with block:=ρ a.block }
def rv (ρ:Rn):Value→Value
 | .pointer a=> .pointer (a.map (ra ρ))
 | .slice a l c=> .slice (a.map (ra ρ)) l c
 | .map r=> .map (r.map ρ.b)
 | .chan r=> .chan (r.map ρ.b)
 | .func fn first captured=> .func (ρ.f fn) (first.map (rv ρ)) (captured.map (rv ρ))
 | .iface t v=> .iface t (rv ρ v)
 | .agg cs=> .agg (cs.map (rv ρ))
 | .tuple vs=> .tuple (vs.map (rv ρ))
 | .bool b=> .bool b
 | .int k n=> .int k n
 | .float k n=> .float k n
 | .complex k a b=> .complex k a b
 | .string s=> .string s
 | .nilFunc=> .nilFunc
 | .nilIface=> .nilIface
def ro (ρ:Rn):Obj→Obj
 | .cells c t f=> .cells (c.map (rv ρ)) t f
 | .map es c=> .map (es.map fun e=>{ e with key:=rv ρ e.key,val:=rv ρ e.val }) c
 | .view a t=> .view (ra ρ a) t
 | .number a b=> .number (ra ρ a) b
 | .pending c t=> .pending (c.map (rv ρ)) t
 | .chan cap buf cl s r t=> .chan cap (buf.map (rv ρ)) cl s r t
 |o=>o
def rm (ρ:Rn):Mark→Mark
 | .acquire a=> .acquire (ra ρ a)
 | .release a=> .release (ra ρ a)
 | .releaseMerge a=> .releaseMerge (ra ρ a)
 | .read a=> .read (ra ρ a)
 | .write a=> .write (ra ρ a)
 |m=>m
def NewOk:Obj→Prop
 | .cells .. | .view .. | .number .. | .map ..=>True
 |_=>False
def MOk:Mark→Prop
 | .extern _| .noRoom=>True
 |_=>False
def Soft:Halt→Prop
 | .panic _| .stuck _=>True
 | .unsupported (.initOrder _)=>False
 | .unsupported _=>True
 |_=>False
def Glob (P:Program)(ρ:Rn):Prop:=∀ r,ρ r<P.globals.size↔r<P.globals.size
def GV (P:Program)(ρ:Rn)(v:Value):Prop:=Glob P ρ∨rv ρ v=v
def GA (P:Program)(ρ:Rn)(a:Addr):Prop:=Glob P ρ∨ra ρ a=a
def GO (P:Program)(ρ:Rn)(o:Obj):Prop:=Glob P ρ∨ro ρ o=o
def SetOk:Obj→Prop
 | .map ..=>True
 |_=>False
def Tm {α:Type}(Q:α→Prop):Sem α→Prop
 | .pure a=>Q a
 | .halt h=>Soft h
 | .program k=>∀ p,Tm Q (k p)
 | .new _ k=>∀ r,Tm Q (k r)
 | .sys _ k=>∀ x,Tm Q (k x)
 |_=>False
theorem Tm.bind {α β:Type}{Q:α→Prop}{R:β→Prop}{f:α→Sem β}(hf:∀ a,Q a→Tm R (f a)):∀ {s:Sem α},Tm Q s→Tm R (s>>=f)
 | .pure a,h=>hf a h
 | .halt _,h=>h
 | .program _k,h=>fun p=>Tm.bind hf (h p)
 | .new _ _k,h=>fun r=>Tm.bind hf (h r)
 | .sys _ _k,h=>fun x=>Tm.bind hf (h x)
 | .load ..,h=>h.elim
 | .store ..,h=>h.elim
 | .shape ..,h=>h.elim
 | .freeze ..,h=>h.elim
 | .frozen ..,h=>h.elim
 | .getObj ..,h=>h.elim
 | .setObj ..,h=>h.elim
 | .choose ..,h=>h.elim
 | .mark ..,h=>h.elim
def Eqv (P:Program)(ρ:Rn){α β:Type}(R:α→β→Prop):Sem α→Sem β→Prop
 | .pure a,s=>∃ b,s= .pure b∧R a b
 | .load m a k,s=>a.block<ρ.d∨∃ k',s= .load m (ra ρ a) k'∧∀ v,Eqv P ρ R (k v) (k' (rv ρ v))
 | .store m a v k,s=>∃ k',s= .store m (ra ρ a) (rv ρ v) k'∧Eqv P ρ R k k'
 | .new o k,s=>NewOk o∧∃ k',s= .new (ro ρ o) k'∧∀ r,Eqv P ρ R (k r) (k' (ρ r))
 | .shape r k,s=>∃ k',s= .shape (ρ r) k'∧∀ x,Eqv P ρ R (k x) (k' x)
 | .freeze a n k,s=>∃ k',s= .freeze (ra ρ a) n k'∧Eqv P ρ R k k'
 | .frozen a k,s=>∃ k',s= .frozen (ra ρ a) k'∧∀ b,Eqv P ρ R (k b) (k' b)
 | .getObj r k,s=>∃ k',s= .getObj (ρ r) k'∧∀ o,GO P ρ o→Eqv P ρ R (k o) (k' (ro ρ o))
 | .setObj r o k,s=>SetOk o∧∃ k',s= .setObj (ρ r) (ro ρ o) k'∧Eqv P ρ R k k'
 | .choose q k,s=>∃ k',s= .choose q k'∧∀ n,Eqv P ρ R (k n) (k' n)
 | .sys _ k,_=>∀ x,Tm (fun _=>False) (k x)
 | .program k,s=>∃ k',s= .program k'∧Eqv P ρ R (k P) (k' P)
 | .mark m k,s=>MOk m∧∃ k',s= .mark m k'∧Eqv P ρ R k k'
 | .halt h,_=>Soft h
section
variable {P:Program} {ρ:Rn} {α β α' β':Type}
theorem Eqv.bind {R:α→β→Prop}{R':α'→β'→Prop}:∀ {s:Sem α} {s':Sem β} {f:α→Sem α'} {f':β→Sem β'},Eqv P ρ R s s'→(∀ a b,R a b→Eqv P ρ R' (f a) (f' b))→Eqv P ρ R' (s>>=f) (s'>>=f')
 | .pure a,s',f,f',⟨b,e,h⟩,hf=>by subst e;exact hf a b h
 | .load m a k,s',f,f',h,hf=>by
   rcases h with h|⟨k',e,h⟩
   ·exact .inl h
   ·subst e;exact .inr ⟨_,rfl,fun v=>Eqv.bind (h v) hf⟩
 | .store m a v k,s',f,f',⟨k',e,h⟩,hf=>by subst e;exact⟨_,rfl,Eqv.bind h hf⟩
 | .new o k,s',f,f',⟨o1,k',e,h⟩,hf=>by subst e;exact⟨o1,_,rfl,fun r=>Eqv.bind (h r) hf⟩
 | .shape r k,s',f,f',⟨k',e,h⟩,hf=>by subst e;exact⟨_,rfl,fun r=>Eqv.bind (h r) hf⟩
 | .freeze a n k,s',f,f',⟨k',e,h⟩,hf=>by subst e;exact⟨_,rfl,Eqv.bind h hf⟩
 | .frozen a k,s',f,f',⟨k',e,h⟩,hf=>by subst e;exact⟨_,rfl,fun r=>Eqv.bind (h r) hf⟩
 | .getObj r k,s',f,f',⟨k',e,h⟩,hf=>by subst e;exact⟨_,rfl,fun r hr=>Eqv.bind (h r hr) hf⟩
 | .setObj r o k,s',f,f',⟨o1,k',e,h⟩,hf=>by subst e;exact⟨o1,_,rfl,Eqv.bind h hf⟩
 | .choose q k,s',f,f',⟨k',e,h⟩,hf=>by subst e;exact⟨_,rfl,fun r=>Eqv.bind (h r) hf⟩
 | .sys q k,s',f,f',h,hf=>fun x=>Tm.bind (fun _ q=>q.elim) (h x)
 | .program k,s',f,f',⟨k',e,h⟩,hf=>by subst e;exact⟨_,rfl,Eqv.bind h hf⟩
 | .mark m k,s',f,f',⟨o,k',e,h⟩,hf=>by subst e;exact⟨o,_,rfl,Eqv.bind h hf⟩
 | .halt h,s',f,f',e,hf=>e
theorem Eqv.pure {R:α→β→Prop}{a:α}{b:β}(h:R a b):Eqv P ρ R (Pure.pure a) (Pure.pure b):=⟨b,rfl,h⟩
theorem Eqv.stuck {R:α→β→Prop}{s':Sem β}(w:String):Eqv P ρ R (stuck w) s':=trivial
theorem Eqv.unsupported {R:α→β→Prop}{s':Sem β}(u:Unsupported)(h:Soft (.unsupported u):=by trivial):Eqv P ρ R (unsupported u) s':=h
abbrev VV (ρ:Rn):Value→Value→Prop:=fun v v'=>v'=rv ρ v
abbrev AA (ρ:Rn):Addr→Addr→Prop:=fun a a'=>a'=ra ρ a
theorem e_load (a:Addr):Eqv P ρ (VV ρ) (load a) (load (ra ρ a)):= .inr ⟨_,rfl,fun _v=>⟨_,rfl,rfl⟩⟩
theorem e_store (a:Addr)(v:Value):Eqv P ρ Eq (store a v) (store (ra ρ a) (rv ρ v)):=⟨_,rfl,⟨_,rfl,rfl⟩⟩
theorem e_newObj (o:Obj)(h:NewOk o:=by trivial):Eqv P ρ (fun r r'=>r'=ρ r) (newObj o) (newObj (ro ρ o)):=⟨h,_,rfl,fun _r=>⟨_,rfl,rfl⟩⟩
theorem e_program:Eqv P ρ (fun p p'=>P=p∧P=p') program program:=⟨_,rfl,⟨_,rfl,rfl,rfl⟩⟩
theorem e_choose (q:Question):Eqv P ρ Eq (choose q) (choose q):=⟨_,rfl,fun _=>⟨_,rfl,rfl⟩⟩
theorem e_typeInfo (t:TypeId):Eqv P ρ (fun i i'=>i'=i∧P.info? t=some i) (typeInfo t) (typeInfo t):=by
 unfold typeInfo
 refine Eqv.bind e_program ?_
 rintro _ _ ⟨rfl,rfl⟩
 split
 ·rename_i i h;exact Eqv.pure ⟨rfl,h⟩
 ·exact Eqv.stuck _
theorem e_underlying (t:TypeId):Eqv P ρ (fun i i'=>i'=i∧P.underlying t=some i) (underlying t) (underlying t):=by
 unfold underlying
 refine Eqv.bind e_program ?_
 rintro _ _ ⟨rfl,rfl⟩
 split
 ·rename_i i h;exact Eqv.pure ⟨rfl,h⟩
 ·exact Eqv.stuck _
theorem add_ra (a:Addr)(i:Nat):(ra ρ a).add i=ra ρ (a.add i):=by unfold ra Addr.add;split<;>rfl
theorem e_loadCellsFrom (a:Addr):∀ (n i:Nat) (acc:Array Value),Eqv P ρ (fun x y=>y=x.map (rv ρ)) (loadCellsFrom a i n acc) (loadCellsFrom (ra ρ a) i n (acc.map (rv ρ)))
 |0,i,acc=>Eqv.pure rfl
 |n+1,i,acc=>by
  unfold loadCellsFrom
  rw[add_ra]
  refine Eqv.bind (e_load _) ?_
  rintro v _ rfl
  have:=e_loadCellsFrom a n (i+1) (acc.push v)
  rwa[Array.map_push] at this
theorem e_loadCells (a:Addr)(n:Nat):Eqv P ρ (fun x y=>y=x.map (rv ρ)) (loadCells a n) (loadCells (ra ρ a) n):=by
 have:=e_loadCellsFrom (P:=P) (ρ:=ρ) a n 0 #[]
 rwa[Array.map_empty] at this
theorem e_isAgg (t:TypeId):Eqv P ρ Eq (isAgg t) (isAgg t):=by
 unfold isAgg
 refine Eqv.bind (e_underlying t) ?_
 rintro d d' ⟨e,_⟩
 subst e
 cases d'<;>exact Eqv.pure rfl
theorem e_sizeOf (t:TypeId):Eqv P ρ Eq (sizeOf t) (sizeOf t):=by
 unfold sizeOf
 refine Eqv.bind (e_typeInfo t) ?_
 rintro d _ ⟨rfl,_⟩
 exact Eqv.pure rfl
theorem e_loadVar (t:TypeId)(a:Addr):Eqv P ρ (VV ρ) (loadVar t a) (loadVar t (ra ρ a)):=by
 unfold loadVar
 refine Eqv.bind (e_isAgg t) ?_
 rintro b _ rfl
 cases b
 ·exact e_load a
 ·refine Eqv.bind (e_sizeOf t) ?_
  rintro n _ rfl
  refine Eqv.bind (e_loadCells a n) ?_
  rintro cs _ rfl
  exact Eqv.pure (by simp only[VV,rv])
theorem e_storeCells (a:Addr):∀ (vs:List Value) (i:Nat),Eqv P ρ Eq (storeCells a vs i) (storeCells (ra ρ a) (vs.map (rv ρ)) i)
 |[],i=>Eqv.pure rfl
 |v::r,i=>by
  unfold storeCells
  simp only[List.map_cons]
  rw[add_ra]
  exact Eqv.bind (e_store _ v) (fun _ _ _=>e_storeCells a r (i+1))
theorem cells_rv (v:Value):(rv ρ v).cells=v.cells.map (rv ρ):=by
 cases v<;>simp[rv,Value.cells]
theorem e_storeVar (t:TypeId)(a:Addr)(v:Value):Eqv P ρ Eq (storeVar t a v) (storeVar t (ra ρ a) (rv ρ v)):=by
 unfold storeVar
 refine Eqv.bind (e_sizeOf t) ?_
 rintro n _ rfl
 rw[cells_rv,Array.size_map]
 split
 ·exact Eqv.stuck _
 ·rw[Array.toList_map];exact e_storeCells a _ 0
theorem e_sureAddr (v:Value):Eqv P ρ (AA ρ) (Instr.sureAddr v) (Instr.sureAddr (rv ρ v)):=by
 cases v with
 |pointer a=>
  cases a with
  |none=>simp only[rv,Option.map,Instr.sureAddr];exact Eqv.stuck _
  |some a=>simp only[rv,Option.map,Instr.sureAddr];exact Eqv.pure rfl
 |_=>simp only[rv,Instr.sureAddr];exact Eqv.stuck _
theorem e_loadAt (t:TypeId)(v:Value):Eqv P ρ (VV ρ) (Instr.loadAt t v) (Instr.loadAt t (rv ρ v)):=by
 unfold Instr.loadAt
 refine Eqv.bind (e_sureAddr v) ?_
 rintro a _ rfl
 exact e_loadVar t a
theorem e_storeAt (t:TypeId)(v x:Value):Eqv P ρ Eq (Instr.storeAt t v x) (Instr.storeAt t (rv ρ v) (rv ρ x)):=by
 unfold Instr.storeAt
 refine Eqv.bind (e_sureAddr v) ?_
 rintro a _ rfl
 exact e_storeVar t a x
theorem e_asIntOf (v:Value):Eqv P ρ Eq (asIntOf v) (asIntOf (rv ρ v)):=by
 cases v with
 |pointer a=>cases a<;>(simp only[rv,Option.map,asIntOf];first|exact Eqv.stuck _|exact Eqv.unsupported _)
 |int k n=>simp only[rv,asIntOf];exact Eqv.pure rfl
 |_=>simp only[rv,asIntOf];exact Eqv.stuck _
theorem e_asInt (v:Value):Eqv P ρ Eq (asInt v) (asInt (rv ρ v)):=by
 unfold asInt
 refine Eqv.bind (e_asIntOf v) ?_
 rintro x _ rfl
 exact Eqv.pure rfl
theorem e_asBool (v:Value):Eqv P ρ Eq (asBool v) (asBool (rv ρ v)):=by
 cases v with
 |bool b=>simp only[rv,asBool];exact Eqv.pure rfl
 |_=>simp only[rv,asBool];exact Eqv.stuck _
theorem e_asAgg (v:Value):Eqv P ρ (fun x y=>y=x.map (rv ρ)) (asAgg v) (asAgg (rv ρ v)):=by
 cases v with
 |agg b=>simp only[rv,asAgg];exact Eqv.pure rfl
 |_=>simp only[rv,asAgg];exact Eqv.stuck _
structure Plain (P:Program) (ρ:Rn):Prop where
 zero:∀ t i v,P.info? t=some i→i.zero=some v→rv ρ v=v
 inj:∀ a b,ρ a=ρ b→a=b
theorem e_zeroValue (hp:Plain P ρ)(t:TypeId):Eqv P ρ (fun v v'=>v'=v∧rv ρ v=v) (zeroValue t) (zeroValue t):=by
 unfold zeroValue
 refine Eqv.bind (e_typeInfo t) ?_
 rintro i i' ⟨e,hi⟩
 subst e
 split
 ·rename_i v hv;exact Eqv.pure ⟨rfl,hp.zero t _ v hi hv⟩
 ·exact Eqv.unsupported _
theorem e_newRow (t:TypeId)(cs:Array Value):Eqv P ρ (AA ρ) (newRow t cs) (newRow t (cs.map (rv ρ))):=by
 unfold newRow
 refine Eqv.bind (e_newObj (.cells cs t)) ?_
 rintro r _ rfl
 exact Eqv.pure rfl
theorem e_newVar (t:TypeId)(v:Value):Eqv P ρ (AA ρ) (newVar t v) (newVar t (rv ρ v)):=by
 unfold newVar
 rw[cells_rv];exact e_newRow t _
theorem e_part (t:TypeId)(cs:Array Value)(o:Nat):Eqv P ρ (VV ρ) (part t cs o) (part t (cs.map (rv ρ)) o):=by
 unfold part
 refine Eqv.bind (e_isAgg t) ?_
 rintro b _ rfl
 cases b
 ·simp only[Array.getElem?_map,Bool.false_eq_true,if_false]
  cases cs[o]? with
  |none=>exact Eqv.stuck _
  |some v=>exact Eqv.pure rfl
 ·simp only[if_true]
  refine Eqv.bind (e_sizeOf t) ?_
  rintro n _ rfl
  exact Eqv.pure (by simp only[VV,rv];rw[Array.map_extract])
theorem e_panic {R:α→β→Prop}{s':Sem β}(v:Value):Eqv P ρ R (goPanic v) s':=trivial
theorem e_elemOf (t:TypeId):Eqv P ρ Eq (elemOf t) (elemOf t):=by
 unfold elemOf
 refine Eqv.bind (e_underlying t) ?_
 rintro d d' ⟨e,_⟩
 subst e
 cases d'<;>first|exact Eqv.stuck _|exact Eqv.pure rfl
def RuntimeError.easy:RuntimeError→Bool
 | .typeAssertion ..=>false
 |_=>true
theorem e_runtimePanic {R:α→β→Prop}(e:RuntimeError)(he:RuntimeError.easy e=true:=by rfl):Eqv P ρ R (runtimePanic e) (runtimePanic e):=by
 unfold runtimePanic
 refine Eqv.bind e_program ?_
 rintro _ _ ⟨rfl,rfl⟩
 cases e with
 |bounds x y s c=>exact e_panic _
 |error m=>exact e_panic _
 |plain m=>exact e_panic _
 |nilDeref=>exact e_panic _
 |typeAssertion i c a m=>cases he
 |panicNil=>
  simp only
  refine Eqv.bind (e_elemOf _) ?_
  rintro t _ rfl
  have hv:=e_newVar (P:=P) (ρ:=ρ) t (.agg #[])
  simp only[rv,Array.map_empty] at hv
  refine Eqv.bind hv ?_
  rintro r _ rfl
  exact e_panic _
 |unhashable t=>exact e_panic _
theorem e_asAddr (_hp:Plain P ρ)(v:Value):Eqv P ρ (AA ρ) (asAddr v) (asAddr (rv ρ v)):=by
 cases v with
 |pointer a=>
  cases a with
  |none=>simp only[rv,Option.map,asAddr];exact e_runtimePanic _
  |some a=>simp only[rv,Option.map,asAddr];exact Eqv.pure rfl
 |_=>simp only[rv,asAddr];exact Eqv.stuck _
theorem e_boundsPanic {R:α→β→Prop}(_hp:Plain P ρ)(k:IntKind)(x y:Int)(c:BoundsCode):Eqv P ρ R (boundsPanic k x y c) (boundsPanic k x y c):=by
 unfold boundsPanic
 dsimp only
 split
 ·refine Eqv.bind (R:=Eq) ?_ ?_
  ·refine Eqv.bind (e_choose _) ?_
   rintro n _ rfl
   exact Eqv.pure rfl
  ·rintro b _ rfl
   exact e_runtimePanic _
 ·refine Eqv.bind (R:=Eq) (Eqv.pure rfl) ?_
  rintro b _ rfl
  exact e_runtimePanic _
theorem Eqv.same_ite {R:α→β→Prop}{c:Prop} [Decidable c] {s t:Sem α}{s' t':Sem β}(h1:c→Eqv P ρ R s s')(h2:¬ c→Eqv P ρ R t t'):Eqv P ρ R (if c then s else t) (if c then s' else t'):=by
 split
 ·exact h1 ‹_›
 ·exact h2 ‹_›
theorem e_alloc (hp:Plain P ρ)(t:TypeId):Eqv P ρ (VV ρ) (Instr.alloc t true (.tuple #[])) (Instr.alloc t true (.tuple #[])):=by
 unfold Instr.alloc
 refine Eqv.bind (e_zeroValue hp t) ?_
 rintro v v' ⟨e,hv⟩
 subst e
 have:=e_newVar (P:=P) (ρ:=ρ) t v'
 rw[hv] at this
 refine Eqv.bind this ?_
 rintro a _ rfl
 exact Eqv.pure (by simp[VV,rv])
theorem e_box (t:TypeId)(v:Value):Eqv P ρ (VV ρ) (Instr.box t v) (Instr.box t (rv ρ v)):=by
 unfold Instr.box
 refine Eqv.bind (e_newVar t v) ?_
 rintro a _ rfl
 exact Eqv.pure (by simp[VV,rv])
theorem zipIdx_map (l:List Value)(k:Nat):∀ (off:Nat) (cs:Array Value),(((l.map (rv ρ)).zipIdx k).foldl (fun cs (x:Value×Nat)=>cs.setIfInBounds (off+x.2) x.1) (cs.map (rv ρ)):Array Value)=((l.zipIdx k).foldl (fun cs (x:Value×Nat)=>cs.setIfInBounds (off+x.2) x.1) cs).map (rv ρ):=by
 induction l generalizing k with
 |nil=>intro off cs;rfl
 |cons v r ih=>
  intro off cs
  simp only[List.map_cons,List.zipIdx_cons,List.foldl_cons]
  rw[←Array.map_setIfInBounds]
  exact ih (k+1) off _
theorem e_fill (place:Nat→Option (Nat×Nat)):∀ (l:List (Nat×Value)) (cs:Array Value),Instr.fill place (cs.map (rv ρ)) (l.map fun x=>(x.1,rv ρ x.2))=(Instr.fill place cs l).map (fun x=>x.map (rv ρ))
 |[],cs=>rfl
 |(i,v)::r,cs=>by
  simp only[List.map_cons,Instr.fill]
  cases place i with
  |none=>rfl
  |some p=>
   obtain⟨off,size⟩:=p
   simp only[cells_rv,Array.size_map]
   split
   ·rfl
   ·rw[←e_fill place r]
    congr 1
    have:=zipIdx_map (ρ:=ρ) v.cells.toList 0 off cs
    rw[←Array.foldl_toList,←Array.foldl_toList,Array.toList_zipIdx,Array.toList_zipIdx,Array.toList_map]
    exact this
theorem bind_assoc' {γ δ ε:Type}:∀ (s:Sem γ) (f:γ→Sem δ) (g:δ→Sem ε),(s.bind f).bind g=s.bind fun x=>(f x).bind g
 | .pure a,f,g=>rfl
 | .load m a k,f,g=>by simp only[Sem.bind];congr 1;funext v;exact bind_assoc' (k v) f g
 | .store m a v k,f,g=>by simp only[Sem.bind];congr 1;exact bind_assoc' k f g
 | .new o k,f,g=>by simp only[Sem.bind];congr 1;funext v;exact bind_assoc' (k v) f g
 | .shape o k,f,g=>by simp only[Sem.bind];congr 1;funext v;exact bind_assoc' (k v) f g
 | .freeze a n k,f,g=>by simp only[Sem.bind];congr 1;exact bind_assoc' k f g
 | .frozen o k,f,g=>by simp only[Sem.bind];congr 1;funext v;exact bind_assoc' (k v) f g
 | .getObj o k,f,g=>by simp only[Sem.bind];congr 1;funext v;exact bind_assoc' (k v) f g
 | .setObj a n k,f,g=>by simp only[Sem.bind];congr 1;exact bind_assoc' k f g
 | .choose o k,f,g=>by simp only[Sem.bind];congr 1;funext v;exact bind_assoc' (k v) f g
 | .sys o k,f,g=>by simp only[Sem.bind];congr 1;funext v;exact bind_assoc' (k v) f g
 | .program k,f,g=>by simp only[Sem.bind];congr 1;funext v;exact bind_assoc' (k v) f g
 | .mark m k,f,g=>by simp only[Sem.bind];congr 1;exact bind_assoc' k f g
 | .halt h,f,g=>rfl
theorem bind_pure' {γ:Type}:∀ (s:Sem γ),s.bind Sem.pure=s
 | .pure a=>rfl
 | .load m a k=>by simp only[Sem.bind];congr 1;funext v;exact bind_pure' (k v)
 | .store m a v k=>by simp only[Sem.bind];congr 1;exact bind_pure' k
 | .new o k=>by simp only[Sem.bind];congr 1;funext v;exact bind_pure' (k v)
 | .shape o k=>by simp only[Sem.bind];congr 1;funext v;exact bind_pure' (k v)
 | .freeze a n k=>by simp only[Sem.bind];congr 1;exact bind_pure' k
 | .frozen o k=>by simp only[Sem.bind];congr 1;funext v;exact bind_pure' (k v)
 | .getObj o k=>by simp only[Sem.bind];congr 1;funext v;exact bind_pure' (k v)
 | .setObj a n k=>by simp only[Sem.bind];congr 1;exact bind_pure' k
 | .choose o k=>by simp only[Sem.bind];congr 1;funext v;exact bind_pure' (k v)
 | .sys o k=>by simp only[Sem.bind];congr 1;funext v;exact bind_pure' (k v)
 | .program k=>by simp only[Sem.bind];congr 1;funext v;exact bind_pure' (k v)
 | .mark m k=>by simp only[Sem.bind];congr 1;exact bind_pure' k
 | .halt h=>rfl
theorem lawful:LawfulMonad Sem:=LawfulMonad.mk' Sem (id_map:=fun x=>bind_pure' x) (pure_bind:=fun _ _=>rfl) (bind_assoc:=fun x f g=>bind_assoc' x f g)
theorem e_mapM {γ:Type}{f f':γ→Sem α}(hf:∀ x,Eqv P ρ Eq (f x) (f' x)):∀ (l:List γ),Eqv P ρ Eq (l.mapM f) (l.mapM f')
 |[]=>by haveI:=lawful;simp only[List.mapM_nil];exact Eqv.pure rfl
 |x::r=>by
  haveI:=lawful
  simp only[List.mapM_cons]
  refine Eqv.bind (hf x) ?_
  rintro a _ rfl
  refine Eqv.bind (e_mapM hf r) ?_
  rintro as _ rfl
  exact Eqv.pure rfl
theorem e_mapMA {γ:Type}{f f':γ→Sem α}(hf:∀ x,Eqv P ρ Eq (f x) (f' x))(l:Array γ):Eqv P ρ Eq (l.mapM f) (l.mapM f'):=by
 haveI:=lawful
 rw[Array.mapM_eq_mapM_toList,Array.mapM_eq_mapM_toList]
 refine Eqv.bind (e_mapM hf l.toList) ?_
 rintro as _ rfl
 exact Eqv.pure rfl
theorem e_build (hp:Plain P ρ)(t:TypeId)(parts:Array (Nat×Value)):Eqv P ρ (VV ρ) (Instr.build t parts) (Instr.build t (parts.map fun x=>(x.1,rv ρ x.2))):=by
 unfold Instr.build
 refine Eqv.bind (e_zeroValue hp t) ?_
 rintro v v' ⟨e,hv⟩
 subst e
 refine Eqv.bind (e_underlying t) ?_
 rintro d d' ⟨e,_⟩
 subst e
 have hz:v'.cells.map (rv ρ)=v'.cells:=by rw[←cells_rv,hv]
 have hf:=fun place=>e_fill (ρ:=ρ) place parts.toList v'.cells
 simp only[hz] at hf
 cases d' with
 |struct fields=>
  simp only
  refine Eqv.bind (e_mapMA (fun f=>?_) fields) ?_
  ·refine Eqv.bind (e_sizeOf f.type) ?_
   rintro n _ rfl
   exact Eqv.pure rfl
  ·rintro pl _ rfl
   rw[Array.toList_map,hf]
   cases Instr.fill (fun x=>pl[x]?) v'.cells parts.toList with
   |none=>exact Eqv.stuck _
   |some cs=>exact Eqv.pure (by simp[VV,rv])
 |array n e=>
  simp only
  refine Eqv.bind (e_sizeOf e) ?_
  rintro sz _ rfl
  rw[Array.toList_map,hf]
  cases Instr.fill (fun i=>some (i*sz,sz)) v'.cells parts.toList with
  |none=>exact Eqv.stuck _
  |some cs=>exact Eqv.pure (by simp[VV,rv])
 |_=>exact Eqv.stuck _
theorem e_extract (v:Value)(i:Nat):Eqv P ρ (VV ρ) (Instr.extract v i) (Instr.extract (rv ρ v) i):=by
 cases v with
 |tuple vs=>
  simp only[rv,Instr.extract,Array.getElem?_map]
  cases vs[i]? with
  |none=>exact Eqv.stuck _
  |some v=>exact Eqv.pure rfl
 |_=>simp only[rv,Instr.extract];exact Eqv.stuck _
theorem e_sliceBound (hp:Plain P ρ)(v:Value)(y:Nat)(c:BoundsCode):Eqv P ρ Eq (Instr.sliceBound v y c) (Instr.sliceBound (rv ρ v) y c):=by
 unfold Instr.sliceBound
 refine Eqv.bind (e_asIntOf v) ?_
 rintro x _ rfl
 refine Eqv.same_ite (fun _=>Eqv.pure rfl) (fun _=>e_boundsPanic hp _ _ _ _)
theorem e_sliceBounds (hp:Plain P ρ)(b:Bool)(len cap:Nat)(lo hi mx:Option Value):Eqv P ρ Eq (Instr.sliceBounds b len cap lo hi mx) (Instr.sliceBounds b len cap (lo.map (rv ρ)) (hi.map (rv ρ)) (mx.map (rv ρ))):=by
 have hb:=fun v y c=>e_sliceBound (P:=P) (ρ:=ρ) hp v y c
 unfold Instr.sliceBounds
 cases mx<;>cases hi<;>cases lo<;>simp only[Option.map,Option.isSome]
 all_goals
  repeat' first
   |exact Eqv.pure rfl
   |exact Eqv.stuck _
   |(refine Eqv.bind (R:=Eq) (Eqv.pure rfl) ?_;rintro _ _ rfl)
   |(refine Eqv.bind (hb _ _ _) ?_;rintro _ _ rfl)
   |(refine Eqv.bind (R:=Eq) (Eqv.stuck _) ?_;rintro _ _ rfl)
theorem map_add (a:Option Addr)(n:Nat):(a.map (ra ρ)).map (·.add n)=(a.map (·.add n)).map (ra ρ):=by
 cases a with
 |none=>rfl
 |some a=>simp[add_ra]
theorem e_slice (hp:Plain P ρ)(t:TypeId)(x:Value)(lo hi mx:Option Value):Eqv P ρ (VV ρ) (Instr.slice t x lo hi mx) (Instr.slice t (rv ρ x) (lo.map (rv ρ)) (hi.map (rv ρ)) (mx.map (rv ρ))):=by
 have hs:=fun b len cap mx=>e_sliceBounds (P:=P) (ρ:=ρ) hp b len cap lo hi mx
 have ha:=e_asAddr hp x
 unfold Instr.slice
 refine Eqv.bind (e_underlying t) ?_
 rintro d d' ⟨e,_⟩
 subst e
 cases d'<;>cases x<;>simp only[rv] at ha ⊢<;>try exact Eqv.stuck _
 case string.string=>
  simp only[Option.isSome_map]
  refine Eqv.same_ite (fun _=>Eqv.bind (R:=Eq) (Eqv.stuck _) (fun _ _ _=>?_)) (fun _=>?_)
  all_goals
   refine Eqv.bind (hs _ _ _ none) ?_
   rintro b _ rfl
   exact Eqv.pure (by simp[VV,rv])
 case slice.slice=>
  refine Eqv.bind (hs _ _ _ mx) ?_
  rintro b _ rfl
  refine Eqv.bind (e_sizeOf _) ?_
  rintro n _ rfl
  refine Eqv.pure ?_
  simp only[VV,rv,map_add]
  split<;>rfl
 all_goals
  refine Eqv.bind ha ?_
  rintro a _ rfl
  refine Eqv.bind (e_underlying _) ?_
  rintro d d' ⟨e,_⟩
  subst e
  cases d' with
  |array n e=>
   refine Eqv.bind (hs _ _ _ mx) ?_
   rintro b _ rfl
   refine Eqv.bind (e_sizeOf e) ?_
   rintro n _ rfl
   refine Eqv.pure ?_
   simp only[VV,rv,Option.map,add_ra]
   split<;>rfl
  |_=>exact Eqv.stuck _
theorem e_sliceAt (hp:Plain P ρ)(t:TypeId)(x:Value)(lo hi mx:Option Value):Eqv P ρ (VV ρ) (Instr.sliceAt t x lo hi mx) (Instr.sliceAt t (rv ρ x) (lo.map (rv ρ)) (hi.map (rv ρ)) (mx.map (rv ρ))):=by
 have hs:=fun b len cap mx=>e_sliceBounds (P:=P) (ρ:=ρ) hp b len cap lo hi mx
 unfold Instr.sliceAt
 refine Eqv.bind (e_underlying t) ?_
 rintro d d' ⟨e,_⟩
 subst e
 cases d' with
 |array n e=>
  refine Eqv.bind (e_sureAddr x) ?_
  rintro a _ rfl
  refine Eqv.bind (hs _ _ _ mx) ?_
  rintro b _ rfl
  refine Eqv.bind (e_sizeOf e) ?_
  rintro n _ rfl
  refine Eqv.pure ?_
  simp only[VV,rv,Option.map,add_ra]
  split<;>rfl
 |_=>exact e_slice hp t x lo hi mx
theorem e_index (hp:Plain P ρ)(t:TypeId)(x i:Value):Eqv P ρ (VV ρ) (Instr.index t x i) (Instr.index t (rv ρ x) (rv ρ i)):=by
 unfold Instr.index
 refine Eqv.bind (e_asIntOf i) ?_
 rintro k _ rfl
 refine Eqv.bind (e_underlying t) ?_
 rintro d d' ⟨e,_⟩
 subst e
 cases d'<;>cases x<;>simp only[rv]<;>try exact Eqv.stuck _
 case array.agg=>
  refine Eqv.same_ite (fun _=>?_) (fun _=>e_boundsPanic hp _ _ _ _)
  refine Eqv.bind (e_sizeOf _) ?_
  rintro m _ rfl
  exact e_part _ _ _
 case string.string=>
  split
  ·exact Eqv.pure (by simp[VV,rv])
  ·exact e_boundsPanic hp _ _ _ _
theorem e_indexAt (hp:Plain P ρ)(t:TypeId)(x i:Value):Eqv P ρ (VV ρ) (Instr.indexAt t x i) (Instr.indexAt t (rv ρ x) (rv ρ i)):=by
 have hsa:=e_sureAddr (P:=P) (ρ:=ρ) x
 have tail:∀ (k:IntKind×Int) (base:Option Addr) (len:Nat) (elem:TypeId),Eqv P ρ (VV ρ)
  (do let d ←underlying t
      match base with
      |some a=>
       if 0≤k.2∧k.2<len then do let n ←sizeOf elem;pure (.pointer (some (a.add (k.2.toNat*n))))
       else if(decide (len≤1)&&(match d with| .array ..=>true|_=>false))=true then unsupported (.noEntry "op/indexAddr.an index out of range at an array of length 0 or 1 (ledger 616)")
       else boundsPanic k.1 k.2 len .index
      |none=>boundsPanic k.1 k.2 0 .index)
  (do let d ←underlying t
      match base.map (ra ρ) with
      |some a=>
       if 0≤k.2∧k.2<len then do let n ←sizeOf elem;pure (.pointer (some (a.add (k.2.toNat*n))))
       else if(decide (len≤1)&&(match d with| .array ..=>true|_=>false))=true then unsupported (.noEntry "op/indexAddr.an index out of range at an array of length 0 or 1 (ledger 616)")
       else boundsPanic k.1 k.2 len .index
      |none=>boundsPanic k.1 k.2 0 .index):=by
  intro k base len elem
  refine Eqv.bind (e_underlying t) ?_
  rintro d d' ⟨e,_⟩
  subst e
  cases base with
  |none=>exact e_boundsPanic hp _ _ _ _
  |some a=>
   simp only[Option.map]
   refine Eqv.same_ite (fun _=>?_) (fun _=>Eqv.same_ite (fun _=>Eqv.unsupported _) (fun _=>e_boundsPanic hp _ _ _ _))
   refine Eqv.bind (e_sizeOf elem) ?_
   rintro n _ rfl
   exact Eqv.pure (by simp[VV,rv,add_ra])
 unfold Instr.indexAt
 refine Eqv.bind (e_asIntOf i) ?_
 rintro k _ rfl
 refine Eqv.bind (e_underlying t) ?_
 rintro d d' ⟨e,_⟩
 subst e
 cases d'<;>cases x<;>simp only[rv] at hsa ⊢<;>first
  |exact Eqv.bind (R:=fun(_:Option Addr×Nat×TypeId) (_:Option Addr×Nat×TypeId)=>False) (Eqv.stuck _) (fun _ _ h=>h.elim)
  |(refine Eqv.bind (R:=fun(x:Option Addr×Nat×TypeId) y=>y=(x.1.map (ra ρ),x.2)) (Eqv.pure rfl) ?_;rintro ⟨base,len,elem⟩ _ rfl;exact tail k base len elem)
  |(refine Eqv.bind hsa ?_;rintro a _ rfl;exact tail k (some a) _ _)
theorem e_shape (r:Nat):Eqv P ρ Eq (shape r) (shape (ρ r)):=⟨_,rfl,fun _=>⟨_,rfl,rfl⟩⟩
theorem e_frozen (a:Addr):Eqv P ρ Eq (frozen a) (frozen (ra ρ a)):=⟨_,rfl,fun _=>⟨_,rfl,rfl⟩⟩
theorem e_freeze (a:Addr)(n:Nat):Eqv P ρ Eq (freeze a n) (freeze (ra ρ a) n):=⟨_,rfl,⟨_,rfl,rfl⟩⟩
theorem e_getObj (r:Nat):Eqv P ρ (fun o o'=>o'=ro ρ o∧GO P ρ o) (getObj r) (getObj (ρ r)):=⟨_,rfl,fun _ h=>⟨_,rfl,rfl,h⟩⟩
theorem e_setObj (r:Nat)(o:Obj)(h:SetOk o):Eqv P ρ Eq (setObj r o) (setObj (ρ r) (ro ρ o)):=⟨h,_,rfl,⟨_,rfl,rfl⟩⟩
theorem e_mark (m:Mark)(h:MOk m:=by trivial):Eqv P ρ Eq (mark m) (mark m):=⟨h,_,rfl,⟨_,rfl,rfl⟩⟩
theorem e_askRoom (n:Nat):Eqv P ρ Eq (askRoom n) (askRoom n):=by
 unfold askRoom
 exact Eqv.same_ite (fun _=>e_mark _) (fun _=>Eqv.pure rfl)
theorem rv_default:rv ρ default=default:=by
 rw[show(default:Value)= .bool default from rfl];simp[rv]
theorem get_fixed {z:Array Value}(h:z.map (rv ρ)=z)(i:Nat):rv ρ z[i]! =z[i]!:=by
 rw[Array.getElem!_eq_getD,Array.getD_eq_getD_getElem?]
 have:(z.map (rv ρ))[i]? =z[i]?:=by rw[h]
 rw[Array.getElem?_map] at this
 cases hz:z[i]? with
 |none=>exact rv_default
 |some v=>rw[hz] at this;simpa using this
theorem zeros_fixed {z:Array Value}(h:z.map (rv ρ)=z)(n m:Nat):((Array.range n).map (fun x=>z[x%m]!)).map (rv ρ)=(Array.range n).map (fun x=>z[x%m]!):=by
 rw[Array.map_map]
 congr 1
 funext x
 exact get_fixed h _
theorem e_no {R:α→β→Prop}{γ δ:Type}{s:Sem γ}{s':Sem δ}{f:γ→Sem α}{f':δ→Sem β}(h:Eqv P ρ (fun _ _=>False) s s'):Eqv P ρ R (s>>=f) (s'>>=f'):=Eqv.bind h (fun _ _ h=>h.elim)
theorem e_makeSlice (hp:Plain P ρ)(t:TypeId)(l c:Value):Eqv P ρ (VV ρ) (Instr.makeSlice t l c) (Instr.makeSlice t (rv ρ l) (rv ρ c)):=by
 unfold Instr.makeSlice
 refine Eqv.bind (e_underlying t) ?_
 rintro d d' ⟨e,_⟩
 subst e
 cases d'<;>try exact Eqv.stuck _
 simp only
 refine Eqv.bind (e_asInt l) ?_
 rintro l _ rfl
 refine Eqv.bind (e_asInt c) ?_
 rintro c _ rfl
 refine Eqv.bind (e_typeInfo _) ?_
 rintro d d' ⟨e,_⟩
 subst e
 refine Eqv.same_ite (fun _=>?_) (fun _=>?_)
 ·refine Eqv.same_ite (fun _=>e_no (e_runtimePanic _)) (fun _=>Eqv.same_ite (fun _=>e_no (e_runtimePanic _)) (fun _=>?_))
  refine Eqv.bind (e_choose _) ?_
  rintro n _ rfl
  exact e_no (e_runtimePanic _)
 ·refine Eqv.bind (e_askRoom _) ?_
  rintro _ _ rfl
  refine Eqv.bind (e_sizeOf _) ?_
  rintro n _ rfl
  have fin:∀ z:Array Value,z.map (rv ρ)=z→∀ m k q:Nat,∀ e:TypeId,Eqv P ρ (VV ρ) (do let a ←newRow e ((Array.range m).map (fun x=>z[x%z.size]!));pure (.slice (some a) k q)) (do let a ←newRow e ((Array.range m).map (fun x=>z[x%z.size]!));pure (.slice (some a) k q)):=fun z hz m k q e=>by
   have:=e_newRow (P:=P) (ρ:=ρ) e ((Array.range m).map (fun x=>z[x%z.size]!))
   rw[zeros_fixed hz] at this
   refine Eqv.bind this ?_
   rintro a _ rfl
   exact Eqv.pure (by simp[VV,rv])
  refine Eqv.same_ite (fun _=>?_) (fun _=>?_)
  ·refine Eqv.bind (R:=fun z z'=>z'=z∧z.map (rv ρ)=z) (Eqv.pure ⟨rfl,by simp⟩) ?_
   rintro z _ ⟨rfl,hz⟩
   exact fin _ hz _ _ _ _
  ·refine Eqv.bind (e_zeroValue hp _) ?_
   rintro v v' ⟨e,hv⟩
   subst e
   refine Eqv.bind (R:=fun z z'=>z'=z∧z.map (rv ρ)=z) (Eqv.pure ⟨rfl,by rw[←cells_rv,hv]⟩) ?_
   rintro z _ ⟨rfl,hz⟩
   exact fin _ hz _ _ _ _
theorem e_buildSlice (hp:Plain P ρ)(t:TypeId)(len:Nat)(parts:Array (Nat×Value)):Eqv P ρ (VV ρ) (Instr.buildSlice t len parts) (Instr.buildSlice t len (parts.map fun x=>(x.1,rv ρ x.2))):=by
 unfold Instr.buildSlice
 refine Eqv.bind (e_underlying t) ?_
 rintro d d' ⟨e,_⟩
 subst e
 cases d'<;>try exact Eqv.stuck _
 simp only
 refine Eqv.bind (e_sizeOf _) ?_
 rintro n _ rfl
 have fin:∀ z:Array Value,z.map (rv ρ)=z→∀ e:TypeId,Eqv P ρ (VV ρ)
  (match Instr.fill (fun i=>some (i*n,n)) ((Array.range (len*n)).map (fun x=>z[x%z.size]!)) parts.toList with|some cells=>(do let a ←newRow e cells;pure (.slice (some a) len len))|_=>stuck "buildSlice: a part of the wrong size")
  (match Instr.fill (fun i=>some (i*n,n)) ((Array.range (len*n)).map (fun x=>z[x%z.size]!)) (parts.map fun x=>(x.1,rv ρ x.2)).toList with|some cells=>(do let a ←newRow e cells;pure (.slice (some a) len len))|_=>stuck "buildSlice: a part of the wrong size"):=fun z hz e=>by
  have hf:=e_fill (ρ:=ρ) (fun i=>some (i*n,n)) parts.toList ((Array.range (len*n)).map (fun x=>z[x%z.size]!))
  rw[zeros_fixed hz] at hf
  rw[Array.toList_map,hf]
  cases Instr.fill (fun i=>some (i*n,n)) ((Array.range (len*n)).map (fun x=>z[x%z.size]!)) parts.toList with
  |none=>exact Eqv.stuck _
  |some cs=>
   refine Eqv.bind (e_newRow e cs) ?_
   rintro a _ rfl
   exact Eqv.pure (by simp[VV,rv])
 refine Eqv.same_ite (fun _=>e_no (Eqv.unsupported _)) (fun _=>?_)
 refine Eqv.same_ite (fun _=>?_) (fun _=>?_)
 ·refine Eqv.bind (R:=fun z z'=>z'=z∧z.map (rv ρ)=z) (Eqv.pure ⟨rfl,by simp⟩) ?_
  rintro z _ ⟨rfl,hz⟩
  exact fin _ hz _
 ·refine Eqv.bind (e_zeroValue hp _) ?_
  rintro v v' ⟨e,hv⟩
  subst e
  refine Eqv.bind (R:=fun z z'=>z'=z∧z.map (rv ρ)=z) (Eqv.pure ⟨rfl,by rw[←cells_rv,hv]⟩) ?_
  rintro z _ ⟨rfl,hz⟩
  exact fin _ hz _
theorem e_field (t:TypeId)(x:Value)(f:Nat):Eqv P ρ (VV ρ) (Instr.field t x f) (Instr.field t (rv ρ x) f):=by
 unfold Instr.field
 refine Eqv.bind (e_underlying t) ?_
 rintro d d' ⟨e,_⟩
 subst e
 cases d'<;>try exact Eqv.stuck _
 simp only
 split
 ·refine Eqv.bind (e_asAgg x) ?_
  rintro cs _ rfl
  exact e_part _ _ _
 ·exact Eqv.stuck _
theorem e_makeInterface (t:TypeId)(x:Value):Eqv P ρ (VV ρ) (Instr.makeInterface t x) (Instr.makeInterface t (rv ρ x)):=by
 unfold Instr.makeInterface
 refine Eqv.bind (e_underlying t) ?_
 rintro d d' ⟨e,_⟩
 subst e
 cases d'<;>first|exact Eqv.stuck _|exact Eqv.pure (by simp[VV,rv])
theorem e_viewAt (r:Nat):Eqv P ρ (fun x y=>y=x.map fun z=>(ra ρ z.1,z.2)) (viewAt r) (viewAt (ρ r)):=by
 unfold viewAt
 refine Eqv.bind (e_shape r) ?_
 rintro sh _ rfl
 refine Eqv.same_ite (fun _=>Eqv.pure rfl) (fun _=>?_)
 refine Eqv.bind (e_getObj r) ?_
 rintro o _ ⟨rfl,_⟩
 cases o<;>simp only[ro]<;>exact Eqv.pure rfl
theorem e_noView (a:Addr):Eqv P ρ Eq (noView a) (noView (ra ρ a)):=by
 unfold noView
 refine Eqv.bind (e_viewAt a.block) ?_
 rintro x _ rfl
 simp only[Option.isSome_map]
 exact Eqv.same_ite (fun _=>Eqv.unsupported _) (fun _=>Eqv.pure rfl)
theorem e_byteOf (a:Addr):Eqv P ρ Eq (byteOf a) (byteOf (ra ρ a)):=by
 unfold byteOf
 have e1:(ra ρ a).spot=a.spot:=rfl
 have e2:(ra ρ a).off=a.off:=rfl
 have e3:(ra ρ a).block=ρ a.block:=rfl
 simp only[e1,e2,e3]
 cases a.spot with
 |some s=>exact Eqv.pure rfl
 |none=>
  simp only
  refine Eqv.bind e_program ?_
  rintro _ _ ⟨rfl,rfl⟩
  refine Eqv.bind (e_noView a) ?_
  rintro _ _ rfl
  refine Eqv.bind (e_shape a.block) ?_
  rintro sh _ rfl
  cases sh with
  |none=>exact Eqv.stuck _
  |some x=>
   simp only
   refine Eqv.same_ite (fun _=>Eqv.pure rfl) (fun _=>?_)
   split
   ·exact Eqv.pure rfl
   ·exact Eqv.stuck _
theorem e_partAt (a:Addr)(c b:Nat):Eqv P ρ (AA ρ) (partAt a c b) (partAt (ra ρ a) c b):=by
 unfold partAt
 refine Eqv.bind (e_byteOf a) ?_
 rintro x _ rfl
 refine Eqv.bind (e_byteOf { block:=a.block,off:=a.off+c }) ?_
 rintro y _ rfl
 refine Eqv.pure ?_
 simp only[AA,ra]
 split<;>rfl
theorem e_fieldPlace (a:Addr)(f:Field):Eqv P ρ (AA ρ) (fieldPlace a f) (fieldPlace (ra ρ a) f):=by
 unfold fieldPlace
 refine Eqv.bind (e_sizeOf _) ?_
 rintro n _ rfl
 exact Eqv.same_ite (fun _=>e_partAt _ _ _) (fun _=>Eqv.pure (add_ra _ _))
theorem e_fieldAt (t:TypeId)(x:Value)(f:Nat):Eqv P ρ (VV ρ) (Instr.fieldAt t x f) (Instr.fieldAt t (rv ρ x) f):=by
 unfold Instr.fieldAt
 refine Eqv.bind (e_underlying t) ?_
 rintro d d' ⟨e,_⟩
 subst e
 cases d'<;>try exact Eqv.stuck _
 simp only
 split
 ·refine Eqv.bind (e_sureAddr x) ?_
  rintro a _ rfl
  refine Eqv.bind (e_fieldPlace a _) ?_
  rintro b _ rfl
  exact Eqv.pure (by simp[VV,rv])
 ·exact Eqv.stuck _
theorem e_lenOf (v:Value):Eqv P ρ Eq (Builtin.lenOf v) (Builtin.lenOf (rv ρ v)):=by
 cases v<;>simp only[rv,Builtin.lenOf]<;>first|exact Eqv.pure rfl|exact Eqv.stuck _
theorem e_firstCells (size n:Nat)(v:Value):Eqv P ρ (fun x y=>y=x.map (rv ρ)) (Builtin.firstCells size n v) (Builtin.firstCells size n (rv ρ v)):=by
 cases v with
 |slice a l c=>
  cases a with
  |none=>simp only[rv,Option.map,Builtin.firstCells];exact Eqv.pure (by simp)
  |some a=>simp only[rv,Option.map,Builtin.firstCells];exact e_loadCells a _
 |string s=>
  simp only[rv,Builtin.firstCells]
  refine Eqv.pure ?_
  rw[Array.map_map]
  congr 1
  funext b
  simp[rv]
 |_=>simp only[rv,Builtin.firstCells];exact Eqv.stuck _
theorem e_holdsCells (a:Addr)(n:Nat):Eqv P ρ Eq (Builtin.holdsCells a n) (Builtin.holdsCells (ra ρ a) n):=by
 unfold Builtin.holdsCells
 refine Eqv.bind (e_shape a.block) ?_
 rintro x _ rfl
 cases x<;>exact Eqv.pure rfl
theorem zeroCells_fixed {z:Array Value}(h:z.map (rv ρ)=z)(n:Nat):(Builtin.zeroCells z n).map (rv ρ)=Builtin.zeroCells z n:=zeros_fixed h _ _
theorem e_mayShare (hp:Plain P ρ)(size sLen n:Nat)(a:Option Addr)(x:Value):Eqv P ρ Eq (Builtin.mayShare size sLen n a x) (Builtin.mayShare size sLen n (a.map (ra ρ)) (rv ρ x)):=by
 have hi:∀ u v:Nat,(ρ u==ρ v)=(u==v):=fun u v=>by
  rw[Bool.eq_iff_iff];simp only[beq_iff_eq];exact⟨hp.inj _ _,fun h=>by rw[h]⟩
 have h1:∀ b:Addr,Eqv P ρ Eq (do pure ((←Builtin.holdsCells b (sLen*size))&&!(←frozen (b.add (sLen/2*size))))) (do pure ((←Builtin.holdsCells (ra ρ b) (sLen*size))&&!(←frozen ((ra ρ b).add (sLen/2*size))))):=fun b=>by
  refine Eqv.bind (e_holdsCells b _) ?_
  rintro _ _ rfl
  rw[add_ra]
  refine Eqv.bind (e_frozen _) ?_
  rintro _ _ rfl
  exact Eqv.pure rfl
 have h2:Eqv P ρ Eq (match x with| .slice (some b) _ _=>do pure (!(←Builtin.holdsCells b (n*size))||a.any (·.block==b.block))|_=>pure false) (match rv ρ x with| .slice (some b) _ _=>do pure (!(←Builtin.holdsCells b (n*size))||(a.map (ra ρ)).any (·.block==b.block))|_=>pure false):=by
  cases x with
  |slice b l c=>
   cases b with
   |none=>simp only[rv,Option.map];exact Eqv.pure rfl
   |some b=>
    simp only[rv,Option.map]
    refine Eqv.bind (e_holdsCells b _) ?_
    rintro _ _ rfl
    refine Eqv.pure ?_
    cases a with
    |none=>rfl
    |some a=>simp[ra,hi]
  |_=>simp only[rv];exact Eqv.pure rfl
 unfold Builtin.mayShare
 cases a with
 |none=>
  simp only[Option.map] at h2 ⊢
  refine Eqv.bind (R:=Eq) (Eqv.pure rfl) ?_
  rintro b _ rfl
  exact Eqv.same_ite (fun _=>Eqv.pure rfl) (fun _=>h2)
 |some a=>
  simp only[Option.map] at h2 ⊢
  refine Eqv.bind (e_holdsCells a _) ?_
  rintro b1 _ rfl
  rw[add_ra]
  refine Eqv.bind (e_frozen _) ?_
  rintro b2 _ rfl
  refine Eqv.bind (R:=Eq) (Eqv.pure rfl) ?_
  rintro b _ rfl
  exact Eqv.same_ite (fun _=>Eqv.pure rfl) (fun _=>h2)
theorem e_st (a:Option Addr)(size sLen sCap:Nat)(new:Array Value)(k:Nat):Eqv P ρ (VV ρ)
 (match a with|some b=>(do storeCells (b.add (sLen*size)) new.toList;pure (.slice a k sCap))|_=>pure (.slice a k sCap))
 (match a.map (ra ρ) with|some b=>(do storeCells (b.add (sLen*size)) (new.map (rv ρ)).toList;pure (.slice (a.map (ra ρ)) k sCap))|_=>pure (.slice (a.map (ra ρ)) k sCap)):=by
 cases a with
 |none=>exact Eqv.pure (by simp[VV,rv])
 |some b=>
  simp only[Option.map,add_ra,Array.toList_map]
  refine Eqv.bind (e_storeCells _ _ _) ?_
  rintro _ _ rfl
  exact Eqv.pure (by simp[VV,rv])
theorem e_append (hp:Plain P ρ)(ts:Array TypeId)(ty:TypeId)(args:Array Value):Eqv P ρ (VV ρ) (Builtin.append_ ts ty args) (Builtin.append_ ts ty (args.map (rv ρ))):=by
 unfold Builtin.append_
 simp only[Array.getElem?_map]
 rcases ts[0]? with _|t0<;>rcases args[0]? with _|s<;>rcases args[1]? with _|x<;>simp only[Option.map]<;>try exact Eqv.stuck _
 refine Eqv.bind (e_underlying t0) ?_
 rintro d d' ⟨e,_⟩
 subst e
 cases d'<;>try exact Eqv.stuck _
 cases s<;>simp only[rv]<;>try exact Eqv.stuck _
 rename_i elem _ a sLen sCap
 have hA:∀ (zeros:Bool) (size n:Nat),Eqv P ρ (fun x y=>y=x.map (rv ρ)) (if(!zeros)=true then Builtin.firstCells size n x else if n*size=0 then pure #[] else do let z ←zeroValue elem;pure (Builtin.zeroCells z.cells n)) (if(!zeros)=true then Builtin.firstCells size n (rv ρ x) else if n*size=0 then pure #[] else do let z ←zeroValue elem;pure (Builtin.zeroCells z.cells n)):=fun zeros size n=>by
  refine Eqv.same_ite (fun _=>e_firstCells _ _ _) (fun _=>Eqv.same_ite (fun _=>Eqv.pure (by simp)) (fun _=>?_))
  refine Eqv.bind (e_zeroValue hp elem) ?_
  rintro v v' ⟨e,hv⟩
  subst e
  exact Eqv.pure (zeroCells_fixed (by rw[←cells_rv,hv]) n).symm
 have hO:∀ size,Eqv P ρ (fun x y=>y=x.map (rv ρ)) (Builtin.firstCells size sLen (.slice a sLen sCap)) (Builtin.firstCells size sLen (.slice (a.map (ra ρ)) sLen sCap)):=fun size=>by
  have:=e_firstCells (P:=P) (ρ:=ρ) size sLen (.slice a sLen sCap)
  simpa only[rv] using this
 refine Eqv.bind (e_sizeOf _) ?_
 rintro size _ rfl
 have hM:=fun n=>e_mayShare (P:=P) (ρ:=ρ) hp size sLen n a x
 have hSt:=fun new k=>e_st (P:=P) (ρ:=ρ) a size sLen sCap new k
 have hF:∀ (old new:Array Value) (k q:Nat),Eqv P ρ (VV ρ)
  (do let z ←zeroValue elem;let r ←newRow elem (old++new++Builtin.zeroCells z.cells (q-k));pure (.slice (some r) k q))
  (do let z ←zeroValue elem;let r ←newRow elem (old.map (rv ρ)++new.map (rv ρ)++Builtin.zeroCells z.cells (q-k));pure (.slice (some r) k q)):=fun old new k q=>by
  refine Eqv.bind (e_zeroValue hp elem) ?_
  rintro v v' ⟨e,hv⟩
  subst e
  have:=e_newRow (P:=P) (ρ:=ρ) elem (old++new++Builtin.zeroCells v'.cells (q-k))
  rw[Array.map_append,Array.map_append,zeroCells_fixed (by rw[←cells_rv,hv])] at this
  refine Eqv.bind this ?_
  rintro r _ rfl
  exact Eqv.pure (by simp[VV,rv])
 have hPn:∀ (zeros:Bool) (n:Nat),Eqv P ρ (fun(_:PUnit) (_:PUnit)=>False)
  (if zeros=true then runtimePanic (.error "growslice: len out of range") else do
    let b ←Builtin.mayShare size sLen n a x
    if(!b)=true then do mark .noRoom;unsupported (.resourceLimit "append: a slice or a string whose bytes no memory bears")
    else unsupported (.resourceLimit "append: a slice or a string whose bytes no memory bears"))
  (if zeros=true then runtimePanic (.error "growslice: len out of range") else do
    let b ←Builtin.mayShare size sLen n (a.map (ra ρ)) (rv ρ x)
    if(!b)=true then do mark .noRoom;unsupported (.resourceLimit "append: a slice or a string whose bytes no memory bears")
    else unsupported (.resourceLimit "append: a slice or a string whose bytes no memory bears")):=fun zeros n=>by
  refine Eqv.same_ite (fun _=>e_runtimePanic _) (fun _=>?_)
  refine Eqv.bind (hM n) ?_
  rintro b _ rfl
  refine Eqv.same_ite (fun _=>?_) (fun _=>Eqv.unsupported _)
  exact Eqv.bind (e_mark _) (fun _ _ _=>Eqv.unsupported _)
 rcases ts[1]? with _|t1<;>simp only
 all_goals
  repeat' first
   |exact Eqv.stuck _
   |exact Eqv.unsupported _
   |exact e_runtimePanic _
   |exact e_no (e_runtimePanic _)
   |exact hSt _ _
   |exact hF _ _ _ _
   |exact e_no (hPn _ _)
   |(refine Eqv.same_ite (fun _=>?_) (fun _=>?_))
   |(refine Eqv.bind (e_typeInfo _) ?_;rintro _ _ ⟨rfl,_⟩)
   |(refine Eqv.bind (e_underlying _) ?_;rintro _ _ ⟨rfl,_⟩)
   |(refine Eqv.bind (R:=Eq) (Eqv.pure rfl) ?_;rintro _ _ rfl)
   |(refine Eqv.bind (e_choose _) ?_;rintro _ _ rfl)
   |(refine Eqv.bind (e_askRoom _) ?_;rintro _ _ rfl)
   |(refine Eqv.bind (hO _) ?_;rintro _ _ rfl)
   |(refine Eqv.bind (hA _ _ _) ?_;rintro _ _ rfl)
   |(refine Eqv.bind (hM _) ?_;rintro _ _ rfl)
   |(refine Eqv.bind (e_mark _) ?_;rintro _ _ rfl)
   |(refine Eqv.bind (e_asInt x) ?_;rintro _ _ rfl)
   |(refine Eqv.bind (e_lenOf x) ?_;rintro _ _ rfl)
theorem e_copy (ts:Array TypeId)(ty:TypeId)(args:Array Value):Eqv P ρ (VV ρ) (Builtin.copy_ ts ty args) (Builtin.copy_ ts ty (args.map (rv ρ))):=by
 unfold Builtin.copy_
 simp only[Array.getElem?_map]
 rcases ts[0]? with _|t0<;>rcases args[0]? with _|s<;>rcases args[1]? with _|x<;>simp only[Option.map]<;>try exact Eqv.stuck _
 refine Eqv.bind (e_underlying t0) ?_
 rintro d d' ⟨e,_⟩
 subst e
 cases d'<;>try exact Eqv.stuck _
 cases s<;>simp only[rv]<;>try exact Eqv.stuck _
 refine Eqv.bind (e_lenOf x) ?_
 rintro n _ rfl
 refine Eqv.bind (e_sizeOf _) ?_
 rintro m _ rfl
 refine Eqv.bind (e_firstCells _ _ x) ?_
 rintro cs _ rfl
 rename_i a l c
 cases a with
 |none=>exact Eqv.pure (by simp[VV,rv,goInt])
 |some a=>
  simp only[Option.map,Array.toList_map]
  refine Eqv.bind (e_storeCells _ _ _) ?_
  rintro _ _ rfl
  exact Eqv.pure (by simp[VV,rv,goInt])
theorem e_len (ts:Array TypeId)(ty:TypeId)(args:Array Value):Eqv P ρ (VV ρ) (Builtin.len_ ts ty args) (Builtin.len_ ts ty (args.map (rv ρ))):=by
 unfold Builtin.len_
 simp only[Array.getElem?_map]
 rcases ts[0]? with _|t0<;>rcases args[0]? with _|s<;>simp only[Option.map]<;>try exact Eqv.stuck _
 refine Eqv.bind (e_underlying t0) ?_
 rintro d d' ⟨e,_⟩
 subst e
 cases d'<;>cases s<;>simp only[rv]<;>first
  |exact Eqv.stuck _
  |exact Eqv.pure (by simp[VV,rv,goInt])
  |(refine Eqv.bind (e_underlying _) ?_;rintro d d' ⟨e,_⟩;subst e;cases d'<;>first|exact Eqv.stuck _|exact Eqv.pure (by simp[VV,rv,goInt]))
  |skip
 all_goals
  rename_i r
  cases r with
  |none=>exact Eqv.pure (by simp[VV,rv,goInt])
  |some r=>
   simp only[Option.map]
   refine Eqv.bind (e_getObj r) ?_
   rintro o _ ⟨rfl,_⟩
   cases o<;>simp only[ro]<;>first|exact Eqv.stuck _|exact Eqv.pure (by simp[VV,rv,goInt])
theorem e_numberAt (r:Nat):Eqv P ρ (fun x y=>y=x.map (fun z=>(ra ρ z.1,z.2))∧∀ z,x=some z→GA P ρ z.1) (numberAt r) (numberAt (ρ r)):=by
 unfold numberAt
 refine Eqv.bind (e_shape r) ?_
 rintro sh _ rfl
 refine Eqv.same_ite (fun _=>Eqv.pure ⟨rfl,fun z h=>by cases h⟩) (fun _=>?_)
 refine Eqv.bind (e_getObj r) ?_
 rintro o _ ⟨rfl,ho⟩
 cases o<;>simp only[ro]<;>refine Eqv.pure ⟨rfl,fun z h=>?_⟩<;>cases h
 rcases ho with h|h
 ·exact .inl h
 ·simp only[ro,Obj.number.injEq] at h;exact .inr h.1
theorem e_behindNumber (a:Addr)(ha:GA P ρ a):Eqv P ρ (fun x y=>y=(ra ρ x.1,x.2)∧GA P ρ x.1) (behindNumber a) (behindNumber (ra ρ a)):=by
 unfold behindNumber
 refine Eqv.bind (e_numberAt a.block) ?_
 rintro x _ ⟨rfl,hx⟩
 refine Eqv.pure ?_
 cases x with
 |none=>exact⟨rfl,ha⟩
 |some z=>exact⟨rfl,hx z rfl⟩
theorem e_part' (t:TypeId)(cs:Array Value)(o:Nat)(h:Glob P ρ∨cs.map (rv ρ)=cs):Eqv P ρ (fun v v'=>v'=rv ρ v∧GV P ρ v) (part t cs o) (part t (cs.map (rv ρ)) o):=by
 unfold part
 refine Eqv.bind (e_isAgg t) ?_
 rintro b _ rfl
 cases b
 ·simp only[Array.getElem?_map,Bool.false_eq_true,if_false]
  cases hc:cs[o]? with
  |none=>exact Eqv.stuck _
  |some v=>
   refine Eqv.pure ⟨rfl,h.imp id fun h=>?_⟩
   have h1:(cs.map (rv ρ))[o]? =some v:=by rw[h];exact hc
   rw[Array.getElem?_map,hc] at h1
   simpa using h1
 ·simp only[if_true]
  refine Eqv.bind (e_sizeOf t) ?_
  rintro n _ rfl
  exact Eqv.pure ⟨by simp only[rv];rw[Array.map_extract],h.imp id fun h=>by simp only[rv];rw[Array.map_extract,h]⟩
theorem beq_ra (hp:Plain P ρ)(a b:Addr):(ra ρ a==ra ρ b)=(a==b):=by
 rw[Bool.eq_iff_iff]
 simp only[beq_iff_eq]
 refine⟨fun h=>?_,fun h=>by rw[h]⟩
 obtain⟨a1,a2,a3⟩:=a
 obtain⟨b1,b2,b3⟩:=b
 simp only[ra,Addr.mk.injEq] at h
 rw[hp.inj _ _ h.1,h.2.1,h.2.2]
theorem beq_ρ (hp:Plain P ρ)(u v:Nat):(ρ u==ρ v)=(u==v):=by
 rw[Bool.eq_iff_iff];simp only[beq_iff_eq];exact⟨hp.inj _ _,fun h=>by rw[h]⟩
theorem e_stringish (a:Addr):Eqv P ρ Eq (stringish a) (stringish (ra ρ a)):=by
 unfold stringish
 refine Eqv.bind (e_frozen a) ?_
 rintro b _ rfl
 refine Eqv.same_ite (fun _=>Eqv.pure rfl) (fun _=>?_)
 refine Eqv.bind (e_shape a.block) ?_
 rintro sh _ rfl
 cases sh with
 |none=>exact Eqv.pure rfl
 |some x=>exact e_frozen { block:=a.block,off:=x.2 }
theorem e_isNone0 (x:Addr):Eqv P ρ Eq (do pure ((←shape x.block) matches some (_,0))) (do pure ((←shape (ra ρ x).block) matches some (_,0))):=by
 refine Eqv.bind (e_shape x.block) ?_
 rintro sh _ rfl
 exact Eqv.pure rfl
theorem e_mayBeOne (a b:Addr):Eqv P ρ Eq (mayBeOne a b) (mayBeOne (ra ρ a) (ra ρ b)):=by
 unfold mayBeOne
 dsimp only
 refine Eqv.bind (e_stringish a) ?_
 rintro s1 _ rfl
 refine Eqv.bind (e_stringish b) ?_
 rintro s2 _ rfl
 refine Eqv.bind (e_isNone0 a) ?_
 rintro s3 _ rfl
 refine Eqv.bind (e_isNone0 b) ?_
 rintro s4 _ rfl
 exact Eqv.pure rfl
theorem e_sameAddr (hp:Plain P ρ)(a b:Addr):Eqv P ρ Eq (sameAddr a b) (sameAddr (ra ρ a) (ra ρ b)):=by
 unfold sameAddr
 rw[beq_ra hp]
 have e:((ra ρ a).block==(ra ρ b).block)=(a.block==b.block):=beq_ρ hp _ _
 rw[e]
 refine Eqv.same_ite (fun _=>Eqv.pure rfl) (fun _=>?_)
 refine Eqv.bind (e_frozen a) ?_
 rintro f1 _ rfl
 refine Eqv.bind (e_frozen b) ?_
 rintro f2 _ rfl
 refine Eqv.same_ite (fun _=>e_no (Eqv.unsupported _)) (fun _=>?_)
 refine Eqv.bind (e_noView a) ?_
 rintro _ _ rfl
 refine Eqv.bind (e_noView b) ?_
 rintro _ _ rfl
 refine Eqv.bind (e_mayBeOne a b) ?_
 rintro m _ rfl
 refine Eqv.same_ite (fun _=>?_) (fun _=>Eqv.pure rfl)
 refine Eqv.bind (e_choose _) ?_
 rintro n _ rfl
 exact Eqv.pure rfl
theorem e_samePointer (hp:Plain P ρ)(a b:Option Addr):Eqv P ρ Eq (samePointer a b) (samePointer (a.map (ra ρ)) (b.map (ra ρ))):=by
 cases a<;>cases b<;>simp only[Option.map,samePointer]<;>first|exact e_sameAddr hp _ _|exact Eqv.pure rfl
theorem e_typeStr (t:TypeId):Eqv P ρ Eq (typeStr t) (typeStr t):=by
 unfold typeStr
 refine Eqv.bind (e_typeInfo t) ?_
 rintro i i' ⟨e,_⟩
 subst e
 exact Eqv.same_ite (fun _=>Eqv.unsupported _) (fun _=>Eqv.pure rfl)
theorem e_forIn {γ:Type}{R:α→β→Prop}{f:γ→α→Sem (ForInStep α)}{f':γ→β→Sem (ForInStep β)}
 (hf:∀ x a b,R a b→Eqv P ρ (fun s t=>(∃ a b,s= .yield a∧t= .yield b∧R a b)∨(∃ a b,s= .done a∧t= .done b∧R a b)) (f x a) (f' x b)):∀ (l:List γ) (a:α) (b:β),R a b→Eqv P ρ R (forIn l a f) (forIn l b f')
 |[],a,b,h=>by haveI:=lawful;simp only[List.forIn_nil];exact Eqv.pure h
 |x::r,a,b,h=>by
  haveI:=lawful
  simp only[List.forIn_cons]
  refine Eqv.bind (hf x a b h) ?_
  rintro s t (⟨a',b',rfl,rfl,h'⟩|⟨a',b',rfl,rfl,h'⟩)
  ·exact e_forIn hf r a' b' h'
  ·exact Eqv.pure h'
end
end Go.Ren
