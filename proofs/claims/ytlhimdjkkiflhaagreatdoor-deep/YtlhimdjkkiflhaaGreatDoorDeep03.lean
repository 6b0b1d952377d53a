import Derived.Test.YtlhimdjkkiflhaaGreatDoorDeep02
namespace Go.Ren
open Go
section
variable {P:Program} {ρ:Rn} {α β α' β':Type}
theorem Eqv.mono' {R:α→β→Prop}{s:Sem α}{s1 s2:Sem β}(h:Eqv P ρ R s s1)(e:s1=s2):Eqv P ρ R s s2:=e▸h
theorem e_min2 (x y:Value):Eqv P ρ (VV ρ) (Builtin.min2 x y) (Builtin.min2 (rv ρ x) (rv ρ y)):=by
 cases x with
 |pointer a=>
  cases a<;>cases y<;>simp only[rv,Option.map,Builtin.min2]<;>first
   |exact Eqv.unsupported _|exact Eqv.stuck _|(rename_i b;cases b<;>simp only<;>first|exact Eqv.unsupported _|exact Eqv.stuck _)
 |int k a=>
  cases y<;>simp only[rv,Builtin.min2]<;>first
   |exact Eqv.pure (by simp[VV,rv])|exact Eqv.stuck _|exact Eqv.unsupported _|(rename_i b;cases b<;>simp only[Option.map]<;>first|exact Eqv.unsupported _|exact Eqv.stuck _)
 |float k a=>
  cases y<;>simp only[rv,Builtin.min2]<;>first
   |(split<;>first|exact Eqv.pure (by simp[VV,rv])|(refine Eqv.bind (e_choose _) ?_;rintro n _ rfl;exact Eqv.pure (by simp[VV,rv])))
   |exact Eqv.stuck _|exact Eqv.unsupported _|(rename_i b;cases b<;>simp only[Option.map]<;>first|exact Eqv.unsupported _|exact Eqv.stuck _)
 |string a=>
  cases y<;>simp only[rv,Builtin.min2]<;>first
   |(refine Eqv.bind (e_stringOp _ _ _) ?_;rintro v _ rfl;refine Eqv.bind (e_asBool v) ?_;rintro b _ rfl;exact Eqv.pure (by simp[VV,rv]))
   |exact Eqv.stuck _|exact Eqv.unsupported _|(rename_i b;cases b<;>simp only[Option.map]<;>first|exact Eqv.unsupported _|exact Eqv.stuck _)
 |_=>
  cases y<;>simp only[rv,Builtin.min2]<;>first
   |exact Eqv.stuck _|exact Eqv.unsupported _|(rename_i b;cases b<;>simp only[Option.map]<;>first|exact Eqv.unsupported _|exact Eqv.stuck _)
theorem e_max2 (x y:Value):Eqv P ρ (VV ρ) (Builtin.max2 x y) (Builtin.max2 (rv ρ x) (rv ρ y)):=by
 cases x with
 |pointer a=>
  cases a<;>cases y<;>simp only[rv,Option.map,Builtin.max2]<;>first
   |exact Eqv.unsupported _|exact Eqv.stuck _|(rename_i b;cases b<;>simp only<;>first|exact Eqv.unsupported _|exact Eqv.stuck _)
 |int k a=>
  cases y<;>simp only[rv,Builtin.max2]<;>first
   |exact Eqv.pure (by simp[VV,rv])|exact Eqv.stuck _|exact Eqv.unsupported _|(rename_i b;cases b<;>simp only[Option.map]<;>first|exact Eqv.unsupported _|exact Eqv.stuck _)
 |float k a=>
  cases y<;>simp only[rv,Builtin.max2]<;>first
   |(split<;>first|exact Eqv.pure (by simp[VV,rv])|(refine Eqv.bind (e_choose _) ?_;rintro n _ rfl;exact Eqv.pure (by simp[VV,rv])))
   |exact Eqv.stuck _|exact Eqv.unsupported _|(rename_i b;cases b<;>simp only[Option.map]<;>first|exact Eqv.unsupported _|exact Eqv.stuck _)
 |string a=>
  cases y<;>simp only[rv,Builtin.max2]<;>first
   |(refine Eqv.bind (e_stringOp _ _ _) ?_;rintro v _ rfl;refine Eqv.bind (e_asBool v) ?_;rintro b _ rfl;exact Eqv.pure (by simp[VV,rv]))
   |exact Eqv.stuck _|exact Eqv.unsupported _|(rename_i b;cases b<;>simp only[Option.map]<;>first|exact Eqv.unsupported _|exact Eqv.stuck _)
 |_=>
  cases y<;>simp only[rv,Builtin.max2]<;>first
   |exact Eqv.stuck _|exact Eqv.unsupported _|(rename_i b;cases b<;>simp only[Option.map]<;>first|exact Eqv.unsupported _|exact Eqv.stuck _)
theorem e_foldlM {f:Value→Value→Sem Value}(hf:∀ x y,Eqv P ρ (VV ρ) (f x y) (f (rv ρ x) (rv ρ y))):∀ (l:List Value) (x:Value),Eqv P ρ (VV ρ) (l.foldlM f x) ((l.map (rv ρ)).foldlM f (rv ρ x))
 |[],x=>by simp only[List.map_nil,List.foldlM];exact Eqv.pure rfl
 |y::l,x=>by
  simp only[List.map_cons,List.foldlM]
  refine Eqv.bind (hf x y) ?_
  rintro v _ rfl
  exact e_foldlM hf l v
theorem e_min (ts:Array TypeId)(ty:TypeId)(args:Array Value):Eqv P ρ (VV ρ) (Builtin.min_ ts ty args) (Builtin.min_ ts ty (args.map (rv ρ))):=by
 unfold Builtin.min_
 rw[Array.toList_map]
 cases args.toList with
 |nil=>exact Eqv.stuck _
 |cons x l=>exact e_foldlM e_min2 l x
theorem e_max (ts:Array TypeId)(ty:TypeId)(args:Array Value):Eqv P ρ (VV ρ) (Builtin.max_ ts ty args) (Builtin.max_ ts ty (args.map (rv ρ))):=by
 unfold Builtin.max_
 rw[Array.toList_map]
 cases args.toList with
 |nil=>exact Eqv.stuck _
 |cons x l=>exact e_foldlM e_max2 l x
theorem e_variablesAt (a:Addr)(u:TypeId)(n:Nat):Eqv P ρ Eq (variablesAt a u n) (variablesAt (ra ρ a) u n):=by
 unfold variablesAt
 refine Eqv.bind e_program ?_
 rintro _ _ ⟨rfl,rfl⟩
 refine Eqv.bind (e_shape a.block) ?_
 rintro sh _ rfl
 cases sh<;>exact Eqv.pure rfl
theorem e_loadBytes:∀ (n:Nat) (a:Addr) (acc:ByteArray),Eqv P ρ Eq (loadBytes a acc n) (loadBytes (ra ρ a) acc n)
 |0,a,acc=>Eqv.pure rfl
 |n+1,a,acc=>by
  unfold loadBytes
  refine Eqv.bind (e_load a) ?_
  rintro v _ rfl
  cases v with
  |int k b=>
   simp only[rv]
   cases k<;>first
    |exact Eqv.stuck _
    |(rw[add_ra];exact e_loadBytes n (a.add 1) _)
  |_=>simp only[rv];exact Eqv.stuck _
theorem map_one (f:Value→Value)(x:Value):(⟨[x]⟩:Array Value).map f=⟨[f x]⟩:=by simp
theorem map_two (f:Value→Value)(x y:Value):(⟨[x,y]⟩:Array Value).map f=⟨[f x,f y]⟩:=by simp
theorem rv_ptr (a:Option Addr):rv ρ (.pointer a)= .pointer (a.map (ra ρ)):=by simp only[rv]
theorem rv_sl (a:Option Addr)(n c:Nat):rv ρ (.slice a n c)= .slice (a.map (ra ρ)) n c:=by simp only[rv]
theorem e_unsafeString2 (ts:Array TypeId)(ty:TypeId)(p:Option Addr)(y:Value):Eqv P ρ (VV ρ) (Builtin.unsafeString_ ts ty #[.pointer p,y]) (Builtin.unsafeString_ ts ty #[.pointer (p.map (ra ρ)),rv ρ y]):=by
 unfold Builtin.unsafeString_
 refine Eqv.bind (e_asInt y) ?_
 rintro n _ rfl
 cases ts[0]? with
 |none=>exact Eqv.stuck _
 |some pt=>
  dsimp only
  refine Eqv.same_ite (fun _=>e_no (e_runtimePanic _)) (fun _=>?_)
  refine Eqv.same_ite (fun _=>e_no (Eqv.unsupported _)) (fun _=>?_)
  cases p with
  |none=>
   exact Eqv.same_ite (fun _=>Eqv.pure (by simp[VV,rv])) (fun _=>e_runtimePanic _)
  |some a=>
   refine Eqv.same_ite (fun _=>Eqv.pure (by simp[VV,rv])) (fun _=>?_)
   refine Eqv.bind (e_elemOf pt) ?_
   rintro e _ rfl
   refine Eqv.bind (e_variablesAt a e n.toNat) ?_
   rintro b _ rfl
   refine Eqv.same_ite (fun _=>?_) (fun _=>Eqv.unsupported _)
   refine Eqv.bind (e_loadBytes _ _ _) ?_
   rintro s _ rfl
   refine Eqv.bind (e_freeze a n.toNat) ?_
   rintro _ _ rfl
   exact Eqv.pure (by simp[VV,rv])
theorem e_unsafeString (ts:Array TypeId)(ty:TypeId)(args:Array Value):Eqv P ρ (VV ρ) (Builtin.unsafeString_ ts ty args) (Builtin.unsafeString_ ts ty (args.map (rv ρ))):=by
 rcases args with⟨l⟩
 match l with
 |[]=>exact Eqv.stuck _
 |[_]=>exact Eqv.stuck _
 |_::_::_::_=>exact Eqv.stuck _
 |[x,y]=>
  rw[map_two]
  cases x with
  |pointer p=>rw[rv_ptr];exact e_unsafeString2 ts ty p y
  |_=>exact Eqv.stuck _
theorem e_unsafeSliceData1 (ts:Array TypeId)(ty:TypeId)(a:Option Addr)(n c:Nat):Eqv P ρ (VV ρ) (Builtin.unsafeSliceData_ ts ty #[.slice a n c]) (Builtin.unsafeSliceData_ ts ty #[.slice (a.map (ra ρ)) n c]):=by
 cases a with
 |none=>exact(Eqv.pure (by simp[VV,rv]):Eqv P ρ (VV ρ) (pure (.pointer none)) (pure (.pointer none)))
 |some a=>
  have:Eqv P ρ (VV ρ) (if c≠0 then pure (.pointer (some a)) else do
   if(←viewAt a.block).isSome then pure (.pointer (some a)) else pure (.pointer (some ⟨←newObj (.view a (←elemOf ty)),0,none⟩)):Sem Value)
   (if c≠0 then pure (.pointer (some (ra ρ a))) else do
   if(←viewAt (ra ρ a).block).isSome then pure (.pointer (some (ra ρ a))) else pure (.pointer (some ⟨←newObj (.view (ra ρ a) (←elemOf ty)),0,none⟩)):Sem Value):=by
   refine Eqv.same_ite (fun _=>Eqv.pure (by simp[VV,rv])) (fun _=>?_)
   refine Eqv.bind (e_viewAt a.block) ?_
   rintro x _ rfl
   simp only[Option.isSome_map]
   refine Eqv.same_ite (fun _=>Eqv.pure (by simp[VV,rv])) (fun _=>?_)
   refine Eqv.bind (e_elemOf ty) ?_
   rintro e _ rfl
   refine Eqv.bind (e_newObj (.view a e)) ?_
   rintro r _ rfl
   exact Eqv.pure (by simp[VV,rv,ra])
  exact this
theorem e_unsafeSliceData (ts:Array TypeId)(ty:TypeId)(args:Array Value):Eqv P ρ (VV ρ) (Builtin.unsafeSliceData_ ts ty args) (Builtin.unsafeSliceData_ ts ty (args.map (rv ρ))):=by
 rcases args with⟨l⟩
 match l with
 |[]=>exact Eqv.stuck _
 |_::_::_=>exact Eqv.stuck _
 |[x]=>
  rw[map_one]
  cases x with
  |slice a n c=>rw[rv_sl];exact e_unsafeSliceData1 ts ty a n c
  |_=>exact Eqv.stuck _
theorem e_checkKey (empty:Bool):∀ (n:Nat) (t:TypeId) (v:Value),Eqv P ρ Eq (Instr.checkKey empty n t v) (Instr.checkKey empty n t (rv ρ v))
 |0,t,v=>Eqv.unsupported _
 |n+1,t,v=>by
  unfold Instr.checkKey
  refine Eqv.bind (e_underlying t) ?_
  rintro d d' ⟨e,_⟩
  subst e
  cases d' with
  |interface ms=>
   cases v with
   |iface d x=>
    simp only[rv]
    refine Eqv.bind (e_typeInfo d) ?_
    rintro i i' ⟨e,_⟩
    subst e
    refine Eqv.same_ite (fun _=>?_) (fun _=>e_checkKey empty n _ _)
    refine Eqv.same_ite (fun _=>e_no (e_runtimePanic _)) (fun _=>?_)
    refine Eqv.bind (e_typeStr _) ?_
    rintro q _ rfl
    exact e_no (e_runtimePanic _)
   |nilIface=>simp only[rv];exact Eqv.pure rfl
   |_=>simp only[rv];exact Eqv.stuck _
  |array m e=>
   cases v with
   |agg cs=>
    simp only[rv]
    refine Eqv.bind (R:=Eq) ?_ (by rintro _ _ rfl;exact Eqv.pure rfl)
    haveI:=lawful
    rw[Std.Legacy.Range.forIn_eq_forIn_range',Std.Legacy.Range.forIn_eq_forIn_range']
    refine e_forIn (R:=Eq) (fun f a b hab=>?_) _ _ _ rfl
    subst hab
    refine Eqv.bind (e_sizeOf _) ?_
    rintro sz _ rfl
    refine Eqv.bind (e_part _ _ _) ?_
    rintro u _ rfl
    refine Eqv.bind (e_checkKey empty n _ _) ?_
    rintro _ _ rfl
    exact Eqv.pure (Or.inl ⟨_,_,rfl,rfl,rfl⟩)
   |_=>simp only[rv];exact Eqv.stuck _
  |struct fs=>
   cases v with
   |agg cs=>
    simp only[rv]
    refine Eqv.bind (R:=Eq) ?_ (by rintro _ _ rfl;exact Eqv.pure rfl)
    haveI:=lawful
    rw[←Array.forIn_toList,←Array.forIn_toList]
    refine e_forIn (R:=Eq) (fun f a b hab=>?_) fs.toList _ _ rfl
    subst hab
    refine Eqv.same_ite (fun _=>?_) (fun _=>Eqv.pure (Or.inl ⟨_,_,rfl,rfl,rfl⟩))
    refine Eqv.bind (e_part _ _ _) ?_
    rintro u _ rfl
    refine Eqv.bind (e_checkKey empty n _ _) ?_
    rintro _ _ rfl
    exact Eqv.pure (Or.inl ⟨_,_,rfl,rfl,rfl⟩)
   |_=>simp only[rv];exact Eqv.stuck _
  |_=>cases v<;>simp only<;>exact Eqv.pure rfl
def re (ρ:Rn)(e:MapEntry):MapEntry:={ e with key:=rv ρ e.key,val:=rv ρ e.val }
theorem e_findAsking (hp:Plain P ρ)(t:TypeId)(k:Value)(hk:GV P ρ k):∀ (es:List MapEntry) (i:Nat),(∀ e∈es,GV P ρ e.key)→Eqv P ρ (fun x y=>y=x.map fun z=>(z.1,rv ρ z.2)) (Instr.findAsking t k es i) (Instr.findAsking t (rv ρ k) (es.map (re ρ)) i)
 |[],i,_=>Eqv.pure rfl
 |e::es,i,h=>by
  simp only[List.map_cons,Instr.findAsking]
  refine Eqv.bind (e_equal hp t k e.key hk (h e (by simp))) ?_
  rintro b _ rfl
  exact Eqv.same_ite (fun _=>Eqv.pure rfl) (fun _=>e_findAsking hp t k hk es (i+1) fun x hx=>h x (by simp[hx]))
theorem sameNow_rv (d:TypeDesc)(k x:Value):Instr.sameNow d (rv ρ k) (rv ρ x)=Instr.sameNow d k x:=by
 cases d<;>cases k<;>simp only[rv,Instr.sameNow]<;>cases x<;>simp only[rv]
theorem findNow_rv (d:TypeDesc)(k:Value):∀ (es:List MapEntry) (i:Nat),Instr.findNow d (rv ρ k) (es.map (re ρ)) i=(Instr.findNow d k es i).map fun x=>x.map fun z=>(z.1,rv ρ z.2)
 |[],i=>rfl
 |e::es,i=>by
  simp only[List.map_cons,Instr.findNow,re,sameNow_rv]
  split
  ·rfl
  ·exact findNow_rv d k es (i+1)
  ·rfl
theorem e_findKey (hp:Plain P ρ)(t:TypeId)(k:Value)(es:List MapEntry)(hk:GV P ρ k)(he:∀ e∈es,GV P ρ e.key):Eqv P ρ (fun x y=>y=x.map fun z=>(z.1,rv ρ z.2)) (Instr.findKey t k es) (Instr.findKey t (rv ρ k) (es.map (re ρ))):=by
 unfold Instr.findKey
 refine Eqv.bind (e_underlying t) ?_
 rintro d d' ⟨e,_⟩
 subst e
 rw[findNow_rv]
 cases Instr.findNow d' k es 0 with
 |some r=>exact Eqv.pure rfl
 |none=>exact e_findAsking hp t k hk es 0 he
theorem go_map {es:Array MapEntry}{c:Nat}(h:GO P ρ (.map es c)):∀ e∈es.toList,GV P ρ e.key:=by
 intro e he
 refine h.imp id fun h=>?_
 simp only[ro,Obj.map.injEq,and_true] at h
 obtain⟨i,hi,rfl⟩:=Array.mem_iff_getElem.1 (Array.mem_toList_iff.1 he)
 have e1:(es.map fun e=>{ e with key:=rv ρ e.key,val:=rv ρ e.val }:Array MapEntry)[i]'(by simpa using hi)=es[i]:=by simp only[h]
 simp only[Array.getElem_map] at e1
 generalize es[i]=x at e1 ⊢
 obtain⟨k,v,b⟩:=x
 simp only[MapEntry.mk.injEq,and_true] at e1 ⊢
 exact e1.1
theorem e_lookup (hp:Plain P ρ)(t:TypeId)(x k:Value)(ok:Bool)(hk:GV P ρ k):Eqv P ρ (VV ρ) (Instr.lookup t x k ok) (Instr.lookup t (rv ρ x) (rv ρ k) ok):=by
 unfold Instr.lookup
 generalize 10000=N
 refine Eqv.bind (e_underlying t) ?_
 rintro d d' ⟨e,_⟩
 subst e
 cases d' with
 |map key elem=>
  dsimp only
  cases x with
  |map r=>
   cases r with
   |none=>
    simp only[rv,Option.map]
    refine Eqv.bind (R:=fun(es es':Array MapEntry)=>es'=es.map (re ρ)∧∀ e∈es.toList,GV P ρ e.key) (Eqv.pure ⟨by simp,by simp⟩) ?_
    rintro es _ ⟨rfl,he⟩
    rw[show(es.map (re ρ)).isEmpty=es.isEmpty by simp[Array.isEmpty]]
    refine Eqv.bind (e_checkKey _ _ _ _) ?_
    rintro _ _ rfl
    rw[Array.toList_map]
    refine Eqv.bind (e_findKey hp key k es.toList hk he) ?_
    rintro r _ rfl
    cases r with
    |some z=>exact Eqv.pure (by cases ok<;>simp[VV,rv])
    |none=>
     simp only[Option.map]
     refine Eqv.bind (e_zeroValue hp elem) ?_
     rintro v _ ⟨rfl,hv⟩
     exact Eqv.pure (by cases ok<;>simp[VV,rv,hv])
   |some r=>
    simp only[rv,Option.map]
    refine Eqv.bind (e_getObj r) ?_
    rintro o _ ⟨rfl,ho⟩
    cases o with
    |map es0 c=>
     refine Eqv.bind (R:=fun(es es':Array MapEntry)=>es'=es.map (re ρ)∧∀ e∈es.toList,GV P ρ e.key) (Eqv.pure ⟨rfl,go_map ho⟩) ?_
     rintro es _ ⟨rfl,he⟩
     rw[show(es.map (re ρ)).isEmpty=es.isEmpty by simp[Array.isEmpty]]
     refine Eqv.bind (e_checkKey _ _ _ _) ?_
     rintro _ _ rfl
     rw[Array.toList_map]
     refine Eqv.bind (e_findKey hp key k es.toList hk he) ?_
     rintro r _ rfl
     cases r with
     |some z=>exact Eqv.pure (by cases ok<;>simp[VV,rv])
     |none=>
      simp only[Option.map]
      refine Eqv.bind (e_zeroValue hp elem) ?_
      rintro v _ ⟨rfl,hv⟩
      exact Eqv.pure (by cases ok<;>simp[VV,rv,hv])
    |_=>exact Eqv.stuck _
  |_=>simp only[rv];exact Eqv.stuck _
 |_=>exact Eqv.stuck _
theorem sameBits_rv (hp:Plain P ρ):∀ (n:Nat) (x y:Value),Instr.sameBits n (rv ρ x) (rv ρ y)=Instr.sameBits n x y:=by
 intro n
 induction n with
 |zero=>
  intro x y
  cases x<;>cases y<;>simp only[rv,Instr.sameBits]
  ·rename_i a b;cases a<;>cases b<;>simp[beq_ra hp]
  ·rename_i a b;cases a<;>cases b<;>simp[beq_ρ hp]
 |succ n ih=>
  intro x y
  cases x<;>cases y<;>simp only[rv,Instr.sameBits,ih]
  ·rename_i a b;cases a<;>cases b<;>simp[beq_ra hp]
  ·rename_i a b;cases a<;>cases b<;>simp[beq_ρ hp]
  ·rename_i a b
   simp only[Array.size_map,Array.toList_map,List.zip_map,List.all_map]
   congr 2
   funext z
   exact ih z.1 z.2
theorem e_keyThatStays (hp:Plain P ρ)(x y:Value):Eqv P ρ (VV ρ) (Instr.keyThatStays x y) (Instr.keyThatStays (rv ρ x) (rv ρ y)):=by
 unfold Instr.keyThatStays
 rw[sameBits_rv hp]
 refine Eqv.same_ite (fun _=>Eqv.pure rfl) (fun _=>?_)
 refine Eqv.bind (e_choose _) ?_
 rintro n _ rfl
 exact Eqv.pure (by simp only[VV];split<;>rfl)
theorem e_mapUpdate (hp:Plain P ρ)(t:TypeId)(m k v:Value)(hk:GV P ρ k):Eqv P ρ Eq (Instr.mapUpdate t m k v) (Instr.mapUpdate t (rv ρ m) (rv ρ k) (rv ρ v)):=by
 unfold Instr.mapUpdate
 refine Eqv.bind (e_underlying t) ?_
 rintro d d' ⟨e,_⟩
 subst e
 cases d' with
 |map key elem=>
  dsimp only
  cases m with
  |map r=>
   cases r with
   |none=>simp only[rv,Option.map];exact e_runtimePanic _
   |some r=>
    simp only[rv,Option.map]
    refine Eqv.bind (e_getObj r) ?_
    rintro o _ ⟨rfl,ho⟩
    cases o with
    |map es c=>
     simp only[ro]
     refine Eqv.bind (e_checkKey _ _ _ _) ?_
     rintro _ _ rfl
     have hf:=e_findKey hp key k es.toList hk (go_map ho)
     rw[show es.toList.map (re ρ)=(es.map (fun e=>{ e with key:=rv ρ e.key,val:=rv ρ e.val }:MapEntry→MapEntry)).toList from(Array.toList_map ..).symm] at hf
     refine Eqv.bind hf ?_
     rintro q _ rfl
     cases q with
     |none=>
      refine(e_setObj (ρ:=ρ) r (.map (es.push { key:=k,val:=v,born:=c }) (c+1)) trivial).mono' ?_
      simp[ro]
     |some z=>
      simp only[Option.map]
      have hks:=e_keyThatStays (P:=P) hp (((es[z.1]?).map (·.key)).getD k) k
      have e1:rv ρ (((es[z.1]?).map (·.key)).getD k)=((((es.map (fun e=>{ e with key:=rv ρ e.key,val:=rv ρ e.val }:MapEntry→MapEntry))[z.1]?).map (·.key)).getD (rv ρ k)):=by
       rw[Array.getElem?_map]
       cases es[z.1]?<;>rfl
      rw[e1] at hks
      refine Eqv.bind hks ?_
      rintro k2 _ rfl
      refine(e_setObj (ρ:=ρ) r (.map (es.modify z.1 fun e=>{ e with key:=k2,val:=v }) c) trivial).mono' ?_
      simp only[ro]
      congr 2
      apply Array.ext
      ·simp
      ·intro i h1 h2
       simp only[Array.getElem_map,Array.getElem_modify]
       split<;>rfl
    |_=>simp only[ro];exact Eqv.stuck _
  |_=>simp only[rv];exact Eqv.stuck _
 |_=>exact Eqv.stuck _
theorem e_makeMap (t:TypeId)(r:Option Value):Eqv P ρ (VV ρ) (Instr.makeMap t r) (Instr.makeMap t (r.map (rv ρ))):=by
 unfold Instr.makeMap
 have last:Eqv P ρ (VV ρ) (do pure (.map (some (←newObj (.map #[] 0)))):Sem Value) (do pure (.map (some (←newObj (.map #[] 0)))):Sem Value):=by
  have:=e_newObj (P:=P) (ρ:=ρ) (.map #[] 0) trivial
  simp only[ro,Array.map_empty] at this
  refine Eqv.bind this ?_
  rintro r _ rfl
  exact Eqv.pure (by simp[VV,rv])
 cases r with
 |none=>exact last
 |some h=>
  simp only[Option.map]
  refine Eqv.bind (e_underlying t) ?_
  rintro d d' ⟨e,_⟩
  subst e
  cases d' with
  |map key elem=>
   dsimp only
   refine Eqv.bind (e_asInt h) ?_
   rintro _ _ rfl
   exact last
  |_=>exact e_no (Eqv.stuck _)
theorem e_typeAssert (hp:Plain P ρ)(x:Value)(t u:TypeId):Eqv P ρ (VV ρ) (Instr.typeAssert x t u true) (Instr.typeAssert (rv ρ x) t u true):=by
 unfold Instr.typeAssert
 have fails:∀ (s d:Option TypeId) (m:String),Eqv P ρ (VV ρ) (do pure (.tuple #[←zeroValue u,.bool false]):Sem Value) (do pure (.tuple #[←zeroValue u,.bool false]):Sem Value):=fun s d m=>by
  refine Eqv.bind (e_zeroValue hp u) ?_
  rintro v _ ⟨rfl,hv⟩
  exact Eqv.pure (by simp[VV,rv,hv])
 have holds:∀ v:Value,Eqv P ρ (VV ρ) (pure (.tuple #[v,.bool true]):Sem Value) (pure (.tuple #[rv ρ v,.bool true]):Sem Value):=fun v=>Eqv.pure (by simp[VV,rv])
 refine Eqv.bind (e_underlying u) ?_
 rintro d d' ⟨e,_⟩
 subst e
 cases x with
 |nilIface=>cases d'<;>simp only[rv]<;>exact fails none none ""
 |iface a v=>
  cases d' with
  |interface ms=>
   simp only[rv]
   refine Eqv.bind (e_typeInfo a) ?_
   rintro i i' ⟨e,_⟩
   subst e
   split
   ·have:=holds (.iface a v)
    rw[show rv ρ (.iface a v)= .iface a (rv ρ v) by simp only[rv]] at this
    exact this
   ·exact fails none none ""
  |_=>simp only[rv];exact Eqv.same_ite (fun _=>holds v) (fun _=>fails none none "")
 |_=>cases d'<;>simp only[rv]<;>exact Eqv.stuck _
end
theorem map_fix {f:Value→Value}{cs:Array Value}:cs.map f=cs↔∀ x∈cs,f x=x:=by
 constructor
 ·intro h x hx
  obtain⟨i,hi,rfl⟩:=Array.mem_iff_getElem.1 hx
  have:(cs.map f)[i]'(by simpa using hi)=cs[i]:=by simp only[h]
  simpa using this
 ·intro h
  apply Array.ext
  ·simp
  ·intro i h1 h2
   simp only[Array.getElem_map]
   exact h _ (Array.getElem_mem h2)
theorem map_congr' {f g:Value→Value}{cs:Array Value}(h:∀ x∈cs,f x=g x):cs.map f=cs.map g:=by
 apply Array.ext
 ·simp
 ·intro i h1 h2
  simp only[Array.getElem_map]
  exact h _ (Array.getElem_mem (by simpa using h1))
section
variable {σ σ':Rn}
theorem fix_mono (hb:∀ r,σ r=r→σ' r=r)(hf:∀ x,σ.f x=x→σ'.f x=x):∀ v:Value,rv σ v=v→rv σ' v=v
 | .pointer none,_=>by simp[rv]
 | .pointer (some a),h=>by
   simp only[rv,Option.map,Value.pointer.injEq,Option.some.injEq,ra] at h ⊢
   obtain⟨b,o,s⟩:=a
   simp only[Addr.mk.injEq,and_true] at h ⊢
   exact hb _ h
 | .slice none _ _,_=>by simp[rv]
 | .slice (some a) l c,h=>by
   simp only[rv,Option.map,Value.slice.injEq,Option.some.injEq,ra,and_true] at h ⊢
   obtain⟨b,o,s⟩:=a
   simp only[Addr.mk.injEq,and_true] at h ⊢
   exact hb _ h
 | .map none,_=>by simp[rv]
 | .map (some r),h=>by
   simp only[rv,Option.map,Value.map.injEq,Option.some.injEq] at h ⊢
   exact hb _ h
 | .chan none,_=>by simp[rv]
 | .chan (some r),h=>by
   simp only[rv,Option.map,Value.chan.injEq,Option.some.injEq] at h ⊢
   exact hb _ h
 | .func fn first captured,h=>by
   simp only[rv,Value.func.injEq] at h ⊢
   refine⟨hf _ h.1,map_fix.2 fun x hx=>?_,map_fix.2 fun x hx=>?_⟩
   ·have:=Array.sizeOf_lt_of_mem hx
    exact fix_mono hb hf x (map_fix.1 h.2.1 x hx)
   ·have:=Array.sizeOf_lt_of_mem hx
    exact fix_mono hb hf x (map_fix.1 h.2.2 x hx)
 | .iface t v,h=>by
   simp only[rv,Value.iface.injEq,true_and] at h ⊢
   exact fix_mono hb hf v h
 | .agg cs,h=>by
   simp only[rv,Value.agg.injEq] at h ⊢
   refine map_fix.2 fun x hx=>?_
   have:=Array.sizeOf_lt_of_mem hx
   exact fix_mono hb hf x (map_fix.1 h x hx)
 | .tuple cs,h=>by
   simp only[rv,Value.tuple.injEq] at h ⊢
   refine map_fix.2 fun x hx=>?_
   have:=Array.sizeOf_lt_of_mem hx
   exact fix_mono hb hf x (map_fix.1 h x hx)
 | .bool _,_=>by simp[rv]
 | .int _ _,_=>by simp[rv]
 | .float _ _,_=>by simp[rv]
 | .complex _ _ _,_=>by simp[rv]
 | .string _,_=>by simp[rv]
 | .nilFunc,_=>by simp[rv]
 | .nilIface,_=>by simp[rv]
termination_by v=>SizeOf.sizeOf v
theorem agree {ρ ρ':Rn}(hb:∀ r,σ r=r→ρ r=ρ' r)(hf:∀ x,σ.f x=x→ρ.f x=ρ'.f x):∀ v:Value,rv σ v=v→rv ρ v=rv ρ' v
 | .pointer none,_=>by simp[rv]
 | .pointer (some a),h=>by
   simp only[rv,Option.map,Value.pointer.injEq,Option.some.injEq,ra] at h ⊢
   obtain⟨b,o,s⟩:=a
   simp only[Addr.mk.injEq,and_true] at h ⊢
   exact hb _ h
 | .slice none _ _,_=>by simp[rv]
 | .slice (some a) l c,h=>by
   simp only[rv,Option.map,Value.slice.injEq,Option.some.injEq,ra,and_true] at h ⊢
   obtain⟨b,o,s⟩:=a
   simp only[Addr.mk.injEq,and_true] at h ⊢
   exact hb _ h
 | .map none,_=>by simp[rv]
 | .map (some r),h=>by
   simp only[rv,Option.map,Value.map.injEq,Option.some.injEq] at h ⊢
   exact hb _ h
 | .chan none,_=>by simp[rv]
 | .chan (some r),h=>by
   simp only[rv,Option.map,Value.chan.injEq,Option.some.injEq] at h ⊢
   exact hb _ h
 | .func fn first captured,h=>by
   simp only[rv,Value.func.injEq] at h ⊢
   refine⟨hf _ h.1,map_congr' fun x hx=>?_,map_congr' fun x hx=>?_⟩
   ·have:=Array.sizeOf_lt_of_mem hx
    exact agree hb hf x (map_fix.1 h.2.1 x hx)
   ·have:=Array.sizeOf_lt_of_mem hx
    exact agree hb hf x (map_fix.1 h.2.2 x hx)
 | .iface t v,h=>by
   simp only[rv,Value.iface.injEq,true_and] at h ⊢
   exact agree hb hf v h
 | .agg cs,h=>by
   simp only[rv,Value.agg.injEq] at h ⊢
   refine map_congr' fun x hx=>?_
   have:=Array.sizeOf_lt_of_mem hx
   exact agree hb hf x (map_fix.1 h x hx)
 | .tuple cs,h=>by
   simp only[rv,Value.tuple.injEq] at h ⊢
   refine map_congr' fun x hx=>?_
   have:=Array.sizeOf_lt_of_mem hx
   exact agree hb hf x (map_fix.1 h x hx)
 | .bool _,_=>by simp[rv]
 | .int _ _,_=>by simp[rv]
 | .float _ _,_=>by simp[rv]
 | .complex _ _ _,_=>by simp[rv]
 | .string _,_=>by simp[rv]
 | .nilFunc,_=>by simp[rv]
 | .nilIface,_=>by simp[rv]
termination_by v=>SizeOf.sizeOf v
theorem ra_fix {a:Addr}:ra σ a=a↔σ a.block=a.block:=by
 obtain⟨b,o,s⟩:=a
 simp[ra]
theorem fixO_mono (hb:∀ r,σ r=r→σ' r=r)(hf:∀ x,σ.f x=x→σ'.f x=x){o:Obj}(h:ro σ o=o):ro σ' o=o:=by
 have hv:=fix_mono hb hf
 cases o with
 |cells c t f=>simp only[ro,Obj.cells.injEq,and_true] at h ⊢;exact map_fix.2 fun x hx=>hv x (map_fix.1 h x hx)
 |pending c t=>simp only[ro,Obj.pending.injEq,and_true] at h ⊢;exact map_fix.2 fun x hx=>hv x (map_fix.1 h x hx)
 |chan a b c d e f=>simp only[ro,Obj.chan.injEq,and_true,true_and] at h ⊢;exact map_fix.2 fun x hx=>hv x (map_fix.1 h x hx)
 |view a t=>simp only[ro,Obj.view.injEq,and_true] at h ⊢;exact ra_fix.2 (hb _ (ra_fix.1 h))
 |number a t=>simp only[ro,Obj.number.injEq,and_true] at h ⊢;exact ra_fix.2 (hb _ (ra_fix.1 h))
 |map es c=>
  simp only[ro,Obj.map.injEq,and_true] at h ⊢
  apply Array.ext
  ·simp
  ·intro i h1 h2
   have e:(es.map fun e=>{ e with key:=rv σ e.key,val:=rv σ e.val }:Array MapEntry)[i]'(by simpa using h2)=es[i]:=by simp only[h]
   simp only[Array.getElem_map] at e ⊢
   generalize es[i]=x at e ⊢
   obtain⟨k,v,b⟩:=x
   simp only[MapEntry.mk.injEq,and_true] at e ⊢
   exact⟨hv _ e.1,hv _ e.2⟩
 |_=>rfl
theorem agreeO {ρ ρ':Rn}(hb:∀ r,σ r=r→ρ r=ρ' r)(hf:∀ x,σ.f x=x→ρ.f x=ρ'.f x){o:Obj}(h:ro σ o=o):ro ρ o=ro ρ' o:=by
 have hv:=agree hb hf
 cases o with
 |cells c t f=>simp only[ro,Obj.cells.injEq,and_true] at h ⊢;exact map_congr' fun x hx=>hv x (map_fix.1 h x hx)
 |pending c t=>simp only[ro,Obj.pending.injEq,and_true] at h ⊢;exact map_congr' fun x hx=>hv x (map_fix.1 h x hx)
 |chan a b c d e f=>simp only[ro,Obj.chan.injEq,and_true,true_and] at h ⊢;exact map_congr' fun x hx=>hv x (map_fix.1 h x hx)
 |view a t=>simp only[ro,Obj.view.injEq,and_true] at h ⊢;obtain⟨b,o,s⟩:=a;simp only[ra,Addr.mk.injEq,and_true] at h ⊢;exact hb _ h
 |number a t=>simp only[ro,Obj.number.injEq,and_true] at h ⊢;obtain⟨b,o,s⟩:=a;simp only[ra,Addr.mk.injEq,and_true] at h ⊢;exact hb _ h
 |map es c=>
  simp only[ro,Obj.map.injEq,and_true] at h ⊢
  apply Array.ext
  ·simp
  ·intro i h1 h2
   have hi:i<es.size:=by simpa using h1
   have e:(es.map fun e=>{ e with key:=rv σ e.key,val:=rv σ e.val }:Array MapEntry)[i]'(by simpa using hi)=es[i]:=by simp only[h]
   simp only[Array.getElem_map] at e ⊢
   generalize es[i]=x at e ⊢
   obtain⟨k,v,b⟩:=x
   simp only[MapEntry.mk.injEq,and_true] at e ⊢
   exact⟨hv _ e.1,hv _ e.2⟩
 |_=>rfl
end
structure Sd where
 f:FuncId→Bool
 d:Nat
 g:Nat
instance:CoeFun Sd (fun _=>FuncId→Bool):=⟨Sd.f⟩
structure FixS (S:Sd) (ρ:Rn):Prop where
 f:∀ g,S g=true→ρ.f (.func g)= .func g
 g:∀ g,S.d≤g→g<S.g→ρ g=g
 l:∀ g,g<S.d→g<ρ.d∨ρ g=g
def sg (S:Sd)(b0 n:Nat):Rn where
 d:=b0
 b:=fun r=>if b0≤r∧r<n then r else r+n+1
 f:=fun
  | .func g=>if S g then .func g else .method ""
  | .method _=> .yield 0
  | .methodOf _ _=> .yield 0
  | .via _ _ _ _=> .yield 0
  | .yield _=> .method ""
section
variable {S:Sd} {b0 n m:Nat}
theorem sg_fix {r:Nat}:sg S b0 n r=r↔b0≤r∧r<n:=by
 show(if b0≤r∧r<n then r else r+n+1)=r↔_
 split
 ·rename_i h;simp[h]
 ·rename_i h;constructor
  ·intro e;omega
  ·intro e;exact absurd e h
theorem sg_fixF {x:Fn}:(sg S b0 n).f x=x↔∃ g,x= .func g∧S g=true:=by
 cases x with
 |func g=>
  show(if S g then Fn.func g else .method "")= .func g↔_
  split
  ·rename_i h;simp[h]
  ·rename_i h;simp[h]
 |_=>simp[sg]
theorem fixS_sg {S:Sd}(h:S.g≤n):FixS S (sg S S.d n):=⟨fun g hg=>sg_fixF.2 ⟨g,rfl,hg⟩,fun _ h1 h2=>sg_fix.2 ⟨h1,by omega⟩,fun _ h=> .inl h⟩
theorem sg_inj (a b:Nat)(h:sg S b0 n a=sg S b0 n b):a=b:=by
 simp only[sg] at h
 split at h<;>split at h<;>omega
theorem sg_mono (h:n≤m):(∀ r,sg S b0 n r=r→sg S b0 m r=r)∧∀ x,(sg S b0 n).f x=x→(sg S b0 m).f x=x:=
 ⟨fun r hr=>sg_fix.2 (by have:=sg_fix.1 hr;omega),fun x hx=>sg_fixF.2 (sg_fixF.1 hx)⟩
end
end Go.Ren
