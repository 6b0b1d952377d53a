import Derived.Test.YtlhimdjkkiflhaaGreatDoorDeep01
namespace Go.Ren
section
variable {P:Program} {ρ:Rn} {α β α' β':Type}
theorem gv_agg {cs:Array Value}(h:GV P ρ (.agg cs)):Glob P ρ∨cs.map (rv ρ)=cs:=h.imp id fun h=>by simpa[rv] using h
theorem gv_iface {t:TypeId}{v:Value}(h:GV P ρ (.iface t v)):GV P ρ v:=h.imp id fun h=>by simpa[rv] using h
theorem gv_ptr {a:Addr}(h:GV P ρ (.pointer (some a))):GA P ρ a:=h.imp id fun h=>by simpa[rv] using h
theorem ga_glob {a:Addr}(h:GA P ρ a):(ra ρ a).block <P.globals.size↔a.block<P.globals.size:=by
 rcases h with h|h
 ·exact h _
 ·rw[h]
set_option maxHeartbeats 4000000 in
theorem e_equalIn (hp:Plain P ρ):∀ (n:Nat) (t:TypeId) (x y:Value),GV P ρ x→GV P ρ y→Eqv P ρ Eq (Op.equalIn n t x y) (Op.equalIn n t (rv ρ x) (rv ρ y))
 |0,t,x,y,_,_=>by unfold Op.equalIn;exact Eqv.unsupported _
 |n+1,t,x,y,hx,hy=>by
  unfold Op.equalIn
  refine Eqv.bind (e_underlying t) ?_
  rintro d d' ⟨e,_⟩
  subst e
  cases d' with
  |bool=>
   cases x<;>simp only[rv]<;>try exact Eqv.stuck _
   cases y<;>simp only[rv]<;>first|exact Eqv.stuck _|exact Eqv.pure rfl
  |string=>
   cases x<;>simp only[rv]<;>try exact Eqv.stuck _
   cases y<;>simp only[rv]<;>first|exact Eqv.stuck _|exact Eqv.pure rfl
  |int k=>
   cases x with
   |pointer a=>
    cases y with
    |pointer b=>
     cases a<;>cases b<;>simp only[rv,Option.map]<;>try exact Eqv.unsupported _
     rename_i a b
     refine Eqv.bind (e_behindNumber a (gv_ptr hx)) ?_
     rintro a1 _ ⟨rfl,ga⟩
     refine Eqv.bind (e_behindNumber b (gv_ptr hy)) ?_
     rintro b1 _ ⟨rfl,gb⟩
     refine Eqv.bind e_program ?_
     rintro _ _ ⟨rfl,rfl⟩
     have e1:((ra ρ a1.1).block==(ra ρ b1.1).block)=(a1.1.block==b1.1.block):=beq_ρ hp _ _
     have e2:decide ((ra ρ a1.1).block <P.globals.size)=decide (a1.1.block<P.globals.size):=by
      rw[decide_eq_decide]
      exact ga_glob ga
     simp only[e1,e2]
     refine Eqv.same_ite (fun _=>?_) (fun _=>?_)
     ·refine Eqv.bind (e_byteOf _) ?_
      rintro q _ rfl
      refine Eqv.bind (e_byteOf _) ?_
      rintro q2 _ rfl
      exact Eqv.pure rfl
     ·refine Eqv.bind (e_typeInfo _) ?_
      rintro i i' ⟨e,_⟩
      subst e
      rw[beq_ra hp]
      split
      ·exact Eqv.same_ite (fun _=>Eqv.pure rfl) (fun _=>Eqv.unsupported _)
      ·exact Eqv.unsupported _
    |int k' m=>
     cases a<;>simp only[rv,Option.map]
     ·exact Eqv.unsupported _
     ·rcases m with z|z
      ·cases z<;>first|exact Eqv.pure rfl|exact Eqv.unsupported _
      ·exact Eqv.unsupported _
    |_=>cases a<;>simp only[rv,Option.map]<;>exact Eqv.unsupported _
   |int k' m=>
    cases y with
    |pointer b=>
     cases b<;>simp only[rv,Option.map]
     ·rcases m with z|z
      ·cases z<;>first|exact Eqv.pure rfl|exact Eqv.unsupported _
      ·exact Eqv.unsupported _
     ·rcases m with z|z
      ·cases z<;>first|exact Eqv.pure rfl|exact Eqv.unsupported _
      ·exact Eqv.unsupported _
    |int k2 m2=>simp only[rv];exact Eqv.same_ite (fun _=>Eqv.pure rfl) (fun _=>Eqv.stuck _)
    |_=>simp only[rv];exact Eqv.stuck _
   |_=>cases y<;>simp only[rv]<;>first|exact Eqv.stuck _|exact Eqv.unsupported _
  |float k=>
   cases x<;>simp only[rv]<;>try exact Eqv.stuck _
   cases y<;>simp only[rv]<;>first|exact Eqv.stuck _|exact Eqv.same_ite (fun _=>Eqv.pure rfl) (fun _=>Eqv.stuck _)
  |complex k=>
   cases x<;>simp only[rv]<;>try exact Eqv.stuck _
   cases y<;>simp only[rv]<;>first|exact Eqv.stuck _|exact Eqv.same_ite (fun _=>Eqv.pure rfl) (fun _=>Eqv.stuck _)
  |pointer e=>
   cases x with
   |pointer a=>
    cases y with
    |pointer b=>
     cases a<;>cases b<;>simp only[rv,Option.map]<;>try exact Eqv.pure rfl
     refine Eqv.bind (e_sizeOf _) ?_
     rintro m _ rfl
     refine Eqv.same_ite (fun _=>e_sameAddr hp _ _) (fun _=>?_)
     rw[beq_ra hp]
     refine Eqv.same_ite (fun _=>Eqv.pure rfl) (fun _=>?_)
     refine Eqv.bind (e_choose _) ?_
     rintro q _ rfl
     exact Eqv.pure rfl
    |_=>cases a<;>simp only[rv,Option.map]<;>exact Eqv.stuck _
   |_=>cases y<;>simp only[rv]<;>exact Eqv.stuck _
  |unsafePointer=>
   cases x<;>simp only[rv]<;>try exact Eqv.stuck _
   cases y<;>simp only[rv]<;>first|exact Eqv.stuck _|exact e_samePointer hp _ _
  |chan dr e=>
   cases x<;>simp only[rv]<;>try exact Eqv.stuck _
   cases y<;>simp only[rv]<;>try exact Eqv.stuck _
   rename_i a b
   refine Eqv.pure ?_
   cases a<;>cases b<;>simp[beq_ρ hp]
  |interface ms=>
   cases x<;>simp only[rv]<;>try exact Eqv.stuck _
   all_goals cases y<;>simp only[rv]<;>try first|exact Eqv.stuck _|exact Eqv.pure rfl
   refine Eqv.same_ite (fun _=>Eqv.pure rfl) (fun _=>?_)
   refine Eqv.bind (e_typeInfo _) ?_
   rintro i i' ⟨e,_⟩
   subst e
   refine Eqv.same_ite (fun _=>?_) (fun _=>e_equalIn hp n _ _ _ (gv_iface hx) (gv_iface hy))
   refine Eqv.bind e_program ?_
   rintro _ _ ⟨rfl,rfl⟩
   refine Eqv.bind e_program ?_
   rintro _ _ ⟨rfl,rfl⟩
   refine Eqv.same_ite (fun _=>e_no (Eqv.unsupported _)) (fun _=>?_)
   refine Eqv.bind (e_typeStr _) ?_
   rintro q _ rfl
   exact e_runtimePanic _
  |struct fs=>
   cases x<;>simp only[rv]<;>try exact Eqv.stuck _
   cases y<;>simp only[rv]<;>try exact Eqv.stuck _
   have hl:∀ (xs ys:Array Value),(Glob P ρ∨xs.map (rv ρ)=xs)→(Glob P ρ∨ys.map (rv ρ)=ys)→Eqv P ρ Eq
    (forIn fs ((none,()):Option Bool×Unit) fun f _=>if f.name≠ "_" then do
      let a ←part f.type xs f.offset;let b ←part f.type ys f.offset;let r ←Op.equalIn n f.type a b
      if(!r)=true then pure (ForInStep.done (some false,())) else pure (ForInStep.yield (none,()))
      else pure (ForInStep.yield (none,())))
    (forIn fs ((none,()):Option Bool×Unit) fun f _=>if f.name≠ "_" then do
      let a ←part f.type (xs.map (rv ρ)) f.offset;let b ←part f.type (ys.map (rv ρ)) f.offset;let r ←Op.equalIn n f.type a b
      if(!r)=true then pure (ForInStep.done (some false,())) else pure (ForInStep.yield (none,()))
      else pure (ForInStep.yield (none,()))):=fun xs ys gx gy=>by
    rw[←Array.forIn_toList,←Array.forIn_toList]
    refine e_forIn (R:=Eq) (fun f a b hab=>?_) fs.toList _ _ rfl
    subst hab
    refine Eqv.same_ite (fun _=>?_) (fun _=>Eqv.pure (Or.inl ⟨_,_,rfl,rfl,rfl⟩))
    refine Eqv.bind (e_part' _ _ _ gx) ?_
    rintro v _ ⟨rfl,gv⟩
    refine Eqv.bind (e_part' _ _ _ gy) ?_
    rintro u _ ⟨rfl,gu⟩
    refine Eqv.bind (e_equalIn hp n _ _ _ gv gu) ?_
    rintro r _ rfl
    exact Eqv.same_ite (fun _=>Eqv.pure (Or.inr ⟨_,_,rfl,rfl,rfl⟩)) (fun _=>Eqv.pure (Or.inl ⟨_,_,rfl,rfl,rfl⟩))
   refine Eqv.bind e_program ?_
   rintro _ _ ⟨rfl,rfl⟩
   refine Eqv.same_ite (fun _=>e_no (Eqv.unsupported _)) (fun _=>?_)
   refine Eqv.bind (hl _ _ (gv_agg hx) (gv_agg hy)) ?_
   rintro r _ rfl
   split<;>exact Eqv.pure rfl
  |array m e=>
   cases x<;>simp only[rv]<;>try exact Eqv.stuck _
   cases y<;>simp only[rv]<;>try exact Eqv.stuck _
   refine Eqv.bind (e_sizeOf _) ?_
   rintro sz _ rfl
   refine Eqv.bind (R:=Eq) ?_ ?_
   ·haveI:=lawful
    rw[Std.Legacy.Range.forIn_eq_forIn_range',Std.Legacy.Range.forIn_eq_forIn_range']
    refine e_forIn (R:=Eq) (fun f a b hab=>?_) _ _ _ rfl
    subst hab
    refine Eqv.bind (e_part' _ _ _ (gv_agg hx)) ?_
    rintro v _ ⟨rfl,gv⟩
    refine Eqv.bind (e_part' _ _ _ (gv_agg hy)) ?_
    rintro u _ ⟨rfl,gu⟩
    refine Eqv.bind (e_equalIn hp n _ _ _ gv gu) ?_
    rintro r _ rfl
    exact Eqv.same_ite (fun _=>Eqv.pure (Or.inr ⟨_,_,rfl,rfl,rfl⟩)) (fun _=>Eqv.pure (Or.inl ⟨_,_,rfl,rfl,rfl⟩))
   ·rintro r _ rfl
    split<;>exact Eqv.pure rfl
  |slice e=>
   cases x with
   |slice a l c=>
    cases y with
    |slice b l2 c2=>cases a<;>cases b<;>simp only[rv,Option.map]<;>first|exact Eqv.pure rfl|exact Eqv.stuck _
    |_=>cases a<;>simp only[rv,Option.map]<;>exact Eqv.stuck _
   |_=>cases y<;>simp only[rv]<;>exact Eqv.stuck _
  |map k e=>
   cases x with
   |map a=>
    cases y with
    |map b=>cases a<;>cases b<;>simp only[rv,Option.map]<;>first|exact Eqv.pure rfl|exact Eqv.stuck _
    |_=>cases a<;>simp only[rv,Option.map]<;>exact Eqv.stuck _
   |_=>cases y<;>simp only[rv]<;>exact Eqv.stuck _
  |func ps rs v=>
   cases x<;>simp only[rv]<;>try exact Eqv.stuck _
   all_goals cases y<;>simp only[rv]<;>first|exact Eqv.stuck _|exact Eqv.pure rfl
  |_=>cases x<;>simp only<;>try exact Eqv.stuck _
end
section
variable {P:Program} {ρ:Rn} {α β α' β':Type}
theorem e_equal (hp:Plain P ρ)(t:TypeId)(x y:Value)(hx:GV P ρ x)(hy:GV P ρ y):Eqv P ρ Eq (Op.equal t x y) (Op.equal t (rv ρ x) (rv ρ y)):=e_equalIn hp _ t x y hx hy
set_option maxHeartbeats 4000000 in
theorem e_eqGuardIn:∀ (n:Nat) (t:TypeId) (x y:Value),Eqv P ρ Eq (Op.eqGuardIn n t x y) (Op.eqGuardIn n t (rv ρ x) (rv ρ y))
 |0,t,x,y=>by unfold Op.eqGuardIn;exact Eqv.unsupported _
 |n+1,t,x,y=>by
  unfold Op.eqGuardIn
  refine Eqv.bind (e_underlying t) ?_
  rintro d d' ⟨e,_⟩
  subst e
  cases d' with
  |interface ms=>cases x<;>cases y<;>simp only[rv]<;>exact Eqv.pure rfl
  |struct fs=>
   cases x<;>simp only[rv]<;>try exact Eqv.pure rfl
   cases y<;>simp only[rv]<;>try exact Eqv.pure rfl
   refine Eqv.bind (R:=Eq) ?_ ?_
   ·rw[←Array.forIn_toList,←Array.forIn_toList]
    refine e_forIn (R:=Eq) (fun f a b hab=>?_) fs.toList _ _ rfl
    subst hab
    refine Eqv.same_ite (fun _=>?_) (fun _=>Eqv.pure (Or.inl ⟨_,_,rfl,rfl,rfl⟩))
    refine Eqv.bind (e_part _ _ _) ?_
    rintro v _ rfl
    refine Eqv.bind (e_part _ _ _) ?_
    rintro u _ rfl
    refine Eqv.bind (e_eqGuardIn n _ _ _) ?_
    rintro r _ rfl
    exact Eqv.same_ite (fun _=>Eqv.pure (Or.inr ⟨_,_,rfl,rfl,rfl⟩)) (fun _=>Eqv.pure (Or.inl ⟨_,_,rfl,rfl,rfl⟩))
   ·rintro r _ rfl
    split<;>exact Eqv.pure rfl
  |array m e=>
   cases x<;>simp only[rv]<;>try exact Eqv.pure rfl
   cases y<;>simp only[rv]<;>try exact Eqv.pure rfl
   refine Eqv.bind (e_sizeOf _) ?_
   rintro sz _ rfl
   refine Eqv.bind (R:=Eq) ?_ ?_
   ·haveI:=lawful
    rw[Std.Legacy.Range.forIn_eq_forIn_range',Std.Legacy.Range.forIn_eq_forIn_range']
    refine e_forIn (R:=Eq) (fun f a b hab=>?_) _ _ _ rfl
    subst hab
    refine Eqv.bind (e_part _ _ _) ?_
    rintro v _ rfl
    refine Eqv.bind (e_part _ _ _) ?_
    rintro u _ rfl
    refine Eqv.bind (e_eqGuardIn n _ _ _) ?_
    rintro r _ rfl
    exact Eqv.same_ite (fun _=>Eqv.pure (Or.inr ⟨_,_,rfl,rfl,rfl⟩)) (fun _=>Eqv.pure (Or.inl ⟨_,_,rfl,rfl,rfl⟩))
   ·rintro r _ rfl
    split<;>exact Eqv.pure rfl
  |_=>cases x<;>simp only<;>exact Eqv.pure rfl
theorem e_eqGuard (op:BinOp)(t:TypeId)(x y:Operand)(a b:Value):Eqv P ρ Eq (eqGuard op t x y a b) (eqGuard op t x y (rv ρ a) (rv ρ b)):=by
 have hg:=e_eqGuardIn (P:=P) (ρ:=ρ) Op.maxDepth t a b
 unfold eqGuard
 refine Eqv.same_ite (fun _=>Eqv.pure rfl) (fun _=>?_)
 cases a<;>cases b<;>simp only[rv] at hg ⊢<;>try exact Eqv.pure rfl
 ·refine Eqv.same_ite (fun _=>Eqv.pure rfl) (fun _=>?_)
  refine Eqv.bind hg ?_
  rintro r _ rfl
  exact Eqv.same_ite (fun _=>Eqv.unsupported _) (fun _=>Eqv.pure rfl)
 ·refine Eqv.bind e_program ?_
  rintro _ _ ⟨rfl,rfl⟩
  refine Eqv.bind e_program ?_
  rintro _ _ ⟨rfl,rfl⟩
  refine Eqv.same_ite (fun _=>Eqv.pure rfl) (fun _=>?_)
  refine Eqv.bind hg ?_
  rintro r _ rfl
  exact Eqv.same_ite (fun _=>Eqv.unsupported _) (fun _=>Eqv.pure rfl)
theorem e_intArith (op:BinOp)(k:IntKind)(a b:Int):Eqv P ρ (VV ρ) (Op.intArith op k a b) (Op.intArith op k a b):=by
 cases op<;>simp only[Op.intArith]<;>first|exact Eqv.stuck _|exact Eqv.pure (by simp[VV,rv])
theorem e_intDiv (_hp:Plain P ρ)(op:BinOp)(k:IntKind)(a b:Int):Eqv P ρ (VV ρ) (Op.intDiv op k a b) (Op.intDiv op k a b):=by
 unfold Op.intDiv
 refine Eqv.same_ite (fun _=>e_runtimePanic _) (fun _=>?_)
 cases op<;>first|exact Eqv.stuck _|exact Eqv.pure (by simp[VV,rv])
theorem e_intBits (op:BinOp)(k:IntKind)(a b:Int):Eqv P ρ (VV ρ) (Op.intBits op k a b) (Op.intBits op k a b):=by
 cases op<;>simp only[Op.intBits]<;>first|exact Eqv.stuck _|exact Eqv.pure (by simp[VV,rv])
theorem e_intCmp (op:BinOp)(a b:Int):Eqv P ρ (VV ρ) (Op.intCmp op a b) (Op.intCmp op a b):=by
 cases op<;>simp only[Op.intCmp]<;>first|exact Eqv.stuck _|exact Eqv.pure (by simp[VV,rv])
theorem e_shift (_hp:Plain P ρ)(op:BinOp)(k:IntKind)(a:Int)(k2:IntKind)(b:Int):Eqv P ρ (VV ρ) (Op.shift op k a k2 b) (Op.shift op k a k2 b):=by
 unfold Op.shift
 refine Eqv.same_ite (fun _=>e_runtimePanic _) (fun _=>?_)
 cases op<;>first|exact Eqv.stuck _|exact Eqv.pure (by simp[VV,rv])
theorem e_stringOp (op:BinOp)(a b:ByteArray):Eqv P ρ (VV ρ) (Op.stringOp op a b) (Op.stringOp op a b):=by
 cases op<;>simp only[Op.stringOp]<;>first|exact Eqv.stuck _|exact Eqv.pure (by simp[VV,rv])|exact Eqv.same_ite (fun _=>Eqv.unsupported _) (fun _=>Eqv.pure (by simp[VV,rv]))
theorem e_unary (op:UnOp)(x:Value):Eqv P ρ (VV ρ) (Op.unary op x) (Op.unary op (rv ρ x)):=by
 cases x with
 |pointer a=>cases op<;>cases a<;>simp only[rv,Option.map,Op.unary]<;>first|exact Eqv.stuck _|exact Eqv.unsupported _
 |int k n=>cases op<;>simp only[rv,Op.unary]<;>first|exact Eqv.stuck _|exact e_intArith _ _ _ _|exact e_intBits _ _ _ _
 |_=>cases op<;>simp only[rv,Op.unary]<;>first|exact Eqv.stuck _|exact Eqv.pure (by simp[VV,rv])
def Alv (P:Program){α:Type}(A:α→Prop):Sem α→Prop
 | .pure a=>A a
 | .choose _ k=>∀ n,Alv P A (k n)
 | .program k=>Alv P A (k P)
 | .halt h=>Soft h
 |_=>False
theorem Alv.bind {A:α→Prop}{B:β→Prop}:∀ {s:Sem α} {f:α→Sem β},Alv P A s→(∀ a,A a→Alv P B (f a))→Alv P B (s>>=f)
 | .pure a,_f,h,hf=>hf a h
 | .choose _ _k,_f,h,hf=>fun n=>Alv.bind (h n) hf
 | .program k,_f,h,hf=>Alv.bind (s:=k P) h hf
 | .halt _,_f,h,_hf=>h
 | .load ..,_f,h,_hf=>h.elim
 | .store ..,_f,h,_hf=>h.elim
 | .new ..,_f,h,_hf=>h.elim
 | .shape ..,_f,h,_hf=>h.elim
 | .freeze ..,_f,h,_hf=>h.elim
 | .frozen ..,_f,h,_hf=>h.elim
 | .getObj ..,_f,h,_hf=>h.elim
 | .setObj ..,_f,h,_hf=>h.elim
 | .sys ..,_f,h,_hf=>h.elim
 | .mark ..,_f,h,_hf=>h.elim
theorem Alv.mono {A B:α→Prop}(hAB:∀ a,A a→B a):∀ {s:Sem α},Alv P A s→Alv P B s
 | .pure a,h=>hAB a h
 | .choose _ _k,h=>fun n=>Alv.mono hAB (h n)
 | .program k,h=>Alv.mono (s:=k P) hAB h
 | .halt _,h=>h
 | .load ..,h=>h.elim
 | .store ..,h=>h.elim
 | .new ..,h=>h.elim
 | .shape ..,h=>h.elim
 | .freeze ..,h=>h.elim
 | .frozen ..,h=>h.elim
 | .getObj ..,h=>h.elim
 | .setObj ..,h=>h.elim
 | .sys ..,h=>h.elim
 | .mark ..,h=>h.elim
theorem e_alv {A:α→Prop}{R:α→α→Prop}(hA:∀ a,A a→R a a):∀ {s:Sem α},Alv P A s→Eqv P ρ R s s
 | .pure a,h=>⟨a,rfl,hA a h⟩
 | .choose _ k,h=>⟨k,rfl,fun n=>e_alv hA (h n)⟩
 | .program k,h=>⟨k,rfl,e_alv (s:=k P) hA h⟩
 | .halt _,h=>h
 | .load ..,h=>h.elim
 | .store ..,h=>h.elim
 | .new ..,h=>h.elim
 | .shape ..,h=>h.elim
 | .freeze ..,h=>h.elim
 | .frozen ..,h=>h.elim
 | .getObj ..,h=>h.elim
 | .setObj ..,h=>h.elim
 | .sys ..,h=>h.elim
 | .mark ..,h=>h.elim
def Bare (v:Value):Prop:=∀ ρ:Rn,rv ρ v=v
theorem e_bare {s:Sem Value}(h:Alv P Bare s):Eqv P ρ (VV ρ) s s:=e_alv (fun _a h=>(h ρ).symm) h
theorem alv_jp (k:FloatKind)(q:Question)(r:Option Nat):Alv P (fun v=>∃ r,v= .float k r) (match r with|some r=>pure (Value.float k r)|none=>do let x ←choose q;pure (Value.float k x):Sem Value):=by
 cases r with
 |none=>exact fun n=>⟨_,rfl⟩
 |some r=>exact⟨r,rfl⟩
theorem alv_floatArith (op:BinOp)(k:FloatKind)(x y:Nat):Alv P (fun v=>∃ r,v= .float k r) (Op.floatArith op k x y):=by
 unfold Op.floatArith
 cases op<;>first|exact alv_jp k _ _|trivial
theorem bare_float (k:FloatKind)(r:Nat):Bare (.float k r):=fun ρ=>by simp[rv]
theorem bare_bool (b:Bool):Bare (.bool b):=fun ρ=>by simp[rv]
theorem alv_floatCmp (op:BinOp)(k:FloatKind)(x y:Nat):Alv P (fun v=>∃ r,v= .bool r) (Op.floatCmp op k x y):=by
 unfold Op.floatCmp
 cases op<;>first|exact⟨_,rfl⟩|trivial
open Op.Complex in
theorem alv_arith (op:BinOp)(k:FloatKind)(x y:Nat):Alv P (fun _=>True) (arith op k x y):=by
 unfold arith
 refine Alv.bind (alv_floatArith op k x y) ?_
 rintro _ ⟨r,rfl⟩
 trivial
open Op.Complex in
theorem alv_cmp (op:BinOp)(k:FloatKind)(x y:Nat):Alv P (fun _=>True) (cmp op k x y):=by
 unfold cmp
 refine Alv.bind (alv_floatCmp op k x y) ?_
 rintro _ ⟨r,rfl⟩
 trivial
open Op.Complex in
theorem alv_conv (k:FloatKind)(x:Nat)(d:FloatKind):Alv P (fun _=>True) (conv k x d):=by
 unfold conv
 split
 ·trivial
 ·refine Alv.bind (A:=fun v=>∃ k r,v= .float k r) ?_ ?_
  ·unfold Conv.floatToFloat
   split
   ·exact⟨_,_,rfl⟩
   ·split
    ·exact fun n=>⟨_,_,rfl⟩
    ·exact⟨_,_,rfl⟩
    ·dsimp only
     split
     ·exact fun n=>⟨_,_,rfl⟩
     ·exact⟨_,_,rfl⟩
  ·rintro _ ⟨_,r,rfl⟩
   trivial
open Op.Complex in
theorem alv_product (a b c d:Nat):Alv P (fun _=>True) (product a b c d):=by
 unfold product
 refine Alv.bind (alv_arith _ _ _ _) fun _ _=>Alv.bind (alv_arith _ _ _ _) fun _ _=>Alv.bind (alv_arith _ _ _ _) fun _ _=>Alv.bind (alv_arith _ _ _ _) fun _ _=>Alv.bind (alv_arith _ _ _ _) fun _ _=>Alv.bind (alv_arith _ _ _ _) fun _ _=>trivial
open Op.Complex in
theorem alv_corrected (s a b c d:Nat):Alv P (fun _=>True) (corrected s a b c d):=by
 unfold corrected
 refine Alv.bind (alv_arith _ _ _ _) fun _ _=>Alv.bind (alv_arith _ _ _ _) fun _ _=>Alv.bind (alv_arith _ _ _ _) fun _ _=>Alv.bind (alv_arith _ _ _ _) fun _ _=>Alv.bind (alv_arith _ _ _ _) fun _ _=>Alv.bind (alv_arith _ _ _ _) fun _ _=>Alv.bind (alv_arith _ _ _ _) fun _ _=>Alv.bind (alv_arith _ _ _ _) fun _ _=>trivial
open Op.Complex in
theorem alv_quotient (a b c d:Nat):Alv P (fun _=>True) (quotient a b c d):=by
 unfold quotient
 have tail:∀ x:Nat×Nat,Alv P (fun _=>True) (do
  let zero:=(←cmp .eql .f64 c 0)&&(←cmp .eql .f64 d 0)
  if !(isNaN x.1&&isNaN x.2) then pure x
  else if zero&&(!isNaN a||!isNaN b) then
   pure (←mul (copysign inf c) a,←mul (copysign inf c) b)
  else if(isInf a||isInf b)&&isFinite c&&isFinite d then corrected inf (inf2one a) (inf2one b) c d
  else if(isInf c||isInf d)&&isFinite a&&isFinite b then corrected 0 a b (inf2one c) (inf2one d)
  else pure x:Sem (Nat×Nat)):=fun x=>by
  refine Alv.bind (alv_cmp _ _ _ _) fun _ _=>Alv.bind (alv_cmp _ _ _ _) fun _ _=>?_
  dsimp only
  split
  ·trivial
  ·split
   ·exact Alv.bind (alv_arith _ _ _ _) fun _ _=>Alv.bind (alv_arith _ _ _ _) fun _ _=>trivial
   ·split
    ·exact alv_corrected _ _ _ _ _
    ·split
     ·exact alv_corrected _ _ _ _ _
     ·trivial
 refine Alv.bind (alv_cmp _ _ _ _) fun q _=>?_
 cases q
 ·refine Alv.bind (alv_arith _ _ _ _) fun _ _=>Alv.bind (alv_arith _ _ _ _) fun _ _=>Alv.bind (alv_arith _ _ _ _) fun _ _=>Alv.bind (alv_arith _ _ _ _) fun _ _=>Alv.bind (alv_arith _ _ _ _) fun _ _=>Alv.bind (alv_arith _ _ _ _) fun _ _=>Alv.bind (alv_arith _ _ _ _) fun _ _=>Alv.bind (alv_arith _ _ _ _) fun _ _=>Alv.bind (alv_arith _ _ _ _) fun _ _=>?_
  exact tail (_,_)
 ·refine Alv.bind (alv_arith _ _ _ _) fun _ _=>Alv.bind (alv_arith _ _ _ _) fun _ _=>Alv.bind (alv_arith _ _ _ _) fun _ _=>Alv.bind (alv_arith _ _ _ _) fun _ _=>Alv.bind (alv_arith _ _ _ _) fun _ _=>Alv.bind (alv_arith _ _ _ _) fun _ _=>Alv.bind (alv_arith _ _ _ _) fun _ _=>Alv.bind (alv_arith _ _ _ _) fun _ _=>Alv.bind (alv_arith _ _ _ _) fun _ _=>?_
  exact tail (_,_)
open Op.Complex in
theorem alv_complexOp (op:BinOp)(k:FloatKind)(a b c d:Nat):Alv P Bare (Op.complexOp op k a b c d):=by
 have bc:∀ a b,Bare (.complex k a b):=fun a b ρ=>by simp[rv]
 unfold Op.complexOp
 cases op<;>first
  |exact Alv.bind (alv_arith _ _ _ _) fun _ _=>Alv.bind (alv_arith _ _ _ _) fun _ _=>bc _ _
  |exact Alv.bind (alv_cmp _ _ _ _) fun _ _=>Alv.bind (alv_cmp _ _ _ _) fun _ _=>bare_bool _
  |(refine Alv.bind (alv_conv _ _ _) fun _ _=>Alv.bind (alv_conv _ _ _) fun _ _=>Alv.bind (alv_conv _ _ _) fun _ _=>Alv.bind (alv_conv _ _ _) fun _ _=>?_
    first
    |exact Alv.bind (alv_product _ _ _ _) fun _ _=>Alv.bind (alv_conv _ _ _) fun _ _=>Alv.bind (alv_conv _ _ _) fun _ _=>bc _ _
    |exact Alv.bind (alv_quotient _ _ _ _) fun _ _=>Alv.bind (alv_conv _ _ _) fun _ _=>Alv.bind (alv_conv _ _ _) fun _ _=>bc _ _)
  |trivial
end
end Go.Ren
namespace Go.Ren
open Go
section
variable {P:Program} {ρ:Rn} {α β α' β':Type}
theorem e_twoPlaces (hp:Plain P ρ)(a b:Addr)(ha:GA P ρ a):Eqv P ρ Eq (Op.twoPlaces a b) (Op.twoPlaces (ra ρ a) (ra ρ b)):=by
 unfold Op.twoPlaces
 refine Eqv.bind e_program ?_
 rintro _ _ ⟨rfl,rfl⟩
 have e1:((ra ρ a).block != (ra ρ b).block)=(a.block != b.block):=by
  show(!((ra ρ a).block==(ra ρ b).block))=_
  rw[show((ra ρ a).block==(ra ρ b).block)=(a.block==b.block) from beq_ρ hp _ _];rfl
 have e2:decide ((ra ρ a).block≥P.globals.size)=decide (a.block≥P.globals.size):=by
  rw[decide_eq_decide];have:=ga_glob ha;omega
 simp only[e1,e2]
 refine Eqv.same_ite (fun _=>e_no (Eqv.unsupported _)) (fun _=>?_)
 refine Eqv.bind (e_byteOf _) ?_
 rintro x _ rfl
 refine Eqv.bind (e_byteOf _) ?_
 rintro y _ rfl
 exact Eqv.pure rfl
theorem e_addrSub (hp:Plain P ρ)(k:IntKind)(a b:Addr)(ha:GA P ρ a):Eqv P ρ (VV ρ) (Op.addrSub k a b) (Op.addrSub k (ra ρ a) (ra ρ b)):=by
 unfold Op.addrSub
 refine Eqv.bind (e_twoPlaces hp a b ha) ?_
 rintro x _ rfl
 exact Eqv.pure (by simp[VV,rv])
theorem e_addrCmp (hp:Plain P ρ)(op:BinOp)(a b:Addr)(ha:GA P ρ a):Eqv P ρ (VV ρ) (Op.addrCmp op a b) (Op.addrCmp op (ra ρ a) (ra ρ b)):=by
 unfold Op.addrCmp
 refine Eqv.bind (e_twoPlaces hp a b ha) ?_
 rintro x _ rfl
 cases op<;>first|exact Eqv.unsupported _|exact Eqv.pure (by simp[VV,rv])
theorem e_addrMod (k:IntKind)(a:Addr)(n:Int):Eqv P ρ (VV ρ) (Op.addrMod k a n) (Op.addrMod k (ra ρ a) n):=by
 unfold Op.addrMod
 refine Eqv.bind (e_shape a.block) ?_
 rintro sh _ rfl
 cases sh with
 |none=>exact Eqv.unsupported _
 |some x=>
  obtain⟨e,m⟩:=x
  dsimp only
  refine Eqv.bind (e_typeInfo _) ?_
  rintro i i' ⟨e,_⟩
  subst e
  refine Eqv.same_ite (fun _=>e_no (Eqv.unsupported _)) (fun _=>?_)
  refine Eqv.bind (e_byteOf _) ?_
  rintro q _ rfl
  exact Eqv.pure (by simp[VV,rv])
theorem e_unsafeAdd (ts:Array TypeId)(t:TypeId)(a:Option Addr)(y:Value):Eqv P ρ (VV ρ) (Builtin.unsafeAdd_ ts t #[.pointer a,y]) (Builtin.unsafeAdd_ ts t #[.pointer (a.map (ra ρ)),rv ρ y]):=by
 unfold Builtin.unsafeAdd_
 dsimp only
 refine Eqv.bind (e_asInt y) ?_
 rintro n _ rfl
 refine Eqv.same_ite (fun _=>?_) (fun _=>?_)
 ·cases a with
  |none=>exact Eqv.unsupported _
  |some a=>
   simp only[Option.map]
   refine Eqv.bind (e_viewAt a.block) ?_
   rintro x _ rfl
   simp only[Option.isSome_map]
   exact Eqv.same_ite (fun _=>e_no (Eqv.unsupported _)) (fun _=>Eqv.pure (by simp[VV,rv]))
 ·refine Eqv.same_ite (fun _=>e_no (Eqv.unsupported _)) (fun _=>?_)
  cases a with
  |none=>exact Eqv.unsupported _
  |some a=>
   simp only[Option.map]
   refine Eqv.bind (e_shape a.block) ?_
   rintro sh _ rfl
   cases sh with
   |none=>exact Eqv.unsupported _
   |some x=>
    obtain⟨e,m⟩:=x
    dsimp only
    refine Eqv.bind e_program ?_
    rintro _ _ ⟨rfl,rfl⟩
    have:(ra ρ a).off=a.off:=rfl
    rw[this]
    split
    ·exact Eqv.pure (by simp[VV,rv,ra])
    ·exact Eqv.unsupported _
theorem e_asNumber (a:Addr)(l:Bool):Eqv P ρ (VV ρ) (asNumber a l) (asNumber (ra ρ a) l):=by
 unfold asNumber
 refine Eqv.bind (e_newObj (.number a l)) ?_
 rintro r _ rfl
 exact Eqv.pure (by simp[VV,rv,ra])
theorem e_movedNumber (t:TypeId)(a:Option Addr)(y:Value)(ha:GV P ρ (.pointer a)):Eqv P ρ (VV ρ) (movedNumber t (.pointer a) y) (movedNumber t (.pointer (a.map (ra ρ))) (rv ρ y)):=by
 unfold movedNumber
 refine Eqv.bind (e_underlying t) ?_
 rintro d d' ⟨e,_⟩
 subst e
 refine Eqv.same_ite (fun _=>e_no (Eqv.unsupported _)) (fun _=>?_)
 cases a with
 |none=>exact e_unsafeAdd _ _ none y
 |some n=>
  simp only[Option.map]
  refine Eqv.bind (e_behindNumber n (gv_ptr ha)) ?_
  rintro x _ ⟨rfl,_⟩
  refine Eqv.bind (e_unsafeAdd _ _ (some x.1) y) ?_
  rintro v _ rfl
  cases v with
  |pointer b=>
   cases b with
   |none=>simp only[rv,Option.map];exact Eqv.pure (by simp[VV,rv])
   |some b=>simp only[rv,Option.map];exact e_asNumber b x.2
  |_=>simp only[rv];exact Eqv.pure (by simp[VV,rv])
theorem e_movedPointer (t:TypeId)(a:Option Addr)(y:Value):Eqv P ρ (VV ρ) (movedPointer t (.pointer a) y) (movedPointer t (.pointer (a.map (ra ρ))) (rv ρ y)):=by
 unfold movedPointer
 cases a with
 |none=>exact e_unsafeAdd _ _ none y
 |some n=>
  simp only[Option.map]
  refine Eqv.bind (e_numberAt n.block) ?_
  rintro x _ ⟨rfl,_⟩
  simp only[Option.isSome_map]
  exact Eqv.same_ite (fun _=>e_no (Eqv.unsupported _)) (fun _=>e_unsafeAdd _ _ (some n) y)
theorem e_movedNumberI (t:TypeId)(a:Option Addr)(k:IntKind)(n:Int)(ha:GV P ρ (.pointer a)):Eqv P ρ (VV ρ) (movedNumber t (.pointer a) (.int k n)) (movedNumber t (.pointer (a.map (ra ρ))) (.int k n)):=by
 have h:=e_movedNumber t a (.int k n) ha
 simpa only[rv] using h
theorem e_movedPointerI (t:TypeId)(a:Option Addr)(k:IntKind)(n:Int):Eqv P ρ (VV ρ) (movedPointer t (.pointer a) (.int k n)) (movedPointer t (.pointer (a.map (ra ρ))) (.int k n)):=by
 have h:=e_movedPointer (P:=P) (ρ:=ρ) t a (.int k n)
 simpa only[rv] using h
theorem e_binPP (hp:Plain P ρ)(op:BinOp)(t:TypeId)(a b:Option Addr)(hx:GV P ρ (.pointer a))(hy:GV P ρ (.pointer b))(h1:op≠ .eql)(h2:op≠ .neq):Eqv P ρ (VV ρ) (binOp op t (.pointer a) (.pointer b)) (binOp op t (.pointer (a.map (ra ρ))) (.pointer (b.map (ra ρ)))):=by
 cases a<;>cases b<;>cases op<;>simp only[binOp,Option.map]<;>first
  |exact absurd rfl h1|exact absurd rfl h2
  |exact Eqv.unsupported _|exact Eqv.stuck _
  |(refine Eqv.bind (e_behindNumber _ (gv_ptr hx)) ?_;rintro x1 _ ⟨rfl,gx⟩;refine Eqv.bind (e_behindNumber _ (gv_ptr hy)) ?_;rintro y1 _ ⟨rfl,gy⟩;first|exact e_addrSub hp _ _ _ gx|exact e_addrCmp hp _ _ _ gx)
theorem e_binPI (_hp:Plain P ρ)(op:BinOp)(t:TypeId)(a:Option Addr)(k:IntKind)(b:Int)(hx:GV P ρ (.pointer a))(h1:op≠ .eql)(h2:op≠ .neq):Eqv P ρ (VV ρ) (binOp op t (.pointer a) (.int k b)) (binOp op t (.pointer (a.map (ra ρ))) (.int k b)):=by
 cases op<;>simp only[binOp]<;>first
  |exact absurd rfl h1|exact absurd rfl h2
  |exact e_movedNumberI t _ k _ hx
  |(refine Eqv.bind (e_underlying t) ?_;rintro d d' ⟨e,_⟩;subst e;exact Eqv.same_ite (fun _=>e_movedPointerI t _ k b) (fun _=>e_movedNumberI t _ k b hx))
  |exact Eqv.unsupported _
  |(cases a<;>simp only[Option.map]<;>first|exact Eqv.unsupported _|(refine Eqv.bind (e_behindNumber _ (gv_ptr hx)) ?_;rintro x1 _ ⟨rfl,gx⟩;exact e_addrMod _ _ _))
theorem e_binIP (_hp:Plain P ρ)(op:BinOp)(t:TypeId)(a:Option Addr)(k:IntKind)(b:Int)(hx:GV P ρ (.pointer a))(h1:op≠ .eql)(h2:op≠ .neq):Eqv P ρ (VV ρ) (binOp op t (.int k b) (.pointer a)) (binOp op t (.int k b) (.pointer (a.map (ra ρ)))):=by
 cases op<;>simp only[binOp]<;>first
  |exact absurd rfl h1|exact absurd rfl h2
  |exact e_movedNumberI t _ k _ hx
  |exact Eqv.unsupported _
  |(cases a<;>simp only[Option.map]<;>first|exact Eqv.unsupported _|(refine Eqv.bind (e_behindNumber _ (gv_ptr hx)) ?_;rintro x1 _ ⟨rfl,gx⟩;exact e_addrMod _ _ _))
set_option maxHeartbeats 4000000 in
theorem e_binOp (hp:Plain P ρ)(op:BinOp)(t:TypeId)(x y:Value)(hx:GV P ρ x)(hy:GV P ρ y):Eqv P ρ (VV ρ) (binOp op t x y) (binOp op t (rv ρ x) (rv ρ y)):=by
 have he:=e_equal (P:=P) (ρ:=ρ) hp t x y hx hy
 have hE:Eqv P ρ (VV ρ) (do pure (.bool (←Op.equal t x y))) (do pure (.bool (←Op.equal t (rv ρ x) (rv ρ y)))):=by
  refine Eqv.bind he ?_
  rintro b _ rfl
  exact Eqv.pure (by simp[VV,rv])
 have hN:Eqv P ρ (VV ρ) (do pure (.bool (!(←Op.equal t x y)))) (do pure (.bool (!(←Op.equal t (rv ρ x) (rv ρ y))))):=by
  refine Eqv.bind he ?_
  rintro b _ rfl
  exact Eqv.pure (by simp[VV,rv])
 clear he
 by_cases h1:op= .eql
 ·subst h1
  cases x<;>first
   |(cases y<;>simp only[rv,binOp] at hE ⊢<;>first
      |exact hE
      |(refine Eqv.same_ite (fun _=>Eqv.stuck _) (fun _=>?_);first
         |exact e_intCmp _ _ _
         |exact e_bare (Alv.mono (by rintro _ ⟨r,rfl⟩;exact bare_bool _) (alv_floatCmp _ _ _ _))
         |exact e_bare (alv_complexOp _ _ _ _ _ _))
      |exact e_stringOp _ _ _)
 by_cases h2:op= .neq
 ·subst h2
  cases x<;>first
   |(cases y<;>simp only[rv,binOp] at hN ⊢<;>first
      |exact hN
      |(refine Eqv.same_ite (fun _=>Eqv.stuck _) (fun _=>?_);first
         |exact e_intCmp _ _ _
         |exact e_bare (Alv.mono (by rintro _ ⟨r,rfl⟩;exact bare_bool _) (alv_floatCmp _ _ _ _))
         |exact e_bare (alv_complexOp _ _ _ _ _ _))
      |exact e_stringOp _ _ _)
 clear hE hN
 cases x with
 |int k a=>
  cases y with
  |int k2 b=>
   simp only[rv]
   cases op<;>simp only[binOp]<;>first
    |exact e_shift hp _ _ _ _ _
    |exact absurd rfl h1|exact absurd rfl h2
    |(refine Eqv.same_ite (fun _=>Eqv.stuck _) (fun _=>?_);first|exact e_intArith _ _ _ _|exact e_intDiv hp _ _ _ _|exact e_intBits _ _ _ _|exact e_intCmp _ _ _)
  |pointer b=>simp only[rv];exact e_binIP hp op t b k a hy h1 h2
  |_=>simp only[rv];cases op<;>simp only[binOp]<;>first|exact Eqv.stuck _|exact absurd rfl h1|exact absurd rfl h2
 |float k a=>
  cases y with
  |float k2 b=>
   simp only[rv]
   cases op<;>simp only[binOp]<;>first
    |exact absurd rfl h1|exact absurd rfl h2
    |(refine Eqv.same_ite (fun _=>Eqv.stuck _) (fun _=>?_);first
       |exact e_bare (Alv.mono (by rintro _ ⟨r,rfl⟩;exact bare_float _ _) (alv_floatArith _ _ _ _))
       |exact e_bare (Alv.mono (by rintro _ ⟨r,rfl⟩;exact bare_bool _) (alv_floatCmp _ _ _ _)))
    |exact Eqv.stuck _
  |pointer b=>simp only[rv];cases op<;>simp only[binOp]<;>first|exact Eqv.unsupported _|exact absurd rfl h1|exact absurd rfl h2
  |_=>simp only[rv];cases op<;>simp only[binOp]<;>first|exact Eqv.stuck _|exact absurd rfl h1|exact absurd rfl h2
 |complex k a a2=>
  cases y with
  |complex k2 b b2=>
   simp only[rv]
   cases op<;>simp only[binOp]<;>first
    |exact absurd rfl h1|exact absurd rfl h2
    |(refine Eqv.same_ite (fun _=>Eqv.stuck _) (fun _=>?_);exact e_bare (alv_complexOp _ _ _ _ _ _))
    |exact Eqv.stuck _
  |pointer b=>simp only[rv];cases op<;>simp only[binOp]<;>first|exact Eqv.unsupported _|exact absurd rfl h1|exact absurd rfl h2
  |_=>simp only[rv];cases op<;>simp only[binOp]<;>first|exact Eqv.stuck _|exact absurd rfl h1|exact absurd rfl h2
 |string a=>
  cases y with
  |string b=>simp only[rv,binOp];exact e_stringOp _ _ _
  |pointer b=>simp only[rv];cases op<;>simp only[binOp]<;>first|exact Eqv.unsupported _|exact absurd rfl h1|exact absurd rfl h2
  |_=>simp only[rv];cases op<;>simp only[binOp]<;>first|exact Eqv.stuck _|exact absurd rfl h1|exact absurd rfl h2
 |pointer a=>
  cases y with
  |pointer b=>simp only[rv];exact e_binPP hp op t a b hx hy h1 h2
  |int k b=>simp only[rv];exact e_binPI hp op t a k b hx h1 h2
  |_=>simp only[rv];cases op<;>simp only[binOp]<;>first|exact Eqv.unsupported _|exact absurd rfl h1|exact absurd rfl h2
 |_=>
  cases y with
  |pointer b=>simp only[rv];cases op<;>simp only[binOp]<;>first|exact Eqv.unsupported _|exact absurd rfl h1|exact absurd rfl h2
  |_=>simp only[rv];cases op<;>simp only[binOp]<;>first|exact Eqv.stuck _|exact absurd rfl h1|exact absurd rfl h2
end
end Go.Ren
