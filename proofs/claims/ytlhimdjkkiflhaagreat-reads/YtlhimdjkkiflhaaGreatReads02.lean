import Derived.Test.YtlhimdjkkiflhaaGreatReads01
set_option maxHeartbeats 8000000
set_option maxRecDepth 100000
open Option renaming map→Γ
open Go renaming Value→Δ,TypeId→Θ,MapEntry→Λ,Program→Ω,zeroValue→θ
open Go.Builtin renaming unsafeString_→Ξ,unsafeSliceData_→Φ
open Go.Op renaming equalIn→ζ
open Go.Instr renaming findNow→η
namespace Go.Ren
section
variable {P:Ω}{ρ:Rn}{α β Vd Ve:Type}
theorem Ao {cs:Array Δ}(h:GV P ρ (.agg cs)):yj P ρ∨cs.map (rv ρ)=cs:=h.imp id λh=>by simpa[rv]using h
theorem Ce {t:Θ}{v:Δ}(h:GV P ρ (.iface t v)):GV P ρ v:=h.imp id λh=>by simpa[rv]using h
theorem pZ {a:Addr}(h:GV P ρ (.pointer (some a))):GA P ρ a:=h.imp id λh=>by simpa[rv]using h
theorem Gu {a:Addr}(h:GA P ρ a):(ra ρ a).block <P.globals.size↔a.block<P.globals.size:=by
 rcases h with h|h
 ·exact h _
 ·rw[h]
theorem oG (hp:Plain P ρ):∀(n:Nat) (t:Θ) (x y:Δ),GV P ρ x→GV P ρ y→aa P ρ Eq (ζ n t x y) (ζ n t (rv ρ x) (rv ρ y))
 |0,t,x,y,_,_=>by unfold ζ;exact aa.unsupported _
 |n+1,t,x,y,hx,hy=>by
  unfold ζ;refine aa.bind (aq t) ?_;rintro d d' ⟨e,_⟩;subst e;cases d' with
  |bool=>
   cases x<;>simp only[rv]<;>try exact aa.stuck _
   cases y<;>simp only[rv]<;>first|exact aa.stuck _|exact aa.pure rfl
  |string=>
   cases x<;>simp only[rv]<;>try exact aa.stuck _
   cases y<;>simp only[rv]<;>first|exact aa.stuck _|exact aa.pure rfl
  |int k=>
   cases x with
   |pointer a=>
    cases y with
    |pointer b=>
     cases a<;>cases b<;>simp only[rv,Γ]<;>try exact aa.unsupported _
     rename_i a b;refine aa.bind (dW a (pZ hx)) ?_;rintro a1 _ ⟨rfl,ga⟩;refine aa.bind (dW b (pZ hy)) ?_;rintro b1 _ ⟨rfl,gb⟩;refine aa.bind cz ?_;rintro _ _ ⟨rfl,rfl⟩;have e1:((ra ρ a1.1).block==(ra ρ b1.1).block)=(a1.1.block==b1.1.block):=sK hp _ _;have e2:decide ((ra ρ a1.1).block <P.globals.size)=decide (a1.1.block<P.globals.size):=by
      rw[decide_eq_decide];exact Gu ga
     simp only[e1,e2];refine aa.aj (λ_=>?_) (λ_=>?_)
     ·refine aa.bind (kA _) ?_;rintro q _ rfl;refine aa.bind (kA _) ?_;rintro q2 _ rfl;exact aa.pure rfl
     ·refine aa.bind (eC _) ?_;rintro i i' ⟨e,_⟩;subst e;rw[vK hp];split
      ·exact aa.aj (λ_=>aa.pure rfl) (λ_=>aa.unsupported _)
      ·exact aa.unsupported _
    |int k' m=>
     cases a<;>simp only[rv,Γ]
     ·exact aa.unsupported _
     ·rcases m with z|z
      ·cases z<;>first|exact aa.pure rfl|exact aa.unsupported _
      ·exact aa.unsupported _
    |_=>cases a<;>simp only[rv,Γ]<;>exact aa.unsupported _
   |int k' m=>
    cases y with
    |pointer b=>
     cases b<;>simp only[rv,Γ]
     ·rcases m with z|z
      ·cases z<;>first|exact aa.pure rfl|exact aa.unsupported _
      ·exact aa.unsupported _
     ·rcases m with z|z
      ·cases z<;>first|exact aa.pure rfl|exact aa.unsupported _
      ·exact aa.unsupported _
    |int k2 m2=>simp only[rv];exact aa.aj (λ_=>aa.pure rfl) (λ_=>aa.stuck _)
    |_=>simp only[rv];exact aa.stuck _
   |_=>cases y<;>simp only[rv]<;>first|exact aa.stuck _|exact aa.unsupported _
  |float k=>
   cases x<;>simp only[rv]<;>try exact aa.stuck _
   cases y<;>simp only[rv]<;>first|exact aa.stuck _|exact aa.aj (λ_=>aa.pure rfl) (λ_=>aa.stuck _)
  |complex k=>
   cases x<;>simp only[rv]<;>try exact aa.stuck _
   cases y<;>simp only[rv]<;>first|exact aa.stuck _|exact aa.aj (λ_=>aa.pure rfl) (λ_=>aa.stuck _)
  |pointer e=>
   cases x with
   |pointer a=>
    cases y with
    |pointer b=>
     cases a<;>cases b<;>simp only[rv,Γ]<;>try exact aa.pure rfl
     refine aa.bind (cd _) ?_;rintro m _ rfl;refine aa.aj (λ_=>vL hp _ _) (λ_=>?_);rw[vK hp];refine aa.aj (λ_=>aa.pure rfl) (λ_=>?_);refine aa.bind (im _) ?_;rintro q _ rfl;exact aa.pure rfl
    |_=>cases a<;>simp only[rv,Γ]<;>exact aa.stuck _
   |_=>cases y<;>simp only[rv]<;>exact aa.stuck _
  |unsafePointer=>
   cases x<;>simp only[rv]<;>try exact aa.stuck _
   cases y<;>simp only[rv]<;>first|exact aa.stuck _|exact yl hp _ _
  |chan dr e=>
   cases x<;>simp only[rv]<;>try exact aa.stuck _
   cases y<;>simp only[rv]<;>try exact aa.stuck _
   rename_i a b;refine aa.pure ?_;cases a<;>cases b<;>simp[sK hp]
  |interface ms=>
   cases x<;>simp only[rv]<;>try exact aa.stuck _
   all_goals cases y<;>simp only[rv]<;>try first|exact aa.stuck _|exact aa.pure rfl
   refine aa.aj (λ_=>aa.pure rfl) (λ_=>?_);refine aa.bind (eC _) ?_;rintro i i' ⟨e,_⟩;subst e;refine aa.aj (λ_=>?_) (λ_=>oG hp n _ _ _ (Ce hx) (Ce hy));refine aa.bind cz ?_;rintro _ _ ⟨rfl,rfl⟩;refine aa.bind cz ?_;rintro _ _ ⟨rfl,rfl⟩;refine aa.aj (λ_=>jv (aa.unsupported _)) (λ_=>?_);refine aa.bind (zb _) ?_;rintro q _ rfl;exact aN _
  |struct fs=>
   cases x<;>simp only[rv]<;>try exact aa.stuck _
   cases y<;>simp only[rv]<;>try exact aa.stuck _
   have hl:∀(xs ys:Array Δ),(yj P ρ∨xs.map (rv ρ)=xs)→(yj P ρ∨ys.map (rv ρ)=ys)→aa P ρ Eq
    (forIn fs ((none,()):Option Bool×Unit) λf _=>if f.name≠ "_" then do
      let a ←part f.type xs f.offset;let b ←part f.type ys f.offset;let r ←ζ n f.type a b
      if(!r)=true then pure (ForInStep.done (some false,()))else pure (ForInStep.yield (none,()))
      else pure (ForInStep.yield (none,())))
    (forIn fs ((none,()):Option Bool×Unit) λf _=>if f.name≠ "_" then do
      let a ←part f.type (xs.map (rv ρ)) f.offset;let b ←part f.type (ys.map (rv ρ)) f.offset;let r ←ζ n f.type a b
      if(!r)=true then pure (ForInStep.done (some false,()))else pure (ForInStep.yield (none,()))
      else pure (ForInStep.yield (none,()))):=λxs ys gx gy=>by
    rw[←zbF,←zbF];refine my (R:=Eq) (λf a b hab=>?_) fs.toList _ _ rfl;subst hab;refine aa.aj (λ_=>?_) (λ_=>aa.pure (Or.inl ⟨_,_,rfl,rfl,rfl⟩));refine aa.bind (u9 _ _ _ gx) ?_;rintro v _ ⟨rfl,gv⟩;refine aa.bind (u9 _ _ _ gy) ?_;rintro u _ ⟨rfl,gu⟩;refine aa.bind (oG hp n _ _ _ gv gu) ?_;rintro r _ rfl;exact aa.aj (λ_=>aa.pure (Or.inr ⟨_,_,rfl,rfl,rfl⟩)) (λ_=>aa.pure (Or.inl ⟨_,_,rfl,rfl,rfl⟩))
   refine aa.bind cz ?_;rintro _ _ ⟨rfl,rfl⟩;refine aa.aj (λ_=>jv (aa.unsupported _)) (λ_=>?_);refine aa.bind (hl _ _ (Ao hx) (Ao hy)) ?_;rintro r _ rfl;split<;>exact aa.pure rfl
  |array m e=>
   cases x<;>simp only[rv]<;>try exact aa.stuck _
   cases y<;>simp only[rv]<;>try exact aa.stuck _
   refine aa.bind (cd _) ?_;rintro sz _ rfl;refine aa.bind (R:=Eq) ?_ ?_
   ·haveI:=lawful
    rw[Std.Legacy.Range.forIn_eq_forIn_range',Std.Legacy.Range.forIn_eq_forIn_range'];refine my (R:=Eq) (λf a b hab=>?_) _ _ _ rfl;subst hab;refine aa.bind (u9 _ _ _ (Ao hx)) ?_;rintro v _ ⟨rfl,gv⟩;refine aa.bind (u9 _ _ _ (Ao hy)) ?_;rintro u _ ⟨rfl,gu⟩;refine aa.bind (oG hp n _ _ _ gv gu) ?_;rintro r _ rfl;exact aa.aj (λ_=>aa.pure (Or.inr ⟨_,_,rfl,rfl,rfl⟩)) (λ_=>aa.pure (Or.inl ⟨_,_,rfl,rfl,rfl⟩))
   ·rintro r _ rfl;split<;>exact aa.pure rfl
  |slice e=>
   cases x with
   |slice a l c=>
    cases y with
    |slice b l2 c2=>cases a<;>cases b<;>simp only[rv,Γ]<;>first|exact aa.pure rfl|exact aa.stuck _
    |_=>cases a<;>simp only[rv,Γ]<;>exact aa.stuck _
   |_=>cases y<;>simp only[rv]<;>exact aa.stuck _
  |map k e=>
   cases x with
   |map a=>
    cases y with
    |map b=>cases a<;>cases b<;>simp only[rv,Γ]<;>first|exact aa.pure rfl|exact aa.stuck _
    |_=>cases a<;>simp only[rv,Γ]<;>exact aa.stuck _
   |_=>cases y<;>simp only[rv]<;>exact aa.stuck _
  |func ps rs v=>
   cases x<;>simp only[rv]<;>try exact aa.stuck _
   all_goals cases y<;>simp only[rv]<;>first|exact aa.stuck _|exact aa.pure rfl
  |_=>cases x<;>simp only<;>try exact aa.stuck _
end
section
variable {P:Ω}{ρ:Rn}{α β Vd Ve:Type}
theorem Gv (hp:Plain P ρ)(t:Θ)(x y:Δ)(hx:GV P ρ x)(hy:GV P ρ y):aa P ρ Eq (Op.equal t x y) (Op.equal t (rv ρ x) (rv ρ y)):=oG hp _ t x y hx hy
theorem nB:∀(n:Nat) (t:Θ) (x y:Δ),aa P ρ Eq (Op.eqGuardIn n t x y) (Op.eqGuardIn n t (rv ρ x) (rv ρ y))
 |0,t,x,y=>by unfold Op.eqGuardIn;exact aa.unsupported _
 |n+1,t,x,y=>by
  unfold Op.eqGuardIn;refine aa.bind (aq t) ?_;rintro d d' ⟨e,_⟩;subst e;cases d' with
  |interface ms=>cases x<;>cases y<;>simp only[rv]<;>exact aa.pure rfl
  |struct fs=>
   cases x<;>simp only[rv]<;>try exact aa.pure rfl
   cases y<;>simp only[rv]<;>try exact aa.pure rfl
   refine aa.bind (R:=Eq) ?_ ?_
   ·rw[←zbF,←zbF];refine my (R:=Eq) (λf a b hab=>?_) fs.toList _ _ rfl;subst hab;refine aa.aj (λ_=>?_) (λ_=>aa.pure (Or.inl ⟨_,_,rfl,rfl,rfl⟩));refine aa.bind (nz _ _ _) ?_;rintro v _ rfl;refine aa.bind (nz _ _ _) ?_;rintro u _ rfl;refine aa.bind (nB n _ _ _) ?_;rintro r _ rfl;exact aa.aj (λ_=>aa.pure (Or.inr ⟨_,_,rfl,rfl,rfl⟩)) (λ_=>aa.pure (Or.inl ⟨_,_,rfl,rfl,rfl⟩))
   ·rintro r _ rfl;split<;>exact aa.pure rfl
  |array m e=>
   cases x<;>simp only[rv]<;>try exact aa.pure rfl
   cases y<;>simp only[rv]<;>try exact aa.pure rfl
   refine aa.bind (cd _) ?_;rintro sz _ rfl;refine aa.bind (R:=Eq) ?_ ?_
   ·haveI:=lawful
    rw[Std.Legacy.Range.forIn_eq_forIn_range',Std.Legacy.Range.forIn_eq_forIn_range'];refine my (R:=Eq) (λf a b hab=>?_) _ _ _ rfl;subst hab;refine aa.bind (nz _ _ _) ?_;rintro v _ rfl;refine aa.bind (nz _ _ _) ?_;rintro u _ rfl;refine aa.bind (nB n _ _ _) ?_;rintro r _ rfl;exact aa.aj (λ_=>aa.pure (Or.inr ⟨_,_,rfl,rfl,rfl⟩)) (λ_=>aa.pure (Or.inl ⟨_,_,rfl,rfl,rfl⟩))
   ·rintro r _ rfl;split<;>exact aa.pure rfl
  |_=>cases x<;>simp only<;>exact aa.pure rfl
theorem IG (op:BinOp)(t:Θ)(x y:Operand)(a b:Δ):aa P ρ Eq (eqGuard op t x y a b) (eqGuard op t x y (rv ρ a) (rv ρ b)):=by
 have hg:=nB (P:=P) (ρ:=ρ) Op.maxDepth t a b;unfold eqGuard;refine aa.aj (λ_=>aa.pure rfl) (λ_=>?_);cases a<;>cases b<;>simp only[rv]at hg ⊢<;>try exact aa.pure rfl
 ·refine aa.aj (λ_=>aa.pure rfl) (λ_=>?_);refine aa.bind hg ?_;rintro r _ rfl;exact aa.aj (λ_=>aa.unsupported _) (λ_=>aa.pure rfl)
 ·refine aa.bind cz ?_;rintro _ _ ⟨rfl,rfl⟩;refine aa.bind cz ?_;rintro _ _ ⟨rfl,rfl⟩;refine aa.aj (λ_=>aa.pure rfl) (λ_=>?_);refine aa.bind hg ?_;rintro r _ rfl;exact aa.aj (λ_=>aa.unsupported _) (λ_=>aa.pure rfl)
theorem vM (op:BinOp)(k:IntKind)(a b:Int):aa P ρ (VV ρ) (Op.intArith op k a b) (Op.intArith op k a b):=by
 cases op<;>simp only[Op.intArith]<;>first|exact aa.stuck _|exact aa.pure (by simp[VV,rv])
theorem K1 (_hp:Plain P ρ)(op:BinOp)(k:IntKind)(a b:Int):aa P ρ (VV ρ) (Op.intDiv op k a b) (Op.intDiv op k a b):=by
 unfold Op.intDiv;refine aa.aj (λ_=>aN _) (λ_=>?_);cases op<;>first|exact aa.stuck _|exact aa.pure (by simp[VV,rv])
theorem ze (op:BinOp)(k:IntKind)(a b:Int):aa P ρ (VV ρ) (Op.intBits op k a b) (Op.intBits op k a b):=by
 cases op<;>simp only[Op.intBits]<;>first|exact aa.stuck _|exact aa.pure (by simp[VV,rv])
theorem vN (op:BinOp)(a b:Int):aa P ρ (VV ρ) (Op.intCmp op a b) (Op.intCmp op a b):=by
 cases op<;>simp only[Op.intCmp]<;>first|exact aa.stuck _|exact aa.pure (by simp[VV,rv])
theorem O2 (_hp:Plain P ρ)(op:BinOp)(k:IntKind)(a:Int)(k2:IntKind)(b:Int):aa P ρ (VV ρ) (Op.shift op k a k2 b) (Op.shift op k a k2 b):=by
 unfold Op.shift;refine aa.aj (λ_=>aN _) (λ_=>?_);cases op<;>first|exact aa.stuck _|exact aa.pure (by simp[VV,rv])
theorem kB (op:BinOp)(a b:ByteArray):aa P ρ (VV ρ) (Op.stringOp op a b) (Op.stringOp op a b):=by
 cases op<;>simp only[Op.stringOp]<;>first|exact aa.stuck _|exact aa.pure (by simp[VV,rv])|exact aa.aj (λ_=>aa.unsupported _) (λ_=>aa.pure (by simp[VV,rv]))
theorem O3 (op:UnOp)(x:Δ):aa P ρ (VV ρ) (Op.unary op x) (Op.unary op (rv ρ x)):=by
 cases x with
 |pointer a=>cases op<;>cases a<;>simp only[rv,Γ,Op.unary]<;>first|exact aa.stuck _|exact aa.unsupported _
 |int k n=>cases op<;>simp only[rv,Op.unary]<;>first|exact aa.stuck _|exact vM _ _ _ _|exact ze _ _ _ _
 |_=>cases op<;>simp only[rv,Op.unary]<;>first|exact aa.stuck _|exact aa.pure (by simp[VV,rv])
def eI (P:Ω){α:Type}(A:α→Prop):Sem α→Prop
 |.pure a=>A a
 |.choose _ k=>∀n,eI P A (k n)
 |.program k=>eI P A (k P)
 |.halt h=>B8 h
 |_=>False
theorem eI.bind {A:α→Prop}{B:β→Prop}:∀{s:Sem α} {f:α→Sem β},eI P A s→(∀a,A a→eI P B (f a))→eI P B (s>>=f)
 |.pure a,_f,h,hf=>hf a h
 |.choose _ _k,_f,h,hf=>λn=>eI.bind (h n) hf
 |.program k,_f,h,hf=>eI.bind (s:=k P) h hf
 |.halt _,_f,h,_hf=>h
 |.load ..,_f,h,_hf=>h.elim
 |.store ..,_f,h,_hf=>h.elim
 |.new ..,_f,h,_hf=>h.elim
 |.shape ..,_f,h,_hf=>h.elim
 |.freeze ..,_f,h,_hf=>h.elim
 |.frozen ..,_f,h,_hf=>h.elim
 |.getObj ..,_f,h,_hf=>h.elim
 |.setObj ..,_f,h,_hf=>h.elim
 |.sys ..,_f,h,_hf=>h.elim
 |.mark ..,_f,h,_hf=>h.elim
theorem eI.mono {A B:α→Prop}(RD:∀a,A a→B a):∀{s:Sem α},eI P A s→eI P B s
 |.pure a,h=>RD a h
 |.choose _ _k,h=>λn=>eI.mono RD (h n)
 |.program k,h=>eI.mono (s:=k P) RD h
 |.halt _,h=>h
 |.load ..,h=>h.elim
 |.store ..,h=>h.elim
 |.new ..,h=>h.elim
 |.shape ..,h=>h.elim
 |.freeze ..,h=>h.elim
 |.frozen ..,h=>h.elim
 |.getObj ..,h=>h.elim
 |.setObj ..,h=>h.elim
 |.sys ..,h=>h.elim
 |.mark ..,h=>h.elim
theorem K2 {A:α→Prop}{R:α→α→Prop}(hA:∀a,A a→R a a):∀{s:Sem α},eI P A s→aa P ρ R s s
 |.pure a,h=>⟨a,rfl,hA a h⟩
 |.choose _ k,h=>⟨k,rfl,λn=>K2 hA (h n)⟩
 |.program k,h=>⟨k,rfl,K2 (s:=k P) hA h⟩
 |.halt _,h=>h
 |.load ..,h=>h.elim
 |.store ..,h=>h.elim
 |.new ..,h=>h.elim
 |.shape ..,h=>h.elim
 |.freeze ..,h=>h.elim
 |.frozen ..,h=>h.elim
 |.getObj ..,h=>h.elim
 |.setObj ..,h=>h.elim
 |.sys ..,h=>h.elim
 |.mark ..,h=>h.elim
def fR (v:Δ):Prop:=∀ρ:Rn,rv ρ v=v
theorem nC {s:Sem Δ}(h:eI P fR s):aa P ρ (VV ρ) s s:=K2 (λ_a h=>(h ρ).symm) h
theorem SI (k:FloatKind)(q:Question)(r:Option Nat):eI P (λv=>∃r,v=.float k r) (match r with|some r=>pure (Δ.float k r)|none=>do let x ←choose q;pure (Δ.float k x):Sem Δ):=by
 cases r with
 |none=>exact λn=>⟨_,rfl⟩
 |some r=>exact⟨r,rfl⟩
theorem nD (op:BinOp)(k:FloatKind)(x y:Nat):eI P (λv=>∃r,v=.float k r) (Op.floatArith op k x y):=by
 unfold Op.floatArith;cases op<;>first|exact SI k _ _|trivial
theorem EK (k:FloatKind)(r:Nat):fR (.float k r):=λρ=>by simp[rv]
theorem oH (b:Bool):fR (.bool b):=λρ=>by simp[rv]
theorem kg (op:BinOp)(k:FloatKind)(x y:Nat):eI P (λv=>∃r,v=.bool r) (Op.floatCmp op k x y):=by
 unfold Op.floatCmp;cases op<;>first|exact⟨_,rfl⟩|trivial
open Op.Complex in
theorem aP (op:BinOp)(k:FloatKind)(x y:Nat):eI P (λ_=>True) (arith op k x y):=by
 unfold arith;refine eI.bind (nD op k x y) ?_;rintro _ ⟨r,rfl⟩;trivial
open Op.Complex in
theorem qF (op:BinOp)(k:FloatKind)(x y:Nat):eI P (λ_=>True) (cmp op k x y):=by
 unfold cmp;refine eI.bind (kg op k x y) ?_;rintro _ ⟨r,rfl⟩;trivial
open Op.Complex in
theorem jw (k:FloatKind)(x:Nat)(d:FloatKind):eI P (λ_=>True) (conv k x d):=by
 unfold conv
 split
 ·trivial
 ·refine eI.bind (A:=λv=>∃k r,v=.float k r) ?_ ?_
  ·unfold Conv.floatToFloat
   split
   ·exact⟨_,_,rfl⟩
   ·split
    ·exact λn=>⟨_,_,rfl⟩
    ·exact⟨_,_,rfl⟩
    ·dsimp only;split
     ·exact λn=>⟨_,_,rfl⟩
     ·exact⟨_,_,rfl⟩
  ·rintro _ ⟨_,r,rfl⟩;trivial
open Op.Complex in
theorem Cf (a b c d:Nat):eI P (λ_=>True) (product a b c d):=by
 unfold product;refine eI.bind (aP _ _ _ _) λ_ _=>eI.bind (aP _ _ _ _) λ_ _=>eI.bind (aP _ _ _ _) λ_ _=>eI.bind (aP _ _ _ _) λ_ _=>eI.bind (aP _ _ _ _) λ_ _=>eI.bind (aP _ _ _ _) λ_ _=>trivial
open Op.Complex in
theorem pI (s a b c d:Nat):eI P (λ_=>True) (corrected s a b c d):=by
 unfold corrected;refine eI.bind (aP _ _ _ _) λ_ _=>eI.bind (aP _ _ _ _) λ_ _=>eI.bind (aP _ _ _ _) λ_ _=>eI.bind (aP _ _ _ _) λ_ _=>eI.bind (aP _ _ _ _) λ_ _=>eI.bind (aP _ _ _ _) λ_ _=>eI.bind (aP _ _ _ _) λ_ _=>eI.bind (aP _ _ _ _) λ_ _=>trivial
open Op.Complex in
theorem Ap (a b c d:Nat):eI P (λ_=>True) (quotient a b c d):=by
 unfold quotient;have tail:∀x:Nat×Nat,eI P (λ_=>True) (do
  let zero:=(←cmp .eql .f64 c 0)&&(←cmp .eql .f64 d 0)
  if !(isNaN x.1&&isNaN x.2)then pure x
  else if zero&&(!isNaN a||!isNaN b)then
   pure (←mul (copysign inf c) a,←mul (copysign inf c) b)
  else if(isInf a||isInf b)&&isFinite c&&isFinite d then corrected inf (inf2one a) (inf2one b) c d
  else if(isInf c||isInf d)&&isFinite a&&isFinite b then corrected 0 a b (inf2one c) (inf2one d)
  else pure x:Sem (Nat×Nat)):=λx=>by
  refine eI.bind (qF _ _ _ _) λ_ _=>eI.bind (qF _ _ _ _) λ_ _=>?_;dsimp only;split
  ·trivial
  ·split
   ·exact eI.bind (aP _ _ _ _) λ_ _=>eI.bind (aP _ _ _ _) λ_ _=>trivial
   ·split
    ·exact pI _ _ _ _ _
    ·split
     ·exact pI _ _ _ _ _
     ·trivial
 refine eI.bind (qF _ _ _ _) λq _=>?_;cases q
 ·refine eI.bind (aP _ _ _ _) λ_ _=>eI.bind (aP _ _ _ _) λ_ _=>eI.bind (aP _ _ _ _) λ_ _=>eI.bind (aP _ _ _ _) λ_ _=>eI.bind (aP _ _ _ _) λ_ _=>eI.bind (aP _ _ _ _) λ_ _=>eI.bind (aP _ _ _ _) λ_ _=>eI.bind (aP _ _ _ _) λ_ _=>eI.bind (aP _ _ _ _) λ_ _=>?_;exact tail (_,_)
 ·refine eI.bind (aP _ _ _ _) λ_ _=>eI.bind (aP _ _ _ _) λ_ _=>eI.bind (aP _ _ _ _) λ_ _=>eI.bind (aP _ _ _ _) λ_ _=>eI.bind (aP _ _ _ _) λ_ _=>eI.bind (aP _ _ _ _) λ_ _=>eI.bind (aP _ _ _ _) λ_ _=>eI.bind (aP _ _ _ _) λ_ _=>eI.bind (aP _ _ _ _) λ_ _=>?_;exact tail (_,_)
open Op.Complex in
theorem lB (op:BinOp)(k:FloatKind)(a b c d:Nat):eI P fR (Op.complexOp op k a b c d):=by
 have bc:∀a b,fR (.complex k a b):=λa b ρ=>by simp[rv]
 unfold Op.complexOp;cases op<;>first
  |exact eI.bind (aP _ _ _ _) λ_ _=>eI.bind (aP _ _ _ _) λ_ _=>bc _ _
  |exact eI.bind (qF _ _ _ _) λ_ _=>eI.bind (qF _ _ _ _) λ_ _=>oH _
  |(refine eI.bind (jw _ _ _) λ_ _=>eI.bind (jw _ _ _) λ_ _=>eI.bind (jw _ _ _) λ_ _=>eI.bind (jw _ _ _) λ_ _=>?_
    first
    |exact eI.bind (Cf _ _ _ _) λ_ _=>eI.bind (jw _ _ _) λ_ _=>eI.bind (jw _ _ _) λ_ _=>bc _ _
    |exact eI.bind (Ap _ _ _ _) λ_ _=>eI.bind (jw _ _ _) λ_ _=>eI.bind (jw _ _ _) λ_ _=>bc _ _)
  |trivial
end
end Go.Ren
namespace Go.Ren
open Go
section
variable {P:Ω}{ρ:Rn}{α β Vd Ve:Type}
theorem tZ (hp:Plain P ρ)(a b:Addr)(ha:GA P ρ a):aa P ρ Eq (Op.twoPlaces a b) (Op.twoPlaces (ra ρ a) (ra ρ b)):=by
 unfold Op.twoPlaces;refine aa.bind cz ?_;rintro _ _ ⟨rfl,rfl⟩;have e1:((ra ρ a).block != (ra ρ b).block)=(a.block != b.block):=by
  show(!((ra ρ a).block==(ra ρ b).block))=_;rw[show((ra ρ a).block==(ra ρ b).block)=(a.block==b.block) from sK hp _ _];rfl
 have e2:decide ((ra ρ a).block≥P.globals.size)=decide (a.block≥P.globals.size):=by
  rw[decide_eq_decide];have:=Gu ha;omega
 simp only[e1,e2];refine aa.aj (λ_=>jv (aa.unsupported _)) (λ_=>?_);refine aa.bind (kA _) ?_;rintro x _ rfl;refine aa.bind (kA _) ?_;rintro y _ rfl;exact aa.pure rfl
theorem II (hp:Plain P ρ)(k:IntKind)(a b:Addr)(ha:GA P ρ a):aa P ρ (VV ρ) (Op.addrSub k a b) (Op.addrSub k (ra ρ a) (ra ρ b)):=by
 unfold Op.addrSub;refine aa.bind (tZ hp a b ha) ?_;rintro x _ rfl;exact aa.pure (by simp[VV,rv])
theorem IJ (hp:Plain P ρ)(op:BinOp)(a b:Addr)(ha:GA P ρ a):aa P ρ (VV ρ) (Op.addrCmp op a b) (Op.addrCmp op (ra ρ a) (ra ρ b)):=by
 unfold Op.addrCmp;refine aa.bind (tZ hp a b ha) ?_;rintro x _ rfl;cases op<;>first|exact aa.unsupported _|exact aa.pure (by simp[VV,rv])
theorem zf (k:IntKind)(a:Addr)(n:Int):aa P ρ (VV ρ) (Op.addrMod k a n) (Op.addrMod k (ra ρ a) n):=by
 unfold Op.addrMod;refine aa.bind (gH a.block) ?_;rintro sh _ rfl;cases sh with
 |none=>exact aa.unsupported _
 |some x=>
  obtain⟨e,m⟩:=x;dsimp only;refine aa.bind (eC _) ?_;rintro i i' ⟨e,_⟩;subst e;refine aa.aj (λ_=>jv (aa.unsupported _)) (λ_=>?_);refine aa.bind (kA _) ?_;rintro q _ rfl;exact aa.pure (by simp[VV,rv])
theorem lp (ts:Array Θ)(t:Θ)(a:Option Addr)(y:Δ):aa P ρ (VV ρ) (Builtin.unsafeAdd_ ts t #[.pointer a,y]) (Builtin.unsafeAdd_ ts t #[.pointer (a.map (ra ρ)),rv ρ y]):=by
 unfold Builtin.unsafeAdd_;dsimp only;refine aa.bind (mn y) ?_;rintro n _ rfl;refine aa.aj (λ_=>?_) (λ_=>?_)
 ·cases a with
  |none=>exact aa.unsupported _
  |some a=>
   simp only[Γ];refine aa.bind (qE a.block) ?_;rintro x _ rfl;simp only[Option.isSome_map];exact aa.aj (λ_=>jv (aa.unsupported _)) (λ_=>aa.pure (by simp[VV,rv]))
 ·refine aa.aj (λ_=>jv (aa.unsupported _)) (λ_=>?_);cases a with
  |none=>exact aa.unsupported _
  |some a=>
   simp only[Γ];refine aa.bind (gH a.block) ?_;rintro sh _ rfl;cases sh with
   |none=>exact aa.unsupported _
   |some x=>
    obtain⟨e,m⟩:=x;dsimp only;refine aa.bind cz ?_;rintro _ _ ⟨rfl,rfl⟩;have:(ra ρ a).off=a.off:=rfl;rw[this];split
    ·exact aa.pure (by simp[VV,rv,ra])
    ·exact aa.unsupported _
theorem EL (a:Addr)(l:Bool):aa P ρ (VV ρ) (asNumber a l) (asNumber (ra ρ a) l):=by
 unfold asNumber;refine aa.bind (lQ (.number a l)) ?_;rintro r _ rfl;exact aa.pure (by simp[VV,rv,ra])
theorem ym (t:Θ)(a:Option Addr)(y:Δ)(ha:GV P ρ (.pointer a)):aa P ρ (VV ρ) (movedNumber t (.pointer a) y) (movedNumber t (.pointer (a.map (ra ρ))) (rv ρ y)):=by
 unfold movedNumber;refine aa.bind (aq t) ?_;rintro d d' ⟨e,_⟩;subst e;refine aa.aj (λ_=>jv (aa.unsupported _)) (λ_=>?_);cases a with
 |none=>exact lp _ _ none y
 |some n=>
  simp only[Γ];refine aa.bind (dW n (pZ ha)) ?_;rintro x _ ⟨rfl,_⟩;refine aa.bind (lp _ _ (some x.1) y) ?_;rintro v _ rfl;cases v with
  |pointer b=>
   cases b with
   |none=>simp only[rv,Γ];exact aa.pure (by simp[VV,rv])
   |some b=>simp only[rv,Γ];exact EL b x.2
  |_=>simp only[rv];exact aa.pure (by simp[VV,rv])
theorem vO (t:Θ)(a:Option Addr)(y:Δ):aa P ρ (VV ρ) (movedPointer t (.pointer a) y) (movedPointer t (.pointer (a.map (ra ρ))) (rv ρ y)):=by
 unfold movedPointer;cases a with
 |none=>exact lp _ _ none y
 |some n=>
  simp only[Γ];refine aa.bind (vJ n.block) ?_;rintro x _ ⟨rfl,_⟩;simp only[Option.isSome_map];exact aa.aj (λ_=>jv (aa.unsupported _)) (λ_=>lp _ _ (some n) y)
theorem kC (t:Θ)(a:Option Addr)(k:IntKind)(n:Int)(ha:GV P ρ (.pointer a)):aa P ρ (VV ρ) (movedNumber t (.pointer a) (.int k n)) (movedNumber t (.pointer (a.map (ra ρ))) (.int k n)):=by
 have h:=ym t a (.int k n) ha;simpa only[rv]using h
theorem uE (t:Θ)(a:Option Addr)(k:IntKind)(n:Int):aa P ρ (VV ρ) (movedPointer t (.pointer a) (.int k n)) (movedPointer t (.pointer (a.map (ra ρ))) (.int k n)):=by
 have h:=vO (P:=P) (ρ:=ρ) t a (.int k n);simpa only[rv]using h
theorem O4 (hp:Plain P ρ)(op:BinOp)(t:Θ)(a b:Option Addr)(hx:GV P ρ (.pointer a))(hy:GV P ρ (.pointer b))(h1:op≠.eql)(h2:op≠.neq):aa P ρ (VV ρ) (binOp op t (.pointer a) (.pointer b)) (binOp op t (.pointer (a.map (ra ρ))) (.pointer (b.map (ra ρ)))):=by
 cases a<;>cases b<;>cases op<;>simp only[binOp,Γ]<;>first
  |exact absurd rfl h1|exact absurd rfl h2
  |exact aa.unsupported _|exact aa.stuck _
  |(refine aa.bind (dW _ (pZ hx)) ?_;rintro x1 _ ⟨rfl,gx⟩;refine aa.bind (dW _ (pZ hy)) ?_;rintro y1 _ ⟨rfl,gy⟩;first|exact II hp _ _ _ gx|exact IJ hp _ _ _ gx)
theorem O5 (_hp:Plain P ρ)(op:BinOp)(t:Θ)(a:Option Addr)(k:IntKind)(b:Int)(hx:GV P ρ (.pointer a))(h1:op≠.eql)(h2:op≠.neq):aa P ρ (VV ρ) (binOp op t (.pointer a) (.int k b)) (binOp op t (.pointer (a.map (ra ρ))) (.int k b)):=by
 cases op<;>simp only[binOp]<;>first
  |exact absurd rfl h1|exact absurd rfl h2
  |exact kC t _ k _ hx
  |(refine aa.bind (aq t) ?_;rintro d d' ⟨e,_⟩;subst e;exact aa.aj (λ_=>uE t _ k b) (λ_=>kC t _ k b hx))
  |exact aa.unsupported _
  |(cases a<;>simp only[Γ]<;>first|exact aa.unsupported _|(refine aa.bind (dW _ (pZ hx)) ?_;rintro x1 _ ⟨rfl,gx⟩;exact zf _ _ _))
theorem O6 (_hp:Plain P ρ)(op:BinOp)(t:Θ)(a:Option Addr)(k:IntKind)(b:Int)(hx:GV P ρ (.pointer a))(h1:op≠.eql)(h2:op≠.neq):aa P ρ (VV ρ) (binOp op t (.int k b) (.pointer a)) (binOp op t (.int k b) (.pointer (a.map (ra ρ)))):=by
 cases op<;>simp only[binOp]<;>first
  |exact absurd rfl h1|exact absurd rfl h2
  |exact kC t _ k _ hx
  |exact aa.unsupported _
  |(cases a<;>simp only[Γ]<;>first|exact aa.unsupported _|(refine aa.bind (dW _ (pZ hx)) ?_;rintro x1 _ ⟨rfl,gx⟩;exact zf _ _ _))
theorem O7 (hp:Plain P ρ)(op:BinOp)(t:Θ)(x y:Δ)(hx:GV P ρ x)(hy:GV P ρ y):aa P ρ (VV ρ) (binOp op t x y) (binOp op t (rv ρ x) (rv ρ y)):=by
 have he:=Gv (P:=P) (ρ:=ρ) hp t x y hx hy;have hE:aa P ρ (VV ρ) (do pure (.bool (←Op.equal t x y))) (do pure (.bool (←Op.equal t (rv ρ x) (rv ρ y)))):=by
  refine aa.bind he ?_;rintro b _ rfl;exact aa.pure (by simp[VV,rv])
 have hN:aa P ρ (VV ρ) (do pure (.bool (!(←Op.equal t x y)))) (do pure (.bool (!(←Op.equal t (rv ρ x) (rv ρ y))))):=by
  refine aa.bind he ?_;rintro b _ rfl;exact aa.pure (by simp[VV,rv])
 clear he;by_cases h1:op=.eql
 ·subst h1;cases x<;>first
   |(cases y<;>simp only[rv,binOp]at hE ⊢<;>first
      |exact hE
      |(refine aa.aj (λ_=>aa.stuck _) (λ_=>?_);first
         |exact vN _ _ _
         |exact nC (eI.mono (by rintro _ ⟨r,rfl⟩;exact oH _) (kg _ _ _ _))
         |exact nC (lB _ _ _ _ _ _))
      |exact kB _ _ _)
 by_cases h2:op=.neq
 ·subst h2;cases x<;>first
   |(cases y<;>simp only[rv,binOp]at hN ⊢<;>first
      |exact hN
      |(refine aa.aj (λ_=>aa.stuck _) (λ_=>?_);first
         |exact vN _ _ _
         |exact nC (eI.mono (by rintro _ ⟨r,rfl⟩;exact oH _) (kg _ _ _ _))
         |exact nC (lB _ _ _ _ _ _))
      |exact kB _ _ _)
 clear hE hN;cases x with
 |int k a=>
  cases y with
  |int k2 b=>
   simp only[rv];cases op<;>simp only[binOp]<;>first
    |exact O2 hp _ _ _ _ _
    |exact absurd rfl h1|exact absurd rfl h2
    |(refine aa.aj (λ_=>aa.stuck _) (λ_=>?_);first|exact vM _ _ _ _|exact K1 hp _ _ _ _|exact ze _ _ _ _|exact vN _ _ _)
  |pointer b=>simp only[rv];exact O6 hp op t b k a hy h1 h2
  |_=>simp only[rv];cases op<;>simp only[binOp]<;>first|exact aa.stuck _|exact absurd rfl h1|exact absurd rfl h2
 |float k a=>
  cases y with
  |float k2 b=>
   simp only[rv];cases op<;>simp only[binOp]<;>first
    |exact absurd rfl h1|exact absurd rfl h2
    |(refine aa.aj (λ_=>aa.stuck _) (λ_=>?_);first
       |exact nC (eI.mono (by rintro _ ⟨r,rfl⟩;exact EK _ _) (nD _ _ _ _))
       |exact nC (eI.mono (by rintro _ ⟨r,rfl⟩;exact oH _) (kg _ _ _ _)))
    |exact aa.stuck _
  |pointer b=>simp only[rv];cases op<;>simp only[binOp]<;>first|exact aa.unsupported _|exact absurd rfl h1|exact absurd rfl h2
  |_=>simp only[rv];cases op<;>simp only[binOp]<;>first|exact aa.stuck _|exact absurd rfl h1|exact absurd rfl h2
 |complex k a a2=>
  cases y with
  |complex k2 b b2=>
   simp only[rv];cases op<;>simp only[binOp]<;>first
    |exact absurd rfl h1|exact absurd rfl h2
    |(refine aa.aj (λ_=>aa.stuck _) (λ_=>?_);exact nC (lB _ _ _ _ _ _))
    |exact aa.stuck _
  |pointer b=>simp only[rv];cases op<;>simp only[binOp]<;>first|exact aa.unsupported _|exact absurd rfl h1|exact absurd rfl h2
  |_=>simp only[rv];cases op<;>simp only[binOp]<;>first|exact aa.stuck _|exact absurd rfl h1|exact absurd rfl h2
 |string a=>
  cases y with
  |string b=>simp only[rv,binOp];exact kB _ _ _
  |pointer b=>simp only[rv];cases op<;>simp only[binOp]<;>first|exact aa.unsupported _|exact absurd rfl h1|exact absurd rfl h2
  |_=>simp only[rv];cases op<;>simp only[binOp]<;>first|exact aa.stuck _|exact absurd rfl h1|exact absurd rfl h2
 |pointer a=>
  cases y with
  |pointer b=>simp only[rv];exact O4 hp op t a b hx hy h1 h2
  |int k b=>simp only[rv];exact O5 hp op t a k b hx h1 h2
  |_=>simp only[rv];cases op<;>simp only[binOp]<;>first|exact aa.unsupported _|exact absurd rfl h1|exact absurd rfl h2
 |_=>
  cases y with
  |pointer b=>simp only[rv];cases op<;>simp only[binOp]<;>first|exact aa.unsupported _|exact absurd rfl h1|exact absurd rfl h2
  |_=>simp only[rv];cases op<;>simp only[binOp]<;>first|exact aa.stuck _|exact absurd rfl h1|exact absurd rfl h2
end
section
variable {P:Ω}{ρ:Rn}{α β Vd Ve:Type}
theorem aa.mono' {R:α→β→Prop}{s:Sem α}{s1 s2:Sem β}(h:aa P ρ R s s1)(e:s1=s2):aa P ρ R s s2:=e▸h
theorem SJ (x y:Δ):aa P ρ (VV ρ) (Builtin.min2 x y) (Builtin.min2 (rv ρ x) (rv ρ y)):=by
 cases x with
 |pointer a=>
  cases a<;>cases y<;>simp only[rv,Γ,Builtin.min2]<;>first
   |exact aa.unsupported _|exact aa.stuck _|(rename_i b;cases b<;>simp only<;>first|exact aa.unsupported _|exact aa.stuck _)
 |int k a=>
  cases y<;>simp only[rv,Builtin.min2]<;>first
   |exact aa.pure (by simp[VV,rv])|exact aa.stuck _|exact aa.unsupported _|(rename_i b;cases b<;>simp only[Γ]<;>first|exact aa.unsupported _|exact aa.stuck _)
 |float k a=>
  cases y<;>simp only[rv,Builtin.min2]<;>first
   |(split<;>first|exact aa.pure (by simp[VV,rv])|(refine aa.bind (im _) ?_;rintro n _ rfl;exact aa.pure (by simp[VV,rv])))
   |exact aa.stuck _|exact aa.unsupported _|(rename_i b;cases b<;>simp only[Γ]<;>first|exact aa.unsupported _|exact aa.stuck _)
 |string a=>
  cases y<;>simp only[rv,Builtin.min2]<;>first
   |(refine aa.bind (kB _ _ _) ?_;rintro v _ rfl;refine aa.bind (vF v) ?_;rintro b _ rfl;exact aa.pure (by simp[VV,rv]))
   |exact aa.stuck _|exact aa.unsupported _|(rename_i b;cases b<;>simp only[Γ]<;>first|exact aa.unsupported _|exact aa.stuck _)
 |_=>
  cases y<;>simp only[rv,Builtin.min2]<;>first
   |exact aa.stuck _|exact aa.unsupported _|(rename_i b;cases b<;>simp only[Γ]<;>first|exact aa.unsupported _|exact aa.stuck _)
theorem SK (x y:Δ):aa P ρ (VV ρ) (Builtin.max2 x y) (Builtin.max2 (rv ρ x) (rv ρ y)):=by
 cases x with
 |pointer a=>
  cases a<;>cases y<;>simp only[rv,Γ,Builtin.max2]<;>first
   |exact aa.unsupported _|exact aa.stuck _|(rename_i b;cases b<;>simp only<;>first|exact aa.unsupported _|exact aa.stuck _)
 |int k a=>
  cases y<;>simp only[rv,Builtin.max2]<;>first
   |exact aa.pure (by simp[VV,rv])|exact aa.stuck _|exact aa.unsupported _|(rename_i b;cases b<;>simp only[Γ]<;>first|exact aa.unsupported _|exact aa.stuck _)
 |float k a=>
  cases y<;>simp only[rv,Builtin.max2]<;>first
   |(split<;>first|exact aa.pure (by simp[VV,rv])|(refine aa.bind (im _) ?_;rintro n _ rfl;exact aa.pure (by simp[VV,rv])))
   |exact aa.stuck _|exact aa.unsupported _|(rename_i b;cases b<;>simp only[Γ]<;>first|exact aa.unsupported _|exact aa.stuck _)
 |string a=>
  cases y<;>simp only[rv,Builtin.max2]<;>first
   |(refine aa.bind (kB _ _ _) ?_;rintro v _ rfl;refine aa.bind (vF v) ?_;rintro b _ rfl;exact aa.pure (by simp[VV,rv]))
   |exact aa.stuck _|exact aa.unsupported _|(rename_i b;cases b<;>simp only[Γ]<;>first|exact aa.unsupported _|exact aa.stuck _)
 |_=>
  cases y<;>simp only[rv,Builtin.max2]<;>first
   |exact aa.stuck _|exact aa.unsupported _|(rename_i b;cases b<;>simp only[Γ]<;>first|exact aa.unsupported _|exact aa.stuck _)
theorem vP {f:Δ→Δ→Sem Δ}(hf:∀x y,aa P ρ (VV ρ) (f x y) (f (rv ρ x) (rv ρ y))):∀(l:List Δ) (x:Δ),aa P ρ (VV ρ) (l.foldlM f x) ((l.map (rv ρ)).foldlM f (rv ρ x))
 |[],x=>by simp only[zbv,List.foldlM];exact aa.pure rfl
 |y::l,x=>by
  simp only[zaC,List.foldlM];refine aa.bind (hf x y) ?_;rintro v _ rfl;exact vP hf l v
theorem We (ts:Array Θ)(ty:Θ)(args:Array Δ):aa P ρ (VV ρ) (Builtin.min_ ts ty args) (Builtin.min_ ts ty (args.map (rv ρ))):=by
 unfold Builtin.min_;rw[zbk];cases args.toList with
 |nil=>exact aa.stuck _
 |cons x l=>exact vP SJ l x
theorem Wh (ts:Array Θ)(ty:Θ)(args:Array Δ):aa P ρ (VV ρ) (Builtin.max_ ts ty args) (Builtin.max_ ts ty (args.map (rv ρ))):=by
 unfold Builtin.max_;rw[zbk];cases args.toList with
 |nil=>exact aa.stuck _
 |cons x l=>exact vP SK l x
theorem pJ (a:Addr)(u:Θ)(n:Nat):aa P ρ Eq (variablesAt a u n) (variablesAt (ra ρ a) u n):=by
 unfold variablesAt;refine aa.bind cz ?_;rintro _ _ ⟨rfl,rfl⟩;refine aa.bind (gH a.block) ?_;rintro sh _ rfl;cases sh<;>exact aa.pure rfl
theorem ua:∀(n:Nat) (a:Addr) (acc:ByteArray),aa P ρ Eq (loadBytes a acc n) (loadBytes (ra ρ a) acc n)
 |0,a,acc=>aa.pure rfl
 |n+1,a,acc=>by
  unfold loadBytes;refine aa.bind (vE a) ?_;rintro v _ rfl;cases v with
  |int k b=>
   simp only[rv];cases k<;>first
    |exact aa.stuck _
    |(rw[jP];exact ua n (a.add 1) _)
  |_=>simp only[rv];exact aa.stuck _
theorem O8 (f:Δ→Δ)(x:Δ):(⟨[x]⟩:Array Δ).map f=⟨[f x]⟩:=by simp
theorem O9 (f:Δ→Δ)(x y:Δ):(⟨[x,y]⟩:Array Δ).map f=⟨[f x,f y]⟩:=by simp
theorem SL (a:Option Addr):rv ρ (.pointer a)=.pointer (a.map (ra ρ)):=by simp only[rv]
theorem Wi (a:Option Addr)(n c:Nat):rv ρ (.slice a n c)=.slice (a.map (ra ρ)) n c:=by simp only[rv]
theorem uF (ts:Array Θ)(ty:Θ)(p:Option Addr)(y:Δ):aa P ρ (VV ρ) (Ξ ts ty #[.pointer p,y]) (Ξ ts ty #[.pointer (p.map (ra ρ)),rv ρ y]):=by
 unfold Ξ;refine aa.bind (mn y) ?_;rintro n _ rfl;cases ts[0]? with
 |none=>exact aa.stuck _
 |some pt=>
  dsimp only;refine aa.aj (λ_=>jv (aN _)) (λ_=>?_);refine aa.aj (λ_=>jv (aa.unsupported _)) (λ_=>?_);cases p with
  |none=>
   exact aa.aj (λ_=>aa.pure (by simp[VV,rv])) (λ_=>aN _)
  |some a=>
   refine aa.aj (λ_=>aa.pure (by simp[VV,rv])) (λ_=>?_);refine aa.bind (vH pt) ?_;rintro e _ rfl;refine aa.bind (pJ a e n.toNat) ?_;rintro b _ rfl;refine aa.aj (λ_=>?_) (λ_=>aa.unsupported _);refine aa.bind (ua _ _ _) ?_;rintro s _ rfl;refine aa.bind (KY a n.toNat) ?_;rintro _ _ rfl;exact aa.pure (by simp[VV,rv])
theorem vQ (ts:Array Θ)(ty:Θ)(args:Array Δ):aa P ρ (VV ρ) (Ξ ts ty args) (Ξ ts ty (args.map (rv ρ))):=by
 rcases args with⟨l⟩
 match l with
 |[]=>exact aa.stuck _
 |[_]=>exact aa.stuck _
 |_::_::_::_=>exact aa.stuck _
 |[x,y]=>
  rw[O9];cases x with
  |pointer p=>rw[SL];exact uF ts ty p y
  |_=>exact aa.stuck _
theorem p5 (ts:Array Θ)(ty:Θ)(a:Option Addr)(n c:Nat):aa P ρ (VV ρ) (Φ ts ty #[.slice a n c]) (Φ ts ty #[.slice (a.map (ra ρ)) n c]):=by
 cases a with
 |none=>exact(aa.pure (by simp[VV,rv]):aa P ρ (VV ρ) (pure (.pointer none)) (pure (.pointer none)))
 |some a=>
  have:aa P ρ (VV ρ) (if c≠0 then pure (.pointer (some a))else do
   if(←viewAt a.block).isSome then pure (.pointer (some a))else pure (.pointer (some ⟨←newObj (.view a (←elemOf ty)),0,none⟩)):Sem Δ)
   (if c≠0 then pure (.pointer (some (ra ρ a)))else do
   if(←viewAt (ra ρ a).block).isSome then pure (.pointer (some (ra ρ a)))else pure (.pointer (some ⟨←newObj (.view (ra ρ a) (←elemOf ty)),0,none⟩)):Sem Δ):=by
   refine aa.aj (λ_=>aa.pure (by simp[VV,rv])) (λ_=>?_);refine aa.bind (qE a.block) ?_;rintro x _ rfl;simp only[Option.isSome_map];refine aa.aj (λ_=>aa.pure (by simp[VV,rv])) (λ_=>?_);refine aa.bind (vH ty) ?_;rintro e _ rfl;refine aa.bind (lQ (.view a e)) ?_;rintro r _ rfl;exact aa.pure (by simp[VV,rv,ra])
  exact this
theorem qH (ts:Array Θ)(ty:Θ)(args:Array Δ):aa P ρ (VV ρ) (Φ ts ty args) (Φ ts ty (args.map (rv ρ))):=by
 rcases args with⟨l⟩
 match l with
 |[]=>exact aa.stuck _
 |_::_::_=>exact aa.stuck _
 |[x]=>
  rw[O8];cases x with
  |slice a n c=>rw[Wi];exact p5 ts ty a n c
  |_=>exact aa.stuck _
theorem iZ (empty:Bool):∀(n:Nat) (t:Θ) (v:Δ),aa P ρ Eq (Instr.checkKey empty n t v) (Instr.checkKey empty n t (rv ρ v))
 |0,t,v=>aa.unsupported _
 |n+1,t,v=>by
  unfold Instr.checkKey;refine aa.bind (aq t) ?_;rintro d d' ⟨e,_⟩;subst e;cases d' with
  |interface ms=>
   cases v with
   |iface d x=>
    simp only[rv];refine aa.bind (eC d) ?_;rintro i i' ⟨e,_⟩;subst e;refine aa.aj (λ_=>?_) (λ_=>iZ empty n _ _);refine aa.aj (λ_=>jv (aN _)) (λ_=>?_);refine aa.bind (zb _) ?_;rintro q _ rfl;exact jv (aN _)
   |nilIface=>simp only[rv];exact aa.pure rfl
   |_=>simp only[rv];exact aa.stuck _
  |array m e=>
   cases v with
   |agg cs=>
    simp only[rv];refine aa.bind (R:=Eq) ?_ (by rintro _ _ rfl;exact aa.pure rfl)
    haveI:=lawful
    rw[Std.Legacy.Range.forIn_eq_forIn_range',Std.Legacy.Range.forIn_eq_forIn_range'];refine my (R:=Eq) (λf a b hab=>?_) _ _ _ rfl;subst hab;refine aa.bind (cd _) ?_;rintro sz _ rfl;refine aa.bind (nz _ _ _) ?_;rintro u _ rfl;refine aa.bind (iZ empty n _ _) ?_;rintro _ _ rfl;exact aa.pure (Or.inl ⟨_,_,rfl,rfl,rfl⟩)
   |_=>simp only[rv];exact aa.stuck _
  |struct fs=>
   cases v with
   |agg cs=>
    simp only[rv];refine aa.bind (R:=Eq) ?_ (by rintro _ _ rfl;exact aa.pure rfl)
    haveI:=lawful
    rw[←zbF,←zbF];refine my (R:=Eq) (λf a b hab=>?_) fs.toList _ _ rfl;subst hab;refine aa.aj (λ_=>?_) (λ_=>aa.pure (Or.inl ⟨_,_,rfl,rfl,rfl⟩));refine aa.bind (nz _ _ _) ?_;rintro u _ rfl;refine aa.bind (iZ empty n _ _) ?_;rintro _ _ rfl;exact aa.pure (Or.inl ⟨_,_,rfl,rfl,rfl⟩)
   |_=>simp only[rv];exact aa.stuck _
  |_=>cases v<;>simp only<;>exact aa.pure rfl
def re (ρ:Rn)(e:Λ):Λ:={ e with key:=rv ρ e.key,val:=rv ρ e.val }
theorem qI (hp:Plain P ρ)(t:Θ)(k:Δ)(hk:GV P ρ k):∀(es:List Λ) (i:Nat),(∀e∈es,GV P ρ e.key)→aa P ρ (λx y=>y=x.map λz=>(z.1,rv ρ z.2)) (Instr.findAsking t k es i) (Instr.findAsking t (rv ρ k) (es.map (re ρ)) i)
 |[],i,_=>aa.pure rfl
 |e::es,i,h=>by
  simp only[zaC,Instr.findAsking];refine aa.bind (Gv hp t k e.key hk (h e (by simp))) ?_;rintro b _ rfl;exact aa.aj (λ_=>aa.pure rfl) (λ_=>qI hp t k hk es (i+1) λx hx=>h x (by simp[hx]))
theorem EM (d:TypeDesc)(k x:Δ):Instr.sameNow d (rv ρ k) (rv ρ x)=Instr.sameNow d k x:=by
 cases d<;>cases k<;>simp only[rv,Instr.sameNow]<;>cases x<;>simp only[rv]
theorem vR (d:TypeDesc)(k:Δ):∀(es:List Λ) (i:Nat),η d (rv ρ k) (es.map (re ρ)) i=(η d k es i).map λx=>x.map λz=>(z.1,rv ρ z.2)
 |[],i=>rfl
 |e::es,i=>by
  simp only[zaC,η,re,EM];split
  ·rfl
  ·exact vR d k es (i+1)
  ·rfl
theorem sL (hp:Plain P ρ)(t:Θ)(k:Δ)(es:List Λ)(hk:GV P ρ k)(he:∀e∈es,GV P ρ e.key):aa P ρ (λx y=>y=x.map λz=>(z.1,rv ρ z.2)) (Instr.findKey t k es) (Instr.findKey t (rv ρ k) (es.map (re ρ))):=by
 unfold Instr.findKey;refine aa.bind (aq t) ?_;rintro d d' ⟨e,_⟩;subst e;rw[vR];cases η d' k es 0 with
 |some r=>exact aa.pure rfl
 |none=>exact qI hp t k hk es 0 he
theorem K3 {es:Array Λ}{c:Nat}(h:GO P ρ (.map es c)):∀e∈es.toList,GV P ρ e.key:=by
 intro e he;refine h.imp id λh=>?_;simp only[ro,Obj.map.injEq,zat]at h;obtain⟨i,hi,rfl⟩:=zbV.1 (Array.mem_toList_iff.1 he);have e1:(es.map λe=>{ e with key:=rv ρ e.key,val:=rv ρ e.val }:Array Λ)[i]'(by simpa using hi)=es[i]:=by simp only[h]
 simp only[zbM]at e1;generalize es[i]=x at e1 ⊢;obtain⟨k,v,b⟩:=x;simp only[MapEntry.mk.injEq,zat]at e1 ⊢;exact e1.1
theorem K4 (hp:Plain P ρ)(t:Θ)(x k:Δ)(ok:Bool)(hk:GV P ρ k):aa P ρ (VV ρ) (Instr.lookup t x k ok) (Instr.lookup t (rv ρ x) (rv ρ k) ok):=by
 unfold Instr.lookup;generalize 10000=N;refine aa.bind (aq t) ?_;rintro d d' ⟨e,_⟩;subst e;cases d' with
 |map key elem=>
  dsimp only;cases x with
  |map r=>
   cases r with
   |none=>
    simp only[rv,Γ];refine aa.bind (R:=λ(es es':Array Λ)=>es'=es.map (re ρ)∧∀e∈es.toList,GV P ρ e.key) (aa.pure ⟨by simp,by simp⟩) ?_;rintro es _ ⟨rfl,he⟩;rw[show(es.map (re ρ)).isEmpty=es.isEmpty by simp[Array.isEmpty]];refine aa.bind (iZ _ _ _ _) ?_;rintro _ _ rfl;rw[zbk];refine aa.bind (sL hp key k es.toList hk he) ?_;rintro r _ rfl;cases r with
    |some z=>exact aa.pure (by cases ok<;>simp[VV,rv])
    |none=>
     simp only[Γ];refine aa.bind (eo hp elem) ?_;rintro v _ ⟨rfl,hv⟩;exact aa.pure (by cases ok<;>simp[VV,rv,hv])
   |some r=>
    simp only[rv,Γ];refine aa.bind (lS r) ?_;rintro o _ ⟨rfl,ho⟩;cases o with
    |map es0 c=>
     refine aa.bind (R:=λ(es es':Array Λ)=>es'=es.map (re ρ)∧∀e∈es.toList,GV P ρ e.key) (aa.pure ⟨rfl,K3 ho⟩) ?_;rintro es _ ⟨rfl,he⟩;rw[show(es.map (re ρ)).isEmpty=es.isEmpty by simp[Array.isEmpty]];refine aa.bind (iZ _ _ _ _) ?_;rintro _ _ rfl;rw[zbk];refine aa.bind (sL hp key k es.toList hk he) ?_;rintro r _ rfl;cases r with
     |some z=>exact aa.pure (by cases ok<;>simp[VV,rv])
     |none=>
      simp only[Γ];refine aa.bind (eo hp elem) ?_;rintro v _ ⟨rfl,hv⟩;exact aa.pure (by cases ok<;>simp[VV,rv,hv])
    |_=>exact aa.stuck _
  |_=>simp only[rv];exact aa.stuck _
 |_=>exact aa.stuck _
theorem Cg (hp:Plain P ρ):∀(n:Nat) (x y:Δ),Instr.sameBits n (rv ρ x) (rv ρ y)=Instr.sameBits n x y:=by
 intro n
 induction n with
 |zero=>
  intro x y;cases x<;>cases y<;>simp only[rv,Instr.sameBits]
  ·rename_i a b;cases a<;>cases b<;>simp[vK hp]
  ·rename_i a b;cases a<;>cases b<;>simp[sK hp]
 |succ n ih=>
  intro x y;cases x<;>cases y<;>simp only[rv,Instr.sameBits,ih]
  ·rename_i a b;cases a<;>cases b<;>simp[vK hp]
  ·rename_i a b;cases a<;>cases b<;>simp[sK hp]
  ·rename_i a b;simp only[Array.size_map,zbk,List.zip_map,List.all_map]
   congr 2
   funext z;exact ih z.1 z.2
theorem vS (hp:Plain P ρ)(x y:Δ):aa P ρ (VV ρ) (Instr.keyThatStays x y) (Instr.keyThatStays (rv ρ x) (rv ρ y)):=by
 unfold Instr.keyThatStays;rw[Cg hp];refine aa.aj (λ_=>aa.pure rfl) (λ_=>?_);refine aa.bind (im _) ?_;rintro n _ rfl;exact aa.pure (by simp only[VV];split<;>rfl)
theorem Ch (hp:Plain P ρ)(t:Θ)(m k v:Δ)(hk:GV P ρ k):aa P ρ Eq (Instr.mapUpdate t m k v) (Instr.mapUpdate t (rv ρ m) (rv ρ k) (rv ρ v)):=by
 unfold Instr.mapUpdate;refine aa.bind (aq t) ?_;rintro d d' ⟨e,_⟩;subst e;cases d' with
 |map key elem=>
  dsimp only;cases m with
  |map r=>
   cases r with
   |none=>simp only[rv,Γ];exact aN _
   |some r=>
    simp only[rv,Γ];refine aa.bind (lS r) ?_;rintro o _ ⟨rfl,ho⟩;cases o with
    |map es c=>
     simp only[ro];refine aa.bind (iZ _ _ _ _) ?_;rintro _ _ rfl;have hf:=sL hp key k es.toList hk (K3 ho);rw[show es.toList.map (re ρ)=(es.map (λe=>{ e with key:=rv ρ e.key,val:=rv ρ e.val }:Λ→Λ)).toList from(zbk ..).symm]at hf;refine aa.bind hf ?_;rintro q _ rfl;cases q with
     |none=>
      refine(Cb (ρ:=ρ) r (.map (es.push { key:=k,val:=v,born:=c }) (c+1)) trivial).mono' ?_;simp[ro]
     |some z=>
      simp only[Γ];have RF:=vS (P:=P) hp (((es[z.1]?).map (·.key)).getD k) k;have e1:rv ρ (((es[z.1]?).map (·.key)).getD k)=((((es.map (λe=>{ e with key:=rv ρ e.key,val:=rv ρ e.val }:Λ→Λ))[z.1]?).map (·.key)).getD (rv ρ k)):=by
       rw[zaw];cases es[z.1]?<;>rfl
      rw[e1]at RF;refine aa.bind RF ?_;rintro k2 _ rfl;refine(Cb (ρ:=ρ) r (.map (es.modify z.1 λe=>{ e with key:=k2,val:=v }) c) trivial).mono' ?_;simp only[ro]
      congr 2
      apply Array.ext
      ·simp
      ·intro i h1 h2;simp only[zbM,Array.getElem_modify];split<;>rfl
    |_=>simp only[ro];exact aa.stuck _
  |_=>simp only[rv];exact aa.stuck _
 |_=>exact aa.stuck _
theorem IK (t:Θ)(r:Option Δ):aa P ρ (VV ρ) (Instr.makeMap t r) (Instr.makeMap t (r.map (rv ρ))):=by
 unfold Instr.makeMap;have last:aa P ρ (VV ρ) (do pure (.map (some (←newObj (.map #[] 0)))):Sem Δ) (do pure (.map (some (←newObj (.map #[] 0)))):Sem Δ):=by
  have:=lQ (P:=P) (ρ:=ρ) (.map #[] 0) trivial;simp only[ro,zcd]at this;refine aa.bind this ?_;rintro r _ rfl;exact aa.pure (by simp[VV,rv])
 cases r with
 |none=>exact last
 |some h=>
  simp only[Γ];refine aa.bind (aq t) ?_;rintro d d' ⟨e,_⟩;subst e;cases d' with
  |map key elem=>
   dsimp only;refine aa.bind (mn h) ?_;rintro _ _ rfl;exact last
  |_=>exact jv (aa.stuck _)
theorem Aq (hp:Plain P ρ)(x:Δ)(t u:Θ):aa P ρ (VV ρ) (Instr.typeAssert x t u true) (Instr.typeAssert (rv ρ x) t u true):=by
 unfold Instr.typeAssert;have fails:∀(s d:Option Θ) (m:String),aa P ρ (VV ρ) (do pure (.tuple #[←θ u,.bool false]):Sem Δ) (do pure (.tuple #[←θ u,.bool false]):Sem Δ):=λs d m=>by
  refine aa.bind (eo hp u) ?_;rintro v _ ⟨rfl,hv⟩;exact aa.pure (by simp[VV,rv,hv])
 have holds:∀v:Δ,aa P ρ (VV ρ) (pure (.tuple #[v,.bool true]):Sem Δ) (pure (.tuple #[rv ρ v,.bool true]):Sem Δ):=λv=>aa.pure (by simp[VV,rv]);refine aa.bind (aq u) ?_;rintro d d' ⟨e,_⟩;subst e;cases x with
 |nilIface=>cases d'<;>simp only[rv]<;>exact fails none none ""
 |iface a v=>
  cases d' with
  |interface ms=>
   simp only[rv];refine aa.bind (eC a) ?_;rintro i i' ⟨e,_⟩;subst e;split
   ·have:=holds (.iface a v);rw[show rv ρ (.iface a v)=.iface a (rv ρ v) by simp only[rv]]at this;exact this
   ·exact fails none none ""
  |_=>simp only[rv];exact aa.aj (λ_=>holds v) (λ_=>fails none none "")
 |_=>cases d'<;>simp only[rv]<;>exact aa.stuck _
end
end Go.Ren
