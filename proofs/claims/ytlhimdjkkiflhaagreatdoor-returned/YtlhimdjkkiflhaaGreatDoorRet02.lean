import Derived.Test.YtlhimdjkkiflhaaGreatDoorRet01
set_option maxHeartbeats 8000000
set_option maxRecDepth 100000
open Option renaming map→Γ
open Go renaming Value→Δ,TypeId→Θ,MapEntry→Λ,Program→Ω,zeroValue→η
open Go.Builtin renaming unsafeString_→Ξ,unsafeSliceData_→Φ
open Go.Instr renaming findNow→ζ
namespace Go.Ren
section
variable {P:Ω}{ρ:Rn}{α β Z7 Z8:Type}
theorem JH (hp:Plain P ρ)(t:Θ)(x y:Δ)(hx:GV P ρ x)(hy:GV P ρ y):ae P ρ Eq (Op.equal t x y) (Op.equal t (rv ρ x) (rv ρ y)):=pz hp _ t x y hx hy
theorem oo:∀(n:Nat) (t:Θ) (x y:Δ),ae P ρ Eq (Op.eqGuardIn n t x y) (Op.eqGuardIn n t (rv ρ x) (rv ρ y))
 |0,t,x,y=>by unfold Op.eqGuardIn;exact ae.unsupported _
 |n+1,t,x,y=>by
  unfold Op.eqGuardIn;refine ae.bind (ax t) ?_;rintro d d' ⟨e,_⟩;subst e;cases d' with
  |interface ms=>cases x<;>cases y<;>simp only[rv]<;>exact ae.pure rfl
  |struct fs=>
   cases x<;>simp only[rv]<;>try exact ae.pure rfl
   cases y<;>simp only[rv]<;>try exact ae.pure rfl
   refine ae.bind (R:=Eq) ?_ ?_
   ·rw[←zbP,←zbP];refine mM (R:=Eq) (λf a b hab=>?_) fs.toList _ _ rfl;subst hab;refine ae.aj (λ_=>?_) (λ_=>ae.pure (Or.inl ⟨_,_,rfl,rfl,rfl⟩));refine ae.bind (og _ _ _) ?_;rintro v _ rfl;refine ae.bind (og _ _ _) ?_;rintro u _ rfl;refine ae.bind (oo n _ _ _) ?_;rintro r _ rfl;exact ae.aj (λ_=>ae.pure (Or.inr ⟨_,_,rfl,rfl,rfl⟩)) (λ_=>ae.pure (Or.inl ⟨_,_,rfl,rfl,rfl⟩))
   ·rintro r _ rfl;split<;>exact ae.pure rfl
  |array m e=>
   cases x<;>simp only[rv]<;>try exact ae.pure rfl
   cases y<;>simp only[rv]<;>try exact ae.pure rfl
   refine ae.bind (cC _) ?_;rintro sz _ rfl;refine ae.bind (R:=Eq) ?_ ?_
   ·haveI:=lawful
    rw[Std.Legacy.Range.forIn_eq_forIn_range',Std.Legacy.Range.forIn_eq_forIn_range'];refine mM (R:=Eq) (λf a b hab=>?_) _ _ _ rfl;subst hab;refine ae.bind (og _ _ _) ?_;rintro v _ rfl;refine ae.bind (og _ _ _) ?_;rintro u _ rfl;refine ae.bind (oo n _ _ _) ?_;rintro r _ rfl;exact ae.aj (λ_=>ae.pure (Or.inr ⟨_,_,rfl,rfl,rfl⟩)) (λ_=>ae.pure (Or.inl ⟨_,_,rfl,rfl,rfl⟩))
   ·rintro r _ rfl;split<;>exact ae.pure rfl
  |_=>cases x<;>simp only<;>exact ae.pure rfl
theorem K9 (op:BinOp)(t:Θ)(x y:Operand)(a b:Δ):ae P ρ Eq (eqGuard op t x y a b) (eqGuard op t x y (rv ρ a) (rv ρ b)):=by
 have hg:=oo (P:=P) (ρ:=ρ) Op.maxDepth t a b;unfold eqGuard;refine ae.aj (λ_=>ae.pure rfl) (λ_=>?_);cases a<;>cases b<;>simp only[rv]at hg ⊢<;>try exact ae.pure rfl
 ·refine ae.aj (λ_=>ae.pure rfl) (λ_=>?_);refine ae.bind hg ?_;rintro r _ rfl;exact ae.aj (λ_=>ae.unsupported _) (λ_=>ae.pure rfl)
 ·refine ae.bind cL ?_;rintro _ _ ⟨rfl,rfl⟩;refine ae.bind cL ?_;rintro _ _ ⟨rfl,rfl⟩;refine ae.aj (λ_=>ae.pure rfl) (λ_=>?_);refine ae.bind hg ?_;rintro r _ rfl;exact ae.aj (λ_=>ae.unsupported _) (λ_=>ae.pure rfl)
theorem xl (op:BinOp)(k:IntKind)(a b:Int):ae P ρ (VV ρ) (Op.intArith op k a b) (Op.intArith op k a b):=by
 cases op<;>simp only[Op.intArith]<;>first|exact ae.stuck _|exact ae.pure (by simp[VV,rv])
theorem N8 (_hp:Plain P ρ)(op:BinOp)(k:IntKind)(a b:Int):ae P ρ (VV ρ) (Op.intDiv op k a b) (Op.intDiv op k a b):=by
 unfold Op.intDiv;refine ae.aj (λ_=>aX _) (λ_=>?_);cases op<;>first|exact ae.stuck _|exact ae.pure (by simp[VV,rv])
theorem A4 (op:BinOp)(k:IntKind)(a b:Int):ae P ρ (VV ρ) (Op.intBits op k a b) (Op.intBits op k a b):=by
 cases op<;>simp only[Op.intBits]<;>first|exact ae.stuck _|exact ae.pure (by simp[VV,rv])
theorem xm (op:BinOp)(a b:Int):ae P ρ (VV ρ) (Op.intCmp op a b) (Op.intCmp op a b):=by
 cases op<;>simp only[Op.intCmp]<;>first|exact ae.stuck _|exact ae.pure (by simp[VV,rv])
theorem Ti (_hp:Plain P ρ)(op:BinOp)(k:IntKind)(a:Int)(k2:IntKind)(b:Int):ae P ρ (VV ρ) (Op.shift op k a k2 b) (Op.shift op k a k2 b):=by
 unfold Op.shift;refine ae.aj (λ_=>aX _) (λ_=>?_);cases op<;>first|exact ae.stuck _|exact ae.pure (by simp[VV,rv])
theorem kH (op:BinOp)(a b:ByteArray):ae P ρ (VV ρ) (Op.stringOp op a b) (Op.stringOp op a b):=by
 cases op<;>simp only[Op.stringOp]<;>first|exact ae.stuck _|exact ae.pure (by simp[VV,rv])|exact ae.aj (λ_=>ae.unsupported _) (λ_=>ae.pure (by simp[VV,rv]))
theorem Tj (op:UnOp)(x:Δ):ae P ρ (VV ρ) (Op.unary op x) (Op.unary op (rv ρ x)):=by
 cases x with
 |pointer a=>cases op<;>cases a<;>simp only[rv,Γ,Op.unary]<;>first|exact ae.stuck _|exact ae.unsupported _
 |int k n=>cases op<;>simp only[rv,Op.unary]<;>first|exact ae.stuck _|exact xl _ _ _ _|exact A4 _ _ _ _
 |_=>cases op<;>simp only[rv,Op.unary]<;>first|exact ae.stuck _|exact ae.pure (by simp[VV,rv])
def eX (P:Ω){α:Type}(A:α→Prop):Sem α→Prop
 |.pure a=>A a
 |.choose _ k=>∀n,eX P A (k n)
 |.program k=>eX P A (k P)
 |.halt h=>DW h
 |_=>False
theorem eX.bind {A:α→Prop}{B:β→Prop}:∀{s:Sem α} {f:α→Sem β},eX P A s→(∀a,A a→eX P B (f a))→eX P B (s>>=f)
 |.pure a,_f,h,hf=>hf a h
 |.choose _ _k,_f,h,hf=>λn=>eX.bind (h n) hf
 |.program k,_f,h,hf=>eX.bind (s:=k P) h hf
 |.halt _,_f,h,_hf=>h
 |.load ..,_f,h,_hf=>h.elim
 |.store ..,_f,h,_hf=>h.elim
 |.new ..,_f,h,_hf=>h.elim
 |.shape ..,_f,h,_hf=>h.elim
 |.freeze ..,_f,h,_hf=>h.elim
 |.frozen ..,_f,h,_hf=>h.elim
 |.getObj ..,_f,h,_hf=>h.elim
 |.setObj ..,_f,h,_hf=>h.elim
 |.sys ..,_f,h,_hf=>h.elim
 |.mark ..,_f,h,_hf=>h.elim
theorem eX.mono {A B:α→Prop}(hAB:∀a,A a→B a):∀{s:Sem α},eX P A s→eX P B s
 |.pure a,h=>hAB a h
 |.choose _ _k,h=>λn=>eX.mono hAB (h n)
 |.program k,h=>eX.mono (s:=k P) hAB h
 |.halt _,h=>h
 |.load ..,h=>h.elim
 |.store ..,h=>h.elim
 |.new ..,h=>h.elim
 |.shape ..,h=>h.elim
 |.freeze ..,h=>h.elim
 |.frozen ..,h=>h.elim
 |.getObj ..,h=>h.elim
 |.setObj ..,h=>h.elim
 |.sys ..,h=>h.elim
 |.mark ..,h=>h.elim
theorem N9 {A:α→Prop}{R:α→α→Prop}(hA:∀a,A a→R a a):∀{s:Sem α},eX P A s→ae P ρ R s s
 |.pure a,h=>⟨a,rfl,hA a h⟩
 |.choose _ k,h=>⟨k,rfl,λn=>N9 hA (h n)⟩
 |.program k,h=>⟨k,rfl,N9 (s:=k P) hA h⟩
 |.halt _,h=>h
 |.load ..,h=>h.elim
 |.store ..,h=>h.elim
 |.new ..,h=>h.elim
 |.shape ..,h=>h.elim
 |.freeze ..,h=>h.elim
 |.frozen ..,h=>h.elim
 |.getObj ..,h=>h.elim
 |.setObj ..,h=>h.elim
 |.sys ..,h=>h.elim
 |.mark ..,h=>h.elim
def gq (v:Δ):Prop:=∀ρ:Rn,rv ρ v=v
theorem oq {s:Sem Δ}(h:eX P gq s):ae P ρ (VV ρ) s s:=N9 (λ_a h=>(h ρ).symm) h
theorem XT (k:FloatKind)(q:Question)(r:Option Nat):eX P (λv=>∃r,v=.float k r) (match r with|some r=>pure (Δ.float k r)|none=>do let x ←choose q;pure (Δ.float k x):Sem Δ):=by
 cases r with
 |none=>exact λn=>⟨_,rfl⟩
 |some r=>exact⟨r,rfl⟩
theorem ot (op:BinOp)(k:FloatKind)(x y:Nat):eX P (λv=>∃r,v=.float k r) (Op.floatArith op k x y):=by
 unfold Op.floatArith;cases op<;>first|exact XT k _ _|trivial
theorem Hd (k:FloatKind)(r:Nat):gq (.float k r):=λρ=>by simp[rv]
theorem pA (b:Bool):gq (.bool b):=λρ=>by simp[rv]
theorem kn (op:BinOp)(k:FloatKind)(x y:Nat):eX P (λv=>∃r,v=.bool r) (Op.floatCmp op k x y):=by
 unfold Op.floatCmp;cases op<;>first|exact⟨_,rfl⟩|trivial
open Op.Complex in
theorem aZ (op:BinOp)(k:FloatKind)(x y:Nat):eX P (λ_=>True) (arith op k x y):=by
 unfold arith;refine eX.bind (ot op k x y) ?_;rintro _ ⟨r,rfl⟩;trivial
open Op.Complex in
theorem rQ (op:BinOp)(k:FloatKind)(x y:Nat):eX P (λ_=>True) (cmp op k x y):=by
 unfold cmp;refine eX.bind (kn op k x y) ?_;rintro _ ⟨r,rfl⟩;trivial
open Op.Complex in
theorem jH (k:FloatKind)(x:Nat)(d:FloatKind):eX P (λ_=>True) (conv k x d):=by
 unfold conv
 split
 ·trivial
 ·refine eX.bind (A:=λv=>∃k r,v=.float k r) ?_ ?_
  ·unfold Conv.floatToFloat
   split
   ·exact⟨_,_,rfl⟩
   ·split
    ·exact λn=>⟨_,_,rfl⟩
    ·exact⟨_,_,rfl⟩
    ·dsimp only;split
     ·exact λn=>⟨_,_,rfl⟩
     ·exact⟨_,_,rfl⟩
  ·rintro _ ⟨_,r,rfl⟩;trivial
open Op.Complex in
theorem Eb (a b c d:Nat):eX P (λ_=>True) (product a b c d):=by
 unfold product;refine eX.bind (aZ _ _ _ _) λ_ _=>eX.bind (aZ _ _ _ _) λ_ _=>eX.bind (aZ _ _ _ _) λ_ _=>eX.bind (aZ _ _ _ _) λ_ _=>eX.bind (aZ _ _ _ _) λ_ _=>eX.bind (aZ _ _ _ _) λ_ _=>trivial
open Op.Complex in
theorem qp (s a b c d:Nat):eX P (λ_=>True) (corrected s a b c d):=by
 unfold corrected;refine eX.bind (aZ _ _ _ _) λ_ _=>eX.bind (aZ _ _ _ _) λ_ _=>eX.bind (aZ _ _ _ _) λ_ _=>eX.bind (aZ _ _ _ _) λ_ _=>eX.bind (aZ _ _ _ _) λ_ _=>eX.bind (aZ _ _ _ _) λ_ _=>eX.bind (aZ _ _ _ _) λ_ _=>eX.bind (aZ _ _ _ _) λ_ _=>trivial
open Op.Complex in
theorem Ct (a b c d:Nat):eX P (λ_=>True) (quotient a b c d):=by
 unfold quotient;have tail:∀x:Nat×Nat,eX P (λ_=>True) (do
  let zero:=(←cmp .eql .f64 c 0)&&(←cmp .eql .f64 d 0)
  if !(isNaN x.1&&isNaN x.2)then pure x
  else if zero&&(!isNaN a||!isNaN b)then
   pure (←mul (copysign inf c) a,←mul (copysign inf c) b)
  else if(isInf a||isInf b)&&isFinite c&&isFinite d then corrected inf (inf2one a) (inf2one b) c d
  else if(isInf c||isInf d)&&isFinite a&&isFinite b then corrected 0 a b (inf2one c) (inf2one d)
  else pure x:Sem (Nat×Nat)):=λx=>by
  refine eX.bind (rQ _ _ _ _) λ_ _=>eX.bind (rQ _ _ _ _) λ_ _=>?_;dsimp only;split
  ·trivial
  ·split
   ·exact eX.bind (aZ _ _ _ _) λ_ _=>eX.bind (aZ _ _ _ _) λ_ _=>trivial
   ·split
    ·exact qp _ _ _ _ _
    ·split
     ·exact qp _ _ _ _ _
     ·trivial
 refine eX.bind (rQ _ _ _ _) λq _=>?_;cases q
 ·refine eX.bind (aZ _ _ _ _) λ_ _=>eX.bind (aZ _ _ _ _) λ_ _=>eX.bind (aZ _ _ _ _) λ_ _=>eX.bind (aZ _ _ _ _) λ_ _=>eX.bind (aZ _ _ _ _) λ_ _=>eX.bind (aZ _ _ _ _) λ_ _=>eX.bind (aZ _ _ _ _) λ_ _=>eX.bind (aZ _ _ _ _) λ_ _=>eX.bind (aZ _ _ _ _) λ_ _=>?_;exact tail (_,_)
 ·refine eX.bind (aZ _ _ _ _) λ_ _=>eX.bind (aZ _ _ _ _) λ_ _=>eX.bind (aZ _ _ _ _) λ_ _=>eX.bind (aZ _ _ _ _) λ_ _=>eX.bind (aZ _ _ _ _) λ_ _=>eX.bind (aZ _ _ _ _) λ_ _=>eX.bind (aZ _ _ _ _) λ_ _=>eX.bind (aZ _ _ _ _) λ_ _=>eX.bind (aZ _ _ _ _) λ_ _=>?_;exact tail (_,_)
open Op.Complex in
theorem lQ (op:BinOp)(k:FloatKind)(a b c d:Nat):eX P gq (Op.complexOp op k a b c d):=by
 have bc:∀a b,gq (.complex k a b):=λa b ρ=>by simp[rv]
 unfold Op.complexOp;cases op<;>first
  |exact eX.bind (aZ _ _ _ _) λ_ _=>eX.bind (aZ _ _ _ _) λ_ _=>bc _ _
  |exact eX.bind (rQ _ _ _ _) λ_ _=>eX.bind (rQ _ _ _ _) λ_ _=>pA _
  |(refine eX.bind (jH _ _ _) λ_ _=>eX.bind (jH _ _ _) λ_ _=>eX.bind (jH _ _ _) λ_ _=>eX.bind (jH _ _ _) λ_ _=>?_
    first
    |exact eX.bind (Eb _ _ _ _) λ_ _=>eX.bind (jH _ _ _) λ_ _=>eX.bind (jH _ _ _) λ_ _=>bc _ _
    |exact eX.bind (Ct _ _ _ _) λ_ _=>eX.bind (jH _ _ _) λ_ _=>eX.bind (jH _ _ _) λ_ _=>bc _ _)
  |trivial
end
end Go.Ren
namespace Go.Ren
open Go
section
variable {P:Ω}{ρ:Rn}{α β Z7 Z8:Type}
theorem uO (hp:Plain P ρ)(a b:Addr)(ha:GA P ρ a):ae P ρ Eq (Op.twoPlaces a b) (Op.twoPlaces (ra ρ a) (ra ρ b)):=by
 unfold Op.twoPlaces;refine ae.bind cL ?_;rintro _ _ ⟨rfl,rfl⟩;have e1:((ra ρ a).block != (ra ρ b).block)=(a.block != b.block):=by
  show(!((ra ρ a).block==(ra ρ b).block))=_;rw[show((ra ρ a).block==(ra ρ b).block)=(a.block==b.block) from tM hp _ _];rfl
 have e2:decide ((ra ρ a).block≥P.globals.size)=decide (a.block≥P.globals.size):=by
  rw[decide_eq_decide];have:=JG ha;omega
 simp only[e1,e2];refine ae.aj (λ_=>jG (ae.unsupported _)) (λ_=>?_);refine ae.bind (kF _) ?_;rintro x _ rfl;refine ae.bind (kF _) ?_;rintro y _ rfl;exact ae.pure rfl
theorem Lb (hp:Plain P ρ)(k:IntKind)(a b:Addr)(ha:GA P ρ a):ae P ρ (VV ρ) (Op.addrSub k a b) (Op.addrSub k (ra ρ a) (ra ρ b)):=by
 unfold Op.addrSub;refine ae.bind (uO hp a b ha) ?_;rintro x _ rfl;exact ae.pure (by simp[VV,rv])
theorem Ld (hp:Plain P ρ)(op:BinOp)(a b:Addr)(ha:GA P ρ a):ae P ρ (VV ρ) (Op.addrCmp op a b) (Op.addrCmp op (ra ρ a) (ra ρ b)):=by
 unfold Op.addrCmp;refine ae.bind (uO hp a b ha) ?_;rintro x _ rfl;cases op<;>first|exact ae.unsupported _|exact ae.pure (by simp[VV,rv])
theorem A5 (k:IntKind)(a:Addr)(n:Int):ae P ρ (VV ρ) (Op.addrMod k a n) (Op.addrMod k (ra ρ a) n):=by
 unfold Op.addrMod;refine ae.bind (gT a.block) ?_;rintro sh _ rfl;cases sh with
 |none=>exact ae.unsupported _
 |some x=>
  obtain⟨e,m⟩:=x;dsimp only;refine ae.bind (eQ _) ?_;rintro i i' ⟨e,_⟩;subst e;refine ae.aj (λ_=>jG (ae.unsupported _)) (λ_=>?_);refine ae.bind (kF _) ?_;rintro q _ rfl;exact ae.pure (by simp[VV,rv])
theorem lz (ts:Array Θ)(t:Θ)(a:Option Addr)(y:Δ):ae P ρ (VV ρ) (Builtin.unsafeAdd_ ts t #[.pointer a,y]) (Builtin.unsafeAdd_ ts t #[.pointer (a.map (ra ρ)),rv ρ y]):=by
 unfold Builtin.unsafeAdd_;dsimp only;refine ae.bind (mI y) ?_;rintro n _ rfl;refine ae.aj (λ_=>?_) (λ_=>?_)
 ·cases a with
  |none=>exact ae.unsupported _
  |some a=>
   simp only[Γ];refine ae.bind (rP a.block) ?_;rintro x _ rfl;simp only[Option.isSome_map];exact ae.aj (λ_=>jG (ae.unsupported _)) (λ_=>ae.pure (by simp[VV,rv]))
 ·refine ae.aj (λ_=>jG (ae.unsupported _)) (λ_=>?_);cases a with
  |none=>exact ae.unsupported _
  |some a=>
   simp only[Γ];refine ae.bind (gT a.block) ?_;rintro sh _ rfl;cases sh with
   |none=>exact ae.unsupported _
   |some x=>
    obtain⟨e,m⟩:=x;dsimp only;refine ae.bind cL ?_;rintro _ _ ⟨rfl,rfl⟩;have:(ra ρ a).off=a.off:=rfl;rw[this];split
    ·exact ae.pure (by simp[VV,rv,ra])
    ·exact ae.unsupported _
theorem He (a:Addr)(l:Bool):ae P ρ (VV ρ) (asNumber a l) (asNumber (ra ρ a) l):=by
 unfold asNumber;refine ae.bind (l7 (.number a l)) ?_;rintro r _ rfl;exact ae.pure (by simp[VV,rv,ra])
theorem Ap (t:Θ)(a:Option Addr)(y:Δ)(ha:GV P ρ (.pointer a)):ae P ρ (VV ρ) (movedNumber t (.pointer a) y) (movedNumber t (.pointer (a.map (ra ρ))) (rv ρ y)):=by
 unfold movedNumber;refine ae.bind (ax t) ?_;rintro d d' ⟨e,_⟩;subst e;refine ae.aj (λ_=>jG (ae.unsupported _)) (λ_=>?_);cases a with
 |none=>exact lz _ _ none y
 |some n=>
  simp only[Γ];refine ae.bind (eo n (qV ha)) ?_;rintro x _ ⟨rfl,_⟩;refine ae.bind (lz _ _ (some x.1) y) ?_;rintro v _ rfl;cases v with
  |pointer b=>
   cases b with
   |none=>simp only[rv,Γ];exact ae.pure (by simp[VV,rv])
   |some b=>simp only[rv,Γ];exact He b x.2
  |_=>simp only[rv];exact ae.pure (by simp[VV,rv])
theorem xn (t:Θ)(a:Option Addr)(y:Δ):ae P ρ (VV ρ) (movedPointer t (.pointer a) y) (movedPointer t (.pointer (a.map (ra ρ))) (rv ρ y)):=by
 unfold movedPointer;cases a with
 |none=>exact lz _ _ none y
 |some n=>
  simp only[Γ];refine ae.bind (xh n.block) ?_;rintro x _ ⟨rfl,_⟩;simp only[Option.isSome_map];exact ae.aj (λ_=>jG (ae.unsupported _)) (λ_=>lz _ _ (some n) y)
theorem kI (t:Θ)(a:Option Addr)(k:IntKind)(n:Int)(ha:GV P ρ (.pointer a)):ae P ρ (VV ρ) (movedNumber t (.pointer a) (.int k n)) (movedNumber t (.pointer (a.map (ra ρ))) (.int k n)):=by
 have h:=Ap t a (.int k n) ha;simpa only[rv]using h
theorem vD (t:Θ)(a:Option Addr)(k:IntKind)(n:Int):ae P ρ (VV ρ) (movedPointer t (.pointer a) (.int k n)) (movedPointer t (.pointer (a.map (ra ρ))) (.int k n)):=by
 have h:=xn (P:=P) (ρ:=ρ) t a (.int k n);simpa only[rv]using h
theorem Tl (hp:Plain P ρ)(op:BinOp)(t:Θ)(a b:Option Addr)(hx:GV P ρ (.pointer a))(hy:GV P ρ (.pointer b))(h1:op≠.eql)(h2:op≠.neq):ae P ρ (VV ρ) (binOp op t (.pointer a) (.pointer b)) (binOp op t (.pointer (a.map (ra ρ))) (.pointer (b.map (ra ρ)))):=by
 cases a<;>cases b<;>cases op<;>simp only[binOp,Γ]<;>first
  |exact absurd rfl h1|exact absurd rfl h2
  |exact ae.unsupported _|exact ae.stuck _
  |(refine ae.bind (eo _ (qV hx)) ?_;rintro x1 _ ⟨rfl,gx⟩;refine ae.bind (eo _ (qV hy)) ?_;rintro y1 _ ⟨rfl,gy⟩;first|exact Lb hp _ _ _ gx|exact Ld hp _ _ _ gx)
theorem Tn (_hp:Plain P ρ)(op:BinOp)(t:Θ)(a:Option Addr)(k:IntKind)(b:Int)(hx:GV P ρ (.pointer a))(h1:op≠.eql)(h2:op≠.neq):ae P ρ (VV ρ) (binOp op t (.pointer a) (.int k b)) (binOp op t (.pointer (a.map (ra ρ))) (.int k b)):=by
 cases op<;>simp only[binOp]<;>first
  |exact absurd rfl h1|exact absurd rfl h2
  |exact kI t _ k _ hx
  |(refine ae.bind (ax t) ?_;rintro d d' ⟨e,_⟩;subst e;exact ae.aj (λ_=>vD t _ k b) (λ_=>kI t _ k b hx))
  |exact ae.unsupported _
  |(cases a<;>simp only[Γ]<;>first|exact ae.unsupported _|(refine ae.bind (eo _ (qV hx)) ?_;rintro x1 _ ⟨rfl,gx⟩;exact A5 _ _ _))
theorem Tq (_hp:Plain P ρ)(op:BinOp)(t:Θ)(a:Option Addr)(k:IntKind)(b:Int)(hx:GV P ρ (.pointer a))(h1:op≠.eql)(h2:op≠.neq):ae P ρ (VV ρ) (binOp op t (.int k b) (.pointer a)) (binOp op t (.int k b) (.pointer (a.map (ra ρ)))):=by
 cases op<;>simp only[binOp]<;>first
  |exact absurd rfl h1|exact absurd rfl h2
  |exact kI t _ k _ hx
  |exact ae.unsupported _
  |(cases a<;>simp only[Γ]<;>first|exact ae.unsupported _|(refine ae.bind (eo _ (qV hx)) ?_;rintro x1 _ ⟨rfl,gx⟩;exact A5 _ _ _))
theorem Tr (hp:Plain P ρ)(op:BinOp)(t:Θ)(x y:Δ)(hx:GV P ρ x)(hy:GV P ρ y):ae P ρ (VV ρ) (binOp op t x y) (binOp op t (rv ρ x) (rv ρ y)):=by
 have he:=JH (P:=P) (ρ:=ρ) hp t x y hx hy;have hE:ae P ρ (VV ρ) (do pure (.bool (←Op.equal t x y))) (do pure (.bool (←Op.equal t (rv ρ x) (rv ρ y)))):=by
  refine ae.bind he ?_;rintro b _ rfl;exact ae.pure (by simp[VV,rv])
 have hN:ae P ρ (VV ρ) (do pure (.bool (!(←Op.equal t x y)))) (do pure (.bool (!(←Op.equal t (rv ρ x) (rv ρ y))))):=by
  refine ae.bind he ?_;rintro b _ rfl;exact ae.pure (by simp[VV,rv])
 clear he;by_cases h1:op=.eql
 ·subst h1;cases x<;>first
   |(cases y<;>simp only[rv,binOp]at hE ⊢<;>first
      |exact hE
      |(refine ae.aj (λ_=>ae.stuck _) (λ_=>?_);first
         |exact xm _ _ _
         |exact oq (eX.mono (by rintro _ ⟨r,rfl⟩;exact pA _) (kn _ _ _ _))
         |exact oq (lQ _ _ _ _ _ _))
      |exact kH _ _ _)
 by_cases h2:op=.neq
 ·subst h2;cases x<;>first
   |(cases y<;>simp only[rv,binOp]at hN ⊢<;>first
      |exact hN
      |(refine ae.aj (λ_=>ae.stuck _) (λ_=>?_);first
         |exact xm _ _ _
         |exact oq (eX.mono (by rintro _ ⟨r,rfl⟩;exact pA _) (kn _ _ _ _))
         |exact oq (lQ _ _ _ _ _ _))
      |exact kH _ _ _)
 clear hE hN;cases x with
 |int k a=>
  cases y with
  |int k2 b=>
   simp only[rv];cases op<;>simp only[binOp]<;>first
    |exact Ti hp _ _ _ _ _
    |exact absurd rfl h1|exact absurd rfl h2
    |(refine ae.aj (λ_=>ae.stuck _) (λ_=>?_);first|exact xl _ _ _ _|exact N8 hp _ _ _ _|exact A4 _ _ _ _|exact xm _ _ _)
  |pointer b=>simp only[rv];exact Tq hp op t b k a hy h1 h2
  |_=>simp only[rv];cases op<;>simp only[binOp]<;>first|exact ae.stuck _|exact absurd rfl h1|exact absurd rfl h2
 |float k a=>
  cases y with
  |float k2 b=>
   simp only[rv];cases op<;>simp only[binOp]<;>first
    |exact absurd rfl h1|exact absurd rfl h2
    |(refine ae.aj (λ_=>ae.stuck _) (λ_=>?_);first
       |exact oq (eX.mono (by rintro _ ⟨r,rfl⟩;exact Hd _ _) (ot _ _ _ _))
       |exact oq (eX.mono (by rintro _ ⟨r,rfl⟩;exact pA _) (kn _ _ _ _)))
    |exact ae.stuck _
  |pointer b=>simp only[rv];cases op<;>simp only[binOp]<;>first|exact ae.unsupported _|exact absurd rfl h1|exact absurd rfl h2
  |_=>simp only[rv];cases op<;>simp only[binOp]<;>first|exact ae.stuck _|exact absurd rfl h1|exact absurd rfl h2
 |complex k a a2=>
  cases y with
  |complex k2 b b2=>
   simp only[rv];cases op<;>simp only[binOp]<;>first
    |exact absurd rfl h1|exact absurd rfl h2
    |(refine ae.aj (λ_=>ae.stuck _) (λ_=>?_);exact oq (lQ _ _ _ _ _ _))
    |exact ae.stuck _
  |pointer b=>simp only[rv];cases op<;>simp only[binOp]<;>first|exact ae.unsupported _|exact absurd rfl h1|exact absurd rfl h2
  |_=>simp only[rv];cases op<;>simp only[binOp]<;>first|exact ae.stuck _|exact absurd rfl h1|exact absurd rfl h2
 |string a=>
  cases y with
  |string b=>simp only[rv,binOp];exact kH _ _ _
  |pointer b=>simp only[rv];cases op<;>simp only[binOp]<;>first|exact ae.unsupported _|exact absurd rfl h1|exact absurd rfl h2
  |_=>simp only[rv];cases op<;>simp only[binOp]<;>first|exact ae.stuck _|exact absurd rfl h1|exact absurd rfl h2
 |pointer a=>
  cases y with
  |pointer b=>simp only[rv];exact Tl hp op t a b hx hy h1 h2
  |int k b=>simp only[rv];exact Tn hp op t a k b hx h1 h2
  |_=>simp only[rv];cases op<;>simp only[binOp]<;>first|exact ae.unsupported _|exact absurd rfl h1|exact absurd rfl h2
 |_=>
  cases y with
  |pointer b=>simp only[rv];cases op<;>simp only[binOp]<;>first|exact ae.unsupported _|exact absurd rfl h1|exact absurd rfl h2
  |_=>simp only[rv];cases op<;>simp only[binOp]<;>first|exact ae.stuck _|exact absurd rfl h1|exact absurd rfl h2
end
section
variable {P:Ω}{ρ:Rn}{α β Z7 Z8:Type}
theorem ae.mono' {R:α→β→Prop}{s:Sem α}{s1 s2:Sem β}(h:ae P ρ R s s1)(e:s1=s2):ae P ρ R s s2:=e▸h
theorem XU (x y:Δ):ae P ρ (VV ρ) (Builtin.min2 x y) (Builtin.min2 (rv ρ x) (rv ρ y)):=by
 cases x with
 |pointer a=>
  cases a<;>cases y<;>simp only[rv,Γ,Builtin.min2]<;>first
   |exact ae.unsupported _|exact ae.stuck _|(rename_i b;cases b<;>simp only<;>first|exact ae.unsupported _|exact ae.stuck _)
 |int k a=>
  cases y<;>simp only[rv,Builtin.min2]<;>first
   |exact ae.pure (by simp[VV,rv])|exact ae.stuck _|exact ae.unsupported _|(rename_i b;cases b<;>simp only[Γ]<;>first|exact ae.unsupported _|exact ae.stuck _)
 |float k a=>
  cases y<;>simp only[rv,Builtin.min2]<;>first
   |(split<;>first|exact ae.pure (by simp[VV,rv])|(refine ae.bind (iC _) ?_;rintro n _ rfl;exact ae.pure (by simp[VV,rv])))
   |exact ae.stuck _|exact ae.unsupported _|(rename_i b;cases b<;>simp only[Γ]<;>first|exact ae.unsupported _|exact ae.stuck _)
 |string a=>
  cases y<;>simp only[rv,Builtin.min2]<;>first
   |(refine ae.bind (kH _ _ _) ?_;rintro v _ rfl;refine ae.bind (xd v) ?_;rintro b _ rfl;exact ae.pure (by simp[VV,rv]))
   |exact ae.stuck _|exact ae.unsupported _|(rename_i b;cases b<;>simp only[Γ]<;>first|exact ae.unsupported _|exact ae.stuck _)
 |_=>
  cases y<;>simp only[rv,Builtin.min2]<;>first
   |exact ae.stuck _|exact ae.unsupported _|(rename_i b;cases b<;>simp only[Γ]<;>first|exact ae.unsupported _|exact ae.stuck _)
theorem XV (x y:Δ):ae P ρ (VV ρ) (Builtin.max2 x y) (Builtin.max2 (rv ρ x) (rv ρ y)):=by
 cases x with
 |pointer a=>
  cases a<;>cases y<;>simp only[rv,Γ,Builtin.max2]<;>first
   |exact ae.unsupported _|exact ae.stuck _|(rename_i b;cases b<;>simp only<;>first|exact ae.unsupported _|exact ae.stuck _)
 |int k a=>
  cases y<;>simp only[rv,Builtin.max2]<;>first
   |exact ae.pure (by simp[VV,rv])|exact ae.stuck _|exact ae.unsupported _|(rename_i b;cases b<;>simp only[Γ]<;>first|exact ae.unsupported _|exact ae.stuck _)
 |float k a=>
  cases y<;>simp only[rv,Builtin.max2]<;>first
   |(split<;>first|exact ae.pure (by simp[VV,rv])|(refine ae.bind (iC _) ?_;rintro n _ rfl;exact ae.pure (by simp[VV,rv])))
   |exact ae.stuck _|exact ae.unsupported _|(rename_i b;cases b<;>simp only[Γ]<;>first|exact ae.unsupported _|exact ae.stuck _)
 |string a=>
  cases y<;>simp only[rv,Builtin.max2]<;>first
   |(refine ae.bind (kH _ _ _) ?_;rintro v _ rfl;refine ae.bind (xd v) ?_;rintro b _ rfl;exact ae.pure (by simp[VV,rv]))
   |exact ae.stuck _|exact ae.unsupported _|(rename_i b;cases b<;>simp only[Γ]<;>first|exact ae.unsupported _|exact ae.stuck _)
 |_=>
  cases y<;>simp only[rv,Builtin.max2]<;>first
   |exact ae.stuck _|exact ae.unsupported _|(rename_i b;cases b<;>simp only[Γ]<;>first|exact ae.unsupported _|exact ae.stuck _)
theorem xo {f:Δ→Δ→Sem Δ}(hf:∀x y,ae P ρ (VV ρ) (f x y) (f (rv ρ x) (rv ρ y))):∀(l:List Δ) (x:Δ),ae P ρ (VV ρ) (l.foldlM f x) ((l.map (rv ρ)).foldlM f (rv ρ x))
 |[],x=>by simp only[zbt,List.foldlM];exact ae.pure rfl
 |y::l,x=>by
  simp only[zaB,List.foldlM];refine ae.bind (hf x y) ?_;rintro v _ rfl;exact xo hf l v
theorem aac (ts:Array Θ)(ty:Θ)(args:Array Δ):ae P ρ (VV ρ) (Builtin.min_ ts ty args) (Builtin.min_ ts ty (args.map (rv ρ))):=by
 unfold Builtin.min_;rw[zbl];cases args.toList with
 |nil=>exact ae.stuck _
 |cons x l=>exact xo XU l x
theorem aad (ts:Array Θ)(ty:Θ)(args:Array Δ):ae P ρ (VV ρ) (Builtin.max_ ts ty args) (Builtin.max_ ts ty (args.map (rv ρ))):=by
 unfold Builtin.max_;rw[zbl];cases args.toList with
 |nil=>exact ae.stuck _
 |cons x l=>exact xo XV l x
theorem qu (a:Addr)(u:Θ)(n:Nat):ae P ρ Eq (variablesAt a u n) (variablesAt (ra ρ a) u n):=by
 unfold variablesAt;refine ae.bind cL ?_;rintro _ _ ⟨rfl,rfl⟩;refine ae.bind (gT a.block) ?_;rintro sh _ rfl;cases sh<;>exact ae.pure rfl
theorem uP:∀(n:Nat) (a:Addr) (acc:ByteArray),ae P ρ Eq (loadBytes a acc n) (loadBytes (ra ρ a) acc n)
 |0,a,acc=>ae.pure rfl
 |n+1,a,acc=>by
  unfold loadBytes;refine ae.bind (xc a) ?_;rintro v _ rfl;cases v with
  |int k b=>
   simp only[rv];cases k<;>first
    |exact ae.stuck _
    |(rw[jQ];exact uP n (a.add 1) _)
  |_=>simp only[rv];exact ae.stuck _
theorem Ts (f:Δ→Δ)(x:Δ):(⟨[x]⟩:Array Δ).map f=⟨[f x]⟩:=by simp
theorem Tt (f:Δ→Δ)(x y:Δ):(⟨[x,y]⟩:Array Δ).map f=⟨[f x,f y]⟩:=by simp
theorem XW (a:Option Addr):rv ρ (.pointer a)=.pointer (a.map (ra ρ)):=by simp only[rv]
theorem aae (a:Option Addr)(n c:Nat):rv ρ (.slice a n c)=.slice (a.map (ra ρ)) n c:=by simp only[rv]
theorem vE (ts:Array Θ)(ty:Θ)(p:Option Addr)(y:Δ):ae P ρ (VV ρ) (Ξ ts ty #[.pointer p,y]) (Ξ ts ty #[.pointer (p.map (ra ρ)),rv ρ y]):=by
 unfold Ξ;refine ae.bind (mI y) ?_;rintro n _ rfl;cases ts[0]? with
 |none=>exact ae.stuck _
 |some pt=>
  dsimp only;refine ae.aj (λ_=>jG (aX _)) (λ_=>?_);refine ae.aj (λ_=>jG (ae.unsupported _)) (λ_=>?_);cases p with
  |none=>
   exact ae.aj (λ_=>ae.pure (by simp[VV,rv])) (λ_=>aX _)
  |some a=>
   refine ae.aj (λ_=>ae.pure (by simp[VV,rv])) (λ_=>?_);refine ae.bind (xf pt) ?_;rintro e _ rfl;refine ae.bind (qu a e n.toNat) ?_;rintro b _ rfl;refine ae.aj (λ_=>?_) (λ_=>ae.unsupported _);refine ae.bind (uP _ _ _) ?_;rintro s _ rfl;refine ae.bind (N4 a n.toNat) ?_;rintro _ _ rfl;exact ae.pure (by simp[VV,rv])
theorem xp (ts:Array Θ)(ty:Θ)(args:Array Δ):ae P ρ (VV ρ) (Ξ ts ty args) (Ξ ts ty (args.map (rv ρ))):=by
 rcases args with⟨l⟩
 match l with
 |[]=>exact ae.stuck _
 |[_]=>exact ae.stuck _
 |_::_::_::_=>exact ae.stuck _
 |[x,y]=>
  rw[Tt];cases x with
  |pointer p=>rw[XW];exact vE ts ty p y
  |_=>exact ae.stuck _
theorem qW (ts:Array Θ)(ty:Θ)(a:Option Addr)(n c:Nat):ae P ρ (VV ρ) (Φ ts ty #[.slice a n c]) (Φ ts ty #[.slice (a.map (ra ρ)) n c]):=by
 cases a with
 |none=>exact(ae.pure (by simp[VV,rv]):ae P ρ (VV ρ) (pure (.pointer none)) (pure (.pointer none)))
 |some a=>
  have:ae P ρ (VV ρ) (if c≠0 then pure (.pointer (some a))else do
   if(←viewAt a.block).isSome then pure (.pointer (some a))else pure (.pointer (some ⟨←newObj (.view a (←elemOf ty)),0,none⟩)):Sem Δ)
   (if c≠0 then pure (.pointer (some (ra ρ a)))else do
   if(←viewAt (ra ρ a).block).isSome then pure (.pointer (some (ra ρ a)))else pure (.pointer (some ⟨←newObj (.view (ra ρ a) (←elemOf ty)),0,none⟩)):Sem Δ):=by
   refine ae.aj (λ_=>ae.pure (by simp[VV,rv])) (λ_=>?_);refine ae.bind (rP a.block) ?_;rintro x _ rfl;simp only[Option.isSome_map];refine ae.aj (λ_=>ae.pure (by simp[VV,rv])) (λ_=>?_);refine ae.bind (xf ty) ?_;rintro e _ rfl;refine ae.bind (l7 (.view a e)) ?_;rintro r _ rfl;exact ae.pure (by simp[VV,rv,ra])
  exact this
theorem rT (ts:Array Θ)(ty:Θ)(args:Array Δ):ae P ρ (VV ρ) (Φ ts ty args) (Φ ts ty (args.map (rv ρ))):=by
 rcases args with⟨l⟩
 match l with
 |[]=>exact ae.stuck _
 |_::_::_=>exact ae.stuck _
 |[x]=>
  rw[Ts];cases x with
  |slice a n c=>rw[aae];exact qW ts ty a n c
  |_=>exact ae.stuck _
theorem jk (empty:Bool):∀(n:Nat) (t:Θ) (v:Δ),ae P ρ Eq (Instr.checkKey empty n t v) (Instr.checkKey empty n t (rv ρ v))
 |0,t,v=>ae.unsupported _
 |n+1,t,v=>by
  unfold Instr.checkKey;refine ae.bind (ax t) ?_;rintro d d' ⟨e,_⟩;subst e;cases d' with
  |interface ms=>
   cases v with
   |iface d x=>
    simp only[rv];refine ae.bind (eQ d) ?_;rintro i i' ⟨e,_⟩;subst e;refine ae.aj (λ_=>?_) (λ_=>jk empty n _ _);refine ae.aj (λ_=>jG (aX _)) (λ_=>?_);refine ae.bind (A3 _) ?_;rintro q _ rfl;exact jG (aX _)
   |nilIface=>simp only[rv];exact ae.pure rfl
   |_=>simp only[rv];exact ae.stuck _
  |array m e=>
   cases v with
   |agg cs=>
    simp only[rv];refine ae.bind (R:=Eq) ?_ (by rintro _ _ rfl;exact ae.pure rfl)
    haveI:=lawful
    rw[Std.Legacy.Range.forIn_eq_forIn_range',Std.Legacy.Range.forIn_eq_forIn_range'];refine mM (R:=Eq) (λf a b hab=>?_) _ _ _ rfl;subst hab;refine ae.bind (cC _) ?_;rintro sz _ rfl;refine ae.bind (og _ _ _) ?_;rintro u _ rfl;refine ae.bind (jk empty n _ _) ?_;rintro _ _ rfl;exact ae.pure (Or.inl ⟨_,_,rfl,rfl,rfl⟩)
   |_=>simp only[rv];exact ae.stuck _
  |struct fs=>
   cases v with
   |agg cs=>
    simp only[rv];refine ae.bind (R:=Eq) ?_ (by rintro _ _ rfl;exact ae.pure rfl)
    haveI:=lawful
    rw[←zbP,←zbP];refine mM (R:=Eq) (λf a b hab=>?_) fs.toList _ _ rfl;subst hab;refine ae.aj (λ_=>?_) (λ_=>ae.pure (Or.inl ⟨_,_,rfl,rfl,rfl⟩));refine ae.bind (og _ _ _) ?_;rintro u _ rfl;refine ae.bind (jk empty n _ _) ?_;rintro _ _ rfl;exact ae.pure (Or.inl ⟨_,_,rfl,rfl,rfl⟩)
   |_=>simp only[rv];exact ae.stuck _
  |_=>cases v<;>simp only<;>exact ae.pure rfl
def re (ρ:Rn)(e:Λ):Λ:={ e with key:=rv ρ e.key,val:=rv ρ e.val }
theorem rU (hp:Plain P ρ)(t:Θ)(k:Δ)(hk:GV P ρ k):∀(es:List Λ) (i:Nat),(∀e∈es,GV P ρ e.key)→ae P ρ (λx y=>y=x.map λz=>(z.1,rv ρ z.2)) (Instr.findAsking t k es i) (Instr.findAsking t (rv ρ k) (es.map (re ρ)) i)
 |[],i,_=>ae.pure rfl
 |e::es,i,h=>by
  simp only[zaB,Instr.findAsking];refine ae.bind (JH hp t k e.key hk (h e (by simp))) ?_;rintro b _ rfl;exact ae.aj (λ_=>ae.pure rfl) (λ_=>rU hp t k hk es (i+1) λx hx=>h x (by simp[hx]))
theorem Hf (d:TypeDesc)(k x:Δ):Instr.sameNow d (rv ρ k) (rv ρ x)=Instr.sameNow d k x:=by
 cases d<;>cases k<;>simp only[rv,Instr.sameNow]<;>cases x<;>simp only[rv]
theorem xq (d:TypeDesc)(k:Δ):∀(es:List Λ) (i:Nat),ζ d (rv ρ k) (es.map (re ρ)) i=(ζ d k es i).map λx=>x.map λz=>(z.1,rv ρ z.2)
 |[],i=>rfl
 |e::es,i=>by
  simp only[zaB,ζ,re,Hf];split
  ·rfl
  ·exact xq d k es (i+1)
  ·rfl
theorem tN (hp:Plain P ρ)(t:Θ)(k:Δ)(es:List Λ)(hk:GV P ρ k)(he:∀e∈es,GV P ρ e.key):ae P ρ (λx y=>y=x.map λz=>(z.1,rv ρ z.2)) (Instr.findKey t k es) (Instr.findKey t (rv ρ k) (es.map (re ρ))):=by
 unfold Instr.findKey;refine ae.bind (ax t) ?_;rintro d d' ⟨e,_⟩;subst e;rw[xq];cases ζ d' k es 0 with
 |some r=>exact ae.pure rfl
 |none=>exact rU hp t k hk es 0 he
theorem Oa {es:Array Λ}{c:Nat}(h:GO P ρ (.map es c)):∀e∈es.toList,GV P ρ e.key:=by
 intro e he;refine h.imp id λh=>?_;simp only[ro,Obj.map.injEq,zay]at h;obtain⟨i,hi,rfl⟩:=zcm.1 (Array.mem_toList_iff.1 he);have e1:(es.map λe=>{ e with key:=rv ρ e.key,val:=rv ρ e.val }:Array Λ)[i]'(by simpa using hi)=es[i]:=by simp only[h]
 simp only[zbX]at e1;generalize es[i]=x at e1 ⊢;obtain⟨k,v,b⟩:=x;simp only[MapEntry.mk.injEq,zay]at e1 ⊢;exact e1.1
theorem Ob (hp:Plain P ρ)(t:Θ)(x k:Δ)(ok:Bool)(hk:GV P ρ k):ae P ρ (VV ρ) (Instr.lookup t x k ok) (Instr.lookup t (rv ρ x) (rv ρ k) ok):=by
 unfold Instr.lookup;generalize 10000=N;refine ae.bind (ax t) ?_;rintro d d' ⟨e,_⟩;subst e;cases d' with
 |map key elem=>
  dsimp only;cases x with
  |map r=>
   cases r with
   |none=>
    simp only[rv,Γ];refine ae.bind (R:=λ(es es':Array Λ)=>es'=es.map (re ρ)∧∀e∈es.toList,GV P ρ e.key) (ae.pure ⟨by simp,by simp⟩) ?_;rintro es _ ⟨rfl,he⟩;rw[show(es.map (re ρ)).isEmpty=es.isEmpty by simp[Array.isEmpty]];refine ae.bind (jk _ _ _ _) ?_;rintro _ _ rfl;rw[zbl];refine ae.bind (tN hp key k es.toList hk he) ?_;rintro r _ rfl;cases r with
    |some z=>exact ae.pure (by cases ok<;>simp[VV,rv])
    |none=>
     simp only[Γ];refine ae.bind (eJ hp elem) ?_;rintro v _ ⟨rfl,hv⟩;exact ae.pure (by cases ok<;>simp[VV,rv,hv])
   |some r=>
    simp only[rv,Γ];refine ae.bind (l9 r) ?_;rintro o _ ⟨rfl,ho⟩;cases o with
    |map es0 c=>
     refine ae.bind (R:=λ(es es':Array Λ)=>es'=es.map (re ρ)∧∀e∈es.toList,GV P ρ e.key) (ae.pure ⟨rfl,Oa ho⟩) ?_;rintro es _ ⟨rfl,he⟩;rw[show(es.map (re ρ)).isEmpty=es.isEmpty by simp[Array.isEmpty]];refine ae.bind (jk _ _ _ _) ?_;rintro _ _ rfl;rw[zbl];refine ae.bind (tN hp key k es.toList hk he) ?_;rintro r _ rfl;cases r with
     |some z=>exact ae.pure (by cases ok<;>simp[VV,rv])
     |none=>
      simp only[Γ];refine ae.bind (eJ hp elem) ?_;rintro v _ ⟨rfl,hv⟩;exact ae.pure (by cases ok<;>simp[VV,rv,hv])
    |_=>exact ae.stuck _
  |_=>simp only[rv];exact ae.stuck _
 |_=>exact ae.stuck _
theorem Ec (hp:Plain P ρ):∀(n:Nat) (x y:Δ),Instr.sameBits n (rv ρ x) (rv ρ y)=Instr.sameBits n x y:=by
 intro n
 induction n with
 |zero=>
  intro x y;cases x<;>cases y<;>simp only[rv,Instr.sameBits]
  ·rename_i a b;cases a<;>cases b<;>simp[xj hp]
  ·rename_i a b;cases a<;>cases b<;>simp[tM hp]
 |succ n ih=>
  intro x y;cases x<;>cases y<;>simp only[rv,Instr.sameBits,ih]
  ·rename_i a b;cases a<;>cases b<;>simp[xj hp]
  ·rename_i a b;cases a<;>cases b<;>simp[tM hp]
  ·rename_i a b;simp only[Array.size_map,zbl,List.zip_map,List.all_map]
   congr 2
   funext z;exact ih z.1 z.2
theorem xr (hp:Plain P ρ)(x y:Δ):ae P ρ (VV ρ) (Instr.keyThatStays x y) (Instr.keyThatStays (rv ρ x) (rv ρ y)):=by
 unfold Instr.keyThatStays;rw[Ec hp];refine ae.aj (λ_=>ae.pure rfl) (λ_=>?_);refine ae.bind (iC _) ?_;rintro n _ rfl;exact ae.pure (by simp only[VV];split<;>rfl)
theorem Ed (hp:Plain P ρ)(t:Θ)(m k v:Δ)(hk:GV P ρ k):ae P ρ Eq (Instr.mapUpdate t m k v) (Instr.mapUpdate t (rv ρ m) (rv ρ k) (rv ρ v)):=by
 unfold Instr.mapUpdate;refine ae.bind (ax t) ?_;rintro d d' ⟨e,_⟩;subst e;cases d' with
 |map key elem=>
  dsimp only;cases m with
  |map r=>
   cases r with
   |none=>simp only[rv,Γ];exact aX _
   |some r=>
    simp only[rv,Γ];refine ae.bind (l9 r) ?_;rintro o _ ⟨rfl,ho⟩;cases o with
    |map es c=>
     simp only[ro];refine ae.bind (jk _ _ _ _) ?_;rintro _ _ rfl;have hf:=tN hp key k es.toList hk (Oa ho);rw[show es.toList.map (re ρ)=(es.map (λe=>{ e with key:=rv ρ e.key,val:=rv ρ e.val }:Λ→Λ)).toList from(zbl ..).symm]at hf;refine ae.bind hf ?_;rintro q _ rfl;cases q with
     |none=>
      refine(D7 (ρ:=ρ) r (.map (es.push { key:=k,val:=v,born:=c }) (c+1)) trivial).mono' ?_;simp[ro]
     |some z=>
      simp only[Γ];have hks:=xr (P:=P) hp (((es[z.1]?).map (·.key)).getD k) k;have e1:rv ρ (((es[z.1]?).map (·.key)).getD k)=((((es.map (λe=>{ e with key:=rv ρ e.key,val:=rv ρ e.val }:Λ→Λ))[z.1]?).map (·.key)).getD (rv ρ k)):=by
       rw[zaz];cases es[z.1]?<;>rfl
      rw[e1]at hks;refine ae.bind hks ?_;rintro k2 _ rfl;refine(D7 (ρ:=ρ) r (.map (es.modify z.1 λe=>{ e with key:=k2,val:=v }) c) trivial).mono' ?_;simp only[ro]
      congr 2
      apply Array.ext
      ·simp
      ·intro i h1 h2;simp only[zbX,Array.getElem_modify];split<;>rfl
    |_=>simp only[ro];exact ae.stuck _
  |_=>simp only[rv];exact ae.stuck _
 |_=>exact ae.stuck _
theorem Lh (t:Θ)(r:Option Δ):ae P ρ (VV ρ) (Instr.makeMap t r) (Instr.makeMap t (r.map (rv ρ))):=by
 unfold Instr.makeMap;have last:ae P ρ (VV ρ) (do pure (.map (some (←newObj (.map #[] 0)))):Sem Δ) (do pure (.map (some (←newObj (.map #[] 0)))):Sem Δ):=by
  have:=l7 (P:=P) (ρ:=ρ) (.map #[] 0) trivial;simp only[ro,zcs]at this;refine ae.bind this ?_;rintro r _ rfl;exact ae.pure (by simp[VV,rv])
 cases r with
 |none=>exact last
 |some h=>
  simp only[Γ];refine ae.bind (ax t) ?_;rintro d d' ⟨e,_⟩;subst e;cases d' with
  |map key elem=>
   dsimp only;refine ae.bind (mI h) ?_;rintro _ _ rfl;exact last
  |_=>exact jG (ae.stuck _)
theorem Cu (hp:Plain P ρ)(x:Δ)(t u:Θ):ae P ρ (VV ρ) (Instr.typeAssert x t u true) (Instr.typeAssert (rv ρ x) t u true):=by
 unfold Instr.typeAssert;have fails:∀(s d:Option Θ) (m:String),ae P ρ (VV ρ) (do pure (.tuple #[←η u,.bool false]):Sem Δ) (do pure (.tuple #[←η u,.bool false]):Sem Δ):=λs d m=>by
  refine ae.bind (eJ hp u) ?_;rintro v _ ⟨rfl,hv⟩;exact ae.pure (by simp[VV,rv,hv])
 have holds:∀v:Δ,ae P ρ (VV ρ) (pure (.tuple #[v,.bool true]):Sem Δ) (pure (.tuple #[rv ρ v,.bool true]):Sem Δ):=λv=>ae.pure (by simp[VV,rv]);refine ae.bind (ax u) ?_;rintro d d' ⟨e,_⟩;subst e;cases x with
 |nilIface=>cases d'<;>simp only[rv]<;>exact fails none none ""
 |iface a v=>
  cases d' with
  |interface ms=>
   simp only[rv];refine ae.bind (eQ a) ?_;rintro i i' ⟨e,_⟩;subst e;split
   ·have:=holds (.iface a v);rw[show rv ρ (.iface a v)=.iface a (rv ρ v) by simp only[rv]]at this;exact this
   ·exact fails none none ""
  |_=>simp only[rv];exact ae.aj (λ_=>holds v) (λ_=>fails none none "")
 |_=>cases d'<;>simp only[rv]<;>exact ae.stuck _
end
theorem bF {f:Δ→Δ}{cs:Array Δ}:cs.map f=cs↔∀x∈cs,f x=x:=by
 constructor
 ·intro h x hx;obtain⟨i,hi,rfl⟩:=zcm.1 hx;have:(cs.map f)[i]'(by simpa using hi)=cs[i]:=by simp only[h]
  simpa using this
 ·intro h;apply Array.ext
  ·simp
  ·intro i h1 h2;simp only[zbX];exact h _ (Array.getElem_mem h2)
theorem et {f g:Δ→Δ}{cs:Array Δ}(h:∀x∈cs,f x=g x):cs.map f=cs.map g:=by
 apply Array.ext
 ·simp
 ·intro i h1 h2;simp only[zbX];exact h _ (Array.getElem_mem (by simpa using h1))
section
variable {σ Oc:Rn}
theorem eY (hb:∀r,σ r=r→Oc r=r)(hf:∀x,σ.f x=x→Oc.f x=x):∀v:Δ,rv σ v=v→rv Oc v=v
 |.pointer none,_=>by simp[rv]
 |.pointer (some a),h=>by
  simp only[rv,Γ,Δ.pointer.injEq,zaE,ra]at h ⊢;obtain⟨b,o,s⟩:=a;simp only[Addr.mk.injEq,zay]at h ⊢;exact hb _ h
 |.slice none _ _,_=>by simp[rv]
 |.slice (some a) l c,h=>by
  simp only[rv,Γ,Δ.slice.injEq,zaE,ra,zay]at h ⊢;obtain⟨b,o,s⟩:=a;simp only[Addr.mk.injEq,zay]at h ⊢;exact hb _ h
 |.map none,_=>by simp[rv]
 |.map (some r),h=>by
  simp only[rv,Γ,Δ.map.injEq,zaE]at h ⊢;exact hb _ h
 |.chan none,_=>by simp[rv]
 |.chan (some r),h=>by
  simp only[rv,Γ,Δ.chan.injEq,zaE]at h ⊢;exact hb _ h
 |.func fn first captured,h=>by
  simp only[rv,Δ.func.injEq]at h ⊢;refine⟨hf _ h.1,bF.2 λx hx=>?_,bF.2 λx hx=>?_⟩
  ·have:=zbj hx;exact eY hb hf x (bF.1 h.2.1 x hx)
  ·have:=zbj hx;exact eY hb hf x (bF.1 h.2.2 x hx)
 |.iface t v,h=>by
  simp only[rv,Δ.iface.injEq,true_and]at h ⊢;exact eY hb hf v h
 |.agg cs,h=>by
  simp only[rv,Δ.agg.injEq]at h ⊢;refine bF.2 λx hx=>?_;have:=zbj hx;exact eY hb hf x (bF.1 h x hx)
 |.tuple cs,h=>by
  simp only[rv,Δ.tuple.injEq]at h ⊢;refine bF.2 λx hx=>?_;have:=zbj hx;exact eY hb hf x (bF.1 h x hx)
 |.bool _,_=>by simp[rv]
 |.int _ _,_=>by simp[rv]
 |.float _ _,_=>by simp[rv]
 |.complex _ _ _,_=>by simp[rv]
 |.string _,_=>by simp[rv]
 |.nilFunc,_=>by simp[rv]
 |.nilIface,_=>by simp[rv]
termination_by v=>SizeOf.sizeOf v
theorem agree {ρ ρ':Rn}(hb:∀r,σ r=r→ρ r=ρ' r)(hf:∀x,σ.f x=x→ρ.f x=ρ'.f x):∀v:Δ,rv σ v=v→rv ρ v=rv ρ' v
 |.pointer none,_=>by simp[rv]
 |.pointer (some a),h=>by
  simp only[rv,Γ,Δ.pointer.injEq,zaE,ra]at h ⊢;obtain⟨b,o,s⟩:=a;simp only[Addr.mk.injEq,zay]at h ⊢;exact hb _ h
 |.slice none _ _,_=>by simp[rv]
 |.slice (some a) l c,h=>by
  simp only[rv,Γ,Δ.slice.injEq,zaE,ra,zay]at h ⊢;obtain⟨b,o,s⟩:=a;simp only[Addr.mk.injEq,zay]at h ⊢;exact hb _ h
 |.map none,_=>by simp[rv]
 |.map (some r),h=>by
  simp only[rv,Γ,Δ.map.injEq,zaE]at h ⊢;exact hb _ h
 |.chan none,_=>by simp[rv]
 |.chan (some r),h=>by
  simp only[rv,Γ,Δ.chan.injEq,zaE]at h ⊢;exact hb _ h
 |.func fn first captured,h=>by
  simp only[rv,Δ.func.injEq]at h ⊢;refine⟨hf _ h.1,et λx hx=>?_,et λx hx=>?_⟩
  ·have:=zbj hx;exact agree hb hf x (bF.1 h.2.1 x hx)
  ·have:=zbj hx;exact agree hb hf x (bF.1 h.2.2 x hx)
 |.iface t v,h=>by
  simp only[rv,Δ.iface.injEq,true_and]at h ⊢;exact agree hb hf v h
 |.agg cs,h=>by
  simp only[rv,Δ.agg.injEq]at h ⊢;refine et λx hx=>?_;have:=zbj hx;exact agree hb hf x (bF.1 h x hx)
 |.tuple cs,h=>by
  simp only[rv,Δ.tuple.injEq]at h ⊢;refine et λx hx=>?_;have:=zbj hx;exact agree hb hf x (bF.1 h x hx)
 |.bool _,_=>by simp[rv]
 |.int _ _,_=>by simp[rv]
 |.float _ _,_=>by simp[rv]
 |.complex _ _ _,_=>by simp[rv]
 |.string _,_=>by simp[rv]
 |.nilFunc,_=>by simp[rv]
 |.nilIface,_=>by simp[rv]
termination_by v=>SizeOf.sizeOf v
theorem gZ {a:Addr}:ra σ a=a↔σ a.block=a.block:=by
 obtain⟨b,o,s⟩:=a;simp[ra]
theorem pB (hb:∀r,σ r=r→Oc r=r)(hf:∀x,σ.f x=x→Oc.f x=x){o:Obj}(h:ro σ o=o):ro Oc o=o:=by
 have hv:=eY hb hf;cases o with
 |cells c t f=>simp only[ro,Obj.cells.injEq,zay]at h ⊢;exact bF.2 λx hx=>hv x (bF.1 h x hx)
 |pending c t=>simp only[ro,Obj.pending.injEq,zay]at h ⊢;exact bF.2 λx hx=>hv x (bF.1 h x hx)
 |chan a b c d e f=>simp only[ro,Obj.chan.injEq,zay,true_and]at h ⊢;exact bF.2 λx hx=>hv x (bF.1 h x hx)
 |view a t=>simp only[ro,Obj.view.injEq,zay]at h ⊢;exact gZ.2 (hb _ (gZ.1 h))
 |number a t=>simp only[ro,Obj.number.injEq,zay]at h ⊢;exact gZ.2 (hb _ (gZ.1 h))
 |map es c=>
  simp only[ro,Obj.map.injEq,zay]at h ⊢;apply Array.ext
  ·simp
  ·intro i h1 h2;have e:(es.map λe=>{ e with key:=rv σ e.key,val:=rv σ e.val }:Array Λ)[i]'(by simpa using h2)=es[i]:=by simp only[h]
   simp only[zbX]at e ⊢;generalize es[i]=x at e ⊢;obtain⟨k,v,b⟩:=x;simp only[MapEntry.mk.injEq,zay]at e ⊢;exact⟨hv _ e.1,hv _ e.2⟩
 |_=>rfl
theorem tO {ρ ρ':Rn}(hb:∀r,σ r=r→ρ r=ρ' r)(hf:∀x,σ.f x=x→ρ.f x=ρ'.f x){o:Obj}(h:ro σ o=o):ro ρ o=ro ρ' o:=by
 have hv:=agree hb hf;cases o with
 |cells c t f=>simp only[ro,Obj.cells.injEq,zay]at h ⊢;exact et λx hx=>hv x (bF.1 h x hx)
 |pending c t=>simp only[ro,Obj.pending.injEq,zay]at h ⊢;exact et λx hx=>hv x (bF.1 h x hx)
 |chan a b c d e f=>simp only[ro,Obj.chan.injEq,zay,true_and]at h ⊢;exact et λx hx=>hv x (bF.1 h x hx)
 |view a t=>simp only[ro,Obj.view.injEq,zay]at h ⊢;obtain⟨b,o,s⟩:=a;simp only[ra,Addr.mk.injEq,zay]at h ⊢;exact hb _ h
 |number a t=>simp only[ro,Obj.number.injEq,zay]at h ⊢;obtain⟨b,o,s⟩:=a;simp only[ra,Addr.mk.injEq,zay]at h ⊢;exact hb _ h
 |map es c=>
  simp only[ro,Obj.map.injEq,zay]at h ⊢;apply Array.ext
  ·simp
  ·intro i h1 h2;have hi:i<es.size:=by simpa using h1
   have e:(es.map λe=>{ e with key:=rv σ e.key,val:=rv σ e.val }:Array Λ)[i]'(by simpa using hi)=es[i]:=by simp only[h]
   simp only[zbX]at e ⊢;generalize es[i]=x at e ⊢;obtain⟨k,v,b⟩:=x;simp only[MapEntry.mk.injEq,zay]at e ⊢;exact⟨hv _ e.1,hv _ e.2⟩
 |_=>rfl
end
structure Sd where
 f:FuncId→Bool
 d:Nat
 g:Nat
instance:CoeFun Sd (λ_=>FuncId→Bool):=⟨Sd.f⟩
structure rV (S:Sd) (ρ:Rn):Prop where
 f:∀g,S g=true→ρ.f (.func g)=.func g
 g:∀g,S.d≤g→g<S.g→ρ g=g
 l:∀g,g<S.d→g<ρ.d∨ρ g=g
def sg (S:Sd)(b0 n:Nat):Rn where
 d:=b0
 b:=λr=>if b0≤r∧r<n then r else r+n+1
 f:=λ
  |.func g=>if S g then .func g else .method ""
  |.method _=> .yield 0
  |.methodOf _ _=> .yield 0
  |.via _ _ _ _=> .yield 0
  |.yield _=> .method ""
section
variable {S:Sd}{b0 n m:Nat}
theorem bY {r:Nat}:sg S b0 n r=r↔b0≤r∧r<n:=by
 show(if b0≤r∧r<n then r else r+n+1)=r↔_;split
 ·rename_i h;simp[h]
 ·rename_i h;constructor
  ·intro e;omega
  ·intro e;exact absurd e h
theorem iD {x:Fn}:(sg S b0 n).f x=x↔∃g,x=.func g∧S g=true:=by
 cases x with
 |func g=>
  show(if S g then Fn.func g else .method "")=.func g↔_;split
  ·rename_i h;simp[h]
  ·rename_i h;simp[h]
 |_=>simp[sg]
theorem wC {S:Sd}(h:S.g≤n):rV S (sg S S.d n):=⟨λg hg=>iD.2 ⟨g,rfl,hg⟩,λ_ h1 h2=>bY.2 ⟨h1,by omega⟩,λ_ h=> .inl h⟩
theorem XY (a b:Nat)(h:sg S b0 n a=sg S b0 n b):a=b:=by
 simp only[sg]at h;split at h<;>split at h<;>omega
theorem dY (h:n≤m):(∀r,sg S b0 n r=r→sg S b0 m r=r)∧∀x,(sg S b0 n).f x=x→(sg S b0 m).f x=x:=
 ⟨λr hr=>bY.2 (by have:=bY.1 hr;omega),λx hx=>iD.2 (iD.1 hx)⟩
end
end Go.Ren
