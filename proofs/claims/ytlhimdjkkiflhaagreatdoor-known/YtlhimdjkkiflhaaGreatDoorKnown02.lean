import Derived.Test.YtlhimdjkkiflhaaGreatDoorKnown01
set_option maxHeartbeats 8000000
set_option maxRecDepth 100000
namespace Go.Ren
section
variable {P:Program}{ρ:Rn}{α β Wy Wz:Type}
theorem Ac {cs:Array Value}(h:GV P ρ (.agg cs)):yc P ρ∨cs.map (rv ρ)=cs:=h.imp id λh=>by simpa[rv]using h
theorem BX {t:TypeId}{v:Value}(h:GV P ρ (.iface t v)):GV P ρ v:=h.imp id λh=>by simpa[rv]using h
theorem pN {a:Addr}(h:GV P ρ (.pointer (some a))):GA P ρ a:=h.imp id λh=>by simpa[rv]using h
theorem Ha {a:Addr}(h:GA P ρ a):(ra ρ a).block <P.globals.size↔a.block<P.globals.size:=by
 rcases h with h|h
 ·exact h _
 ·rw[h]
theorem oC (hp:Plain P ρ):∀(n:Nat) (t:TypeId) (x y:Value),GV P ρ x→GV P ρ y→ae P ρ Eq (Op.equalIn n t x y) (Op.equalIn n t (rv ρ x) (rv ρ y))
 |0,t,x,y,_,_=>by unfold Op.equalIn;exact ae.unsupported _
 |n+1,t,x,y,hx,hy=>by
  unfold Op.equalIn;refine ae.bind (aw t) ?_;rintro d d' ⟨e,_⟩;subst e;cases d' with
  |bool=>
   cases x<;>simp only[rv]<;>try exact ae.stuck _
   cases y<;>simp only[rv]<;>first|exact ae.stuck _|exact ae.pure rfl
  |string=>
   cases x<;>simp only[rv]<;>try exact ae.stuck _
   cases y<;>simp only[rv]<;>first|exact ae.stuck _|exact ae.pure rfl
  |int k=>
   cases x with
   |pointer a=>
    cases y with
    |pointer b=>
     cases a<;>cases b<;>simp only[rv,Option.map]<;>try exact ae.unsupported _
     rename_i a b;refine ae.bind (dE a (pN hx)) ?_;rintro a1 _ ⟨rfl,ga⟩;refine ae.bind (dE b (pN hy)) ?_;rintro b1 _ ⟨rfl,gb⟩;refine ae.bind cn ?_;rintro _ _ ⟨rfl,rfl⟩;have e1:((ra ρ a1.1).block==(ra ρ b1.1).block)=(a1.1.block==b1.1.block):=sw hp _ _;have e2:decide ((ra ρ a1.1).block <P.globals.size)=decide (a1.1.block<P.globals.size):=by
      rw[decide_eq_decide];exact Ha ga
     simp only[e1,e2];refine ae.ar (λ_=>?_) (λ_=>?_)
     ·refine ae.bind (jS _) ?_;rintro q _ rfl;refine ae.bind (jS _) ?_;rintro q2 _ rfl;exact ae.pure rfl
     ·refine ae.bind (ed _) ?_;rintro i i' ⟨e,_⟩;subst e;rw[vD hp];split
      ·exact ae.ar (λ_=>ae.pure rfl) (λ_=>ae.unsupported _)
      ·exact ae.unsupported _
    |int k' m=>
     cases a<;>simp only[rv,Option.map]
     ·exact ae.unsupported _
     ·rcases m with z|z
      ·cases z<;>first|exact ae.pure rfl|exact ae.unsupported _
      ·exact ae.unsupported _
    |_=>cases a<;>simp only[rv,Option.map]<;>exact ae.unsupported _
   |int k' m=>
    cases y with
    |pointer b=>
     cases b<;>simp only[rv,Option.map]
     ·rcases m with z|z
      ·cases z<;>first|exact ae.pure rfl|exact ae.unsupported _
      ·exact ae.unsupported _
     ·rcases m with z|z
      ·cases z<;>first|exact ae.pure rfl|exact ae.unsupported _
      ·exact ae.unsupported _
    |int k2 m2=>simp only[rv];exact ae.ar (λ_=>ae.pure rfl) (λ_=>ae.stuck _)
    |_=>simp only[rv];exact ae.stuck _
   |_=>cases y<;>simp only[rv]<;>first|exact ae.stuck _|exact ae.unsupported _
  |float k=>
   cases x<;>simp only[rv]<;>try exact ae.stuck _
   cases y<;>simp only[rv]<;>first|exact ae.stuck _|exact ae.ar (λ_=>ae.pure rfl) (λ_=>ae.stuck _)
  |complex k=>
   cases x<;>simp only[rv]<;>try exact ae.stuck _
   cases y<;>simp only[rv]<;>first|exact ae.stuck _|exact ae.ar (λ_=>ae.pure rfl) (λ_=>ae.stuck _)
  |pointer e=>
   cases x with
   |pointer a=>
    cases y with
    |pointer b=>
     cases a<;>cases b<;>simp only[rv,Option.map]<;>try exact ae.pure rfl
     refine ae.bind (bU _) ?_;rintro m _ rfl;refine ae.ar (λ_=>vE hp _ _) (λ_=>?_);rw[vD hp];refine ae.ar (λ_=>ae.pure rfl) (λ_=>?_);refine ae.bind (gX _) ?_;rintro q _ rfl;exact ae.pure rfl
    |_=>cases a<;>simp only[rv,Option.map]<;>exact ae.stuck _
   |_=>cases y<;>simp only[rv]<;>exact ae.stuck _
  |unsafePointer=>
   cases x<;>simp only[rv]<;>try exact ae.stuck _
   cases y<;>simp only[rv]<;>first|exact ae.stuck _|exact ye hp _ _
  |chan dr e=>
   cases x<;>simp only[rv]<;>try exact ae.stuck _
   cases y<;>simp only[rv]<;>try exact ae.stuck _
   rename_i a b;refine ae.pure ?_;cases a<;>cases b<;>simp[sw hp]
  |interface ms=>
   cases x<;>simp only[rv]<;>try exact ae.stuck _
   all_goals cases y<;>simp only[rv]<;>try first|exact ae.stuck _|exact ae.pure rfl
   refine ae.ar (λ_=>ae.pure rfl) (λ_=>?_);refine ae.bind (ed _) ?_;rintro i i' ⟨e,_⟩;subst e;refine ae.ar (λ_=>?_) (λ_=>oC hp n _ _ _ (BX hx) (BX hy));refine ae.bind cn ?_;rintro _ _ ⟨rfl,rfl⟩;refine ae.bind cn ?_;rintro _ _ ⟨rfl,rfl⟩;refine ae.ar (λ_=>jb (ae.unsupported _)) (λ_=>?_);refine ae.bind (yQ _) ?_;rintro q _ rfl;exact aM _
  |struct fs=>
   cases x<;>simp only[rv]<;>try exact ae.stuck _
   cases y<;>simp only[rv]<;>try exact ae.stuck _
   have hl:∀(xs ys:Array Value),(yc P ρ∨xs.map (rv ρ)=xs)→(yc P ρ∨ys.map (rv ρ)=ys)→ae P ρ Eq
    (forIn fs ((none,()):Option Bool×Unit) λf _=>if f.name≠ "_" then do
      let a ←part f.type xs f.offset;let b ←part f.type ys f.offset;let r ←Op.equalIn n f.type a b
      if(!r)=true then pure (ForInStep.done (some false,()))else pure (ForInStep.yield (none,()))
      else pure (ForInStep.yield (none,())))
    (forIn fs ((none,()):Option Bool×Unit) λf _=>if f.name≠ "_" then do
      let a ←part f.type (xs.map (rv ρ)) f.offset;let b ←part f.type (ys.map (rv ρ)) f.offset;let r ←Op.equalIn n f.type a b
      if(!r)=true then pure (ForInStep.done (some false,()))else pure (ForInStep.yield (none,()))
      else pure (ForInStep.yield (none,()))):=λxs ys gx gy=>by
    rw[←zaW,←zaW];refine mh (R:=Eq) (λf a b hab=>?_) fs.toList _ _ rfl;subst hab;refine ae.ar (λ_=>?_) (λ_=>ae.pure (Or.inl ⟨_,_,rfl,rfl,rfl⟩));refine ae.bind (uS _ _ _ gx) ?_;rintro v _ ⟨rfl,gv⟩;refine ae.bind (uS _ _ _ gy) ?_;rintro u _ ⟨rfl,gu⟩;refine ae.bind (oC hp n _ _ _ gv gu) ?_;rintro r _ rfl;exact ae.ar (λ_=>ae.pure (Or.inr ⟨_,_,rfl,rfl,rfl⟩)) (λ_=>ae.pure (Or.inl ⟨_,_,rfl,rfl,rfl⟩))
   refine ae.bind cn ?_;rintro _ _ ⟨rfl,rfl⟩;refine ae.ar (λ_=>jb (ae.unsupported _)) (λ_=>?_);refine ae.bind (hl _ _ (Ac hx) (Ac hy)) ?_;rintro r _ rfl;split<;>exact ae.pure rfl
  |array m e=>
   cases x<;>simp only[rv]<;>try exact ae.stuck _
   cases y<;>simp only[rv]<;>try exact ae.stuck _
   refine ae.bind (bU _) ?_;rintro sz _ rfl;refine ae.bind (R:=Eq) ?_ ?_
   ·haveI:=lawful
    rw[Std.Legacy.Range.forIn_eq_forIn_range',Std.Legacy.Range.forIn_eq_forIn_range'];refine mh (R:=Eq) (λf a b hab=>?_) _ _ _ rfl;subst hab;refine ae.bind (uS _ _ _ (Ac hx)) ?_;rintro v _ ⟨rfl,gv⟩;refine ae.bind (uS _ _ _ (Ac hy)) ?_;rintro u _ ⟨rfl,gu⟩;refine ae.bind (oC hp n _ _ _ gv gu) ?_;rintro r _ rfl;exact ae.ar (λ_=>ae.pure (Or.inr ⟨_,_,rfl,rfl,rfl⟩)) (λ_=>ae.pure (Or.inl ⟨_,_,rfl,rfl,rfl⟩))
   ·rintro r _ rfl;split<;>exact ae.pure rfl
  |slice e=>
   cases x with
   |slice a l c=>
    cases y with
    |slice b l2 c2=>cases a<;>cases b<;>simp only[rv,Option.map]<;>first|exact ae.pure rfl|exact ae.stuck _
    |_=>cases a<;>simp only[rv,Option.map]<;>exact ae.stuck _
   |_=>cases y<;>simp only[rv]<;>exact ae.stuck _
  |map k e=>
   cases x with
   |map a=>
    cases y with
    |map b=>cases a<;>cases b<;>simp only[rv,Option.map]<;>first|exact ae.pure rfl|exact ae.stuck _
    |_=>cases a<;>simp only[rv,Option.map]<;>exact ae.stuck _
   |_=>cases y<;>simp only[rv]<;>exact ae.stuck _
  |func ps rs v=>
   cases x<;>simp only[rv]<;>try exact ae.stuck _
   all_goals cases y<;>simp only[rv]<;>first|exact ae.stuck _|exact ae.pure rfl
  |_=>cases x<;>simp only<;>try exact ae.stuck _
end
section
variable {P:Program}{ρ:Rn}{α β Wy Wz:Type}
theorem Hb (hp:Plain P ρ)(t:TypeId)(x y:Value)(hx:GV P ρ x)(hy:GV P ρ y):ae P ρ Eq (Op.equal t x y) (Op.equal t (rv ρ x) (rv ρ y)):=oC hp _ t x y hx hy
theorem ny:∀(n:Nat) (t:TypeId) (x y:Value),ae P ρ Eq (Op.eqGuardIn n t x y) (Op.eqGuardIn n t (rv ρ x) (rv ρ y))
 |0,t,x,y=>by unfold Op.eqGuardIn;exact ae.unsupported _
 |n+1,t,x,y=>by
  unfold Op.eqGuardIn;refine ae.bind (aw t) ?_;rintro d d' ⟨e,_⟩;subst e;cases d' with
  |interface ms=>cases x<;>cases y<;>simp only[rv]<;>exact ae.pure rfl
  |struct fs=>
   cases x<;>simp only[rv]<;>try exact ae.pure rfl
   cases y<;>simp only[rv]<;>try exact ae.pure rfl
   refine ae.bind (R:=Eq) ?_ ?_
   ·rw[←zaW,←zaW];refine mh (R:=Eq) (λf a b hab=>?_) fs.toList _ _ rfl;subst hab;refine ae.ar (λ_=>?_) (λ_=>ae.pure (Or.inl ⟨_,_,rfl,rfl,rfl⟩));refine ae.bind (nt _ _ _) ?_;rintro v _ rfl;refine ae.bind (nt _ _ _) ?_;rintro u _ rfl;refine ae.bind (ny n _ _ _) ?_;rintro r _ rfl;exact ae.ar (λ_=>ae.pure (Or.inr ⟨_,_,rfl,rfl,rfl⟩)) (λ_=>ae.pure (Or.inl ⟨_,_,rfl,rfl,rfl⟩))
   ·rintro r _ rfl;split<;>exact ae.pure rfl
  |array m e=>
   cases x<;>simp only[rv]<;>try exact ae.pure rfl
   cases y<;>simp only[rv]<;>try exact ae.pure rfl
   refine ae.bind (bU _) ?_;rintro sz _ rfl;refine ae.bind (R:=Eq) ?_ ?_
   ·haveI:=lawful
    rw[Std.Legacy.Range.forIn_eq_forIn_range',Std.Legacy.Range.forIn_eq_forIn_range'];refine mh (R:=Eq) (λf a b hab=>?_) _ _ _ rfl;subst hab;refine ae.bind (nt _ _ _) ?_;rintro v _ rfl;refine ae.bind (nt _ _ _) ?_;rintro u _ rfl;refine ae.bind (ny n _ _ _) ?_;rintro r _ rfl;exact ae.ar (λ_=>ae.pure (Or.inr ⟨_,_,rfl,rfl,rfl⟩)) (λ_=>ae.pure (Or.inl ⟨_,_,rfl,rfl,rfl⟩))
   ·rintro r _ rfl;split<;>exact ae.pure rfl
  |_=>cases x<;>simp only<;>exact ae.pure rfl
theorem Jg (op:BinOp)(t:TypeId)(x y:Operand)(a b:Value):ae P ρ Eq (eqGuard op t x y a b) (eqGuard op t x y (rv ρ a) (rv ρ b)):=by
 have hg:=ny (P:=P) (ρ:=ρ) Op.maxDepth t a b;unfold eqGuard;refine ae.ar (λ_=>ae.pure rfl) (λ_=>?_);cases a<;>cases b<;>simp only[rv]at hg ⊢<;>try exact ae.pure rfl
 ·refine ae.ar (λ_=>ae.pure rfl) (λ_=>?_);refine ae.bind hg ?_;rintro r _ rfl;exact ae.ar (λ_=>ae.unsupported _) (λ_=>ae.pure rfl)
 ·refine ae.bind cn ?_;rintro _ _ ⟨rfl,rfl⟩;refine ae.bind cn ?_;rintro _ _ ⟨rfl,rfl⟩;refine ae.ar (λ_=>ae.pure rfl) (λ_=>?_);refine ae.bind hg ?_;rintro r _ rfl;exact ae.ar (λ_=>ae.unsupported _) (λ_=>ae.pure rfl)
theorem vF (op:BinOp)(k:IntKind)(a b:Int):ae P ρ (VV ρ) (Op.intArith op k a b) (Op.intArith op k a b):=by
 cases op<;>simp only[Op.intArith]<;>first|exact ae.stuck _|exact ae.pure (by simp[VV,rv])
theorem Ma (_hp:Plain P ρ)(op:BinOp)(k:IntKind)(a b:Int):ae P ρ (VV ρ) (Op.intDiv op k a b) (Op.intDiv op k a b):=by
 unfold Op.intDiv;refine ae.ar (λ_=>aM _) (λ_=>?_);cases op<;>first|exact ae.stuck _|exact ae.pure (by simp[VV,rv])
theorem yR (op:BinOp)(k:IntKind)(a b:Int):ae P ρ (VV ρ) (Op.intBits op k a b) (Op.intBits op k a b):=by
 cases op<;>simp only[Op.intBits]<;>first|exact ae.stuck _|exact ae.pure (by simp[VV,rv])
theorem vG (op:BinOp)(a b:Int):ae P ρ (VV ρ) (Op.intCmp op a b) (Op.intCmp op a b):=by
 cases op<;>simp only[Op.intCmp]<;>first|exact ae.stuck _|exact ae.pure (by simp[VV,rv])
theorem Qo (_hp:Plain P ρ)(op:BinOp)(k:IntKind)(a:Int)(k2:IntKind)(b:Int):ae P ρ (VV ρ) (Op.shift op k a k2 b) (Op.shift op k a k2 b):=by
 unfold Op.shift;refine ae.ar (λ_=>aM _) (λ_=>?_);cases op<;>first|exact ae.stuck _|exact ae.pure (by simp[VV,rv])
theorem jT (op:BinOp)(a b:ByteArray):ae P ρ (VV ρ) (Op.stringOp op a b) (Op.stringOp op a b):=by
 cases op<;>simp only[Op.stringOp]<;>first|exact ae.stuck _|exact ae.pure (by simp[VV,rv])|exact ae.ar (λ_=>ae.unsupported _) (λ_=>ae.pure (by simp[VV,rv]))
theorem Qp (op:UnOp)(x:Value):ae P ρ (VV ρ) (Op.unary op x) (Op.unary op (rv ρ x)):=by
 cases x with
 |pointer a=>cases op<;>cases a<;>simp only[rv,Option.map,Op.unary]<;>first|exact ae.stuck _|exact ae.unsupported _
 |int k n=>cases op<;>simp only[rv,Op.unary]<;>first|exact ae.stuck _|exact vF _ _ _ _|exact yR _ _ _ _
 |_=>cases op<;>simp only[rv,Op.unary]<;>first|exact ae.stuck _|exact ae.pure (by simp[VV,rv])
def eo (P:Program){α:Type}(A:α→Prop):Sem α→Prop
 |.pure a=>A a
 |.choose _ k=>∀n,eo P A (k n)
 |.program k=>eo P A (k P)
 |.halt h=>BR h
 |_=>False
theorem eo.bind {A:α→Prop}{B:β→Prop}:∀{s:Sem α} {f:α→Sem β},eo P A s→(∀a,A a→eo P B (f a))→eo P B (s>>=f)
 |.pure a,_f,h,hf=>hf a h
 |.choose _ _k,_f,h,hf=>λn=>eo.bind (h n) hf
 |.program k,_f,h,hf=>eo.bind (s:=k P) h hf
 |.halt _,_f,h,_hf=>h
 |.load ..,_f,h,_hf=>h.elim
 |.store ..,_f,h,_hf=>h.elim
 |.new ..,_f,h,_hf=>h.elim
 |.shape ..,_f,h,_hf=>h.elim
 |.freeze ..,_f,h,_hf=>h.elim
 |.frozen ..,_f,h,_hf=>h.elim
 |.getObj ..,_f,h,_hf=>h.elim
 |.setObj ..,_f,h,_hf=>h.elim
 |.sys ..,_f,h,_hf=>h.elim
 |.mark ..,_f,h,_hf=>h.elim
theorem eo.mono {A B:α→Prop}(Xc:∀a,A a→B a):∀{s:Sem α},eo P A s→eo P B s
 |.pure a,h=>Xc a h
 |.choose _ _k,h=>λn=>eo.mono Xc (h n)
 |.program k,h=>eo.mono (s:=k P) Xc h
 |.halt _,h=>h
 |.load ..,h=>h.elim
 |.store ..,h=>h.elim
 |.new ..,h=>h.elim
 |.shape ..,h=>h.elim
 |.freeze ..,h=>h.elim
 |.frozen ..,h=>h.elim
 |.getObj ..,h=>h.elim
 |.setObj ..,h=>h.elim
 |.sys ..,h=>h.elim
 |.mark ..,h=>h.elim
theorem Mb {A:α→Prop}{R:α→α→Prop}(hA:∀a,A a→R a a):∀{s:Sem α},eo P A s→ae P ρ R s s
 |.pure a,h=>⟨a,rfl,hA a h⟩
 |.choose _ k,h=>⟨k,rfl,λn=>Mb hA (h n)⟩
 |.program k,h=>⟨k,rfl,Mb (s:=k P) hA h⟩
 |.halt _,h=>h
 |.load ..,h=>h.elim
 |.store ..,h=>h.elim
 |.new ..,h=>h.elim
 |.shape ..,h=>h.elim
 |.freeze ..,h=>h.elim
 |.frozen ..,h=>h.elim
 |.getObj ..,h=>h.elim
 |.setObj ..,h=>h.elim
 |.sys ..,h=>h.elim
 |.mark ..,h=>h.elim
def fN (v:Value):Prop:=∀ρ:Rn,rv ρ v=v
theorem nz {s:Sem Value}(h:eo P fN s):ae P ρ (VV ρ) s s:=Mb (λ_a h=>(h ρ).symm) h
theorem Uc (k:FloatKind)(q:Question)(r:Option Nat):eo P (λv=>∃r,v=.float k r) (match r with|some r=>pure (Value.float k r)|none=>do let x ←choose q;pure (Value.float k x):Sem Value):=by
 cases r with
 |none=>exact λn=>⟨_,rfl⟩
 |some r=>exact⟨r,rfl⟩
theorem nA (op:BinOp)(k:FloatKind)(x y:Nat):eo P (λv=>∃r,v=.float k r) (Op.floatArith op k x y):=by
 unfold Op.floatArith;cases op<;>first|exact Uc k _ _|trivial
theorem E4 (k:FloatKind)(r:Nat):fN (.float k r):=λρ=>by simp[rv]
theorem oD (b:Bool):fN (.bool b):=λρ=>by simp[rv]
theorem jF (op:BinOp)(k:FloatKind)(x y:Nat):eo P (λv=>∃r,v=.bool r) (Op.floatCmp op k x y):=by
 unfold Op.floatCmp;cases op<;>first|exact⟨_,rfl⟩|trivial
open Op.Complex in
theorem aN (op:BinOp)(k:FloatKind)(x y:Nat):eo P (λ_=>True) (arith op k x y):=by
 unfold arith;refine eo.bind (nA op k x y) ?_;rintro _ ⟨r,rfl⟩;trivial
open Op.Complex in
theorem qA (op:BinOp)(k:FloatKind)(x y:Nat):eo P (λ_=>True) (cmp op k x y):=by
 unfold cmp;refine eo.bind (jF op k x y) ?_;rintro _ ⟨r,rfl⟩;trivial
open Op.Complex in
theorem jc (k:FloatKind)(x:Nat)(d:FloatKind):eo P (λ_=>True) (conv k x d):=by
 unfold conv
 split
 ·trivial
 ·refine eo.bind (A:=λv=>∃k r,v=.float k r) ?_ ?_
  ·unfold Conv.floatToFloat
   split
   ·exact⟨_,_,rfl⟩
   ·split
    ·exact λn=>⟨_,_,rfl⟩
    ·exact⟨_,_,rfl⟩
    ·dsimp only;split
     ·exact λn=>⟨_,_,rfl⟩
     ·exact⟨_,_,rfl⟩
  ·rintro _ ⟨_,r,rfl⟩;trivial
open Op.Complex in
theorem BZ (a b c d:Nat):eo P (λ_=>True) (product a b c d):=by
 unfold product;refine eo.bind (aN _ _ _ _) λ_ _=>eo.bind (aN _ _ _ _) λ_ _=>eo.bind (aN _ _ _ _) λ_ _=>eo.bind (aN _ _ _ _) λ_ _=>eo.bind (aN _ _ _ _) λ_ _=>eo.bind (aN _ _ _ _) λ_ _=>trivial
open Op.Complex in
theorem pk (s a b c d:Nat):eo P (λ_=>True) (corrected s a b c d):=by
 unfold corrected;refine eo.bind (aN _ _ _ _) λ_ _=>eo.bind (aN _ _ _ _) λ_ _=>eo.bind (aN _ _ _ _) λ_ _=>eo.bind (aN _ _ _ _) λ_ _=>eo.bind (aN _ _ _ _) λ_ _=>eo.bind (aN _ _ _ _) λ_ _=>eo.bind (aN _ _ _ _) λ_ _=>eo.bind (aN _ _ _ _) λ_ _=>trivial
open Op.Complex in
theorem Ad (a b c d:Nat):eo P (λ_=>True) (quotient a b c d):=by
 unfold quotient;have tail:∀x:Nat×Nat,eo P (λ_=>True) (do
  let zero:=(←cmp .eql .f64 c 0)&&(←cmp .eql .f64 d 0)
  if !(isNaN x.1&&isNaN x.2)then pure x
  else if zero&&(!isNaN a||!isNaN b)then
   pure (←mul (copysign inf c) a,←mul (copysign inf c) b)
  else if(isInf a||isInf b)&&isFinite c&&isFinite d then corrected inf (inf2one a) (inf2one b) c d
  else if(isInf c||isInf d)&&isFinite a&&isFinite b then corrected 0 a b (inf2one c) (inf2one d)
  else pure x:Sem (Nat×Nat)):=λx=>by
  refine eo.bind (qA _ _ _ _) λ_ _=>eo.bind (qA _ _ _ _) λ_ _=>?_;dsimp only;split
  ·trivial
  ·split
   ·exact eo.bind (aN _ _ _ _) λ_ _=>eo.bind (aN _ _ _ _) λ_ _=>trivial
   ·split
    ·exact pk _ _ _ _ _
    ·split
     ·exact pk _ _ _ _ _
     ·trivial
 refine eo.bind (qA _ _ _ _) λq _=>?_;cases q
 ·refine eo.bind (aN _ _ _ _) λ_ _=>eo.bind (aN _ _ _ _) λ_ _=>eo.bind (aN _ _ _ _) λ_ _=>eo.bind (aN _ _ _ _) λ_ _=>eo.bind (aN _ _ _ _) λ_ _=>eo.bind (aN _ _ _ _) λ_ _=>eo.bind (aN _ _ _ _) λ_ _=>eo.bind (aN _ _ _ _) λ_ _=>eo.bind (aN _ _ _ _) λ_ _=>?_;exact tail (_,_)
 ·refine eo.bind (aN _ _ _ _) λ_ _=>eo.bind (aN _ _ _ _) λ_ _=>eo.bind (aN _ _ _ _) λ_ _=>eo.bind (aN _ _ _ _) λ_ _=>eo.bind (aN _ _ _ _) λ_ _=>eo.bind (aN _ _ _ _) λ_ _=>eo.bind (aN _ _ _ _) λ_ _=>eo.bind (aN _ _ _ _) λ_ _=>eo.bind (aN _ _ _ _) λ_ _=>?_;exact tail (_,_)
open Op.Complex in
theorem kY (op:BinOp)(k:FloatKind)(a b c d:Nat):eo P fN (Op.complexOp op k a b c d):=by
 have bc:∀a b,fN (.complex k a b):=λa b ρ=>by simp[rv]
 unfold Op.complexOp;cases op<;>first
  |exact eo.bind (aN _ _ _ _) λ_ _=>eo.bind (aN _ _ _ _) λ_ _=>bc _ _
  |exact eo.bind (qA _ _ _ _) λ_ _=>eo.bind (qA _ _ _ _) λ_ _=>oD _
  |(refine eo.bind (jc _ _ _) λ_ _=>eo.bind (jc _ _ _) λ_ _=>eo.bind (jc _ _ _) λ_ _=>eo.bind (jc _ _ _) λ_ _=>?_
    first
    |exact eo.bind (BZ _ _ _ _) λ_ _=>eo.bind (jc _ _ _) λ_ _=>eo.bind (jc _ _ _) λ_ _=>bc _ _
    |exact eo.bind (Ad _ _ _ _) λ_ _=>eo.bind (jc _ _ _) λ_ _=>eo.bind (jc _ _ _) λ_ _=>bc _ _)
  |trivial
end
end Go.Ren
namespace Go.Ren
open Go
section
variable {P:Program}{ρ:Rn}{α β Wy Wz:Type}
theorem tR (hp:Plain P ρ)(a b:Addr)(ha:GA P ρ a):ae P ρ Eq (Op.twoPlaces a b) (Op.twoPlaces (ra ρ a) (ra ρ b)):=by
 unfold Op.twoPlaces;refine ae.bind cn ?_;rintro _ _ ⟨rfl,rfl⟩;have e1:((ra ρ a).block != (ra ρ b).block)=(a.block != b.block):=by
  show(!((ra ρ a).block==(ra ρ b).block))=_;rw[show((ra ρ a).block==(ra ρ b).block)=(a.block==b.block) from sw hp _ _];rfl
 have e2:decide ((ra ρ a).block≥P.globals.size)=decide (a.block≥P.globals.size):=by
  rw[decide_eq_decide];have:=Ha ha;omega
 simp only[e1,e2];refine ae.ar (λ_=>jb (ae.unsupported _)) (λ_=>?_);refine ae.bind (jS _) ?_;rintro x _ rfl;refine ae.bind (jS _) ?_;rintro y _ rfl;exact ae.pure rfl
theorem Jh (hp:Plain P ρ)(k:IntKind)(a b:Addr)(ha:GA P ρ a):ae P ρ (VV ρ) (Op.addrSub k a b) (Op.addrSub k (ra ρ a) (ra ρ b)):=by
 unfold Op.addrSub;refine ae.bind (tR hp a b ha) ?_;rintro x _ rfl;exact ae.pure (by simp[VV,rv])
theorem Ji (hp:Plain P ρ)(op:BinOp)(a b:Addr)(ha:GA P ρ a):ae P ρ (VV ρ) (Op.addrCmp op a b) (Op.addrCmp op (ra ρ a) (ra ρ b)):=by
 unfold Op.addrCmp;refine ae.bind (tR hp a b ha) ?_;rintro x _ rfl;cases op<;>first|exact ae.unsupported _|exact ae.pure (by simp[VV,rv])
theorem yS (k:IntKind)(a:Addr)(n:Int):ae P ρ (VV ρ) (Op.addrMod k a n) (Op.addrMod k (ra ρ a) n):=by
 unfold Op.addrMod;refine ae.bind (gp a.block) ?_;rintro sh _ rfl;cases sh with
 |none=>exact ae.unsupported _
 |some x=>
  obtain⟨e,m⟩:=x;dsimp only;refine ae.bind (ed _) ?_;rintro i i' ⟨e,_⟩;subst e;refine ae.ar (λ_=>jb (ae.unsupported _)) (λ_=>?_);refine ae.bind (jS _) ?_;rintro q _ rfl;exact ae.pure (by simp[VV,rv])
theorem kN (ts:Array TypeId)(t:TypeId)(a:Option Addr)(y:Value):ae P ρ (VV ρ) (Builtin.unsafeAdd_ ts t #[.pointer a,y]) (Builtin.unsafeAdd_ ts t #[.pointer (a.map (ra ρ)),rv ρ y]):=by
 unfold Builtin.unsafeAdd_;dsimp only;refine ae.bind (ma y) ?_;rintro n _ rfl;refine ae.ar (λ_=>?_) (λ_=>?_)
 ·cases a with
  |none=>exact ae.unsupported _
  |some a=>
   simp only[Option.map];refine ae.bind (qz a.block) ?_;rintro x _ rfl;simp only[Option.isSome_map];exact ae.ar (λ_=>jb (ae.unsupported _)) (λ_=>ae.pure (by simp[VV,rv]))
 ·refine ae.ar (λ_=>jb (ae.unsupported _)) (λ_=>?_);cases a with
  |none=>exact ae.unsupported _
  |some a=>
   simp only[Option.map];refine ae.bind (gp a.block) ?_;rintro sh _ rfl;cases sh with
   |none=>exact ae.unsupported _
   |some x=>
    obtain⟨e,m⟩:=x;dsimp only;refine ae.bind cn ?_;rintro _ _ ⟨rfl,rfl⟩;have:(ra ρ a).off=a.off:=rfl;rw[this];split
    ·exact ae.pure (by simp[VV,rv,ra])
    ·exact ae.unsupported _
theorem E6 (a:Addr)(l:Bool):ae P ρ (VV ρ) (asNumber a l) (asNumber (ra ρ a) l):=by
 unfold asNumber;refine ae.bind (lu (.number a l)) ?_;rintro r _ rfl;exact ae.pure (by simp[VV,rv,ra])
theorem yf (t:TypeId)(a:Option Addr)(y:Value)(ha:GV P ρ (.pointer a)):ae P ρ (VV ρ) (movedNumber t (.pointer a) y) (movedNumber t (.pointer (a.map (ra ρ))) (rv ρ y)):=by
 unfold movedNumber;refine ae.bind (aw t) ?_;rintro d d' ⟨e,_⟩;subst e;refine ae.ar (λ_=>jb (ae.unsupported _)) (λ_=>?_);cases a with
 |none=>exact kN _ _ none y
 |some n=>
  simp only[Option.map];refine ae.bind (dE n (pN ha)) ?_;rintro x _ ⟨rfl,_⟩;refine ae.bind (kN _ _ (some x.1) y) ?_;rintro v _ rfl;cases v with
  |pointer b=>
   cases b with
   |none=>simp only[rv,Option.map];exact ae.pure (by simp[VV,rv])
   |some b=>simp only[rv,Option.map];exact E6 b x.2
  |_=>simp only[rv];exact ae.pure (by simp[VV,rv])
theorem vH (t:TypeId)(a:Option Addr)(y:Value):ae P ρ (VV ρ) (movedPointer t (.pointer a) y) (movedPointer t (.pointer (a.map (ra ρ))) (rv ρ y)):=by
 unfold movedPointer;cases a with
 |none=>exact kN _ _ none y
 |some n=>
  simp only[Option.map];refine ae.bind (vC n.block) ?_;rintro x _ ⟨rfl,_⟩;simp only[Option.isSome_map];exact ae.ar (λ_=>jb (ae.unsupported _)) (λ_=>kN _ _ (some n) y)
theorem jU (t:TypeId)(a:Option Addr)(k:IntKind)(n:Int)(ha:GV P ρ (.pointer a)):ae P ρ (VV ρ) (movedNumber t (.pointer a) (.int k n)) (movedNumber t (.pointer (a.map (ra ρ))) (.int k n)):=by
 have h:=yf t a (.int k n) ha;simpa only[rv]using h
theorem uv (t:TypeId)(a:Option Addr)(k:IntKind)(n:Int):ae P ρ (VV ρ) (movedPointer t (.pointer a) (.int k n)) (movedPointer t (.pointer (a.map (ra ρ))) (.int k n)):=by
 have h:=vH (P:=P) (ρ:=ρ) t a (.int k n);simpa only[rv]using h
theorem Qq (hp:Plain P ρ)(op:BinOp)(t:TypeId)(a b:Option Addr)(hx:GV P ρ (.pointer a))(hy:GV P ρ (.pointer b))(h1:op≠.eql)(h2:op≠.neq):ae P ρ (VV ρ) (binOp op t (.pointer a) (.pointer b)) (binOp op t (.pointer (a.map (ra ρ))) (.pointer (b.map (ra ρ)))):=by
 cases a<;>cases b<;>cases op<;>simp only[binOp,Option.map]<;>first
  |exact absurd rfl h1|exact absurd rfl h2
  |exact ae.unsupported _|exact ae.stuck _
  |(refine ae.bind (dE _ (pN hx)) ?_;rintro x1 _ ⟨rfl,gx⟩;refine ae.bind (dE _ (pN hy)) ?_;rintro y1 _ ⟨rfl,gy⟩;first|exact Jh hp _ _ _ gx|exact Ji hp _ _ _ gx)
theorem Qr (_hp:Plain P ρ)(op:BinOp)(t:TypeId)(a:Option Addr)(k:IntKind)(b:Int)(hx:GV P ρ (.pointer a))(h1:op≠.eql)(h2:op≠.neq):ae P ρ (VV ρ) (binOp op t (.pointer a) (.int k b)) (binOp op t (.pointer (a.map (ra ρ))) (.int k b)):=by
 cases op<;>simp only[binOp]<;>first
  |exact absurd rfl h1|exact absurd rfl h2
  |exact jU t _ k _ hx
  |(refine ae.bind (aw t) ?_;rintro d d' ⟨e,_⟩;subst e;exact ae.ar (λ_=>uv t _ k b) (λ_=>jU t _ k b hx))
  |exact ae.unsupported _
  |(cases a<;>simp only[Option.map]<;>first|exact ae.unsupported _|(refine ae.bind (dE _ (pN hx)) ?_;rintro x1 _ ⟨rfl,gx⟩;exact yS _ _ _))
theorem Qs (_hp:Plain P ρ)(op:BinOp)(t:TypeId)(a:Option Addr)(k:IntKind)(b:Int)(hx:GV P ρ (.pointer a))(h1:op≠.eql)(h2:op≠.neq):ae P ρ (VV ρ) (binOp op t (.int k b) (.pointer a)) (binOp op t (.int k b) (.pointer (a.map (ra ρ)))):=by
 cases op<;>simp only[binOp]<;>first
  |exact absurd rfl h1|exact absurd rfl h2
  |exact jU t _ k _ hx
  |exact ae.unsupported _
  |(cases a<;>simp only[Option.map]<;>first|exact ae.unsupported _|(refine ae.bind (dE _ (pN hx)) ?_;rintro x1 _ ⟨rfl,gx⟩;exact yS _ _ _))
theorem Qt (hp:Plain P ρ)(op:BinOp)(t:TypeId)(x y:Value)(hx:GV P ρ x)(hy:GV P ρ y):ae P ρ (VV ρ) (binOp op t x y) (binOp op t (rv ρ x) (rv ρ y)):=by
 have he:=Hb (P:=P) (ρ:=ρ) hp t x y hx hy;have hE:ae P ρ (VV ρ) (do pure (.bool (←Op.equal t x y))) (do pure (.bool (←Op.equal t (rv ρ x) (rv ρ y)))):=by
  refine ae.bind he ?_;rintro b _ rfl;exact ae.pure (by simp[VV,rv])
 have hN:ae P ρ (VV ρ) (do pure (.bool (!(←Op.equal t x y)))) (do pure (.bool (!(←Op.equal t (rv ρ x) (rv ρ y))))):=by
  refine ae.bind he ?_;rintro b _ rfl;exact ae.pure (by simp[VV,rv])
 clear he;by_cases h1:op=.eql
 ·subst h1;cases x<;>first
   |(cases y<;>simp only[rv,binOp]at hE ⊢<;>first
      |exact hE
      |(refine ae.ar (λ_=>ae.stuck _) (λ_=>?_);first
         |exact vG _ _ _
         |exact nz (eo.mono (by rintro _ ⟨r,rfl⟩;exact oD _) (jF _ _ _ _))
         |exact nz (kY _ _ _ _ _ _))
      |exact jT _ _ _)
 by_cases h2:op=.neq
 ·subst h2;cases x<;>first
   |(cases y<;>simp only[rv,binOp]at hN ⊢<;>first
      |exact hN
      |(refine ae.ar (λ_=>ae.stuck _) (λ_=>?_);first
         |exact vG _ _ _
         |exact nz (eo.mono (by rintro _ ⟨r,rfl⟩;exact oD _) (jF _ _ _ _))
         |exact nz (kY _ _ _ _ _ _))
      |exact jT _ _ _)
 clear hE hN;cases x with
 |int k a=>
  cases y with
  |int k2 b=>
   simp only[rv];cases op<;>simp only[binOp]<;>first
    |exact Qo hp _ _ _ _ _
    |exact absurd rfl h1|exact absurd rfl h2
    |(refine ae.ar (λ_=>ae.stuck _) (λ_=>?_);first|exact vF _ _ _ _|exact Ma hp _ _ _ _|exact yR _ _ _ _|exact vG _ _ _)
  |pointer b=>simp only[rv];exact Qs hp op t b k a hy h1 h2
  |_=>simp only[rv];cases op<;>simp only[binOp]<;>first|exact ae.stuck _|exact absurd rfl h1|exact absurd rfl h2
 |float k a=>
  cases y with
  |float k2 b=>
   simp only[rv];cases op<;>simp only[binOp]<;>first
    |exact absurd rfl h1|exact absurd rfl h2
    |(refine ae.ar (λ_=>ae.stuck _) (λ_=>?_);first
       |exact nz (eo.mono (by rintro _ ⟨r,rfl⟩;exact E4 _ _) (nA _ _ _ _))
       |exact nz (eo.mono (by rintro _ ⟨r,rfl⟩;exact oD _) (jF _ _ _ _)))
    |exact ae.stuck _
  |pointer b=>simp only[rv];cases op<;>simp only[binOp]<;>first|exact ae.unsupported _|exact absurd rfl h1|exact absurd rfl h2
  |_=>simp only[rv];cases op<;>simp only[binOp]<;>first|exact ae.stuck _|exact absurd rfl h1|exact absurd rfl h2
 |complex k a a2=>
  cases y with
  |complex k2 b b2=>
   simp only[rv];cases op<;>simp only[binOp]<;>first
    |exact absurd rfl h1|exact absurd rfl h2
    |(refine ae.ar (λ_=>ae.stuck _) (λ_=>?_);exact nz (kY _ _ _ _ _ _))
    |exact ae.stuck _
  |pointer b=>simp only[rv];cases op<;>simp only[binOp]<;>first|exact ae.unsupported _|exact absurd rfl h1|exact absurd rfl h2
  |_=>simp only[rv];cases op<;>simp only[binOp]<;>first|exact ae.stuck _|exact absurd rfl h1|exact absurd rfl h2
 |string a=>
  cases y with
  |string b=>simp only[rv,binOp];exact jT _ _ _
  |pointer b=>simp only[rv];cases op<;>simp only[binOp]<;>first|exact ae.unsupported _|exact absurd rfl h1|exact absurd rfl h2
  |_=>simp only[rv];cases op<;>simp only[binOp]<;>first|exact ae.stuck _|exact absurd rfl h1|exact absurd rfl h2
 |pointer a=>
  cases y with
  |pointer b=>simp only[rv];exact Qq hp op t a b hx hy h1 h2
  |int k b=>simp only[rv];exact Qr hp op t a k b hx h1 h2
  |_=>simp only[rv];cases op<;>simp only[binOp]<;>first|exact ae.unsupported _|exact absurd rfl h1|exact absurd rfl h2
 |_=>
  cases y with
  |pointer b=>simp only[rv];cases op<;>simp only[binOp]<;>first|exact ae.unsupported _|exact absurd rfl h1|exact absurd rfl h2
  |_=>simp only[rv];cases op<;>simp only[binOp]<;>first|exact ae.stuck _|exact absurd rfl h1|exact absurd rfl h2
end
section
variable {P:Program}{ρ:Rn}{α β Wy Wz:Type}
theorem ae.mono' {R:α→β→Prop}{s:Sem α}{s1 s2:Sem β}(h:ae P ρ R s s1)(e:s1=s2):ae P ρ R s s2:=e▸h
theorem Ud (x y:Value):ae P ρ (VV ρ) (Builtin.min2 x y) (Builtin.min2 (rv ρ x) (rv ρ y)):=by
 cases x with
 |pointer a=>
  cases a<;>cases y<;>simp only[rv,Option.map,Builtin.min2]<;>first
   |exact ae.unsupported _|exact ae.stuck _|(rename_i b;cases b<;>simp only<;>first|exact ae.unsupported _|exact ae.stuck _)
 |int k a=>
  cases y<;>simp only[rv,Builtin.min2]<;>first
   |exact ae.pure (by simp[VV,rv])|exact ae.stuck _|exact ae.unsupported _|(rename_i b;cases b<;>simp only[Option.map]<;>first|exact ae.unsupported _|exact ae.stuck _)
 |float k a=>
  cases y<;>simp only[rv,Builtin.min2]<;>first
   |(split<;>first|exact ae.pure (by simp[VV,rv])|(refine ae.bind (gX _) ?_;rintro n _ rfl;exact ae.pure (by simp[VV,rv])))
   |exact ae.stuck _|exact ae.unsupported _|(rename_i b;cases b<;>simp only[Option.map]<;>first|exact ae.unsupported _|exact ae.stuck _)
 |string a=>
  cases y<;>simp only[rv,Builtin.min2]<;>first
   |(refine ae.bind (jT _ _ _) ?_;rintro v _ rfl;refine ae.bind (vv v) ?_;rintro b _ rfl;exact ae.pure (by simp[VV,rv]))
   |exact ae.stuck _|exact ae.unsupported _|(rename_i b;cases b<;>simp only[Option.map]<;>first|exact ae.unsupported _|exact ae.stuck _)
 |_=>
  cases y<;>simp only[rv,Builtin.min2]<;>first
   |exact ae.stuck _|exact ae.unsupported _|(rename_i b;cases b<;>simp only[Option.map]<;>first|exact ae.unsupported _|exact ae.stuck _)
theorem Ue (x y:Value):ae P ρ (VV ρ) (Builtin.max2 x y) (Builtin.max2 (rv ρ x) (rv ρ y)):=by
 cases x with
 |pointer a=>
  cases a<;>cases y<;>simp only[rv,Option.map,Builtin.max2]<;>first
   |exact ae.unsupported _|exact ae.stuck _|(rename_i b;cases b<;>simp only<;>first|exact ae.unsupported _|exact ae.stuck _)
 |int k a=>
  cases y<;>simp only[rv,Builtin.max2]<;>first
   |exact ae.pure (by simp[VV,rv])|exact ae.stuck _|exact ae.unsupported _|(rename_i b;cases b<;>simp only[Option.map]<;>first|exact ae.unsupported _|exact ae.stuck _)
 |float k a=>
  cases y<;>simp only[rv,Builtin.max2]<;>first
   |(split<;>first|exact ae.pure (by simp[VV,rv])|(refine ae.bind (gX _) ?_;rintro n _ rfl;exact ae.pure (by simp[VV,rv])))
   |exact ae.stuck _|exact ae.unsupported _|(rename_i b;cases b<;>simp only[Option.map]<;>first|exact ae.unsupported _|exact ae.stuck _)
 |string a=>
  cases y<;>simp only[rv,Builtin.max2]<;>first
   |(refine ae.bind (jT _ _ _) ?_;rintro v _ rfl;refine ae.bind (vv v) ?_;rintro b _ rfl;exact ae.pure (by simp[VV,rv]))
   |exact ae.stuck _|exact ae.unsupported _|(rename_i b;cases b<;>simp only[Option.map]<;>first|exact ae.unsupported _|exact ae.stuck _)
 |_=>
  cases y<;>simp only[rv,Builtin.max2]<;>first
   |exact ae.stuck _|exact ae.unsupported _|(rename_i b;cases b<;>simp only[Option.map]<;>first|exact ae.unsupported _|exact ae.stuck _)
theorem vI {f:Value→Value→Sem Value}(hf:∀x y,ae P ρ (VV ρ) (f x y) (f (rv ρ x) (rv ρ y))):∀(l:List Value) (x:Value),ae P ρ (VV ρ) (l.foldlM f x) ((l.map (rv ρ)).foldlM f (rv ρ x))
 |[],x=>by simp only[zaO,List.foldlM];exact ae.pure rfl
 |y::l,x=>by
  simp only[zan,List.foldlM];refine ae.bind (hf x y) ?_;rintro v _ rfl;exact vI hf l v
theorem XO (ts:Array TypeId)(ty:TypeId)(args:Array Value):ae P ρ (VV ρ) (Builtin.min_ ts ty args) (Builtin.min_ ts ty (args.map (rv ρ))):=by
 unfold Builtin.min_;rw[zaD];cases args.toList with
 |nil=>exact ae.stuck _
 |cons x l=>exact vI Ud l x
theorem XP (ts:Array TypeId)(ty:TypeId)(args:Array Value):ae P ρ (VV ρ) (Builtin.max_ ts ty args) (Builtin.max_ ts ty (args.map (rv ρ))):=by
 unfold Builtin.max_;rw[zaD];cases args.toList with
 |nil=>exact ae.stuck _
 |cons x l=>exact vI Ue l x
theorem pn (a:Addr)(u:TypeId)(n:Nat):ae P ρ Eq (variablesAt a u n) (variablesAt (ra ρ a) u n):=by
 unfold variablesAt;refine ae.bind cn ?_;rintro _ _ ⟨rfl,rfl⟩;refine ae.bind (gp a.block) ?_;rintro sh _ rfl;cases sh<;>exact ae.pure rfl
theorem tS:∀(n:Nat) (a:Addr) (acc:ByteArray),ae P ρ Eq (loadBytes a acc n) (loadBytes (ra ρ a) acc n)
 |0,a,acc=>ae.pure rfl
 |n+1,a,acc=>by
  unfold loadBytes;refine ae.bind (vu a) ?_;rintro v _ rfl;cases v with
  |int k b=>
   simp only[rv];cases k<;>first
    |exact ae.stuck _
    |(rw[ju];exact tS n (a.add 1) _)
  |_=>simp only[rv];exact ae.stuck _
theorem Qu (f:Value→Value)(x:Value):(⟨[x]⟩:Array Value).map f=⟨[f x]⟩:=by simp
theorem Qw (f:Value→Value)(x y:Value):(⟨[x,y]⟩:Array Value).map f=⟨[f x,f y]⟩:=by simp
theorem Uf (a:Option Addr):rv ρ (.pointer a)=.pointer (a.map (ra ρ)):=by simp only[rv]
theorem XQ (a:Option Addr)(n c:Nat):rv ρ (.slice a n c)=.slice (a.map (ra ρ)) n c:=by simp only[rv]
theorem uw (ts:Array TypeId)(ty:TypeId)(p:Option Addr)(y:Value):ae P ρ (VV ρ) (Builtin.unsafeString_ ts ty #[.pointer p,y]) (Builtin.unsafeString_ ts ty #[.pointer (p.map (ra ρ)),rv ρ y]):=by
 unfold Builtin.unsafeString_;refine ae.bind (ma y) ?_;rintro n _ rfl;cases ts[0]? with
 |none=>exact ae.stuck _
 |some pt=>
  dsimp only;refine ae.ar (λ_=>jb (aM _)) (λ_=>?_);refine ae.ar (λ_=>jb (ae.unsupported _)) (λ_=>?_);cases p with
  |none=>
   exact ae.ar (λ_=>ae.pure (by simp[VV,rv])) (λ_=>aM _)
  |some a=>
   refine ae.ar (λ_=>ae.pure (by simp[VV,rv])) (λ_=>?_);refine ae.bind (vA pt) ?_;rintro e _ rfl;refine ae.bind (pn a e n.toNat) ?_;rintro b _ rfl;refine ae.ar (λ_=>?_) (λ_=>ae.unsupported _);refine ae.bind (tS _ _ _) ?_;rintro s _ rfl;refine ae.bind (L6 a n.toNat) ?_;rintro _ _ rfl;exact ae.pure (by simp[VV,rv])
theorem vJ (ts:Array TypeId)(ty:TypeId)(args:Array Value):ae P ρ (VV ρ) (Builtin.unsafeString_ ts ty args) (Builtin.unsafeString_ ts ty (args.map (rv ρ))):=by
 rcases args with⟨l⟩
 match l with
 |[]=>exact ae.stuck _
 |[_]=>exact ae.stuck _
 |_::_::_::_=>exact ae.stuck _
 |[x,y]=>
  rw[Qw];cases x with
  |pointer p=>rw[Uf];exact uw ts ty p y
  |_=>exact ae.stuck _
theorem pO (ts:Array TypeId)(ty:TypeId)(a:Option Addr)(n c:Nat):ae P ρ (VV ρ) (Builtin.unsafeSliceData_ ts ty #[.slice a n c]) (Builtin.unsafeSliceData_ ts ty #[.slice (a.map (ra ρ)) n c]):=by
 cases a with
 |none=>exact(ae.pure (by simp[VV,rv]):ae P ρ (VV ρ) (pure (.pointer none)) (pure (.pointer none)))
 |some a=>
  have:ae P ρ (VV ρ) (if c≠0 then pure (.pointer (some a))else do
   if(←viewAt a.block).isSome then pure (.pointer (some a))else pure (.pointer (some ⟨←newObj (.view a (←elemOf ty)),0,none⟩)):Sem Value)
   (if c≠0 then pure (.pointer (some (ra ρ a)))else do
   if(←viewAt (ra ρ a).block).isSome then pure (.pointer (some (ra ρ a)))else pure (.pointer (some ⟨←newObj (.view (ra ρ a) (←elemOf ty)),0,none⟩)):Sem Value):=by
   refine ae.ar (λ_=>ae.pure (by simp[VV,rv])) (λ_=>?_);refine ae.bind (qz a.block) ?_;rintro x _ rfl;simp only[Option.isSome_map];refine ae.ar (λ_=>ae.pure (by simp[VV,rv])) (λ_=>?_);refine ae.bind (vA ty) ?_;rintro e _ rfl;refine ae.bind (lu (.view a e)) ?_;rintro r _ rfl;exact ae.pure (by simp[VV,rv,ra])
  exact this
theorem qC (ts:Array TypeId)(ty:TypeId)(args:Array Value):ae P ρ (VV ρ) (Builtin.unsafeSliceData_ ts ty args) (Builtin.unsafeSliceData_ ts ty (args.map (rv ρ))):=by
 rcases args with⟨l⟩
 match l with
 |[]=>exact ae.stuck _
 |_::_::_=>exact ae.stuck _
 |[x]=>
  rw[Qu];cases x with
  |slice a n c=>rw[XQ];exact pO ts ty a n c
  |_=>exact ae.stuck _
theorem iL (empty:Bool):∀(n:Nat) (t:TypeId) (v:Value),ae P ρ Eq (Instr.checkKey empty n t v) (Instr.checkKey empty n t (rv ρ v))
 |0,t,v=>ae.unsupported _
 |n+1,t,v=>by
  unfold Instr.checkKey;refine ae.bind (aw t) ?_;rintro d d' ⟨e,_⟩;subst e;cases d' with
  |interface ms=>
   cases v with
   |iface d x=>
    simp only[rv];refine ae.bind (ed d) ?_;rintro i i' ⟨e,_⟩;subst e;refine ae.ar (λ_=>?_) (λ_=>iL empty n _ _);refine ae.ar (λ_=>jb (aM _)) (λ_=>?_);refine ae.bind (yQ _) ?_;rintro q _ rfl;exact jb (aM _)
   |nilIface=>simp only[rv];exact ae.pure rfl
   |_=>simp only[rv];exact ae.stuck _
  |array m e=>
   cases v with
   |agg cs=>
    simp only[rv];refine ae.bind (R:=Eq) ?_ (by rintro _ _ rfl;exact ae.pure rfl)
    haveI:=lawful
    rw[Std.Legacy.Range.forIn_eq_forIn_range',Std.Legacy.Range.forIn_eq_forIn_range'];refine mh (R:=Eq) (λf a b hab=>?_) _ _ _ rfl;subst hab;refine ae.bind (bU _) ?_;rintro sz _ rfl;refine ae.bind (nt _ _ _) ?_;rintro u _ rfl;refine ae.bind (iL empty n _ _) ?_;rintro _ _ rfl;exact ae.pure (Or.inl ⟨_,_,rfl,rfl,rfl⟩)
   |_=>simp only[rv];exact ae.stuck _
  |struct fs=>
   cases v with
   |agg cs=>
    simp only[rv];refine ae.bind (R:=Eq) ?_ (by rintro _ _ rfl;exact ae.pure rfl)
    haveI:=lawful
    rw[←zaW,←zaW];refine mh (R:=Eq) (λf a b hab=>?_) fs.toList _ _ rfl;subst hab;refine ae.ar (λ_=>?_) (λ_=>ae.pure (Or.inl ⟨_,_,rfl,rfl,rfl⟩));refine ae.bind (nt _ _ _) ?_;rintro u _ rfl;refine ae.bind (iL empty n _ _) ?_;rintro _ _ rfl;exact ae.pure (Or.inl ⟨_,_,rfl,rfl,rfl⟩)
   |_=>simp only[rv];exact ae.stuck _
  |_=>cases v<;>simp only<;>exact ae.pure rfl
def re (ρ:Rn)(e:MapEntry):MapEntry:={ e with key:=rv ρ e.key,val:=rv ρ e.val }
theorem qD (hp:Plain P ρ)(t:TypeId)(k:Value)(hk:GV P ρ k):∀(es:List MapEntry) (i:Nat),(∀e∈es,GV P ρ e.key)→ae P ρ (λx y=>y=x.map λz=>(z.1,rv ρ z.2)) (Instr.findAsking t k es i) (Instr.findAsking t (rv ρ k) (es.map (re ρ)) i)
 |[],i,_=>ae.pure rfl
 |e::es,i,h=>by
  simp only[zan,Instr.findAsking];refine ae.bind (Hb hp t k e.key hk (h e (by simp))) ?_;rintro b _ rfl;exact ae.ar (λ_=>ae.pure rfl) (λ_=>qD hp t k hk es (i+1) λx hx=>h x (by simp[hx]))
theorem E7 (d:TypeDesc)(k x:Value):Instr.sameNow d (rv ρ k) (rv ρ x)=Instr.sameNow d k x:=by
 cases d<;>cases k<;>simp only[rv,Instr.sameNow]<;>cases x<;>simp only[rv]
theorem vK (d:TypeDesc)(k:Value):∀(es:List MapEntry) (i:Nat),Instr.findNow d (rv ρ k) (es.map (re ρ)) i=(Instr.findNow d k es i).map λx=>x.map λz=>(z.1,rv ρ z.2)
 |[],i=>rfl
 |e::es,i=>by
  simp only[zan,Instr.findNow,re,E7];split
  ·rfl
  ·exact vK d k es (i+1)
  ·rfl
theorem sA (hp:Plain P ρ)(t:TypeId)(k:Value)(es:List MapEntry)(hk:GV P ρ k)(he:∀e∈es,GV P ρ e.key):ae P ρ (λx y=>y=x.map λz=>(z.1,rv ρ z.2)) (Instr.findKey t k es) (Instr.findKey t (rv ρ k) (es.map (re ρ))):=by
 unfold Instr.findKey;refine ae.bind (aw t) ?_;rintro d d' ⟨e,_⟩;subst e;rw[vK];cases Instr.findNow d' k es 0 with
 |some r=>exact ae.pure rfl
 |none=>exact qD hp t k hk es 0 he
theorem Mc {es:Array MapEntry}{c:Nat}(h:GO P ρ (.map es c)):∀e∈es.toList,GV P ρ e.key:=by
 intro e he;refine h.imp id λh=>?_;simp only[ro,Obj.map.injEq,and_true]at h;obtain⟨i,hi,rfl⟩:=zbn.1 (Array.mem_toList_iff.1 he);have e1:(es.map λe=>{ e with key:=rv ρ e.key,val:=rv ρ e.val }:Array MapEntry)[i]'(by simpa using hi)=es[i]:=by simp only[h]
 simp only[zbd]at e1;generalize es[i]=x at e1 ⊢;obtain⟨k,v,b⟩:=x;simp only[MapEntry.mk.injEq,and_true]at e1 ⊢;exact e1.1
theorem Md (hp:Plain P ρ)(t:TypeId)(x k:Value)(ok:Bool)(hk:GV P ρ k):ae P ρ (VV ρ) (Instr.lookup t x k ok) (Instr.lookup t (rv ρ x) (rv ρ k) ok):=by
 unfold Instr.lookup;generalize 10000=N;refine ae.bind (aw t) ?_;rintro d d' ⟨e,_⟩;subst e;cases d' with
 |map key elem=>
  dsimp only;cases x with
  |map r=>
   cases r with
   |none=>
    simp only[rv,Option.map];refine ae.bind (R:=λ(es es':Array MapEntry)=>es'=es.map (re ρ)∧∀e∈es.toList,GV P ρ e.key) (ae.pure ⟨by simp,by simp⟩) ?_;rintro es _ ⟨rfl,he⟩;rw[show(es.map (re ρ)).isEmpty=es.isEmpty by simp[Array.isEmpty]];refine ae.bind (iL _ _ _ _) ?_;rintro _ _ rfl;rw[zaD];refine ae.bind (sA hp key k es.toList hk he) ?_;rintro r _ rfl;cases r with
    |some z=>exact ae.pure (by cases ok<;>simp[VV,rv])
    |none=>
     simp only[Option.map];refine ae.bind (dT hp elem) ?_;rintro v _ ⟨rfl,hv⟩;exact ae.pure (by cases ok<;>simp[VV,rv,hv])
   |some r=>
    simp only[rv,Option.map];refine ae.bind (ly r) ?_;rintro o _ ⟨rfl,ho⟩;cases o with
    |map es0 c=>
     refine ae.bind (R:=λ(es es':Array MapEntry)=>es'=es.map (re ρ)∧∀e∈es.toList,GV P ρ e.key) (ae.pure ⟨rfl,Mc ho⟩) ?_;rintro es _ ⟨rfl,he⟩;rw[show(es.map (re ρ)).isEmpty=es.isEmpty by simp[Array.isEmpty]];refine ae.bind (iL _ _ _ _) ?_;rintro _ _ rfl;rw[zaD];refine ae.bind (sA hp key k es.toList hk he) ?_;rintro r _ rfl;cases r with
     |some z=>exact ae.pure (by cases ok<;>simp[VV,rv])
     |none=>
      simp only[Option.map];refine ae.bind (dT hp elem) ?_;rintro v _ ⟨rfl,hv⟩;exact ae.pure (by cases ok<;>simp[VV,rv,hv])
    |_=>exact ae.stuck _
  |_=>simp only[rv];exact ae.stuck _
 |_=>exact ae.stuck _
theorem B0 (hp:Plain P ρ):∀(n:Nat) (x y:Value),Instr.sameBits n (rv ρ x) (rv ρ y)=Instr.sameBits n x y:=by
 intro n
 induction n with
 |zero=>
  intro x y;cases x<;>cases y<;>simp only[rv,Instr.sameBits]
  ·rename_i a b;cases a<;>cases b<;>simp[vD hp]
  ·rename_i a b;cases a<;>cases b<;>simp[sw hp]
 |succ n ih=>
  intro x y;cases x<;>cases y<;>simp only[rv,Instr.sameBits,ih]
  ·rename_i a b;cases a<;>cases b<;>simp[vD hp]
  ·rename_i a b;cases a<;>cases b<;>simp[sw hp]
  ·rename_i a b;simp only[Array.size_map,zaD,List.zip_map,List.all_map]
   congr 2
   funext z;exact ih z.1 z.2
theorem vL (hp:Plain P ρ)(x y:Value):ae P ρ (VV ρ) (Instr.keyThatStays x y) (Instr.keyThatStays (rv ρ x) (rv ρ y)):=by
 unfold Instr.keyThatStays;rw[B0 hp];refine ae.ar (λ_=>ae.pure rfl) (λ_=>?_);refine ae.bind (gX _) ?_;rintro n _ rfl;exact ae.pure (by simp only[VV];split<;>rfl)
theorem B1 (hp:Plain P ρ)(t:TypeId)(m k v:Value)(hk:GV P ρ k):ae P ρ Eq (Instr.mapUpdate t m k v) (Instr.mapUpdate t (rv ρ m) (rv ρ k) (rv ρ v)):=by
 unfold Instr.mapUpdate;refine ae.bind (aw t) ?_;rintro d d' ⟨e,_⟩;subst e;cases d' with
 |map key elem=>
  dsimp only;cases m with
  |map r=>
   cases r with
   |none=>simp only[rv,Option.map];exact aM _
   |some r=>
    simp only[rv,Option.map];refine ae.bind (ly r) ?_;rintro o _ ⟨rfl,ho⟩;cases o with
    |map es c=>
     simp only[ro];refine ae.bind (iL _ _ _ _) ?_;rintro _ _ rfl;have hf:=sA hp key k es.toList hk (Mc ho);rw[show es.toList.map (re ρ)=(es.map (λe=>{ e with key:=rv ρ e.key,val:=rv ρ e.val }:MapEntry→MapEntry)).toList from(zaD ..).symm]at hf;refine ae.bind hf ?_;rintro q _ rfl;cases q with
     |none=>
      refine(BV (ρ:=ρ) r (.map (es.push { key:=k,val:=v,born:=c }) (c+1)) trivial).mono' ?_;simp[ro]
     |some z=>
      simp only[Option.map];have XR:=vL (P:=P) hp (((es[z.1]?).map (·.key)).getD k) k;have e1:rv ρ (((es[z.1]?).map (·.key)).getD k)=((((es.map (λe=>{ e with key:=rv ρ e.key,val:=rv ρ e.val }:MapEntry→MapEntry))[z.1]?).map (·.key)).getD (rv ρ k)):=by
       rw[zal];cases es[z.1]?<;>rfl
      rw[e1]at XR;refine ae.bind XR ?_;rintro k2 _ rfl;refine(BV (ρ:=ρ) r (.map (es.modify z.1 λe=>{ e with key:=k2,val:=v }) c) trivial).mono' ?_;simp only[ro]
      congr 2
      apply Array.ext
      ·simp
      ·intro i h1 h2;simp only[zbd,Array.getElem_modify];split<;>rfl
    |_=>simp only[ro];exact ae.stuck _
  |_=>simp only[rv];exact ae.stuck _
 |_=>exact ae.stuck _
theorem Jj (t:TypeId)(r:Option Value):ae P ρ (VV ρ) (Instr.makeMap t r) (Instr.makeMap t (r.map (rv ρ))):=by
 unfold Instr.makeMap;have last:ae P ρ (VV ρ) (do pure (.map (some (←newObj (.map #[] 0)))):Sem Value) (do pure (.map (some (←newObj (.map #[] 0)))):Sem Value):=by
  have:=lu (P:=P) (ρ:=ρ) (.map #[] 0) trivial;simp only[ro,zbq]at this;refine ae.bind this ?_;rintro r _ rfl;exact ae.pure (by simp[VV,rv])
 cases r with
 |none=>exact last
 |some h=>
  simp only[Option.map];refine ae.bind (aw t) ?_;rintro d d' ⟨e,_⟩;subst e;cases d' with
  |map key elem=>
   dsimp only;refine ae.bind (ma h) ?_;rintro _ _ rfl;exact last
  |_=>exact jb (ae.stuck _)
theorem Ae (hp:Plain P ρ)(x:Value)(t u:TypeId):ae P ρ (VV ρ) (Instr.typeAssert x t u true) (Instr.typeAssert (rv ρ x) t u true):=by
 unfold Instr.typeAssert;have fails:∀(s d:Option TypeId) (m:String),ae P ρ (VV ρ) (do pure (.tuple #[←zeroValue u,.bool false]):Sem Value) (do pure (.tuple #[←zeroValue u,.bool false]):Sem Value):=λs d m=>by
  refine ae.bind (dT hp u) ?_;rintro v _ ⟨rfl,hv⟩;exact ae.pure (by simp[VV,rv,hv])
 have holds:∀v:Value,ae P ρ (VV ρ) (pure (.tuple #[v,.bool true]):Sem Value) (pure (.tuple #[rv ρ v,.bool true]):Sem Value):=λv=>ae.pure (by simp[VV,rv]);refine ae.bind (aw u) ?_;rintro d d' ⟨e,_⟩;subst e;cases x with
 |nilIface=>cases d'<;>simp only[rv]<;>exact fails none none ""
 |iface a v=>
  cases d' with
  |interface ms=>
   simp only[rv];refine ae.bind (ed a) ?_;rintro i i' ⟨e,_⟩;subst e;split
   ·have:=holds (.iface a v);rw[show rv ρ (.iface a v)=.iface a (rv ρ v) by simp only[rv]]at this;exact this
   ·exact fails none none ""
  |_=>simp only[rv];exact ae.ar (λ_=>holds v) (λ_=>fails none none "")
 |_=>cases d'<;>simp only[rv]<;>exact ae.stuck _
end
end Go.Ren
