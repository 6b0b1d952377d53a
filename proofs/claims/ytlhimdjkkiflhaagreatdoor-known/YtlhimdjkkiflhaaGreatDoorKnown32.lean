import Derived.Test.YtlhimdjkkiflhaaGreatDoorKnown31
set_option maxHeartbeats 8000000
set_option maxRecDepth 100000
namespace Go.Proofs.YtlhimdjkkiflhaaGreatDoor
open Go.Proofs.Tryz
open Go.RowKit Go.Loop
theorem KX (a b:Int×Int)(w:World)(ha:qB a)(hb:qB b):Calls prog 231 #[qV a,qV b] w λe w'=>e=.returned (mJ (xE a b))∧Below w.heap.size w w':=by
 obtain⟨a1,a2⟩:=a;obtain⟨b1,b2⟩:=b;obtain⟨p1,p2,p3,p4⟩:=ha;obtain⟨q1,q2,q3,q4⟩:=hb;simp only at p1 p2 p3 p4 q1 q2 q3 q4;have m1:=oh p1 p2 q1 q2;have m3:=oh (show -1000000≤a2 by omega) p4 (show -1000000≤b2 by omega) q4;have m4:1≤a2*b2:=by
  have:=Int.mul_le_mul p3 q3 (by omega) (by omega);omega
 have W1:Hid _:=λw=>iE a1 b1 w p1 p2 q1 q2;have W3:Hid _:=λw=>iE a2 b2 w (by omega) p4 (by omega) q4;have HF:Hid _:=λw=>vo (a1*b1) (a2*b2) w (by omega) (by omega) m4 (by omega);unfold xE qV;dsimp only;generalize a1*b1=x at *;generalize a2*b2=z at *;have mixed:prog.follows Departure.mixedOrders=true:=by kernel_rfl
 generalize tI x z=r at *;obtain⟨u1,u2,t,hv⟩:∃u1 u2 t,mJ r=.tuple #[.agg #[.int .i64 u1,.int .i64 u2],.bool t]:=by
  cases r with
  |none=>exact⟨0,0,false,rfl⟩
  |some q=>exact⟨q.1,q.2,true,rfl⟩
 rw[hv]at HF ⊢;clear hv;go_enter func231,ntmps231;go_wp2_with fail;refine jq 10 13 mixed (by kernel_rfl) ?_;simp only[zbx,List.take_zero,zaG,zaA];repeat first
  |still_step
  |still_call (W1.out _)
  |still_call (W3.out _)
 refine wpStill_nil ?_;unfold wpOp;go_simp;refine .inl ?_;refine(HF.out _).mono ?_;rintro e w' ⟨rfl,hb⟩;obtain⟨c0,c1,f0,f1⟩:=bt (w:=w') (b:=w.heap.size+1+1) (hb.block (w.heap.size+1+1) (by rw[dK];omega)) (ky _ _ _ _);have HB:Hid (Below w.heap.size w w'):=(oo w _ _ _).trans (hb.mono (by rw[dK];omega));have hsz:Hid (w.heap.size+1+1<w'.heap.size):=by have:=hb.size;rw[dK]at this;show w.heap.size+1+1<w'.heap.size;omega
 clear hb;show wpStill _ _ _ _ _ _;repeat still_step
 refine wpStill_nil ?_;go_wp2_with fail;refine bodyPost_ret (by simp[results,results231,go_sem,c0,c1];rfl) rfl ?_;exact⟨rfl,(HB.out.setCell (eI _) _).setCell (eI _) _⟩
theorem KY (a b:Int×Int)(w:World)(ha:qB a)(hb:qB b):Calls prog 203 #[qV a,qV b] w λe w'=>e=.returned (.bool (mI a b))∧Below w.heap.size w w':=by
 obtain⟨a1,a2⟩:=a;obtain⟨b1,b2⟩:=b;obtain⟨p1,p2,p3,p4⟩:=ha;obtain⟨q1,q2,q3,q4⟩:=hb;simp only at p1 p2 p3 p4 q1 q2 q3 q4;have W1:Hid _:=λw=>iE a1 b2 w p1 p2 (by omega) q4;have W2:Hid _:=λw=>iE b1 a2 w q1 q2 (by omega) p4;unfold mI qV;dsimp only;generalize a1*b2=x at *;generalize b1*a2=y at *;have mixed:prog.follows Departure.mixedOrders=true:=by kernel_rfl
 go_enter func203,ntmps203;go_wp2_with fail
 go_quiet (first
  |(go_at_call 228;refine Calls.quiet_of_same (W1.out _))
  |(go_at_call 228;refine Calls.quiet_of_same (W2.out _)))
 go_wp2_with fail;go_ret;exact⟨rfl,below_drewN (((Below.refl _ w).alloc (zaa _) _).alloc (by simp) _) _⟩
theorem aai (w:World)(a b c:Obj):(((w.alloc a).alloc b).alloc c).heap[w.heap.size+1+1]?=some c:=ky w a b c
theorem Bo (w:World)(a b c:Obj):Below w.heap.size w (((w.alloc a).alloc b).alloc c):=(((Below.refl _ w).alloc (zaa _) a).alloc (by simp) b).alloc (by simp;omega) c
theorem IX (w:World)(a b c:Obj):(((w.alloc a).alloc b).alloc c).heap.size=w.heap.size+1+1+1:=dK w a b c
theorem TT (w:World)(a b c:Obj)(n:Nat):((((w.alloc a).alloc b).alloc c).drewN n).heap[w.heap.size+1+1]?=some c:=ky w a b c
theorem zN (w:World)(a b c:Obj)(n:Nat):((((w.alloc a).alloc b).alloc c).drewN n).heap.size=w.heap.size+1+1+1:=dK w a b c
theorem KZ (a b:Int×Int)(w:World)(ha:qB a)(hb:qB b):Calls prog 230 #[qV a,qV b] w λe w'=>e=.returned (mJ (xD a b))∧Below w.heap.size w w':=by
 have hb':qB (-b.1,b.2):=by obtain⟨h1,h2,h3,h4⟩:=hb;exact⟨by show -1000000≤-b.1;omega,by show -b.1≤1000000;omega,h3,h4⟩
 have HP:Hid _:=λw=>DY a (-b.1,b.2) w ha hb';obtain⟨a1,a2⟩:=a;obtain⟨b1,b2⟩:=b;obtain⟨q1,q2,q3,q4⟩:=hb;simp only at q1 q2 q3 q4;unfold xD;dsimp only at HP ⊢;generalize xC (a1,a2) (-b1,b2)=r at *;obtain⟨u1,u2,t,hv⟩:∃u1 u2 t,mJ r=.tuple #[.agg #[.int .i64 u1,.int .i64 u2],.bool t]:=by
  cases r with
  |none=>exact⟨0,0,false,rfl⟩
  |some q=>exact⟨q.1,q.2,true,rfl⟩
 rw[hv]at HP ⊢;clear hv;simp only[qV]at HP ⊢;have mixed:prog.follows Departure.mixedOrders=true:=by kernel_rfl
 go_enter func230,ntmps230;go_wp2_with fail;refine(HP.out _).mono ?_;rintro e w' ⟨rfl,hb⟩;obtain⟨c0,c1,f0,f1⟩:=bt (w:=w') (b:=w.heap.size+1+1) (hb.block (w.heap.size+1+1) (by rw[IX];omega)) (aai _ _ _ _);have HB:Hid (Below w.heap.size w w'):=(Bo w _ _ _).trans (hb.mono (by rw[IX];omega));have hsz:Hid (w.heap.size+1+1<w'.heap.size):=by have:=hb.size;rw[IX]at this;show w.heap.size+1+1<w'.heap.size;omega
 clear hb;go_wp2_with fail;refine bodyPost_ret (by simp[results,results230,go_sem,c0,c1];rfl) rfl ?_;exact⟨rfl,(HB.out.setCell (eI _) _).setCell (eI _) _⟩
theorem VU (a b:Int×Int)(w:World)(ha:qB a)(hb:qB b)(hz:b.1≠0):Calls prog 232 #[qV a,qV b] w λe w'=>e=.returned (mJ (VS a b))∧Below w.heap.size w w':=by
 obtain⟨a1,a2⟩:=a;obtain⟨b1,b2⟩:=b;obtain⟨p1,p2,p3,p4⟩:=ha;obtain⟨q1,q2,q3,q4⟩:=hb;simp only at p1 p2 p3 p4 q1 q2 q3 q4 hz;have m1:=oh p1 p2 (show -1000000≤b2 by omega) q4;have m3:=oh (show -1000000≤a2 by omega) p4 q1 q2;have m4:a2*b1≠0:=Int.mul_ne_zero (by omega) hz;have W1:Hid _:=λw=>iE a1 b2 w p1 p2 (by omega) q4;have W2:Hid _:=λw=>iE a2 b1 w (by omega) p4 q1 q2;unfold VS qV;dsimp only;generalize a1*b2=x at *;generalize a2*b1=z at *;have mixed:prog.follows Departure.mixedOrders=true:=by kernel_rfl
 by_cases RX:z<0
 ·rw[if_pos RX];have HF:Hid _:=λw=>vo (-x) (-z) w (by omega) (by omega) (by omega) (by omega);generalize tI (-x) (-z)=r at *;obtain⟨u1,u2,t,hv⟩:∃u1 u2 t,mJ r=.tuple #[.agg #[.int .i64 u1,.int .i64 u2],.bool t]:=by
   cases r with
   |none=>exact⟨0,0,false,rfl⟩
   |some q=>exact⟨q.1,q.2,true,rfl⟩
  rw[hv]at HF ⊢;clear hv;go_enter func232,ntmps232;go_wp2_with fail
  go_quiet (first
   |(go_at_call 228;refine Calls.quiet_of_same (W1.out _))
   |(go_at_call 228;refine Calls.quiet_of_same (W2.out _)))
  go_wp2_with fail;refine(HF.out _).mono ?_;rintro e w' ⟨rfl,hb⟩;obtain⟨c0,c1,f0,f1⟩:=bt (w:=w') (b:=w.heap.size+1+1) (hb.block (w.heap.size+1+1) (by rw[zN];omega)) (TT _ _ _ _ _);have HB:Hid (Below w.heap.size w w'):=(below_drewN (Bo w _ _ _) _).trans (hb.mono (by rw[zN];omega));have hsz:Hid (w.heap.size+1+1<w'.heap.size):=by have:=hb.size;rw[zN]at this;show w.heap.size+1+1<w'.heap.size;omega
  clear hb;go_wp2_with fail;refine bodyPost_ret (by simp[results,results232,go_sem,c0,c1];rfl) rfl ?_;exact⟨rfl,(HB.out.setCell (eI _) _).setCell (eI _) _⟩
 ·rw[if_neg RX];have HF:Hid _:=λw=>vo x z w (by omega) (by omega) (by omega) (by omega);generalize tI x z=r at *;obtain⟨u1,u2,t,hv⟩:∃u1 u2 t,mJ r=.tuple #[.agg #[.int .i64 u1,.int .i64 u2],.bool t]:=by
   cases r with
   |none=>exact⟨0,0,false,rfl⟩
   |some q=>exact⟨q.1,q.2,true,rfl⟩
  rw[hv]at HF ⊢;clear hv;go_enter func232,ntmps232;go_wp2_with fail
  go_quiet (first
   |(go_at_call 228;refine Calls.quiet_of_same (W1.out _))
   |(go_at_call 228;refine Calls.quiet_of_same (W2.out _)))
  go_wp2_with fail;refine(HF.out _).mono ?_;rintro e w' ⟨rfl,hb⟩;obtain⟨c0,c1,f0,f1⟩:=bt (w:=w') (b:=w.heap.size+1+1) (hb.block (w.heap.size+1+1) (by rw[zN];omega)) (TT _ _ _ _ _);have HB:Hid (Below w.heap.size w w'):=(below_drewN (Bo w _ _ _) _).trans (hb.mono (by rw[zN];omega));have hsz:Hid (w.heap.size+1+1<w'.heap.size):=by have:=hb.size;rw[zN]at this;show w.heap.size+1+1<w'.heap.size;omega
  clear hb;go_wp2_with fail;refine bodyPost_ret (by simp[results,results232,go_sem,c0,c1];rfl) rfl ?_;exact⟨rfl,(HB.out.setCell (eI _) _).setCell (eI _) _⟩
end Go.Proofs.YtlhimdjkkiflhaaGreatDoor
namespace Go.Loop
open Go.Proofs.Tryz
def ek (h:List UInt8)(a b:Int×Int):Int ⊕ (Int×Int):=
 if h=[43]then(match xC a b with|some r=> .inr r|none=> .inl 7)
 else if h=[45]then(match xD a b with|some r=> .inr r|none=> .inl 7)
 else if h=[42]then(match xE a b with|some r=> .inr r|none=> .inl 7)
 else if b.1=0 then .inl 11
 else(match VS a b with|some r=> .inr r|none=> .inl 7)
def mK (h:List UInt8):Int×Int:=if h=[42]∨h=[47]then(1,1)else(0,1)
def bS:List UInt8:=[113,117,111,116,101]
def oq:List UInt8:=[105,102]
def fy (h:List UInt8)(n:Nat):Bool:=
 if h=[43]∨h=[42]then true else if h=[45]∨h=[47]then decide (1≤n)else if h=bS then decide (n=1)else if h=[61]∨h=[60]then decide (n=2)else if h=oq then decide (n=3)else false
end Go.Loop
namespace Go.Proofs.YtlhimdjkkiflhaaGreatDoor
open Go.Proofs.Tryz
open Go.RowKit Go.Loop
def iF:Int ⊕ (Int×Int)→Value
 |.inr r=> .tuple #[qV r,.int .i64 0]
 |.inl e=> .tuple #[.agg #[.int .i64 0,.int .i64 0],.int .i64 e]
set_option linter.unusedSimpArgs false in
theorem Sg (h:List UInt8)(n:Nat)(w:World)(hn:n≤1000000):Calls prog 176 #[.string ⟨⟨h⟩⟩,.int .i64 n] w λe w'=>e=.returned (.bool (fy h n))∧w'=w:=by
 by_cases e0:h=[43]
 ·subst e0;go_enter func176,ntmps176;go_wp2_with fail;all_goals
   go_ret;exact⟨az (by first|(simp[fy,bS,oq];done)|(simp[fy,bS,oq];omega)|(rw[zar];simp[fy,bS,oq];omega)),rfl⟩
 have f0:(h==[43])=false:=by simpa using e0
 by_cases e1:h=[42]
 ·subst e1;clear f0;go_enter func176,ntmps176;go_wp2_with fail;all_goals
   go_ret;exact⟨az (by first|(simp[fy,bS,oq];done)|(simp[fy,bS,oq];omega)|(rw[zar];simp[fy,bS,oq];omega)),rfl⟩
 have f1:(h==[42])=false:=by simpa using e1
 by_cases e2:h=[45]
 ·subst e2;clear f0 f1;go_enter func176,ntmps176;go_wp2_with fail;all_goals
   go_ret;exact⟨az (by first|(simp[fy,bS,oq];done)|(simp[fy,bS,oq];omega)|(rw[zar];simp[fy,bS,oq];omega)),rfl⟩
 have f2:(h==[45])=false:=by simpa using e2
 by_cases e3:h=[47]
 ·subst e3;clear f0 f1 f2;go_enter func176,ntmps176;go_wp2_with fail;all_goals
   go_ret;exact⟨az (by first|(simp[fy,bS,oq];done)|(simp[fy,bS,oq];omega)|(rw[zar];simp[fy,bS,oq];omega)),rfl⟩
 have f3:(h==[47])=false:=by simpa using e3
 by_cases e4:h=bS
 ·subst e4;clear f0 f1 f2 f3;go_enter func176,ntmps176;go_wp2_with fail;all_goals
   go_ret;exact⟨az (by first|(simp[fy,bS,oq];done)|(simp[fy,bS,oq];omega)|(rw[zar];simp[fy,bS,oq];omega)),rfl⟩
 have f4:(h==bS)=false:=by simpa using e4
 by_cases e5:h=[61]
 ·subst e5;clear f0 f1 f2 f3 f4;go_enter func176,ntmps176;go_wp2_with fail;all_goals
   go_ret;exact⟨az (by first|(simp[fy,bS,oq];done)|(simp[fy,bS,oq];omega)|(rw[zar];simp[fy,bS,oq];omega)),rfl⟩
 have f5:(h==[61])=false:=by simpa using e5
 by_cases e6:h=[60]
 ·subst e6;clear f0 f1 f2 f3 f4 f5;go_enter func176,ntmps176;go_wp2_with fail;all_goals
   go_ret;exact⟨az (by first|(simp[fy,bS,oq];done)|(simp[fy,bS,oq];omega)|(rw[zar];simp[fy,bS,oq];omega)),rfl⟩
 have f6:(h==[60])=false:=by simpa using e6
 by_cases e7:h=oq
 ·subst e7;clear f0 f1 f2 f3 f4 f5 f6;go_enter func176,ntmps176;go_wp2_with fail;all_goals
   go_ret;exact⟨az (by first|(simp[fy,bS,oq];done)|(simp[fy,bS,oq];omega)|(rw[zar];simp[fy,bS,oq];omega)),rfl⟩
 have f7:(h==oq)=false:=by simpa using e7
 simp only[bS,oq]at f4 f7;go_enter func176,ntmps176;go_wp2_with fail;all_goals
  go_ret;exact⟨az (by simp[fy,e0,e1,e2,e3,e4,e5,e6,e7]),rfl⟩
theorem K0 (h:List UInt8)(w:World):Calls prog 204 #[.string ⟨⟨h⟩⟩] w λe w'=>e=.returned (qV (mK h))∧Below w.heap.size w w':=by
 by_cases e0:h=[42]
 ·subst e0;go_enter func204,ntmps204;go_wp2_with fail;refine bodyPost_ret (by simp[results,results204,go_sem];rfl) rfl ?_;exact⟨rfl,(Below.refl _ w).alloc (zaa _) _⟩
 have f0:(h==[42])=false:=by simpa using e0
 by_cases e1:h=[47]
 ·subst e1;clear f0;go_enter func204,ntmps204;go_wp2_with fail;refine bodyPost_ret (by simp[results,results204,go_sem];rfl) rfl ?_;exact⟨rfl,(Below.refl _ w).alloc (zaa _) _⟩
 have f1:(h==[47])=false:=by simpa using e1
 have e:mK h=(0,1):=by simp[mK,e0,e1]
 rw[e];go_enter func204,ntmps204;go_wp2_with fail;refine bodyPost_ret (by simp[results,results204,go_sem];rfl) rfl ?_;exact⟨rfl,(Below.refl _ w).alloc (zaa _) _⟩
theorem ou (w:World)(a b c d:Obj):((((w.alloc a).alloc b).alloc c).alloc d).heap[w.heap.size+1+1]?=some c:=by
 show((((w.heap.push a).push b).push c).push d)[w.heap.size+1+1]?=some c;rw[Array.getElem?_push_lt (by simp)];have e:w.heap.size+1+1=((w.heap.push a).push b).size:=by simp
 have:=zbD (xs:=(w.heap.push a).push b) (x:=c);rw[←e,zaq (by simp)]at this;exact this
theorem ov (w:World)(a b c d:Obj):((((w.alloc a).alloc b).alloc c).alloc d).heap[w.heap.size+1+1+1]?=some d:=by
 show((((w.heap.push a).push b).push c).push d)[w.heap.size+1+1+1]?=some d;have e:w.heap.size+1+1+1=(((w.heap.push a).push b).push c).size:=by simp
 rw[e,zbD]
theorem fD (w:World)(a b c d:Obj):((((w.alloc a).alloc b).alloc c).alloc d).heap.size=w.heap.size+1+1+1+1:=by
 show((((w.heap.push a).push b).push c).push d).size=_;simp
theorem mL (w:World)(a b c d:Obj):Below w.heap.size w ((((w.alloc a).alloc b).alloc c).alloc d):=(Bo w a b c).alloc (by rw[IX];omega) d
theorem jr (n:Nat):n≤n+1+1+1:=by omega
theorem K1 (a b:Int×Int)(w:World)(ha:qB a)(hb:qB b):Calls prog 205 #[.string ⟨⟨[43]⟩⟩,qV a,qV b] w λe w'=>e=.returned (iF (ek [43] a b))∧Below w.heap.size w w':=by
 have HP:Hid _:=λw=>DY a b w ha hb;have es:ek [43] a b=(match xC a b with|some r=> .inr r|none=> .inl 7):=rfl;rw[es];clear es;generalize xC a b=r at *;obtain⟨a1,a2⟩:=a;obtain⟨b1,b2⟩:=b;have mixed:prog.follows Departure.mixedOrders=true:=by kernel_rfl
 cases r with
 |none=>
  simp only[qV,mJ,iF]at HP ⊢;go_enter func205,ntmps205;go_wp2_with fail;refine(HP.out _).mono ?_;rintro e w' ⟨rfl,hb⟩;obtain⟨c0,c1,f0,f1⟩:=bt (w:=w') (b:=w.heap.size+1+1) (hb.block (w.heap.size+1+1) (by rw[fD];omega)) (ou _ _ _ _ _);obtain⟨d0,d1,g0,g1⟩:=bt (w:=w') (b:=w.heap.size+1+1+1) (hb.block (w.heap.size+1+1+1) (by rw[fD];omega)) (ov _ _ _ _ _);have HB:Hid (Below w.heap.size w w'):=(mL w _ _ _ _).trans (hb.mono (by rw[fD];omega));clear hb;go_wp2_with fail;refine bodyPost_ret (by simp[results,results205,go_sem,c0,c1];rfl) rfl ?_;refine⟨rfl,?_⟩
  (repeat (first|with_reducible refine Below.setCell ?_ (eI _) _|with_reducible refine Below.setCell ?_ (jr _) _));exact HB.out
 |some r=>
  obtain⟨rn,rd⟩:=r;simp only[qV,mJ,iF]at HP ⊢;go_enter func205,ntmps205;go_wp2_with fail;refine(HP.out _).mono ?_;rintro e w' ⟨rfl,hb⟩;obtain⟨c0,c1,f0,f1⟩:=bt (w:=w') (b:=w.heap.size+1+1) (hb.block (w.heap.size+1+1) (by rw[fD];omega)) (ou _ _ _ _ _);obtain⟨d0,d1,g0,g1⟩:=bt (w:=w') (b:=w.heap.size+1+1+1) (hb.block (w.heap.size+1+1+1) (by rw[fD];omega)) (ov _ _ _ _ _);have HB:Hid (Below w.heap.size w w'):=(mL w _ _ _ _).trans (hb.mono (by rw[fD];omega));clear hb;go_wp2_with fail;refine bodyPost_ret (by simp[results,results205,go_sem,c0,c1];rfl) rfl ?_;refine⟨rfl,?_⟩
  (repeat (first|with_reducible refine Below.setCell ?_ (eI _) _|with_reducible refine Below.setCell ?_ (jr _) _));exact HB.out
theorem Gy (a b:Int×Int)(w:World)(ha:qB a)(hb:qB b):Calls prog 205 #[.string ⟨⟨[45]⟩⟩,qV a,qV b] w λe w'=>e=.returned (iF (ek [45] a b))∧Below w.heap.size w w':=by
 have HP:Hid _:=λw=>KZ a b w ha hb;have es:ek [45] a b=(match xD a b with|some r=> .inr r|none=> .inl 7):=rfl;rw[es];clear es;generalize xD a b=r at *;obtain⟨a1,a2⟩:=a;obtain⟨b1,b2⟩:=b;have mixed:prog.follows Departure.mixedOrders=true:=by kernel_rfl
 cases r with
 |none=>
  simp only[qV,mJ,iF]at HP ⊢;go_enter func205,ntmps205;go_wp2_with fail;refine(HP.out _).mono ?_;rintro e w' ⟨rfl,hb⟩;obtain⟨c0,c1,f0,f1⟩:=bt (w:=w') (b:=w.heap.size+1+1) (hb.block (w.heap.size+1+1) (by rw[fD];omega)) (ou _ _ _ _ _);obtain⟨d0,d1,g0,g1⟩:=bt (w:=w') (b:=w.heap.size+1+1+1) (hb.block (w.heap.size+1+1+1) (by rw[fD];omega)) (ov _ _ _ _ _);have HB:Hid (Below w.heap.size w w'):=(mL w _ _ _ _).trans (hb.mono (by rw[fD];omega));clear hb;go_wp2_with fail;refine bodyPost_ret (by simp[results,results205,go_sem,c0,c1];rfl) rfl ?_;refine⟨rfl,?_⟩
  (repeat (first|with_reducible refine Below.setCell ?_ (eI _) _|with_reducible refine Below.setCell ?_ (jr _) _));exact HB.out
 |some r=>
  obtain⟨rn,rd⟩:=r;simp only[qV,mJ,iF]at HP ⊢;go_enter func205,ntmps205;go_wp2_with fail;refine(HP.out _).mono ?_;rintro e w' ⟨rfl,hb⟩;obtain⟨c0,c1,f0,f1⟩:=bt (w:=w') (b:=w.heap.size+1+1) (hb.block (w.heap.size+1+1) (by rw[fD];omega)) (ou _ _ _ _ _);obtain⟨d0,d1,g0,g1⟩:=bt (w:=w') (b:=w.heap.size+1+1+1) (hb.block (w.heap.size+1+1+1) (by rw[fD];omega)) (ov _ _ _ _ _);have HB:Hid (Below w.heap.size w w'):=(mL w _ _ _ _).trans (hb.mono (by rw[fD];omega));clear hb;go_wp2_with fail;refine bodyPost_ret (by simp[results,results205,go_sem,c0,c1];rfl) rfl ?_;refine⟨rfl,?_⟩
  (repeat (first|with_reducible refine Below.setCell ?_ (eI _) _|with_reducible refine Below.setCell ?_ (jr _) _));exact HB.out
theorem Gz (a b:Int×Int)(w:World)(ha:qB a)(hb:qB b):Calls prog 205 #[.string ⟨⟨[42]⟩⟩,qV a,qV b] w λe w'=>e=.returned (iF (ek [42] a b))∧Below w.heap.size w w':=by
 have HP:Hid _:=λw=>KX a b w ha hb;have es:ek [42] a b=(match xE a b with|some r=> .inr r|none=> .inl 7):=rfl;rw[es];clear es;generalize xE a b=r at *;obtain⟨a1,a2⟩:=a;obtain⟨b1,b2⟩:=b;have mixed:prog.follows Departure.mixedOrders=true:=by kernel_rfl
 cases r with
 |none=>
  simp only[qV,mJ,iF]at HP ⊢;go_enter func205,ntmps205;go_wp2_with fail;refine(HP.out _).mono ?_;rintro e w' ⟨rfl,hb⟩;obtain⟨c0,c1,f0,f1⟩:=bt (w:=w') (b:=w.heap.size+1+1) (hb.block (w.heap.size+1+1) (by rw[fD];omega)) (ou _ _ _ _ _);obtain⟨d0,d1,g0,g1⟩:=bt (w:=w') (b:=w.heap.size+1+1+1) (hb.block (w.heap.size+1+1+1) (by rw[fD];omega)) (ov _ _ _ _ _);have HB:Hid (Below w.heap.size w w'):=(mL w _ _ _ _).trans (hb.mono (by rw[fD];omega));clear hb;go_wp2_with fail;refine bodyPost_ret (by simp[results,results205,go_sem,c0,c1];rfl) rfl ?_;refine⟨rfl,?_⟩
  (repeat (first|with_reducible refine Below.setCell ?_ (eI _) _|with_reducible refine Below.setCell ?_ (jr _) _));exact HB.out
 |some r=>
  obtain⟨rn,rd⟩:=r;simp only[qV,mJ,iF]at HP ⊢;go_enter func205,ntmps205;go_wp2_with fail;refine(HP.out _).mono ?_;rintro e w' ⟨rfl,hb⟩;obtain⟨c0,c1,f0,f1⟩:=bt (w:=w') (b:=w.heap.size+1+1) (hb.block (w.heap.size+1+1) (by rw[fD];omega)) (ou _ _ _ _ _);obtain⟨d0,d1,g0,g1⟩:=bt (w:=w') (b:=w.heap.size+1+1+1) (hb.block (w.heap.size+1+1+1) (by rw[fD];omega)) (ov _ _ _ _ _);have HB:Hid (Below w.heap.size w w'):=(mL w _ _ _ _).trans (hb.mono (by rw[fD];omega));clear hb;go_wp2_with fail;refine bodyPost_ret (by simp[results,results205,go_sem,c0,c1];rfl) rfl ?_;refine⟨rfl,?_⟩
  (repeat (first|with_reducible refine Below.setCell ?_ (eI _) _|with_reducible refine Below.setCell ?_ (jr _) _));exact HB.out
theorem Sh (h:List UInt8)(e0:h≠[43])(e1:h≠[45])(e2:h≠[42])(a b:Int×Int)(w:World)(ha:qB a)(hb:qB b)(hz:b.1≠0):Calls prog 205 #[.string ⟨⟨h⟩⟩,qV a,qV b] w λe w'=>e=.returned (iF (ek h a b))∧Below w.heap.size w w':=by
 have HP:Hid _:=λw=>VU a b w ha hb hz;have es:ek h a b=(match VS a b with|some r=> .inr r|none=> .inl 7):=by simp only[ek,if_neg e0,if_neg e1,if_neg e2,if_neg hz]<;>cases VS a b<;>rfl
 rw[es];clear es;generalize VS a b=r at *;obtain⟨a1,a2⟩:=a;obtain⟨b1,b2⟩:=b;have f0:(h==[43])=false:=by simpa using e0
 have f1:(h==[45])=false:=by simpa using e1
 have f2:(h==[42])=false:=by simpa using e2
 have fz:(b1==0)=false:=by simpa using hz
 have mixed:prog.follows Departure.mixedOrders=true:=by kernel_rfl
 cases r with
 |none=>
  simp only[qV,mJ,iF]at HP ⊢;go_enter func205,ntmps205;go_wp2_with fail;refine(HP.out _).mono ?_;rintro e w' ⟨rfl,hb⟩;obtain⟨c0,c1,k0,k1⟩:=bt (w:=w') (b:=w.heap.size+1+1) (hb.block (w.heap.size+1+1) (by rw[fD];omega)) (ou _ _ _ _ _);obtain⟨d0,d1,g0,g1⟩:=bt (w:=w') (b:=w.heap.size+1+1+1) (hb.block (w.heap.size+1+1+1) (by rw[fD];omega)) (ov _ _ _ _ _);have HB:Hid (Below w.heap.size w w'):=(mL w _ _ _ _).trans (hb.mono (by rw[fD];omega));clear hb;go_wp2_with fail;refine bodyPost_ret (by simp[results,results205,go_sem,c0,c1];rfl) rfl ?_;refine⟨rfl,?_⟩
  (repeat (first|with_reducible refine Below.setCell ?_ (eI _) _|with_reducible refine Below.setCell ?_ (jr _) _));exact HB.out
 |some r=>
  obtain⟨rn,rd⟩:=r;simp only[qV,mJ,iF]at HP ⊢;go_enter func205,ntmps205;go_wp2_with fail;refine(HP.out _).mono ?_;rintro e w' ⟨rfl,hb⟩;obtain⟨c0,c1,k0,k1⟩:=bt (w:=w') (b:=w.heap.size+1+1) (hb.block (w.heap.size+1+1) (by rw[fD];omega)) (ou _ _ _ _ _);obtain⟨d0,d1,g0,g1⟩:=bt (w:=w') (b:=w.heap.size+1+1+1) (hb.block (w.heap.size+1+1+1) (by rw[fD];omega)) (ov _ _ _ _ _);have HB:Hid (Below w.heap.size w w'):=(mL w _ _ _ _).trans (hb.mono (by rw[fD];omega));clear hb;go_wp2_with fail;refine bodyPost_ret (by simp[results,results205,go_sem,c0,c1];rfl) rfl ?_;refine⟨rfl,?_⟩
  (repeat (first|with_reducible refine Below.setCell ?_ (eI _) _|with_reducible refine Below.setCell ?_ (jr _) _));exact HB.out
theorem K2 (h:List UInt8)(e0:h≠[43])(e1:h≠[45])(e2:h≠[42])(a b:Int×Int)(w:World)(hz:b.1=0):Calls prog 205 #[.string ⟨⟨h⟩⟩,qV a,qV b] w λe w'=>e=.returned (iF (ek h a b))∧Below w.heap.size w w':=by
 have es:ek h a b=.inl 11:=by simp only[ek,if_neg e0,if_neg e1,if_neg e2,if_pos hz]
 rw[es];clear es;obtain⟨a1,a2⟩:=a;obtain⟨b1,b2⟩:=b;simp only at hz;subst hz;have f0:(h==[43])=false:=by simpa using e0
 have f1:(h==[45])=false:=by simpa using e1
 have f2:(h==[42])=false:=by simpa using e2
 have mixed:prog.follows Departure.mixedOrders=true:=by kernel_rfl
 simp only[qV,iF];go_enter func205,ntmps205;go_wp2_with fail;refine bodyPost_ret (by simp[results,results205,go_sem];rfl) rfl ?_;exact⟨rfl,mL w _ _ _ _⟩
theorem D7 (h:List UInt8)(a b:Int×Int)(w:World)(ha:qB a)(hb:qB b):Calls prog 205 #[.string ⟨⟨h⟩⟩,qV a,qV b] w λe w'=>e=.returned (iF (ek h a b))∧Below w.heap.size w w':=by
 by_cases e0:h=[43]
 ·subst e0;exact K1 a b w ha hb
 by_cases e1:h=[45]
 ·subst e1;exact Gy a b w ha hb
 by_cases e2:h=[42]
 ·subst e2;exact Gz a b w ha hb
 by_cases hz:b.1=0
 ·exact K2 h e0 e1 e2 a b w hz
 ·exact Sh h e0 e1 e2 a b w ha hb hz
theorem xG {h:List UInt8}{a b r:Int×Int}(ha:qB a)(hb:qB b)(e:ek h a b=.inr r):qB r:=by
 obtain⟨a1,a2⟩:=a;obtain⟨b1,b2⟩:=b;obtain⟨p1,p2,p3,p4⟩:=ha;obtain⟨q1,q2,q3,q4⟩:=hb;simp only at p1 p2 p3 p4 q1 q2 q3 q4;have m4:1≤a2*b2:=by
  have:=Int.mul_le_mul p3 q3 (by omega) (by omega);omega
 have fin:∀x:Option (Int×Int),(match x with|some r=>(.inr r:Int ⊕ (Int×Int))|none=> .inl 7)=.inr r→x=some r:=λx h=>by
  cases x with
  |none=>cases h
  |some y=>cases h;rfl
 unfold ek at e;split at e
 ·exact rT m4 (fin _ e)
 ·split at e
  ·exact rT m4 (fin _ e)
  ·split at e
   ·exact rT m4 (fin _ e)
   ·split at e
    ·cases e
    ·rename_i hz;have hz':b1≠0:=hz;have hne:a2*b1≠0:=Int.mul_ne_zero (by omega) hz';have hq:=fin _ e;unfold VS at hq;dsimp only at hq;split at hq
     ·exact rT (by omega) hq
     ·exact rT (by omega) hq
end Go.Proofs.YtlhimdjkkiflhaaGreatDoor
namespace Go.Loop
open Go.Proofs.Tryz
def kz (h:List UInt8):Int×Int→List (Int×Int)→Int ⊕ (Int×Int)
 |made,[]=> .inr made
 |made,n::r=>match ek h made n with|.inl e=> .inl e|.inr x=>kz h x r
def eJ (h:List UInt8):List (Int×Int)→Int ⊕ (Int×Int)
 |a::b::r=>kz h a (b::r)
 |l=>kz h (mK h) l
end Go.Loop
namespace Go.Proofs.YtlhimdjkkiflhaaGreatDoor
open Go.Proofs.Tryz
open Go.RowKit Go.Loop
def eK (l:List (Int×Int)):List Value:=l.flatMap λq=>[.int .i64 q.1,.int .i64 q.2]
def GC:Int ⊕ (Int×Int)→Value
 |.inr r=> .tuple #[.iface 153 (.agg #[.int .i64 r.1,.int .i64 r.2]),.int .i64 0]
 |.inl e=> .tuple #[.nilIface,.int .i64 e]
theorem l5 {w w':World}{b o:Nat}{v:Value}(h:Below w.heap.size w w')(hc:w.cell? ⟨b,o,none⟩=some v):w'.cell? ⟨b,o,none⟩=some v:=by
 rw[←hc];unfold World.cell?
 rw[h.block b (World.block_lt_of_cell? _ _ hc)]
theorem D9 (w:World)(a:Obj):(w.alloc a).drew.heap[w.heap.size]?=some a:=by
 show(w.heap.push a)[w.heap.size]?=some a;rw[zbD]
def ET (w:World)(m:Nat)(q:Int×Int):Prop:=w.heap[m]?=some (.cells #[.int .i64 q.1,.int .i64 q.2] 255)
theorem ET.cells {w:World}{m:Nat}{q:Int×Int}(h:ET w m q):w.cell? ⟨m,0,none⟩=some (.int .i64 q.1)∧w.cell? ⟨m,1,none⟩=some (.int .i64 q.2)∧w.frozen? ⟨m,0,none⟩=false∧w.frozen? ⟨m,1,none⟩=false∧m<w.heap.size:=by
 unfold ET at h;refine⟨by simp[World.cell?,h],by simp[World.cell?,h],by simp[World.frozen?,h],by simp[World.frozen?,h],(zac.1 h).1⟩
theorem ET.below {w w':World}{m:Nat}{q:Int×Int}(h:ET w m q)(hb:Below w.heap.size w w'):ET w' m q:=(hb.block m (zac.1 h).1).trans h
theorem ET.store {w:World}{m:Nat}{q r:Int×Int}(h:ET w m q):ET ((w.setCell ⟨m,0,none⟩ (.int .i64 r.1)).setCell ⟨m,1,none⟩ (.int .i64 r.2)) m r:=by
 unfold ET at *;simp[World.setCell,Array.getElem?_modify,h]
theorem tK {h:List UInt8}{a b:Int×Int}{e:Int}(hs:ek h a b=.inl e):e=7∨e=11:=by
 unfold ek at hs;repeat' split at hs
 all_goals first|(cases hs;done)|(cases hs;exact .inl rfl)|(cases hs;exact .inr rfl)
theorem K3 (h:List UInt8)(l:List (Int×Int))(b o cap:Nat)(w:World)(hl:l.length≤1000)(agn:l.length≤cap)(hq:∀q∈l,qB q)(hc:∀i,(hi:i<l.length)→w.cell? ⟨b,o+i*2,none⟩=some (.int .i64 l[i].1)∧w.cell? ⟨b,o+i*2+1,none⟩=some (.int .i64 l[i].2)):Calls prog 180 #[.string ⟨⟨h⟩⟩,.slice (some ⟨b,o,none⟩) l.length cap] w λe w'=>e=.returned (GC (eJ h l))∧Below w.heap.size w w':=by
 have mixed:prog.follows Departure.mixedOrders=true:=by kernel_rfl
 have HS:Hid _:=λw=>K0 h w;have HC:Hid _:=hc;have HQ:Hid _:=hq;clear hc hq;obtain⟨s1,s2,hs⟩:∃s1 s2,mK h=(s1,s2):=⟨_,_,rfl⟩;rw[hs]at HS;simp only[qV]at HS;by_cases h1:1<l.length
 ·go_enter func180,ntmps180;go_wp2_with (go_at_call 204;refine(HS.out _).mono ?_;rintro e w' ⟨rfl,hb⟩;have HB:Hid _:=hb;clear hb);have r0:w'.cell? ⟨b,o,none⟩=some (.int .i64 l[0].1):=l5 HB.out (by have:=(HC.out 0 (by omega)).1;simpa using this);have r1:w'.cell? ⟨b,o+1,none⟩=some (.int .i64 l[0].2):=l5 HB.out (by have:=(HC.out 0 (by omega)).2;simpa using this);have zK:b<w'.heap.size:=World.block_lt_of_cell? _ _ r0;have hc1:¬cap=1:=by omega
  go_region;go_wp2_with fail;rw[show decide (1<(l.length:Int))=true by simp;omega];have HG:Hid (kz h l[0] ((l.drop 1).drop 0)=eJ h l):=by
   cases l with
   |nil=>simp at h1
   |cons a r=>
    cases r with
    |nil=>simp at h1
    |cons c r=>rfl
  have HA:Hid (qB l[0]):=HQ.out _ (zaC _);have HM:Hid (ET (w'.alloc (.cells #[.int .i64 l[0].1,.int .i64 l[0].2] 255)).drew w'.heap.size l[0]):=D9 w' _;have XA:Hid (Below w.heap.size w (w'.alloc (.cells #[.int .i64 l[0].1,.int .i64 l[0].2] 255)).drew):=(HB.out.alloc HB.out.size _).drew;go_loopw [23] (λi wr=>∃(k:Nat) (acc:Int×Int),k≤l.length-1∧i=.int .i64 k∧Hid (kz h acc ((l.drop 1).drop k)=eJ h l)∧Hid (qB acc)∧Hid (ET wr w'.heap.size acc)∧Hid (Below w.heap.size w wr)) (λi _=>l.length-1-(intOf i).toNat)
  case atStart=>exact⟨0,l[0],zah _,rfl,HG.out,HA.out,HM.out,XA.out⟩
  case round=>
   obtain⟨k,acc,hk,rfl,hF,hA,hM,o7⟩:=hrel;obtain⟨c0,c1,f0,f1,OS⟩:=hM.out.cells;by_cases hlt:k<l.length-1
   ·obtain⟨x,hx⟩:∃x,x=l[k+1]'(by omega):=⟨_,rfl⟩;have hc:=HC.out (k+1) (by omega);have r0:wr.cell? ⟨b,o+2+k*2,none⟩=some (.int .i64 x.1):=l5 o7.out (by rw[hx];have:=hc.1;rwa[show o+(k+1)*2=o+2+k*2 by omega]at this);have r1:wr.cell? ⟨b,o+2+k*2+1,none⟩=some (.int .i64 x.2):=l5 o7.out (by rw[hx];have:=hc.2;rwa[show o+(k+1)*2+1=o+2+k*2+1 by omega]at this);have VW:qB x:=by rw[hx];exact HQ.out _ (zaC _)
    have uo:(l.drop 1).drop k=x::(l.drop 1).drop (k+1):=by
     rw[hx,zbb,zbb,zba (by omega)]
     congr 1
     all_goals first|rfl|(congr 1;omega)
    have OT:Hid _:=λw=>D7 h acc x w hA.out VW;have VX:Hid _:=hF.out;rw[uo]at VX;have OU:Hid ((match ek h acc x with|.inl e=> .inl e|.inr y=>kz h y ((l.drop 1).drop (k+1)))=eJ h l):=VX.out;have qQ:Hid (∀y,ek h acc x=.inr y→qB y):=λy hy=>xG hA.out VW hy;have rV:Hid (∀e,ek h acc x=.inl e→e=7∨e=11):=λe he=>tK he;clear VX hF uo hx VW hc;obtain⟨a1,a2⟩:=acc;obtain⟨x1,x2⟩:=x;simp only[qV]at OT c0 c1 r0 r1;generalize ek h (a1,a2) (x1,x2)=sr at *;cases sr with
    |inl er=>
     have he:=rV.out er rfl;have hne:(er != 0)=true:=by rcases he with rfl|rfl<;>rfl
     simp only[iF]at OT;go_wp2_with fail;refine(OT.out _).mono ?_;rintro e w1 ⟨rfl,hb1⟩;have gP:Hid (Below w.heap.size w w1):=(o7.out.alloc (by have:=o7.out.size;omega) _).trans (hb1.mono (by simp;have:=o7.out.size;omega));clear hb1;go_wp2_with fail;have ht:eJ h l=.inl er:=OU.out.symm;rw[ht];go_ret2;exact⟨rfl,gP.out.alloc gP.out.size _⟩
    |inr y=>
     obtain⟨y1,y2⟩:=y;simp only[iF,qV]at OT;go_wp2_with fail;refine(OT.out _).mono ?_;rintro e w1 ⟨rfl,hb1⟩;have gP:Hid (Below w.heap.size w w1):=(o7.out.alloc (by have:=o7.out.size;omega) _).trans (hb1.mono (by simp;have:=o7.out.size;omega));have EO:Hid (ET w1 w'.heap.size (a1,a2)):=(hM.out.below ((Below.refl _ wr).alloc (zaa _) _)).below hb1;clear hb1;obtain⟨n0,n1,p0,p1,Si⟩:=EO.out.cells;simp only at n0 n1;go_wp2_with fail;go_roundw
     case rel=>
      refine⟨k+1,(y1,y2),by omega,by go_num,OU.out,qQ.out _ rfl,?_,?_⟩
      ·exact(EO.out.store (r:=(y1,y2))).below ((Below.refl _ _).alloc (zaa _) _)
      ·refine Below.alloc ?_ (by have:=gP.out.size;simp;omega) _;refine Below.setCell ?_ HB.out.size _;refine Below.setCell ?_ HB.out.size _;exact gP.out
     case measure=>simp[intOf];omega
   ·have hkm:(k:Int)=((l.length-1:Nat):Int):=by omega
    have hend:eJ h l=.inr acc:=by
     rw[←hF.out,List.drop_eq_nil_of_le (by simp;omega)];rfl
    rw[hend];obtain⟨a1,a2⟩:=acc;simp only at c0 c1;go_wp2_with fail;go_ret2;exact⟨by first|rfl|(rw[hend];rfl),by first|exact o7.out|exact o7.out.drew|exact below_drewN o7.out _⟩
 ·go_enter func180,ntmps180;go_wp2_with (go_at_call 204;refine(HS.out _).mono ?_;rintro e w' ⟨rfl,hb⟩;have HB:Hid _:=hb;clear hb);rw[show decide (1<(l.length:Int))=false by simp;omega];have HG:Hid (kz h (s1,s2) ((l.drop 0).drop 0)=eJ h l):=by
   rw[←hs];cases l with
   |nil=>rfl
   |cons a r=>
    cases r with
    |nil=>rfl
    |cons c r=>simp at h1
  have HA:Hid (qB (s1,s2)):=by
   rw[←hs];show qB (mK h);unfold mK qB;split<;>simp
  have HM:Hid (ET (w'.alloc (.cells #[.int .i64 s1,.int .i64 s2] 255)) w'.heap.size (s1,s2)):=D9 w' _;have XA:Hid (Below w.heap.size w (w'.alloc (.cells #[.int .i64 s1,.int .i64 s2] 255))):=HB.out.alloc HB.out.size _;go_loopw [23] (λi wr=>∃(k:Nat) (acc:Int×Int),k≤l.length∧i=.int .i64 k∧Hid (kz h acc ((l.drop 0).drop k)=eJ h l)∧Hid (qB acc)∧Hid (ET wr w'.heap.size acc)∧Hid (Below w.heap.size w wr)) (λi _=>l.length-(intOf i).toNat)
  case atStart=>exact⟨0,(s1,s2),zah _,rfl,HG.out,HA.out,HM.out,XA.out⟩
  case round=>
   obtain⟨k,acc,hk,rfl,hF,hA,hM,o7⟩:=hrel;obtain⟨c0,c1,f0,f1,OS⟩:=hM.out.cells;by_cases hlt:k<l.length
   ·obtain⟨x,hx⟩:∃x,x=l[k+0]'(by omega):=⟨_,rfl⟩;have hc:=HC.out (k+0) (by omega);have r0:wr.cell? ⟨b,o+k*2,none⟩=some (.int .i64 x.1):=l5 o7.out (by rw[hx];have:=hc.1;rwa[show o+(k+0)*2=o+k*2 by omega]at this);have r1:wr.cell? ⟨b,o+k*2+1,none⟩=some (.int .i64 x.2):=l5 o7.out (by rw[hx];have:=hc.2;rwa[show o+(k+0)*2+1=o+k*2+1 by omega]at this);have VW:qB x:=by rw[hx];exact HQ.out _ (zaC _)
    have uo:(l.drop 0).drop k=x::(l.drop 0).drop (k+1):=by
     rw[hx,zbb,zbb,zba (by omega)]
     congr 1
     all_goals first|rfl|(congr 1;omega)
    have OT:Hid _:=λw=>D7 h acc x w hA.out VW;have VX:Hid _:=hF.out;rw[uo]at VX;have OU:Hid ((match ek h acc x with|.inl e=> .inl e|.inr y=>kz h y ((l.drop 0).drop (k+1)))=eJ h l):=VX.out;have qQ:Hid (∀y,ek h acc x=.inr y→qB y):=λy hy=>xG hA.out VW hy;have rV:Hid (∀e,ek h acc x=.inl e→e=7∨e=11):=λe he=>tK he;clear VX hF uo hx VW hc;obtain⟨a1,a2⟩:=acc;obtain⟨x1,x2⟩:=x;simp only[qV]at OT c0 c1 r0 r1;generalize ek h (a1,a2) (x1,x2)=sr at *;cases sr with
    |inl er=>
     have he:=rV.out er rfl;have hne:(er != 0)=true:=by rcases he with rfl|rfl<;>rfl
     simp only[iF]at OT;go_wp2_with fail;refine(OT.out _).mono ?_;rintro e w1 ⟨rfl,hb1⟩;have gP:Hid (Below w.heap.size w w1):=(o7.out.alloc (by have:=o7.out.size;omega) _).trans (hb1.mono (by simp;have:=o7.out.size;omega));clear hb1;go_wp2_with fail;have ht:eJ h l=.inl er:=OU.out.symm;rw[ht];go_ret2;exact⟨rfl,gP.out.alloc gP.out.size _⟩
    |inr y=>
     obtain⟨y1,y2⟩:=y;simp only[iF,qV]at OT;go_wp2_with fail;refine(OT.out _).mono ?_;rintro e w1 ⟨rfl,hb1⟩;have gP:Hid (Below w.heap.size w w1):=(o7.out.alloc (by have:=o7.out.size;omega) _).trans (hb1.mono (by simp;have:=o7.out.size;omega));have EO:Hid (ET w1 w'.heap.size (a1,a2)):=(hM.out.below ((Below.refl _ wr).alloc (zaa _) _)).below hb1;clear hb1;obtain⟨n0,n1,p0,p1,Si⟩:=EO.out.cells;simp only at n0 n1;go_wp2_with fail;go_roundw
     case rel=>
      refine⟨k+1,(y1,y2),by omega,by go_num,OU.out,qQ.out _ rfl,?_,?_⟩
      ·exact(EO.out.store (r:=(y1,y2))).below ((Below.refl _ _).alloc (zaa _) _)
      ·refine Below.alloc ?_ (by have:=gP.out.size;simp;omega) _;refine Below.setCell ?_ HB.out.size _;refine Below.setCell ?_ HB.out.size _;exact gP.out
     case measure=>simp[intOf];omega
   ·have hkm:(k:Int)=((l.length:Nat):Int):=by omega
    have hend:eJ h l=.inr acc:=by
     rw[←hF.out,List.drop_eq_nil_of_le (by simp;omega)];rfl
    rw[hend];obtain⟨a1,a2⟩:=acc;simp only at c0 c1;go_wp2_with fail;go_ret2;exact⟨by first|rfl|(rw[hend];rfl),by first|exact o7.out|exact o7.out.drew|exact below_drewN o7.out _⟩
end Go.Proofs.YtlhimdjkkiflhaaGreatDoor
namespace Go.Loop
open Go.Proofs.Tryz
def dS (h:List UInt8)(a b:Int×Int):Bool:=if h=[60]then mI a b else decide (a=b)
end Go.Loop
namespace Go.Proofs.YtlhimdjkkiflhaaGreatDoor
open Go.Proofs.Tryz
open Go.RowKit Go.Loop
def OV (b:Bool):Value:= .iface 155 (.agg #[.int .i64 (if b then 1 else 0)])
theorem Bp (h:List UInt8)(a b:Int×Int)(w:World)(ha:qB a)(hb:qB b):Calls prog 179 #[.string ⟨⟨h⟩⟩,qV a,qV b] w λe w'=>e=.returned (OV (dS h a b))∧Below w.heap.size w w':=by
 have mixed:prog.follows Departure.mixedOrders=true:=by kernel_rfl
 have HL:Hid _:=λw=>KY a b w ha hb;obtain⟨a1,a2⟩:=a;obtain⟨b1,b2⟩:=b;by_cases c1:a1=b1
 ·subst c1;by_cases c2:a2=b2
  ·subst c2;by_cases e0:h=[60]
   ·subst e0;have ec:dS [60] (a1,a2) (a1,a2)=mI (a1,a2) (a1,a2):=rfl;rw[ec];clear ec;simp only[qV]at HL ⊢;generalize mI (a1,a2) (a1,a2)=r at *;cases r;all_goals
     go_enter func179,ntmps179;go_wp2_with (go_at_call 203;refine(HL.out _).mono ?_;rintro e w' ⟨rfl,hb⟩;have HB:Hid _:=hb;clear hb);go_ret;exact⟨rfl,(((Below.refl _ w).alloc (zaa _) _).alloc (by simp) _).trans (HB.out.mono (by simp;omega))⟩
   ·have f0:(h==[60])=false:=by simpa using e0
    have ec:dS h (a1,a2) (a1,a2)=true:=by simp[dS,e0]
    rw[ec];clear HL ec;simp only[qV];go_enter func179,ntmps179;go_wp2_with fail;go_ret;exact⟨rfl,((Below.refl _ w).alloc (zaa _) _).alloc (by simp) _⟩
  ·have n2:(a2==b2)=false:=by simpa using c2
   by_cases e0:h=[60]
   ·subst e0;have ec:dS [60] (a1,a2) (a1,b2)=mI (a1,a2) (a1,b2):=rfl;rw[ec];clear ec;simp only[qV]at HL ⊢;generalize mI (a1,a2) (a1,b2)=r at *;cases r;all_goals
     go_enter func179,ntmps179;go_wp2_with (go_at_call 203;refine(HL.out _).mono ?_;rintro e w' ⟨rfl,hb⟩;have HB:Hid _:=hb;clear hb);go_ret;exact⟨rfl,(((Below.refl _ w).alloc (zaa _) _).alloc (by simp) _).trans (HB.out.mono (by simp;omega))⟩
   ·have f0:(h==[60])=false:=by simpa using e0
    have ec:dS h (a1,a2) (a1,b2)=false:=by simp[dS,e0,c2]
    rw[ec];clear HL ec;simp only[qV];go_enter func179,ntmps179;go_wp2_with fail;go_ret;exact⟨rfl,((Below.refl _ w).alloc (zaa _) _).alloc (by simp) _⟩
 ·have n1:(a1==b1)=false:=by simpa using c1
  by_cases e0:h=[60]
  ·subst e0;have ec:dS [60] (a1,a2) (b1,b2)=mI (a1,a2) (b1,b2):=rfl;rw[ec];clear ec;simp only[qV]at HL ⊢;generalize mI (a1,a2) (b1,b2)=r at *;cases r;all_goals
    go_enter func179,ntmps179;go_wp2_with (go_at_call 203;refine(HL.out _).mono ?_;rintro e w' ⟨rfl,hb⟩;have HB:Hid _:=hb;clear hb);go_ret;exact⟨rfl,(((Below.refl _ w).alloc (zaa _) _).alloc (by simp) _).trans (HB.out.mono (by simp;omega))⟩
  ·have f0:(h==[60])=false:=by simpa using e0
   have ec:dS h (a1,a2) (b1,b2)=false:=by simp[dS,e0,c1]
   rw[ec];clear HL ec;simp only[qV];go_enter func179,ntmps179;go_wp2_with fail;go_ret;exact⟨rfl,((Below.refl _ w).alloc (zaa _) _).alloc (by simp) _⟩
end Go.Proofs.YtlhimdjkkiflhaaGreatDoor
namespace Go.Loop
def rW (root:Dt):Nat→Dt→Option (Option (List Dt))
 |0,_=>none
 |n+1,d=>match bR root 200000 d with
  |.pair _ a b=>(rW root n b).map λo=>o.map (a::·)
  |.nil=>some (some [])
  |_=>some none
def qh (root a b:Dt):Option (Option (List UInt8×List Dt)):=
 match bR root 200000 a with
 |.sym h=>(rW root 900 b).map λo=>o.map λl=>(h,l)
 |_=>some none
def nh (f:Dt→Option (Int ⊕ Dt)):List Dt→List Dt→Option (Int ⊕ List Dt)
 |acc,[]=>some (.inr acc)
 |acc,d::l=>match f d with
  |none=>none
  |some (.inl e)=>some (.inl e)
  |some (.inr x)=>nh f (acc++[x]) l
def tL:List (Int×Int)→List Dt→Option (List (Int×Int))
 |acc,[]=>some acc
 |acc,.num n d::r=>tL (acc++[(n,d)]) r
 |_,_::_=>none
def dZ (f:Dt→Option (Int ⊕ Dt))(held:List Dt):Option (Int ⊕ List (Int×Int)):=
 match nh f [] held with
 |none=>none
 |some (.inl e)=>some (.inl e)
 |some (.inr l)=>some (match tL [] l with|none=> .inl 10|some q=> .inr q)
def rX (h:List UInt8)(l:List (Int×Int)):Int ⊕ Dt:=
 if h=[61]∨h=[60]then .inr (.cQ (if dS h (l.getD 0 (0,1)) (l.getD 1 (0,1))then 1 else 0))
 else match eJ h l with|.inl e=> .inl e|.inr q=> .inr (.num q.1 q.2)
def kW (f:Dt→Option (Int ⊕ Dt))(c x y:Dt):Option (Int ⊕ Dt):=
 match f c with
 |none=>none
 |some (.inl e)=>some (.inl e)
 |some (.inr r)=>if r=.cQ 0 then f y else f x
def l6 (root:Dt)(f:Dt→Option (Int ⊕ Dt))(a b:Dt):Option (Int ⊕ Dt):=
 match qh root a b with
 |none=>none
 |some none=>some (.inl 10)
 |some (some (h,held))=>
  if fy h held.length=false then some (.inl 10)
  else if h=bS then some (.inr (bR root 200000 (held.getD 0 .nil)))
  else if h=oq then kW f (held.getD 0 .nil) (held.getD 1 .nil) (held.getD 2 .nil)
  else match dZ f held with
   |none=>none
   |some (.inl e)=>some (.inl e)
   |some (.inr q)=>some (rX h q)
def kC (root:Dt)(f:Dt→Option (Int ⊕ Dt))(d:Dt):Option (Int ⊕ Dt):=
 match bR root 200000 d with
 |.pair _ a b=>l6 root f a b
 |.num a b=>some (.inr (.num a b))
 |.cQ a=>some (.inr (.cQ a))
 |.su a=>some (.inr (.su a))
 |.txt i s=>some (.inr (.txt i s))
 |_=>some (.inl 10)
def rY (root:Dt):Nat→Dt→Option (Int ⊕ Dt)
 |0,_=>none
 |n+1,d=>kC root (λx=>rY root n x) d
set_option maxRecDepth 1000000
def aI:Dt→List Dt
 |.pair i a b=> .pair i a b::(aI a++aI b)
 |.vec i l=> .vec i l::aI l
 |.cK a l=> .cK a l::(aI a++aI l)
 |.put n d=> .put n d::aI d
 |d=>[d]
theorem sub_self (d:Dt):d∈aI d:=by cases d<;>simp[aI]
theorem cX {d e:Dt}(h:d∈aI e):∀{r:Dt},e∈aI r→d∈aI r
 |.pair i a b,hr=>by
  simp only[aI,zao,zaM]at hr ⊢;rcases hr with rfl|hr|hr
  ·simpa[aI]using h
  ·exact .inr (.inl (cX h hr))
  ·exact .inr (.inr (cX h hr))
 |.cK a b,hr=>by
  simp only[aI,zao,zaM]at hr ⊢;rcases hr with rfl|hr|hr
  ·simpa[aI]using h
  ·exact .inr (.inl (cX h hr))
  ·exact .inr (.inr (cX h hr))
 |.vec i l,hr=>by
  simp only[aI,zao]at hr ⊢;rcases hr with rfl|hr
  ·simpa[aI]using h
  ·exact .inr (cX h hr)
 |.put i l,hr=>by
  simp only[aI,zao]at hr ⊢;rcases hr with rfl|hr
  ·simpa[aI]using h
  ·exact .inr (cX h hr)
 |.nil,hr=>by simp[aI]at hr;subst hr;exact h
 |.sym _,hr=>by simp[aI]at hr;subst hr;exact h
 |.num _ _,hr=>by simp[aI]at hr;subst hr;exact h
 |.cQ _,hr=>by simp[aI]at hr;subst hr;exact h
 |.su _,hr=>by simp[aI]at hr;subst hr;exact h
 |.txt _ _,hr=>by simp[aI]at hr;subst hr;exact h
 |.iw,hr=>by simp[aI]at hr;subst hr;exact h
 |.ask _,hr=>by simp[aI]at hr;subst hr;exact h
theorem mM {m:Int}:∀{r d:Dt},bG m r=some d→d∈aI r
 |.put n x,d,hl=>by
  unfold bG at hl;simp only[aI,zao];split at hl
  ·cases hl;exact .inr (sub_self _)
  ·exact .inr (mM hl)
 |.pair _ a b,d,hl=>by
  unfold bG at hl;simp only[aI,zao,zaM];cases hq:bG m a with
  |some x=>rw[hq]at hl;cases hl;exact .inr (.inl (mM hq))
  |none=>rw[hq]at hl;exact .inr (.inr (mM hl))
 |.vec _ l,d,hl=>by
  unfold bG at hl;simp only[aI,zao];exact .inr (mM hl)
 |.cK a l,d,hl=>by
  unfold bG at hl;simp only[aI,zao,zaM];cases hq:bG m a with
  |some x=>rw[hq]at hl;cases hl;exact .inr (.inl (mM hq))
  |none=>rw[hq]at hl;exact .inr (.inr (mM hl))
 |.nil,d,hl=>by simp[bG]at hl
 |.sym _,d,hl=>by simp[bG]at hl
 |.num _ _,d,hl=>by simp[bG]at hl
 |.cQ _,d,hl=>by simp[bG]at hl
 |.su _,d,hl=>by simp[bG]at hl
 |.txt _ _,d,hl=>by simp[bG]at hl
 |.iw,d,hl=>by simp[bG]at hl
 |.ask _,d,hl=>by simp[bG]at hl
theorem fP {root d:Dt}:∀{r:Dt},bn root r=true→d∈aI r→bn root d=true
 |.pair i a b,h,hr=>by
  have h':=h;simp only[bn,zae]at h';simp only[aI,zao,zaM]at hr;rcases hr with rfl|hr|hr
  ·exact h
  ·exact fP h'.1 hr
  ·exact fP h'.2 hr
 |.cK a b,h,hr=>by
  have h':=h;simp only[bn,zae]at h';simp only[aI,zao,zaM]at hr;rcases hr with rfl|hr|hr
  ·exact h
  ·exact fP h'.1 hr
  ·exact fP h'.2 hr
 |.vec i l,h,hr=>by
  have h':=h;simp only[bn,zae]at h';simp only[aI,zao]at hr;rcases hr with rfl|hr
  ·exact h
  ·exact fP h'.2 hr
 |.put i l,h,hr=>by
  have h':=h;simp only[bn,zae]at h';simp only[aI,zao]at hr;rcases hr with rfl|hr
  ·exact h
  ·exact fP h'.2 hr
 |.nil,h,hr=>by simp[aI]at hr;subst hr;exact h
 |.sym _,h,hr=>by simp[aI]at hr;subst hr;exact h
 |.num _ _,h,hr=>by simp[aI]at hr;subst hr;exact h
 |.cQ _,h,hr=>by simp[aI]at hr;subst hr;exact h
 |.su _,h,hr=>by simp[aI]at hr;subst hr;exact h
 |.txt _ _,h,hr=>by simp[aI]at hr;subst hr;exact h
 |.iw,h,hr=>by simp[aI]at hr;subst hr;exact h
 |.ask _,h,hr=>by simp[aI]at hr;subst hr;exact h
theorem iY {root:Dt}(hr:bn root root=true):∀(f:Nat) (d:Dt),d∈aI root→bR root f d∈aI root
 |0,d,h=>h
 |f+1,.put n x,h=>iY hr f x (cX (by simp[aI,sub_self]) h)
 |f+1,.ask m,h=>by
  have hg:=fP hr h;simp only[bn,zae]at hg;obtain⟨d1,BN⟩:=zbB.1 hg.1;show bR root f ((bG m root).getD .nil)∈aI root;rw[BN];exact iY hr f d1 (mM BN)
 |f+1,.nil,h=>h
 |f+1,.sym _,h=>h
 |f+1,.num _ _,h=>h
 |f+1,.cQ _,h=>h
 |f+1,.su _,h=>h
 |f+1,.txt _ _,h=>h
 |f+1,.pair _ _ _,h=>h
 |f+1,.vec _ _,h=>h
 |f+1,.iw,h=>h
 |f+1,.cK _ _,h=>h
def lq (root:Dt):Bool:=(aI root).all λd=>match d with
 |.pair i a b=>(aI root).all λe=>match e with
  |.pair j a' b'=>i != j||(decide (a=a')&&decide (b=b'))
  |_=>true
 |.num n d=>decide (-1000000≤n∧n≤1000000∧1≤d∧d≤1000000)
 |_=>true
theorem K4 {root:Dt}(h:lq root=true){i:Nat}{a b a' b':Dt}(h1: .pair i a b∈aI root)(h2: .pair i a' b'∈aI root):a=a'∧b=b':=by
 have h3:=zav.1 h _ h1;have h4:=zav.1 h3 _ h2;simpa using h4
theorem Ea {root:Dt}(hr:bn root root=true):∀(n:Nat) (d:Dt) (l:List Dt),d∈aI root→rW root n d=some (some l)→l.length<n∧∀x∈l,x∈aI root
 |0,d,l,_,h=>by simp[rW]at h
 |n+1,d,l,hd,h=>by
  have hm:=iY hr 200000 d hd;unfold rW at h;split at h
  ·rename_i i a b e;rw[e]at hm;obtain⟨o,ho,h'⟩:=zai.1 h;obtain⟨r,rfl,rfl⟩:=zai.1 h';have ih:=Ea hr n b r (cX (by simp[aI,sub_self]) hm) ho;refine⟨by simp;omega,λx hx=>?_⟩;rcases zao.1 hx with rfl|hx
   ·exact cX (by simp[aI,sub_self]) hm
   ·exact ih.2 x hx
  ·cases h;simp
  ·cases h
end Go.Loop
