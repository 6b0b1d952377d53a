import Derived.Test.YtlhimdjkkiflhaaGreatDoorDeep19
namespace Go.Proofs.YtlhimdjkkiflhaaGreatDoor
open Go.RowKit Go.Loop
def numAB (neg:Bool)(a b:List UInt8):Option (Int×Int×Int):=
 if digsB a&&digsB b then
  (if 1000000<amountP a∨1000000<amountP b then some (0,0,7)
   else if amountP b=0 then some (0,0,3)
   else some ((if neg then -amountP a else amountP a).tdiv (Int.gcd (if neg then -amountP a else amountP a) (amountP b)),amountP b/(Int.gcd (if neg then -amountP a else amountP a) (amountP b)),0))
 else none
theorem numberOf_miss {neg:Bool}{l:List UInt8}(h:slashL l=none):numberOf neg l=numAB neg l [49]:=by
 unfold numberOf numAB
 rw[h];rfl
theorem numberOf_hit {neg:Bool}{l a b:List UInt8}(h:slashL l=some (a,b)):numberOf neg l=numAB neg a b:=by
 unfold numberOf numAB
 rw[h];rfl
def numT:Option (Int×Int×Int)→Tok
 |none=>⟨0,0,0,[],0,0,0⟩
 |some (n,d,f)=>⟨13,0,0,[],n,d,f⟩
theorem digs_all {l:List UInt8}(h:digsB l=true):l.all (fun c=>digB (c.toNat:Int))=true:=by
 unfold digsB at h
 rw[Bool.and_eq_true] at h
 exact h.2
theorem ab_none1 {neg:Bool}{a b:List UInt8}(h:digsB a=false):numAB neg a b=none:=by unfold numAB;rw[h];rfl
theorem ab_none2 {neg:Bool}{a b:List UInt8}(h:digsB b=false):numAB neg a b=none:=by unfold numAB;rw[h];simp
theorem ab_7 {neg:Bool}{a b:List UInt8}(h1:digsB a=true)(h2:digsB b=true)(h:1000000<amountP a∨1000000<amountP b):numAB neg a b=some (0,0,7):=by unfold numAB;rw[h1,h2,Bool.and_true,if_pos rfl,if_pos h]
theorem ab_3 {neg:Bool}{a b:List UInt8}(h1:digsB a=true)(h2:digsB b=true)(h:¬ (1000000<amountP a∨1000000<amountP b))(h3:amountP b=0):numAB neg a b=some (0,0,3):=by unfold numAB;rw[h1,h2,Bool.and_true,if_pos rfl,if_neg h,if_pos h3]
theorem ab_0 {neg:Bool}{a b:List UInt8}{m d:Int}(h1:digsB a=true)(h2:digsB b=true)(h:¬ (1000000<amountP a∨1000000<amountP b))(h3:¬ amountP b=0)(hm:(if neg then -amountP a else amountP a)=m)(hd:amountP b=d):numAB neg a b=some (m.tdiv (Int.gcd m d),d/(Int.gcd m d),0):=by subst hm hd;unfold numAB;rw[h1,h2,Bool.and_true,if_pos rfl,if_neg h,if_neg h3]
theorem amountP_bd {l:List UInt8}(h:digsB l=true):0≤amountP l∧amountP l≤1000001:=amount_bd l 0 (by omega) (by omega) (digs_all h)
theorem beq_u8 {c:UInt8}{n:Nat}(h:c.toNat=n)(m:Int)(hm:(n:Int)=m):((c.toNat:Int)==m)=true:=by rw[h,hm];simp
theorem beq_u8f {c:UInt8}{n:Nat}(h:¬ c.toNat=n)(m:Int)(hm:(n:Int)=m):((c.toNat:Int)==m)=false:=by rw[beq_eq_false_iff_ne];omega
section
attribute [local go_sem] ba_get0 ba_get ba_ext1 ba_ext2 ba_toList
set_option maxHeartbeats 4000000 in
theorem number_m0 (c:UInt8)(r:List UInt8)(w:World)(hs:r.length+1≤1000000)(hc:c.toNat=45)(hi:Lib.indexByte r 47=-1):
 Calls Tryz.prog 201 #[.string ⟨⟨c::r⟩⟩] w fun e w'=>e= .returned (.tuple #[tkV (numT (numAB true (⟨⟨r⟩⟩:ByteArray).data.toList (⟨#[49]⟩:ByteArray).data.toList)),.bool (numAB true (⟨⟨r⟩⟩:ByteArray).data.toList (⟨#[49]⟩:ByteArray).data.toList).isSome])∧Below w.heap.size w w':=by
 have hsz:(ByteArray.mk (Array.mk (c::r))).size=r.length+1:=rfl
 have hsz2:(ByteArray.mk (Array.mk r)).size=r.length:=rfl
 have q1:=beq_u8 hc 45 rfl
 clear hc
 cases d1:digsB (⟨⟨r⟩⟩:ByteArray).data.toList
 ·have H:Hid _:=ab_none1 (neg:=true) (b:=(⟨#[49]⟩:ByteArray).data.toList) d1
  go_enter Tryz.func201,Tryz.ntmps201
  go_wp2_with fail
  refine(cut_miss _ _ hi).mono ?_
  rintro e w' ⟨rfl,n,rfl⟩
  go_wp2_with fail
  refine(allDigits_any _ _ (by show r.length≤1000000;omega)).mono ?_
  rw[show digsB (⟨⟨r⟩⟩:ByteArray).data.toList=_ from d1];rintro e w' ⟨rfl,rfl⟩
  go_wp2_with fail
  refine bodyPost_ret (v:= .tuple #[tkV ⟨0,0,0,[],0,0,0⟩,.bool false]) (by simp[results,Tryz.results201,tkV,go_sem]) rfl ⟨?_,?_⟩
  ·rw[H.out];rfl
  ·(repeat (first|with_reducible refine Below.setCell ?_ (by simp) _|with_reducible refine below_drewN ?_ _|with_reducible refine Below.alloc ?_ (by simp) _));with_reducible exact Below.refl _ _
 cases d2:digsB (⟨#[49]⟩:ByteArray).data.toList
 ·have H:Hid _:=ab_none2 (neg:=true) (a:=(⟨⟨r⟩⟩:ByteArray).data.toList) d2
  go_enter Tryz.func201,Tryz.ntmps201
  go_wp2_with fail
  refine(cut_miss _ _ hi).mono ?_
  rintro e w' ⟨rfl,n,rfl⟩
  go_wp2_with fail
  refine(allDigits_any _ _ (by show r.length≤1000000;omega)).mono ?_
  rw[show digsB (⟨⟨r⟩⟩:ByteArray).data.toList=_ from d1];rintro e w' ⟨rfl,rfl⟩
  go_wp2_with fail
  refine(allDigits_any _ _ (by decide)).mono ?_
  rw[show digsB (⟨#[49]⟩:ByteArray).data.toList=_ from d2];rintro e w' ⟨rfl,rfl⟩
  go_wp2_with fail
  refine bodyPost_ret (v:= .tuple #[tkV ⟨0,0,0,[],0,0,0⟩,.bool false]) (by simp[results,Tryz.results201,tkV,go_sem]) rfl ⟨?_,?_⟩
  ·rw[H.out];rfl
  ·(repeat (first|with_reducible refine Below.setCell ?_ (by simp) _|with_reducible refine below_drewN ?_ _|with_reducible refine Below.alloc ?_ (by simp) _));with_reducible exact Below.refl _ _
 obtain⟨n1,n2⟩:=amountP_bd d1
 obtain⟨m1,m2⟩:=amountP_bd d2
 have D1:Hid _:=digs_all d1
 have D2:Hid _:=digs_all d2
 by_cases h7:1000000<amountP (⟨⟨r⟩⟩:ByteArray).data.toList∨1000000<amountP (⟨#[49]⟩:ByteArray).data.toList
 ·have H:Hid _:=ab_7 (neg:=true) d1 d2 h7
  have hf:Hid ((if 1000000<amountP (⟨⟨r⟩⟩:ByteArray).data.toList∨1000000<amountP (⟨#[49]⟩:ByteArray).data.toList then(7:Int) else if amountP (⟨#[49]⟩:ByteArray).data.toList=0 then 3 else 0)=7):=if_pos h7
  clear h7
  go_enter Tryz.func201,Tryz.ntmps201
  go_wp2_with fail
  refine(cut_miss _ _ hi).mono ?_
  rintro e w' ⟨rfl,n,rfl⟩
  go_wp2_with fail
  refine(allDigits_any _ _ (by show r.length≤1000000;omega)).mono ?_
  rw[show digsB (⟨⟨r⟩⟩:ByteArray).data.toList=_ from d1];rintro e w' ⟨rfl,rfl⟩
  go_wp2_with fail
  refine(allDigits_any _ _ (by decide)).mono ?_
  rw[show digsB (⟨#[49]⟩:ByteArray).data.toList=_ from d2];rintro e w' ⟨rfl,rfl⟩
  go_wp2_with fail
  refine(amount_any _ _ (by show r.length≤1000000;omega) D1.out).mono ?_
  rintro e w' ⟨rfl,rfl⟩
  go_wp2_with fail
  refine(amount_any _ _ (by decide) D2.out).mono ?_
  rintro e w' ⟨rfl,rfl⟩
  go_wp2_with fail
  refine(numberFault_any _ _ _).mono ?_
  rw[hf.out];rintro e w' ⟨rfl,rfl⟩
  go_wp2_with fail
  refine bodyPost_ret (v:= .tuple #[tkV ⟨13,0,0,[],0,0,7⟩,.bool true]) (by simp[results,Tryz.results201,tkV,go_sem]) rfl ⟨?_,?_⟩
  ·rw[H.out];rfl
  ·(repeat (first|with_reducible refine Below.setCell ?_ (by simp) _|with_reducible refine below_drewN ?_ _|with_reducible refine Below.alloc ?_ (by simp) _));with_reducible exact Below.refl _ _
 by_cases h3:amountP (⟨#[49]⟩:ByteArray).data.toList=0
 ·have H:Hid _:=ab_3 (neg:=true) d1 d2 h7 h3
  have hf:Hid ((if 1000000<amountP (⟨⟨r⟩⟩:ByteArray).data.toList∨1000000<amountP (⟨#[49]⟩:ByteArray).data.toList then(7:Int) else if amountP (⟨#[49]⟩:ByteArray).data.toList=0 then 3 else 0)=3):=by show _=_;rw[if_neg h7,if_pos h3]
  clear h7 h3
  go_enter Tryz.func201,Tryz.ntmps201
  go_wp2_with fail
  refine(cut_miss _ _ hi).mono ?_
  rintro e w' ⟨rfl,n,rfl⟩
  go_wp2_with fail
  refine(allDigits_any _ _ (by show r.length≤1000000;omega)).mono ?_
  rw[show digsB (⟨⟨r⟩⟩:ByteArray).data.toList=_ from d1];rintro e w' ⟨rfl,rfl⟩
  go_wp2_with fail
  refine(allDigits_any _ _ (by decide)).mono ?_
  rw[show digsB (⟨#[49]⟩:ByteArray).data.toList=_ from d2];rintro e w' ⟨rfl,rfl⟩
  go_wp2_with fail
  refine(amount_any _ _ (by show r.length≤1000000;omega) D1.out).mono ?_
  rintro e w' ⟨rfl,rfl⟩
  go_wp2_with fail
  refine(amount_any _ _ (by decide) D2.out).mono ?_
  rintro e w' ⟨rfl,rfl⟩
  go_wp2_with fail
  refine(numberFault_any _ _ _).mono ?_
  rw[hf.out];rintro e w' ⟨rfl,rfl⟩
  go_wp2_with fail
  refine bodyPost_ret (v:= .tuple #[tkV ⟨13,0,0,[],0,0,3⟩,.bool true]) (by simp[results,Tryz.results201,tkV,go_sem]) rfl ⟨?_,?_⟩
  ·rw[H.out];rfl
  ·(repeat (first|with_reducible refine Below.setCell ?_ (by simp) _|with_reducible refine below_drewN ?_ _|with_reducible refine Below.alloc ?_ (by simp) _));with_reducible exact Below.refl _ _
 ·have H:Hid _:=ab_0 (neg:=true) (m:=(-amountP (⟨⟨r⟩⟩:ByteArray).data.toList)) (d:=amountP (⟨#[49]⟩:ByteArray).data.toList) d1 d2 h7 h3 rfl rfl
  have hf:Hid ((if 1000000<amountP (⟨⟨r⟩⟩:ByteArray).data.toList∨1000000<amountP (⟨#[49]⟩:ByteArray).data.toList then(7:Int) else if amountP (⟨#[49]⟩:ByteArray).data.toList=0 then 3 else 0)=0):=by show _=_;rw[if_neg h7,if_neg h3]
  have t1:amountP (⟨⟨r⟩⟩:ByteArray).data.toList≤1000000:=by omega
  have t2:1≤amountP (⟨#[49]⟩:ByteArray).data.toList:=by omega
  have t3:amountP (⟨#[49]⟩:ByteArray).data.toList≤1000000:=by omega
  clear h7 h3
  go_enter Tryz.func201,Tryz.ntmps201
  go_wp2_with fail
  refine(cut_miss _ _ hi).mono ?_
  rintro e w' ⟨rfl,n,rfl⟩
  go_wp2_with fail
  refine(allDigits_any _ _ (by show r.length≤1000000;omega)).mono ?_
  rw[show digsB (⟨⟨r⟩⟩:ByteArray).data.toList=_ from d1];rintro e w' ⟨rfl,rfl⟩
  go_wp2_with fail
  refine(allDigits_any _ _ (by decide)).mono ?_
  rw[show digsB (⟨#[49]⟩:ByteArray).data.toList=_ from d2];rintro e w' ⟨rfl,rfl⟩
  go_wp2_with fail
  refine(amount_any _ _ (by show r.length≤1000000;omega) D1.out).mono ?_
  rintro e w' ⟨rfl,rfl⟩
  go_wp2_with fail
  refine(amount_any _ _ (by decide) D2.out).mono ?_
  rintro e w' ⟨rfl,rfl⟩
  go_wp2_with fail
  refine(numberFault_any _ _ _).mono ?_
  rw[hf.out];rintro e w' ⟨rfl,rfl⟩
  go_wp2_with fail
  refine(ratioLowest_any _ _ _ (by omega) (by omega) (by omega) (by omega)).mono ?_
  rintro e w' ⟨rfl,m,rfl⟩
  go_wp2_with fail
  refine bodyPost_ret (v:= .tuple #[tkV ⟨13,0,0,[],(-amountP (⟨⟨r⟩⟩:ByteArray).data.toList).tdiv (Int.gcd (-amountP (⟨⟨r⟩⟩:ByteArray).data.toList) (amountP (⟨#[49]⟩:ByteArray).data.toList)),amountP (⟨#[49]⟩:ByteArray).data.toList / (Int.gcd (-amountP (⟨⟨r⟩⟩:ByteArray).data.toList) (amountP (⟨#[49]⟩:ByteArray).data.toList)),0⟩,.bool true]) (by simp[results,Tryz.results201,tkV,go_sem]) rfl ⟨?_,?_⟩
  ·rw[H.out];rfl
  ·(repeat (first|with_reducible refine Below.setCell ?_ (by simp) _|with_reducible refine below_drewN ?_ _|with_reducible refine Below.alloc ?_ (by simp) _));with_reducible exact Below.refl _ _
set_option maxHeartbeats 4000000 in
theorem number_m1 (c:UInt8)(r:List UInt8)(w:World)(hs:r.length+1≤1000000)(hc:c.toNat=45)(k:Nat)(hi:Lib.indexByte r 47=(k:Int))(hk:k<r.length)(a b:ByteArray)(ha:(⟨⟨r⟩⟩:ByteArray).extract 0 k=a)(hb:(⟨⟨r⟩⟩:ByteArray).extract (k+1) (⟨⟨r⟩⟩:ByteArray).size=b)(has:a.size≤1000000)(hbs:b.size≤1000000):
 Calls Tryz.prog 201 #[.string ⟨⟨c::r⟩⟩] w fun e w'=>e= .returned (.tuple #[tkV (numT (numAB true a.data.toList b.data.toList)),.bool (numAB true a.data.toList b.data.toList).isSome])∧Below w.heap.size w w':=by
 have hsz:(ByteArray.mk (Array.mk (c::r))).size=r.length+1:=rfl
 have hsz2:(ByteArray.mk (Array.mk r)).size=r.length:=rfl
 have q1:=beq_u8 hc 45 rfl
 clear hc
 have HA:Hid _:=ha
 have HB:Hid _:=hb
 clear ha hb
 cases d1:digsB a.data.toList
 ·have H:Hid _:=ab_none1 (neg:=true) (b:=b.data.toList) d1
  go_enter Tryz.func201,Tryz.ntmps201
  go_wp2_with fail
  refine(cut_hit _ k _ hi (by show k<_;exact hk) (by show r.length≤1000000;omega)).mono ?_
  rw[HA.out,HB.out]
  rintro e w' ⟨rfl,n,rfl⟩
  go_wp2_with fail
  refine(allDigits_any _ _ has).mono ?_
  rw[show digsB a.data.toList=_ from d1];rintro e w' ⟨rfl,rfl⟩
  go_wp2_with fail
  refine bodyPost_ret (v:= .tuple #[tkV ⟨0,0,0,[],0,0,0⟩,.bool false]) (by simp[results,Tryz.results201,tkV,go_sem]) rfl ⟨?_,?_⟩
  ·rw[H.out];rfl
  ·(repeat (first|with_reducible refine Below.setCell ?_ (by simp) _|with_reducible refine below_drewN ?_ _|with_reducible refine Below.alloc ?_ (by simp) _));with_reducible exact Below.refl _ _
 cases d2:digsB b.data.toList
 ·have H:Hid _:=ab_none2 (neg:=true) (a:=a.data.toList) d2
  go_enter Tryz.func201,Tryz.ntmps201
  go_wp2_with fail
  refine(cut_hit _ k _ hi (by show k<_;exact hk) (by show r.length≤1000000;omega)).mono ?_
  rw[HA.out,HB.out]
  rintro e w' ⟨rfl,n,rfl⟩
  go_wp2_with fail
  refine(allDigits_any _ _ has).mono ?_
  rw[show digsB a.data.toList=_ from d1];rintro e w' ⟨rfl,rfl⟩
  go_wp2_with fail
  refine(allDigits_any _ _ hbs).mono ?_
  rw[show digsB b.data.toList=_ from d2];rintro e w' ⟨rfl,rfl⟩
  go_wp2_with fail
  refine bodyPost_ret (v:= .tuple #[tkV ⟨0,0,0,[],0,0,0⟩,.bool false]) (by simp[results,Tryz.results201,tkV,go_sem]) rfl ⟨?_,?_⟩
  ·rw[H.out];rfl
  ·(repeat (first|with_reducible refine Below.setCell ?_ (by simp) _|with_reducible refine below_drewN ?_ _|with_reducible refine Below.alloc ?_ (by simp) _));with_reducible exact Below.refl _ _
 obtain⟨n1,n2⟩:=amountP_bd d1
 obtain⟨m1,m2⟩:=amountP_bd d2
 have D1:Hid _:=digs_all d1
 have D2:Hid _:=digs_all d2
 by_cases h7:1000000<amountP a.data.toList∨1000000<amountP b.data.toList
 ·have H:Hid _:=ab_7 (neg:=true) d1 d2 h7
  have hf:Hid ((if 1000000<amountP a.data.toList∨1000000<amountP b.data.toList then(7:Int) else if amountP b.data.toList=0 then 3 else 0)=7):=if_pos h7
  clear h7
  go_enter Tryz.func201,Tryz.ntmps201
  go_wp2_with fail
  refine(cut_hit _ k _ hi (by show k<_;exact hk) (by show r.length≤1000000;omega)).mono ?_
  rw[HA.out,HB.out]
  rintro e w' ⟨rfl,n,rfl⟩
  go_wp2_with fail
  refine(allDigits_any _ _ has).mono ?_
  rw[show digsB a.data.toList=_ from d1];rintro e w' ⟨rfl,rfl⟩
  go_wp2_with fail
  refine(allDigits_any _ _ hbs).mono ?_
  rw[show digsB b.data.toList=_ from d2];rintro e w' ⟨rfl,rfl⟩
  go_wp2_with fail
  refine(amount_any _ _ has D1.out).mono ?_
  rintro e w' ⟨rfl,rfl⟩
  go_wp2_with fail
  refine(amount_any _ _ hbs D2.out).mono ?_
  rintro e w' ⟨rfl,rfl⟩
  go_wp2_with fail
  refine(numberFault_any _ _ _).mono ?_
  rw[hf.out];rintro e w' ⟨rfl,rfl⟩
  go_wp2_with fail
  refine bodyPost_ret (v:= .tuple #[tkV ⟨13,0,0,[],0,0,7⟩,.bool true]) (by simp[results,Tryz.results201,tkV,go_sem]) rfl ⟨?_,?_⟩
  ·rw[H.out];rfl
  ·(repeat (first|with_reducible refine Below.setCell ?_ (by simp) _|with_reducible refine below_drewN ?_ _|with_reducible refine Below.alloc ?_ (by simp) _));with_reducible exact Below.refl _ _
 by_cases h3:amountP b.data.toList=0
 ·have H:Hid _:=ab_3 (neg:=true) d1 d2 h7 h3
  have hf:Hid ((if 1000000<amountP a.data.toList∨1000000<amountP b.data.toList then(7:Int) else if amountP b.data.toList=0 then 3 else 0)=3):=by show _=_;rw[if_neg h7,if_pos h3]
  clear h7 h3
  go_enter Tryz.func201,Tryz.ntmps201
  go_wp2_with fail
  refine(cut_hit _ k _ hi (by show k<_;exact hk) (by show r.length≤1000000;omega)).mono ?_
  rw[HA.out,HB.out]
  rintro e w' ⟨rfl,n,rfl⟩
  go_wp2_with fail
  refine(allDigits_any _ _ has).mono ?_
  rw[show digsB a.data.toList=_ from d1];rintro e w' ⟨rfl,rfl⟩
  go_wp2_with fail
  refine(allDigits_any _ _ hbs).mono ?_
  rw[show digsB b.data.toList=_ from d2];rintro e w' ⟨rfl,rfl⟩
  go_wp2_with fail
  refine(amount_any _ _ has D1.out).mono ?_
  rintro e w' ⟨rfl,rfl⟩
  go_wp2_with fail
  refine(amount_any _ _ hbs D2.out).mono ?_
  rintro e w' ⟨rfl,rfl⟩
  go_wp2_with fail
  refine(numberFault_any _ _ _).mono ?_
  rw[hf.out];rintro e w' ⟨rfl,rfl⟩
  go_wp2_with fail
  refine bodyPost_ret (v:= .tuple #[tkV ⟨13,0,0,[],0,0,3⟩,.bool true]) (by simp[results,Tryz.results201,tkV,go_sem]) rfl ⟨?_,?_⟩
  ·rw[H.out];rfl
  ·(repeat (first|with_reducible refine Below.setCell ?_ (by simp) _|with_reducible refine below_drewN ?_ _|with_reducible refine Below.alloc ?_ (by simp) _));with_reducible exact Below.refl _ _
 ·have H:Hid _:=ab_0 (neg:=true) (m:=(-amountP a.data.toList)) (d:=amountP b.data.toList) d1 d2 h7 h3 rfl rfl
  have hf:Hid ((if 1000000<amountP a.data.toList∨1000000<amountP b.data.toList then(7:Int) else if amountP b.data.toList=0 then 3 else 0)=0):=by show _=_;rw[if_neg h7,if_neg h3]
  have t1:amountP a.data.toList≤1000000:=by omega
  have t2:1≤amountP b.data.toList:=by omega
  have t3:amountP b.data.toList≤1000000:=by omega
  clear h7 h3
  go_enter Tryz.func201,Tryz.ntmps201
  go_wp2_with fail
  refine(cut_hit _ k _ hi (by show k<_;exact hk) (by show r.length≤1000000;omega)).mono ?_
  rw[HA.out,HB.out]
  rintro e w' ⟨rfl,n,rfl⟩
  go_wp2_with fail
  refine(allDigits_any _ _ has).mono ?_
  rw[show digsB a.data.toList=_ from d1];rintro e w' ⟨rfl,rfl⟩
  go_wp2_with fail
  refine(allDigits_any _ _ hbs).mono ?_
  rw[show digsB b.data.toList=_ from d2];rintro e w' ⟨rfl,rfl⟩
  go_wp2_with fail
  refine(amount_any _ _ has D1.out).mono ?_
  rintro e w' ⟨rfl,rfl⟩
  go_wp2_with fail
  refine(amount_any _ _ hbs D2.out).mono ?_
  rintro e w' ⟨rfl,rfl⟩
  go_wp2_with fail
  refine(numberFault_any _ _ _).mono ?_
  rw[hf.out];rintro e w' ⟨rfl,rfl⟩
  go_wp2_with fail
  refine(ratioLowest_any _ _ _ (by omega) (by omega) (by omega) (by omega)).mono ?_
  rintro e w' ⟨rfl,m,rfl⟩
  go_wp2_with fail
  refine bodyPost_ret (v:= .tuple #[tkV ⟨13,0,0,[],(-amountP a.data.toList).tdiv (Int.gcd (-amountP a.data.toList) (amountP b.data.toList)),amountP b.data.toList/(Int.gcd (-amountP a.data.toList) (amountP b.data.toList)),0⟩,.bool true]) (by simp[results,Tryz.results201,tkV,go_sem]) rfl ⟨?_,?_⟩
  ·rw[H.out];rfl
  ·(repeat (first|with_reducible refine Below.setCell ?_ (by simp) _|with_reducible refine below_drewN ?_ _|with_reducible refine Below.alloc ?_ (by simp) _));with_reducible exact Below.refl _ _
set_option maxHeartbeats 4000000 in
theorem number_p0 (c:UInt8)(r:List UInt8)(w:World)(hs:r.length+1≤1000000)(hc:c.toNat=43)(hi:Lib.indexByte r 47=-1):
 Calls Tryz.prog 201 #[.string ⟨⟨c::r⟩⟩] w fun e w'=>e= .returned (.tuple #[tkV (numT (numAB false (⟨⟨r⟩⟩:ByteArray).data.toList (⟨#[49]⟩:ByteArray).data.toList)),.bool (numAB false (⟨⟨r⟩⟩:ByteArray).data.toList (⟨#[49]⟩:ByteArray).data.toList).isSome])∧Below w.heap.size w w':=by
 have hsz:(ByteArray.mk (Array.mk (c::r))).size=r.length+1:=rfl
 have hsz2:(ByteArray.mk (Array.mk r)).size=r.length:=rfl
 have q1:((c.toNat:Int)==45)=false:=by rw[beq_eq_false_iff_ne];omega
 have q2:=beq_u8 hc 43 rfl
 clear hc
 cases d1:digsB (⟨⟨r⟩⟩:ByteArray).data.toList
 ·have H:Hid _:=ab_none1 (neg:=false) (b:=(⟨#[49]⟩:ByteArray).data.toList) d1
  go_enter Tryz.func201,Tryz.ntmps201
  go_wp2_with fail
  refine(cut_miss _ _ hi).mono ?_
  rintro e w' ⟨rfl,n,rfl⟩
  go_wp2_with fail
  refine(allDigits_any _ _ (by show r.length≤1000000;omega)).mono ?_
  rw[show digsB (⟨⟨r⟩⟩:ByteArray).data.toList=_ from d1];rintro e w' ⟨rfl,rfl⟩
  go_wp2_with fail
  refine bodyPost_ret (v:= .tuple #[tkV ⟨0,0,0,[],0,0,0⟩,.bool false]) (by simp[results,Tryz.results201,tkV,go_sem]) rfl ⟨?_,?_⟩
  ·rw[H.out];rfl
  ·(repeat (first|with_reducible refine Below.setCell ?_ (by simp) _|with_reducible refine below_drewN ?_ _|with_reducible refine Below.alloc ?_ (by simp) _));with_reducible exact Below.refl _ _
 cases d2:digsB (⟨#[49]⟩:ByteArray).data.toList
 ·have H:Hid _:=ab_none2 (neg:=false) (a:=(⟨⟨r⟩⟩:ByteArray).data.toList) d2
  go_enter Tryz.func201,Tryz.ntmps201
  go_wp2_with fail
  refine(cut_miss _ _ hi).mono ?_
  rintro e w' ⟨rfl,n,rfl⟩
  go_wp2_with fail
  refine(allDigits_any _ _ (by show r.length≤1000000;omega)).mono ?_
  rw[show digsB (⟨⟨r⟩⟩:ByteArray).data.toList=_ from d1];rintro e w' ⟨rfl,rfl⟩
  go_wp2_with fail
  refine(allDigits_any _ _ (by decide)).mono ?_
  rw[show digsB (⟨#[49]⟩:ByteArray).data.toList=_ from d2];rintro e w' ⟨rfl,rfl⟩
  go_wp2_with fail
  refine bodyPost_ret (v:= .tuple #[tkV ⟨0,0,0,[],0,0,0⟩,.bool false]) (by simp[results,Tryz.results201,tkV,go_sem]) rfl ⟨?_,?_⟩
  ·rw[H.out];rfl
  ·(repeat (first|with_reducible refine Below.setCell ?_ (by simp) _|with_reducible refine below_drewN ?_ _|with_reducible refine Below.alloc ?_ (by simp) _));with_reducible exact Below.refl _ _
 obtain⟨n1,n2⟩:=amountP_bd d1
 obtain⟨m1,m2⟩:=amountP_bd d2
 have D1:Hid _:=digs_all d1
 have D2:Hid _:=digs_all d2
 by_cases h7:1000000<amountP (⟨⟨r⟩⟩:ByteArray).data.toList∨1000000<amountP (⟨#[49]⟩:ByteArray).data.toList
 ·have H:Hid _:=ab_7 (neg:=false) d1 d2 h7
  have hf:Hid ((if 1000000<amountP (⟨⟨r⟩⟩:ByteArray).data.toList∨1000000<amountP (⟨#[49]⟩:ByteArray).data.toList then(7:Int) else if amountP (⟨#[49]⟩:ByteArray).data.toList=0 then 3 else 0)=7):=if_pos h7
  clear h7
  go_enter Tryz.func201,Tryz.ntmps201
  go_wp2_with fail
  refine(cut_miss _ _ hi).mono ?_
  rintro e w' ⟨rfl,n,rfl⟩
  go_wp2_with fail
  refine(allDigits_any _ _ (by show r.length≤1000000;omega)).mono ?_
  rw[show digsB (⟨⟨r⟩⟩:ByteArray).data.toList=_ from d1];rintro e w' ⟨rfl,rfl⟩
  go_wp2_with fail
  refine(allDigits_any _ _ (by decide)).mono ?_
  rw[show digsB (⟨#[49]⟩:ByteArray).data.toList=_ from d2];rintro e w' ⟨rfl,rfl⟩
  go_wp2_with fail
  refine(amount_any _ _ (by show r.length≤1000000;omega) D1.out).mono ?_
  rintro e w' ⟨rfl,rfl⟩
  go_wp2_with fail
  refine(amount_any _ _ (by decide) D2.out).mono ?_
  rintro e w' ⟨rfl,rfl⟩
  go_wp2_with fail
  refine(numberFault_any _ _ _).mono ?_
  rw[hf.out];rintro e w' ⟨rfl,rfl⟩
  go_wp2_with fail
  refine bodyPost_ret (v:= .tuple #[tkV ⟨13,0,0,[],0,0,7⟩,.bool true]) (by simp[results,Tryz.results201,tkV,go_sem]) rfl ⟨?_,?_⟩
  ·rw[H.out];rfl
  ·(repeat (first|with_reducible refine Below.setCell ?_ (by simp) _|with_reducible refine below_drewN ?_ _|with_reducible refine Below.alloc ?_ (by simp) _));with_reducible exact Below.refl _ _
 by_cases h3:amountP (⟨#[49]⟩:ByteArray).data.toList=0
 ·have H:Hid _:=ab_3 (neg:=false) d1 d2 h7 h3
  have hf:Hid ((if 1000000<amountP (⟨⟨r⟩⟩:ByteArray).data.toList∨1000000<amountP (⟨#[49]⟩:ByteArray).data.toList then(7:Int) else if amountP (⟨#[49]⟩:ByteArray).data.toList=0 then 3 else 0)=3):=by show _=_;rw[if_neg h7,if_pos h3]
  clear h7 h3
  go_enter Tryz.func201,Tryz.ntmps201
  go_wp2_with fail
  refine(cut_miss _ _ hi).mono ?_
  rintro e w' ⟨rfl,n,rfl⟩
  go_wp2_with fail
  refine(allDigits_any _ _ (by show r.length≤1000000;omega)).mono ?_
  rw[show digsB (⟨⟨r⟩⟩:ByteArray).data.toList=_ from d1];rintro e w' ⟨rfl,rfl⟩
  go_wp2_with fail
  refine(allDigits_any _ _ (by decide)).mono ?_
  rw[show digsB (⟨#[49]⟩:ByteArray).data.toList=_ from d2];rintro e w' ⟨rfl,rfl⟩
  go_wp2_with fail
  refine(amount_any _ _ (by show r.length≤1000000;omega) D1.out).mono ?_
  rintro e w' ⟨rfl,rfl⟩
  go_wp2_with fail
  refine(amount_any _ _ (by decide) D2.out).mono ?_
  rintro e w' ⟨rfl,rfl⟩
  go_wp2_with fail
  refine(numberFault_any _ _ _).mono ?_
  rw[hf.out];rintro e w' ⟨rfl,rfl⟩
  go_wp2_with fail
  refine bodyPost_ret (v:= .tuple #[tkV ⟨13,0,0,[],0,0,3⟩,.bool true]) (by simp[results,Tryz.results201,tkV,go_sem]) rfl ⟨?_,?_⟩
  ·rw[H.out];rfl
  ·(repeat (first|with_reducible refine Below.setCell ?_ (by simp) _|with_reducible refine below_drewN ?_ _|with_reducible refine Below.alloc ?_ (by simp) _));with_reducible exact Below.refl _ _
 ·have H:Hid _:=ab_0 (neg:=false) (m:=(amountP (⟨⟨r⟩⟩:ByteArray).data.toList)) (d:=amountP (⟨#[49]⟩:ByteArray).data.toList) d1 d2 h7 h3 rfl rfl
  have hf:Hid ((if 1000000<amountP (⟨⟨r⟩⟩:ByteArray).data.toList∨1000000<amountP (⟨#[49]⟩:ByteArray).data.toList then(7:Int) else if amountP (⟨#[49]⟩:ByteArray).data.toList=0 then 3 else 0)=0):=by show _=_;rw[if_neg h7,if_neg h3]
  have t1:amountP (⟨⟨r⟩⟩:ByteArray).data.toList≤1000000:=by omega
  have t2:1≤amountP (⟨#[49]⟩:ByteArray).data.toList:=by omega
  have t3:amountP (⟨#[49]⟩:ByteArray).data.toList≤1000000:=by omega
  clear h7 h3
  go_enter Tryz.func201,Tryz.ntmps201
  go_wp2_with fail
  refine(cut_miss _ _ hi).mono ?_
  rintro e w' ⟨rfl,n,rfl⟩
  go_wp2_with fail
  refine(allDigits_any _ _ (by show r.length≤1000000;omega)).mono ?_
  rw[show digsB (⟨⟨r⟩⟩:ByteArray).data.toList=_ from d1];rintro e w' ⟨rfl,rfl⟩
  go_wp2_with fail
  refine(allDigits_any _ _ (by decide)).mono ?_
  rw[show digsB (⟨#[49]⟩:ByteArray).data.toList=_ from d2];rintro e w' ⟨rfl,rfl⟩
  go_wp2_with fail
  refine(amount_any _ _ (by show r.length≤1000000;omega) D1.out).mono ?_
  rintro e w' ⟨rfl,rfl⟩
  go_wp2_with fail
  refine(amount_any _ _ (by decide) D2.out).mono ?_
  rintro e w' ⟨rfl,rfl⟩
  go_wp2_with fail
  refine(numberFault_any _ _ _).mono ?_
  rw[hf.out];rintro e w' ⟨rfl,rfl⟩
  go_wp2_with fail
  refine(ratioLowest_any _ _ _ (by omega) (by omega) (by omega) (by omega)).mono ?_
  rintro e w' ⟨rfl,m,rfl⟩
  go_wp2_with fail
  refine bodyPost_ret (v:= .tuple #[tkV ⟨13,0,0,[],(amountP (⟨⟨r⟩⟩:ByteArray).data.toList).tdiv (Int.gcd (amountP (⟨⟨r⟩⟩:ByteArray).data.toList) (amountP (⟨#[49]⟩:ByteArray).data.toList)),amountP (⟨#[49]⟩:ByteArray).data.toList / (Int.gcd (amountP (⟨⟨r⟩⟩:ByteArray).data.toList) (amountP (⟨#[49]⟩:ByteArray).data.toList)),0⟩,.bool true]) (by simp[results,Tryz.results201,tkV,go_sem]) rfl ⟨?_,?_⟩
  ·rw[H.out];rfl
  ·(repeat (first|with_reducible refine Below.setCell ?_ (by simp) _|with_reducible refine below_drewN ?_ _|with_reducible refine Below.alloc ?_ (by simp) _));with_reducible exact Below.refl _ _
set_option maxHeartbeats 4000000 in
theorem number_p1 (c:UInt8)(r:List UInt8)(w:World)(hs:r.length+1≤1000000)(hc:c.toNat=43)(k:Nat)(hi:Lib.indexByte r 47=(k:Int))(hk:k<r.length)(a b:ByteArray)(ha:(⟨⟨r⟩⟩:ByteArray).extract 0 k=a)(hb:(⟨⟨r⟩⟩:ByteArray).extract (k+1) (⟨⟨r⟩⟩:ByteArray).size=b)(has:a.size≤1000000)(hbs:b.size≤1000000):
 Calls Tryz.prog 201 #[.string ⟨⟨c::r⟩⟩] w fun e w'=>e= .returned (.tuple #[tkV (numT (numAB false a.data.toList b.data.toList)),.bool (numAB false a.data.toList b.data.toList).isSome])∧Below w.heap.size w w':=by
 have hsz:(ByteArray.mk (Array.mk (c::r))).size=r.length+1:=rfl
 have hsz2:(ByteArray.mk (Array.mk r)).size=r.length:=rfl
 have q1:((c.toNat:Int)==45)=false:=by rw[beq_eq_false_iff_ne];omega
 have q2:=beq_u8 hc 43 rfl
 clear hc
 have HA:Hid _:=ha
 have HB:Hid _:=hb
 clear ha hb
 cases d1:digsB a.data.toList
 ·have H:Hid _:=ab_none1 (neg:=false) (b:=b.data.toList) d1
  go_enter Tryz.func201,Tryz.ntmps201
  go_wp2_with fail
  refine(cut_hit _ k _ hi (by show k<_;exact hk) (by show r.length≤1000000;omega)).mono ?_
  rw[HA.out,HB.out]
  rintro e w' ⟨rfl,n,rfl⟩
  go_wp2_with fail
  refine(allDigits_any _ _ has).mono ?_
  rw[show digsB a.data.toList=_ from d1];rintro e w' ⟨rfl,rfl⟩
  go_wp2_with fail
  refine bodyPost_ret (v:= .tuple #[tkV ⟨0,0,0,[],0,0,0⟩,.bool false]) (by simp[results,Tryz.results201,tkV,go_sem]) rfl ⟨?_,?_⟩
  ·rw[H.out];rfl
  ·(repeat (first|with_reducible refine Below.setCell ?_ (by simp) _|with_reducible refine below_drewN ?_ _|with_reducible refine Below.alloc ?_ (by simp) _));with_reducible exact Below.refl _ _
 cases d2:digsB b.data.toList
 ·have H:Hid _:=ab_none2 (neg:=false) (a:=a.data.toList) d2
  go_enter Tryz.func201,Tryz.ntmps201
  go_wp2_with fail
  refine(cut_hit _ k _ hi (by show k<_;exact hk) (by show r.length≤1000000;omega)).mono ?_
  rw[HA.out,HB.out]
  rintro e w' ⟨rfl,n,rfl⟩
  go_wp2_with fail
  refine(allDigits_any _ _ has).mono ?_
  rw[show digsB a.data.toList=_ from d1];rintro e w' ⟨rfl,rfl⟩
  go_wp2_with fail
  refine(allDigits_any _ _ hbs).mono ?_
  rw[show digsB b.data.toList=_ from d2];rintro e w' ⟨rfl,rfl⟩
  go_wp2_with fail
  refine bodyPost_ret (v:= .tuple #[tkV ⟨0,0,0,[],0,0,0⟩,.bool false]) (by simp[results,Tryz.results201,tkV,go_sem]) rfl ⟨?_,?_⟩
  ·rw[H.out];rfl
  ·(repeat (first|with_reducible refine Below.setCell ?_ (by simp) _|with_reducible refine below_drewN ?_ _|with_reducible refine Below.alloc ?_ (by simp) _));with_reducible exact Below.refl _ _
 obtain⟨n1,n2⟩:=amountP_bd d1
 obtain⟨m1,m2⟩:=amountP_bd d2
 have D1:Hid _:=digs_all d1
 have D2:Hid _:=digs_all d2
 by_cases h7:1000000<amountP a.data.toList∨1000000<amountP b.data.toList
 ·have H:Hid _:=ab_7 (neg:=false) d1 d2 h7
  have hf:Hid ((if 1000000<amountP a.data.toList∨1000000<amountP b.data.toList then(7:Int) else if amountP b.data.toList=0 then 3 else 0)=7):=if_pos h7
  clear h7
  go_enter Tryz.func201,Tryz.ntmps201
  go_wp2_with fail
  refine(cut_hit _ k _ hi (by show k<_;exact hk) (by show r.length≤1000000;omega)).mono ?_
  rw[HA.out,HB.out]
  rintro e w' ⟨rfl,n,rfl⟩
  go_wp2_with fail
  refine(allDigits_any _ _ has).mono ?_
  rw[show digsB a.data.toList=_ from d1];rintro e w' ⟨rfl,rfl⟩
  go_wp2_with fail
  refine(allDigits_any _ _ hbs).mono ?_
  rw[show digsB b.data.toList=_ from d2];rintro e w' ⟨rfl,rfl⟩
  go_wp2_with fail
  refine(amount_any _ _ has D1.out).mono ?_
  rintro e w' ⟨rfl,rfl⟩
  go_wp2_with fail
  refine(amount_any _ _ hbs D2.out).mono ?_
  rintro e w' ⟨rfl,rfl⟩
  go_wp2_with fail
  refine(numberFault_any _ _ _).mono ?_
  rw[hf.out];rintro e w' ⟨rfl,rfl⟩
  go_wp2_with fail
  refine bodyPost_ret (v:= .tuple #[tkV ⟨13,0,0,[],0,0,7⟩,.bool true]) (by simp[results,Tryz.results201,tkV,go_sem]) rfl ⟨?_,?_⟩
  ·rw[H.out];rfl
  ·(repeat (first|with_reducible refine Below.setCell ?_ (by simp) _|with_reducible refine below_drewN ?_ _|with_reducible refine Below.alloc ?_ (by simp) _));with_reducible exact Below.refl _ _
 by_cases h3:amountP b.data.toList=0
 ·have H:Hid _:=ab_3 (neg:=false) d1 d2 h7 h3
  have hf:Hid ((if 1000000<amountP a.data.toList∨1000000<amountP b.data.toList then(7:Int) else if amountP b.data.toList=0 then 3 else 0)=3):=by show _=_;rw[if_neg h7,if_pos h3]
  clear h7 h3
  go_enter Tryz.func201,Tryz.ntmps201
  go_wp2_with fail
  refine(cut_hit _ k _ hi (by show k<_;exact hk) (by show r.length≤1000000;omega)).mono ?_
  rw[HA.out,HB.out]
  rintro e w' ⟨rfl,n,rfl⟩
  go_wp2_with fail
  refine(allDigits_any _ _ has).mono ?_
  rw[show digsB a.data.toList=_ from d1];rintro e w' ⟨rfl,rfl⟩
  go_wp2_with fail
  refine(allDigits_any _ _ hbs).mono ?_
  rw[show digsB b.data.toList=_ from d2];rintro e w' ⟨rfl,rfl⟩
  go_wp2_with fail
  refine(amount_any _ _ has D1.out).mono ?_
  rintro e w' ⟨rfl,rfl⟩
  go_wp2_with fail
  refine(amount_any _ _ hbs D2.out).mono ?_
  rintro e w' ⟨rfl,rfl⟩
  go_wp2_with fail
  refine(numberFault_any _ _ _).mono ?_
  rw[hf.out];rintro e w' ⟨rfl,rfl⟩
  go_wp2_with fail
  refine bodyPost_ret (v:= .tuple #[tkV ⟨13,0,0,[],0,0,3⟩,.bool true]) (by simp[results,Tryz.results201,tkV,go_sem]) rfl ⟨?_,?_⟩
  ·rw[H.out];rfl
  ·(repeat (first|with_reducible refine Below.setCell ?_ (by simp) _|with_reducible refine below_drewN ?_ _|with_reducible refine Below.alloc ?_ (by simp) _));with_reducible exact Below.refl _ _
 ·have H:Hid _:=ab_0 (neg:=false) (m:=(amountP a.data.toList)) (d:=amountP b.data.toList) d1 d2 h7 h3 rfl rfl
  have hf:Hid ((if 1000000<amountP a.data.toList∨1000000<amountP b.data.toList then(7:Int) else if amountP b.data.toList=0 then 3 else 0)=0):=by show _=_;rw[if_neg h7,if_neg h3]
  have t1:amountP a.data.toList≤1000000:=by omega
  have t2:1≤amountP b.data.toList:=by omega
  have t3:amountP b.data.toList≤1000000:=by omega
  clear h7 h3
  go_enter Tryz.func201,Tryz.ntmps201
  go_wp2_with fail
  refine(cut_hit _ k _ hi (by show k<_;exact hk) (by show r.length≤1000000;omega)).mono ?_
  rw[HA.out,HB.out]
  rintro e w' ⟨rfl,n,rfl⟩
  go_wp2_with fail
  refine(allDigits_any _ _ has).mono ?_
  rw[show digsB a.data.toList=_ from d1];rintro e w' ⟨rfl,rfl⟩
  go_wp2_with fail
  refine(allDigits_any _ _ hbs).mono ?_
  rw[show digsB b.data.toList=_ from d2];rintro e w' ⟨rfl,rfl⟩
  go_wp2_with fail
  refine(amount_any _ _ has D1.out).mono ?_
  rintro e w' ⟨rfl,rfl⟩
  go_wp2_with fail
  refine(amount_any _ _ hbs D2.out).mono ?_
  rintro e w' ⟨rfl,rfl⟩
  go_wp2_with fail
  refine(numberFault_any _ _ _).mono ?_
  rw[hf.out];rintro e w' ⟨rfl,rfl⟩
  go_wp2_with fail
  refine(ratioLowest_any _ _ _ (by omega) (by omega) (by omega) (by omega)).mono ?_
  rintro e w' ⟨rfl,m,rfl⟩
  go_wp2_with fail
  refine bodyPost_ret (v:= .tuple #[tkV ⟨13,0,0,[],(amountP a.data.toList).tdiv (Int.gcd (amountP a.data.toList) (amountP b.data.toList)),amountP b.data.toList/(Int.gcd (amountP a.data.toList) (amountP b.data.toList)),0⟩,.bool true]) (by simp[results,Tryz.results201,tkV,go_sem]) rfl ⟨?_,?_⟩
  ·rw[H.out];rfl
  ·(repeat (first|with_reducible refine Below.setCell ?_ (by simp) _|with_reducible refine below_drewN ?_ _|with_reducible refine Below.alloc ?_ (by simp) _));with_reducible exact Below.refl _ _
set_option maxHeartbeats 4000000 in
theorem number_n0 (c:UInt8)(r:List UInt8)(w:World)(hs:r.length+1≤1000000)(h45:¬ c.toNat=45)(h43:¬ c.toNat=43)(hi:Lib.indexByte (c::r) 47=-1):
 Calls Tryz.prog 201 #[.string ⟨⟨c::r⟩⟩] w fun e w'=>e= .returned (.tuple #[tkV (numT (numAB false (⟨⟨c::r⟩⟩:ByteArray).data.toList (⟨#[49]⟩:ByteArray).data.toList)),.bool (numAB false (⟨⟨c::r⟩⟩:ByteArray).data.toList (⟨#[49]⟩:ByteArray).data.toList).isSome])∧Below w.heap.size w w':=by
 have hsz:(ByteArray.mk (Array.mk (c::r))).size=r.length+1:=rfl
 have hsz2:(ByteArray.mk (Array.mk r)).size=r.length:=rfl
 have q1:=beq_u8f h45 45 rfl
 have q2:=beq_u8f h43 43 rfl
 clear h45 h43
 cases d1:digsB (⟨⟨c::r⟩⟩:ByteArray).data.toList
 ·have H:Hid _:=ab_none1 (neg:=false) (b:=(⟨#[49]⟩:ByteArray).data.toList) d1
  go_enter Tryz.func201,Tryz.ntmps201
  go_wp2_with fail
  refine(cut_miss _ _ hi).mono ?_
  rintro e w' ⟨rfl,n,rfl⟩
  go_wp2_with fail
  refine(allDigits_any _ _ (by show(c::r).length≤1000000;simp;omega)).mono ?_
  rw[show digsB (⟨⟨c::r⟩⟩:ByteArray).data.toList=_ from d1];rintro e w' ⟨rfl,rfl⟩
  go_wp2_with fail
  refine bodyPost_ret (v:= .tuple #[tkV ⟨0,0,0,[],0,0,0⟩,.bool false]) (by simp[results,Tryz.results201,tkV,go_sem]) rfl ⟨?_,?_⟩
  ·rw[H.out];rfl
  ·(repeat (first|with_reducible refine Below.setCell ?_ (by simp) _|with_reducible refine below_drewN ?_ _|with_reducible refine Below.alloc ?_ (by simp) _));with_reducible exact Below.refl _ _
 cases d2:digsB (⟨#[49]⟩:ByteArray).data.toList
 ·have H:Hid _:=ab_none2 (neg:=false) (a:=(⟨⟨c::r⟩⟩:ByteArray).data.toList) d2
  go_enter Tryz.func201,Tryz.ntmps201
  go_wp2_with fail
  refine(cut_miss _ _ hi).mono ?_
  rintro e w' ⟨rfl,n,rfl⟩
  go_wp2_with fail
  refine(allDigits_any _ _ (by show(c::r).length≤1000000;simp;omega)).mono ?_
  rw[show digsB (⟨⟨c::r⟩⟩:ByteArray).data.toList=_ from d1];rintro e w' ⟨rfl,rfl⟩
  go_wp2_with fail
  refine(allDigits_any _ _ (by decide)).mono ?_
  rw[show digsB (⟨#[49]⟩:ByteArray).data.toList=_ from d2];rintro e w' ⟨rfl,rfl⟩
  go_wp2_with fail
  refine bodyPost_ret (v:= .tuple #[tkV ⟨0,0,0,[],0,0,0⟩,.bool false]) (by simp[results,Tryz.results201,tkV,go_sem]) rfl ⟨?_,?_⟩
  ·rw[H.out];rfl
  ·(repeat (first|with_reducible refine Below.setCell ?_ (by simp) _|with_reducible refine below_drewN ?_ _|with_reducible refine Below.alloc ?_ (by simp) _));with_reducible exact Below.refl _ _
 obtain⟨n1,n2⟩:=amountP_bd d1
 obtain⟨m1,m2⟩:=amountP_bd d2
 have D1:Hid _:=digs_all d1
 have D2:Hid _:=digs_all d2
 by_cases h7:1000000<amountP (⟨⟨c::r⟩⟩:ByteArray).data.toList∨1000000<amountP (⟨#[49]⟩:ByteArray).data.toList
 ·have H:Hid _:=ab_7 (neg:=false) d1 d2 h7
  have hf:Hid ((if 1000000<amountP (⟨⟨c::r⟩⟩:ByteArray).data.toList∨1000000<amountP (⟨#[49]⟩:ByteArray).data.toList then(7:Int) else if amountP (⟨#[49]⟩:ByteArray).data.toList=0 then 3 else 0)=7):=if_pos h7
  clear h7
  go_enter Tryz.func201,Tryz.ntmps201
  go_wp2_with fail
  refine(cut_miss _ _ hi).mono ?_
  rintro e w' ⟨rfl,n,rfl⟩
  go_wp2_with fail
  refine(allDigits_any _ _ (by show(c::r).length≤1000000;simp;omega)).mono ?_
  rw[show digsB (⟨⟨c::r⟩⟩:ByteArray).data.toList=_ from d1];rintro e w' ⟨rfl,rfl⟩
  go_wp2_with fail
  refine(allDigits_any _ _ (by decide)).mono ?_
  rw[show digsB (⟨#[49]⟩:ByteArray).data.toList=_ from d2];rintro e w' ⟨rfl,rfl⟩
  go_wp2_with fail
  refine(amount_any _ _ (by show(c::r).length≤1000000;simp;omega) D1.out).mono ?_
  rintro e w' ⟨rfl,rfl⟩
  go_wp2_with fail
  refine(amount_any _ _ (by decide) D2.out).mono ?_
  rintro e w' ⟨rfl,rfl⟩
  go_wp2_with fail
  refine(numberFault_any _ _ _).mono ?_
  rw[hf.out];rintro e w' ⟨rfl,rfl⟩
  go_wp2_with fail
  refine bodyPost_ret (v:= .tuple #[tkV ⟨13,0,0,[],0,0,7⟩,.bool true]) (by simp[results,Tryz.results201,tkV,go_sem]) rfl ⟨?_,?_⟩
  ·rw[H.out];rfl
  ·(repeat (first|with_reducible refine Below.setCell ?_ (by simp) _|with_reducible refine below_drewN ?_ _|with_reducible refine Below.alloc ?_ (by simp) _));with_reducible exact Below.refl _ _
 by_cases h3:amountP (⟨#[49]⟩:ByteArray).data.toList=0
 ·have H:Hid _:=ab_3 (neg:=false) d1 d2 h7 h3
  have hf:Hid ((if 1000000<amountP (⟨⟨c::r⟩⟩:ByteArray).data.toList∨1000000<amountP (⟨#[49]⟩:ByteArray).data.toList then(7:Int) else if amountP (⟨#[49]⟩:ByteArray).data.toList=0 then 3 else 0)=3):=by show _=_;rw[if_neg h7,if_pos h3]
  clear h7 h3
  go_enter Tryz.func201,Tryz.ntmps201
  go_wp2_with fail
  refine(cut_miss _ _ hi).mono ?_
  rintro e w' ⟨rfl,n,rfl⟩
  go_wp2_with fail
  refine(allDigits_any _ _ (by show(c::r).length≤1000000;simp;omega)).mono ?_
  rw[show digsB (⟨⟨c::r⟩⟩:ByteArray).data.toList=_ from d1];rintro e w' ⟨rfl,rfl⟩
  go_wp2_with fail
  refine(allDigits_any _ _ (by decide)).mono ?_
  rw[show digsB (⟨#[49]⟩:ByteArray).data.toList=_ from d2];rintro e w' ⟨rfl,rfl⟩
  go_wp2_with fail
  refine(amount_any _ _ (by show(c::r).length≤1000000;simp;omega) D1.out).mono ?_
  rintro e w' ⟨rfl,rfl⟩
  go_wp2_with fail
  refine(amount_any _ _ (by decide) D2.out).mono ?_
  rintro e w' ⟨rfl,rfl⟩
  go_wp2_with fail
  refine(numberFault_any _ _ _).mono ?_
  rw[hf.out];rintro e w' ⟨rfl,rfl⟩
  go_wp2_with fail
  refine bodyPost_ret (v:= .tuple #[tkV ⟨13,0,0,[],0,0,3⟩,.bool true]) (by simp[results,Tryz.results201,tkV,go_sem]) rfl ⟨?_,?_⟩
  ·rw[H.out];rfl
  ·(repeat (first|with_reducible refine Below.setCell ?_ (by simp) _|with_reducible refine below_drewN ?_ _|with_reducible refine Below.alloc ?_ (by simp) _));with_reducible exact Below.refl _ _
 ·have H:Hid _:=ab_0 (neg:=false) (m:=(amountP (⟨⟨c::r⟩⟩:ByteArray).data.toList)) (d:=amountP (⟨#[49]⟩:ByteArray).data.toList) d1 d2 h7 h3 rfl rfl
  have hf:Hid ((if 1000000<amountP (⟨⟨c::r⟩⟩:ByteArray).data.toList∨1000000<amountP (⟨#[49]⟩:ByteArray).data.toList then(7:Int) else if amountP (⟨#[49]⟩:ByteArray).data.toList=0 then 3 else 0)=0):=by show _=_;rw[if_neg h7,if_neg h3]
  have t1:amountP (⟨⟨c::r⟩⟩:ByteArray).data.toList≤1000000:=by omega
  have t2:1≤amountP (⟨#[49]⟩:ByteArray).data.toList:=by omega
  have t3:amountP (⟨#[49]⟩:ByteArray).data.toList≤1000000:=by omega
  clear h7 h3
  go_enter Tryz.func201,Tryz.ntmps201
  go_wp2_with fail
  refine(cut_miss _ _ hi).mono ?_
  rintro e w' ⟨rfl,n,rfl⟩
  go_wp2_with fail
  refine(allDigits_any _ _ (by show(c::r).length≤1000000;simp;omega)).mono ?_
  rw[show digsB (⟨⟨c::r⟩⟩:ByteArray).data.toList=_ from d1];rintro e w' ⟨rfl,rfl⟩
  go_wp2_with fail
  refine(allDigits_any _ _ (by decide)).mono ?_
  rw[show digsB (⟨#[49]⟩:ByteArray).data.toList=_ from d2];rintro e w' ⟨rfl,rfl⟩
  go_wp2_with fail
  refine(amount_any _ _ (by show(c::r).length≤1000000;simp;omega) D1.out).mono ?_
  rintro e w' ⟨rfl,rfl⟩
  go_wp2_with fail
  refine(amount_any _ _ (by decide) D2.out).mono ?_
  rintro e w' ⟨rfl,rfl⟩
  go_wp2_with fail
  refine(numberFault_any _ _ _).mono ?_
  rw[hf.out];rintro e w' ⟨rfl,rfl⟩
  go_wp2_with fail
  refine(ratioLowest_any _ _ _ (by omega) (by omega) (by omega) (by omega)).mono ?_
  rintro e w' ⟨rfl,m,rfl⟩
  go_wp2_with fail
  refine bodyPost_ret (v:= .tuple #[tkV ⟨13,0,0,[],(amountP (⟨⟨c::r⟩⟩:ByteArray).data.toList).tdiv (Int.gcd (amountP (⟨⟨c::r⟩⟩:ByteArray).data.toList) (amountP (⟨#[49]⟩:ByteArray).data.toList)),amountP (⟨#[49]⟩:ByteArray).data.toList / (Int.gcd (amountP (⟨⟨c::r⟩⟩:ByteArray).data.toList) (amountP (⟨#[49]⟩:ByteArray).data.toList)),0⟩,.bool true]) (by simp[results,Tryz.results201,tkV,go_sem]) rfl ⟨?_,?_⟩
  ·rw[H.out];rfl
  ·(repeat (first|with_reducible refine Below.setCell ?_ (by simp) _|with_reducible refine below_drewN ?_ _|with_reducible refine Below.alloc ?_ (by simp) _));with_reducible exact Below.refl _ _
set_option maxHeartbeats 4000000 in
theorem number_n1 (c:UInt8)(r:List UInt8)(w:World)(hs:r.length+1≤1000000)(h45:¬ c.toNat=45)(h43:¬ c.toNat=43)(k:Nat)(hi:Lib.indexByte (c::r) 47=(k:Int))(hk:k<(c::r).length)(a b:ByteArray)(ha:(⟨⟨c::r⟩⟩:ByteArray).extract 0 k=a)(hb:(⟨⟨c::r⟩⟩:ByteArray).extract (k+1) (⟨⟨c::r⟩⟩:ByteArray).size=b)(has:a.size≤1000000)(hbs:b.size≤1000000):
 Calls Tryz.prog 201 #[.string ⟨⟨c::r⟩⟩] w fun e w'=>e= .returned (.tuple #[tkV (numT (numAB false a.data.toList b.data.toList)),.bool (numAB false a.data.toList b.data.toList).isSome])∧Below w.heap.size w w':=by
 have hsz:(ByteArray.mk (Array.mk (c::r))).size=r.length+1:=rfl
 have hsz2:(ByteArray.mk (Array.mk r)).size=r.length:=rfl
 have q1:=beq_u8f h45 45 rfl
 have q2:=beq_u8f h43 43 rfl
 clear h45 h43
 have HA:Hid _:=ha
 have HB:Hid _:=hb
 clear ha hb
 cases d1:digsB a.data.toList
 ·have H:Hid _:=ab_none1 (neg:=false) (b:=b.data.toList) d1
  go_enter Tryz.func201,Tryz.ntmps201
  go_wp2_with fail
  refine(cut_hit _ k _ hi (by show k<_;exact hk) (by show(c::r).length≤1000000;simp;omega)).mono ?_
  rw[HA.out,HB.out]
  rintro e w' ⟨rfl,n,rfl⟩
  go_wp2_with fail
  refine(allDigits_any _ _ has).mono ?_
  rw[show digsB a.data.toList=_ from d1];rintro e w' ⟨rfl,rfl⟩
  go_wp2_with fail
  refine bodyPost_ret (v:= .tuple #[tkV ⟨0,0,0,[],0,0,0⟩,.bool false]) (by simp[results,Tryz.results201,tkV,go_sem]) rfl ⟨?_,?_⟩
  ·rw[H.out];rfl
  ·(repeat (first|with_reducible refine Below.setCell ?_ (by simp) _|with_reducible refine below_drewN ?_ _|with_reducible refine Below.alloc ?_ (by simp) _));with_reducible exact Below.refl _ _
 cases d2:digsB b.data.toList
 ·have H:Hid _:=ab_none2 (neg:=false) (a:=a.data.toList) d2
  go_enter Tryz.func201,Tryz.ntmps201
  go_wp2_with fail
  refine(cut_hit _ k _ hi (by show k<_;exact hk) (by show(c::r).length≤1000000;simp;omega)).mono ?_
  rw[HA.out,HB.out]
  rintro e w' ⟨rfl,n,rfl⟩
  go_wp2_with fail
  refine(allDigits_any _ _ has).mono ?_
  rw[show digsB a.data.toList=_ from d1];rintro e w' ⟨rfl,rfl⟩
  go_wp2_with fail
  refine(allDigits_any _ _ hbs).mono ?_
  rw[show digsB b.data.toList=_ from d2];rintro e w' ⟨rfl,rfl⟩
  go_wp2_with fail
  refine bodyPost_ret (v:= .tuple #[tkV ⟨0,0,0,[],0,0,0⟩,.bool false]) (by simp[results,Tryz.results201,tkV,go_sem]) rfl ⟨?_,?_⟩
  ·rw[H.out];rfl
  ·(repeat (first|with_reducible refine Below.setCell ?_ (by simp) _|with_reducible refine below_drewN ?_ _|with_reducible refine Below.alloc ?_ (by simp) _));with_reducible exact Below.refl _ _
 obtain⟨n1,n2⟩:=amountP_bd d1
 obtain⟨m1,m2⟩:=amountP_bd d2
 have D1:Hid _:=digs_all d1
 have D2:Hid _:=digs_all d2
 by_cases h7:1000000<amountP a.data.toList∨1000000<amountP b.data.toList
 ·have H:Hid _:=ab_7 (neg:=false) d1 d2 h7
  have hf:Hid ((if 1000000<amountP a.data.toList∨1000000<amountP b.data.toList then(7:Int) else if amountP b.data.toList=0 then 3 else 0)=7):=if_pos h7
  clear h7
  go_enter Tryz.func201,Tryz.ntmps201
  go_wp2_with fail
  refine(cut_hit _ k _ hi (by show k<_;exact hk) (by show(c::r).length≤1000000;simp;omega)).mono ?_
  rw[HA.out,HB.out]
  rintro e w' ⟨rfl,n,rfl⟩
  go_wp2_with fail
  refine(allDigits_any _ _ has).mono ?_
  rw[show digsB a.data.toList=_ from d1];rintro e w' ⟨rfl,rfl⟩
  go_wp2_with fail
  refine(allDigits_any _ _ hbs).mono ?_
  rw[show digsB b.data.toList=_ from d2];rintro e w' ⟨rfl,rfl⟩
  go_wp2_with fail
  refine(amount_any _ _ has D1.out).mono ?_
  rintro e w' ⟨rfl,rfl⟩
  go_wp2_with fail
  refine(amount_any _ _ hbs D2.out).mono ?_
  rintro e w' ⟨rfl,rfl⟩
  go_wp2_with fail
  refine(numberFault_any _ _ _).mono ?_
  rw[hf.out];rintro e w' ⟨rfl,rfl⟩
  go_wp2_with fail
  refine bodyPost_ret (v:= .tuple #[tkV ⟨13,0,0,[],0,0,7⟩,.bool true]) (by simp[results,Tryz.results201,tkV,go_sem]) rfl ⟨?_,?_⟩
  ·rw[H.out];rfl
  ·(repeat (first|with_reducible refine Below.setCell ?_ (by simp) _|with_reducible refine below_drewN ?_ _|with_reducible refine Below.alloc ?_ (by simp) _));with_reducible exact Below.refl _ _
 by_cases h3:amountP b.data.toList=0
 ·have H:Hid _:=ab_3 (neg:=false) d1 d2 h7 h3
  have hf:Hid ((if 1000000<amountP a.data.toList∨1000000<amountP b.data.toList then(7:Int) else if amountP b.data.toList=0 then 3 else 0)=3):=by show _=_;rw[if_neg h7,if_pos h3]
  clear h7 h3
  go_enter Tryz.func201,Tryz.ntmps201
  go_wp2_with fail
  refine(cut_hit _ k _ hi (by show k<_;exact hk) (by show(c::r).length≤1000000;simp;omega)).mono ?_
  rw[HA.out,HB.out]
  rintro e w' ⟨rfl,n,rfl⟩
  go_wp2_with fail
  refine(allDigits_any _ _ has).mono ?_
  rw[show digsB a.data.toList=_ from d1];rintro e w' ⟨rfl,rfl⟩
  go_wp2_with fail
  refine(allDigits_any _ _ hbs).mono ?_
  rw[show digsB b.data.toList=_ from d2];rintro e w' ⟨rfl,rfl⟩
  go_wp2_with fail
  refine(amount_any _ _ has D1.out).mono ?_
  rintro e w' ⟨rfl,rfl⟩
  go_wp2_with fail
  refine(amount_any _ _ hbs D2.out).mono ?_
  rintro e w' ⟨rfl,rfl⟩
  go_wp2_with fail
  refine(numberFault_any _ _ _).mono ?_
  rw[hf.out];rintro e w' ⟨rfl,rfl⟩
  go_wp2_with fail
  refine bodyPost_ret (v:= .tuple #[tkV ⟨13,0,0,[],0,0,3⟩,.bool true]) (by simp[results,Tryz.results201,tkV,go_sem]) rfl ⟨?_,?_⟩
  ·rw[H.out];rfl
  ·(repeat (first|with_reducible refine Below.setCell ?_ (by simp) _|with_reducible refine below_drewN ?_ _|with_reducible refine Below.alloc ?_ (by simp) _));with_reducible exact Below.refl _ _
 ·have H:Hid _:=ab_0 (neg:=false) (m:=(amountP a.data.toList)) (d:=amountP b.data.toList) d1 d2 h7 h3 rfl rfl
  have hf:Hid ((if 1000000<amountP a.data.toList∨1000000<amountP b.data.toList then(7:Int) else if amountP b.data.toList=0 then 3 else 0)=0):=by show _=_;rw[if_neg h7,if_neg h3]
  have t1:amountP a.data.toList≤1000000:=by omega
  have t2:1≤amountP b.data.toList:=by omega
  have t3:amountP b.data.toList≤1000000:=by omega
  clear h7 h3
  go_enter Tryz.func201,Tryz.ntmps201
  go_wp2_with fail
  refine(cut_hit _ k _ hi (by show k<_;exact hk) (by show(c::r).length≤1000000;simp;omega)).mono ?_
  rw[HA.out,HB.out]
  rintro e w' ⟨rfl,n,rfl⟩
  go_wp2_with fail
  refine(allDigits_any _ _ has).mono ?_
  rw[show digsB a.data.toList=_ from d1];rintro e w' ⟨rfl,rfl⟩
  go_wp2_with fail
  refine(allDigits_any _ _ hbs).mono ?_
  rw[show digsB b.data.toList=_ from d2];rintro e w' ⟨rfl,rfl⟩
  go_wp2_with fail
  refine(amount_any _ _ has D1.out).mono ?_
  rintro e w' ⟨rfl,rfl⟩
  go_wp2_with fail
  refine(amount_any _ _ hbs D2.out).mono ?_
  rintro e w' ⟨rfl,rfl⟩
  go_wp2_with fail
  refine(numberFault_any _ _ _).mono ?_
  rw[hf.out];rintro e w' ⟨rfl,rfl⟩
  go_wp2_with fail
  refine(ratioLowest_any _ _ _ (by omega) (by omega) (by omega) (by omega)).mono ?_
  rintro e w' ⟨rfl,m,rfl⟩
  go_wp2_with fail
  refine bodyPost_ret (v:= .tuple #[tkV ⟨13,0,0,[],(amountP a.data.toList).tdiv (Int.gcd (amountP a.data.toList) (amountP b.data.toList)),amountP b.data.toList/(Int.gcd (amountP a.data.toList) (amountP b.data.toList)),0⟩,.bool true]) (by simp[results,Tryz.results201,tkV,go_sem]) rfl ⟨?_,?_⟩
  ·rw[H.out];rfl
  ·(repeat (first|with_reducible refine Below.setCell ?_ (by simp) _|with_reducible refine below_drewN ?_ _|with_reducible refine Below.alloc ?_ (by simp) _));with_reducible exact Below.refl _ _
end
end Go.Proofs.YtlhimdjkkiflhaaGreatDoor
