import Derived.Test.YtlhimdjkkiflhaaGreatDoorDeep19
namespace Go.Proofs.YtlhimdjkkiflhaaGreatDoor
open Go.RowKit Go.Loop
structure Nd where
 kind:Int
 text:List UInt8
 n:Int
 d:Int
 subs:List Int
 sa:Option Addr
 cap:Nat
def nodeV (x:Nd):Value:= .agg #[.int .i64 x.kind,.string ⟨⟨x.text⟩⟩,.int .i64 x.n,.int .i64 x.d,.slice x.sa x.subs.length x.cap]
def IntsAt (w:World)(a:Option Addr)(l:List Int):Prop:=
 l=[]∨∃ b o,a=some ⟨b,o,none⟩∧∀ j,j<l.length→w.cell? ⟨b,o+j,none⟩=some (.int .i64 (l.getD j 0))
def kindB (x:Nd):Bool:=
 if x.kind=0 then decide (x.text=[]∧x.n=0∧x.d=0∧x.subs.length=0)
 else if x.kind=1 then decide (x.subs.length=2∧x.text=[]∧x.n=0∧x.d=0)
 else if x.kind=2 then decide (x.subs.length≤20∧x.text=[]∧x.n=0∧x.d=0)
 else if x.kind=3 then decide (x.text.length≤400∧x.n=0∧x.d=0∧x.subs.length=0)
 else if x.kind=4 then decide (x.n=0∧x.d=0∧x.subs.length=0)&&isSym x.text
 else if x.kind=5 then numB x.n x.d&&decide (x.text=[]∧x.subs.length=0)
 else if x.kind=6 then decide ((x.n=0∨x.n=1)∧x.text=[]∧x.d=0∧x.subs.length=0)
 else if x.kind=7 then charB x.n&&decide (x.text=[]∧x.d=0∧x.subs.length=0)
 else false
def subsB (l:List Int)(all:Int):Bool:=l.all fun s=>decide (0≤s∧s<all)
def rightB (G:List Nd):Bool:=decide (1≤G.length∧G.length≤150)&&G.all fun x=>kindB x&&subsB x.subs G.length
theorem below_box {w:World}{o:Obj}:Below w.heap.size w (w.alloc o):=(Below.refl _ _).alloc (Nat.le_refl _) _
theorem bare_t (l:List UInt8)(n d:Int)(a:Option Addr)(len cap:Nat)(w:World)(h:l=[]∧n=0∧d=0∧len=0):
 Calls Tryz.prog 95 #[.string ⟨⟨l⟩⟩,.int .i64 n,.int .i64 d,.slice a len cap] w fun e w'=>e= .returned (.bool true)∧w'=w:=by
 have:=bare_any l n d a len cap w;rwa[decide_eq_true h] at this
theorem bare_f (l:List UInt8)(n d:Int)(a:Option Addr)(len cap:Nat)(w:World)(h:¬ (l=[]∧n=0∧d=0∧len=0)):
 Calls Tryz.prog 95 #[.string ⟨⟨l⟩⟩,.int .i64 n,.int .i64 d,.slice a len cap] w fun e w'=>e= .returned (.bool false)∧w'=w:=by
 have:=bare_any l n d a len cap w;rwa[decide_eq_false h] at this
set_option maxHeartbeats 1000000 in
theorem rightKind_0 (x:Nd)(w:World)(hk:x.kind=0):
 Calls Tryz.prog 60 #[nodeV x] w fun e w'=>e= .returned (.bool (kindB x))∧Below w.heap.size w w':=by
 unfold nodeV
 have hb0:(x.kind==0)=true:=by simpa using hk
 have HK:Hid (x.kind=0):=hk
 clear hk
 by_cases hc:x.text=[]∧x.n=0∧x.d=0∧x.subs.length=0
 ·have HV:Hid (kindB x=true):=by show _=_;unfold kindB;rw[if_pos HK.out];exact decide_eq_true hc
  have HB:Hid _:=hc
  clear hc
  go_enter Tryz.func60,Tryz.ntmps60
  go_wp2_with fail
  refine(bare_t _ _ _ _ _ _ _ (by simpa using HB.out)).mono ?_
  rintro e w' ⟨rfl,rfl⟩
  go_wp2_with fail
  go_ret
  exact⟨ret_bool HV.out.symm,below_box⟩
 ·have HV:Hid (kindB x=false):=by show _=_;unfold kindB;rw[if_pos HK.out];exact decide_eq_false hc
  have HB:Hid _:=hc
  clear hc
  go_enter Tryz.func60,Tryz.ntmps60
  go_wp2_with fail
  refine(bare_f _ _ _ _ _ _ _ (by simpa using HB.out)).mono ?_
  rintro e w' ⟨rfl,rfl⟩
  go_wp2_with fail
  go_ret
  exact⟨ret_bool HV.out.symm,below_box⟩
set_option maxHeartbeats 1000000 in
theorem rightKind_1 (x:Nd)(w:World)(hk:x.kind=1):
 Calls Tryz.prog 60 #[nodeV x] w fun e w'=>e= .returned (.bool (kindB x))∧Below w.heap.size w w':=by
 unfold nodeV
 have hb1:(x.kind==1)=true:=by simpa using hk
 have hb0:(x.kind==0)=false:=by rw[hk];decide
 have HK:Hid (x.kind=1):=hk
 clear hk
 by_cases hl:x.subs.length=2
 ·by_cases hc:x.text=[]∧x.n=0∧x.d=0∧(0:Nat)=0
  ·have HV:Hid (kindB x=true):=by show _=_;unfold kindB;rw[if_neg (by rw[HK.out];decide),if_pos HK.out];simp only[decide_eq_true_eq];exact⟨hl,hc.1,hc.2.1,hc.2.2.1⟩
   have hlb:((x.subs.length:Int)==2)=true:=by rw[hl];rfl
   have HB:Hid _:=hc
   clear hc hl
   go_enter Tryz.func60,Tryz.ntmps60
   go_wp2_with fail
   refine(bare_t _ _ _ _ _ _ _ (by simpa using HB.out)).mono ?_
   rintro e w' ⟨rfl,rfl⟩
   go_wp2_with fail
   go_ret
   exact⟨ret_bool HV.out.symm,below_box⟩
  ·have HV:Hid (kindB x=false):=by show _=_;unfold kindB;rw[if_neg (by rw[HK.out];decide),if_pos HK.out];simp only[decide_eq_false_iff_not];intro h;exact hc ⟨h.2.1,h.2.2.1,h.2.2.2,rfl⟩
   have hlb:((x.subs.length:Int)==2)=true:=by rw[hl];rfl
   have HB:Hid _:=hc
   clear hc hl
   go_enter Tryz.func60,Tryz.ntmps60
   go_wp2_with fail
   refine(bare_f _ _ _ _ _ _ _ (by simpa using HB.out)).mono ?_
   rintro e w' ⟨rfl,rfl⟩
   go_wp2_with fail
   go_ret
   exact⟨ret_bool HV.out.symm,below_box⟩
 ·have HV:Hid (kindB x=false):=by show _=_;unfold kindB;rw[if_neg (by rw[HK.out];decide),if_pos HK.out];simp only[decide_eq_false_iff_not];intro h;exact hl h.1
  have hlb:((x.subs.length:Int)==2)=false:=by rw[beq_eq_false_iff_ne];omega
  clear hl
  go_enter Tryz.func60,Tryz.ntmps60
  go_wp2_with fail
  go_ret
  exact⟨ret_bool HV.out.symm,below_box⟩
set_option maxHeartbeats 1000000 in
theorem rightKind_2 (x:Nd)(w:World)(hk:x.kind=2):
 Calls Tryz.prog 60 #[nodeV x] w fun e w'=>e= .returned (.bool (kindB x))∧Below w.heap.size w w':=by
 unfold nodeV
 have hb2:(x.kind==2)=true:=by simpa using hk
 have hb0:(x.kind==0)=false:=by rw[hk];decide
 have hb1:(x.kind==1)=false:=by rw[hk];decide
 have HK:Hid (x.kind=2):=hk
 clear hk
 by_cases hl:x.subs.length≤20
 ·by_cases hc:x.text=[]∧x.n=0∧x.d=0∧(0:Nat)=0
  ·have HV:Hid (kindB x=true):=by show _=_;unfold kindB;rw[if_neg (by rw[HK.out];decide),if_neg (by rw[HK.out];decide),if_pos HK.out];simp only[decide_eq_true_eq];exact⟨hl,hc.1,hc.2.1,hc.2.2.1⟩
   have hlb:(x.subs.length:Int)≤20:=by omega
   have HB:Hid _:=hc
   clear hc hl
   go_enter Tryz.func60,Tryz.ntmps60
   go_wp2_with fail
   refine(bare_t _ _ _ _ _ _ _ (by simpa using HB.out)).mono ?_
   rintro e w' ⟨rfl,rfl⟩
   go_wp2_with fail
   go_ret
   exact⟨ret_bool HV.out.symm,below_box⟩
  ·have HV:Hid (kindB x=false):=by show _=_;unfold kindB;rw[if_neg (by rw[HK.out];decide),if_neg (by rw[HK.out];decide),if_pos HK.out];simp only[decide_eq_false_iff_not];intro h;exact hc ⟨h.2.1,h.2.2.1,h.2.2.2,rfl⟩
   have hlb:(x.subs.length:Int)≤20:=by omega
   have HB:Hid _:=hc
   clear hc hl
   go_enter Tryz.func60,Tryz.ntmps60
   go_wp2_with fail
   refine(bare_f _ _ _ _ _ _ _ (by simpa using HB.out)).mono ?_
   rintro e w' ⟨rfl,rfl⟩
   go_wp2_with fail
   go_ret
   exact⟨ret_bool HV.out.symm,below_box⟩
 ·have HV:Hid (kindB x=false):=by show _=_;unfold kindB;rw[if_neg (by rw[HK.out];decide),if_neg (by rw[HK.out];decide),if_pos HK.out];simp only[decide_eq_false_iff_not];intro h;exact hl h.1
  have hlb:(20:Int)<(x.subs.length:Int):=by omega
  clear hl
  go_enter Tryz.func60,Tryz.ntmps60
  go_wp2_with fail
  go_ret
  exact⟨ret_bool HV.out.symm,below_box⟩
set_option maxHeartbeats 1000000 in
theorem rightKind_3 (x:Nd)(w:World)(hk:x.kind=3):
 Calls Tryz.prog 60 #[nodeV x] w fun e w'=>e= .returned (.bool (kindB x))∧Below w.heap.size w w':=by
 unfold nodeV
 have hb3:(x.kind==3)=true:=by simpa using hk
 have hb0:(x.kind==0)=false:=by rw[hk];decide
 have hb1:(x.kind==1)=false:=by rw[hk];decide
 have hb2:(x.kind==2)=false:=by rw[hk];decide
 have HK:Hid (x.kind=3):=hk
 clear hk
 by_cases hl:x.text.length≤400
 ·by_cases hc:([]:List UInt8)=[]∧x.n=0∧x.d=0∧x.subs.length=0
  ·have HV:Hid (kindB x=true):=by show _=_;unfold kindB;rw[if_neg (by rw[HK.out];decide),if_neg (by rw[HK.out];decide),if_neg (by rw[HK.out];decide),if_pos HK.out];simp only[decide_eq_true_eq];exact⟨hl,hc.2.1,hc.2.2.1,hc.2.2.2⟩
   have hlb:(x.text.length:Int)≤400:=by omega
   have HB:Hid _:=hc
   clear hc hl
   go_enter Tryz.func60,Tryz.ntmps60
   go_wp2_with fail
   refine(bare_t _ _ _ _ _ _ _ (by simpa using HB.out)).mono ?_
   rintro e w' ⟨rfl,rfl⟩
   go_wp2_with fail
   go_ret
   exact⟨ret_bool HV.out.symm,below_box⟩
  ·have HV:Hid (kindB x=false):=by show _=_;unfold kindB;rw[if_neg (by rw[HK.out];decide),if_neg (by rw[HK.out];decide),if_neg (by rw[HK.out];decide),if_pos HK.out];simp only[decide_eq_false_iff_not];intro h;exact hc ⟨rfl,h.2.1,h.2.2.1,h.2.2.2⟩
   have hlb:(x.text.length:Int)≤400:=by omega
   have HB:Hid _:=hc
   clear hc hl
   go_enter Tryz.func60,Tryz.ntmps60
   go_wp2_with fail
   refine(bare_f _ _ _ _ _ _ _ (by simpa using HB.out)).mono ?_
   rintro e w' ⟨rfl,rfl⟩
   go_wp2_with fail
   go_ret
   exact⟨ret_bool HV.out.symm,below_box⟩
 ·have HV:Hid (kindB x=false):=by show _=_;unfold kindB;rw[if_neg (by rw[HK.out];decide),if_neg (by rw[HK.out];decide),if_neg (by rw[HK.out];decide),if_pos HK.out];simp only[decide_eq_false_iff_not];intro h;exact hl h.1
  have hlb:(400:Int)<(x.text.length:Int):=by omega
  clear hl
  go_enter Tryz.func60,Tryz.ntmps60
  go_wp2_with fail
  go_ret
  exact⟨ret_bool HV.out.symm,below_box⟩
set_option maxHeartbeats 1000000 in
theorem rightKind_4 (x:Nd)(w:World)(ht:x.text.length≤maxLen)(hk:x.kind=4):
 Calls Tryz.prog 60 #[nodeV x] w fun e w'=>e= .returned (.bool (kindB x))∧Below w.heap.size w w':=by
 unfold nodeV
 have hb4:(x.kind==4)=true:=by simpa using hk
 have hb0:(x.kind==0)=false:=by rw[hk];decide
 have hb1:(x.kind==1)=false:=by rw[hk];decide
 have hb2:(x.kind==2)=false:=by rw[hk];decide
 have hb3:(x.kind==3)=false:=by rw[hk];decide
 have HK:Hid (x.kind=4):=hk
 clear hk
 by_cases hc:([]:List UInt8)=[]∧x.n=0∧x.d=0∧x.subs.length=0
 ·have HV:Hid (kindB x=isSym x.text):=by show _=_;unfold kindB;rw[if_neg (by rw[HK.out];decide),if_neg (by rw[HK.out];decide),if_neg (by rw[HK.out];decide),if_neg (by rw[HK.out];decide),if_pos HK.out];rw[decide_eq_true hc.2,Bool.true_and]
  have HB:Hid _:=hc
  clear hc
  go_enter Tryz.func60,Tryz.ntmps60
  go_wp2_with fail
  refine(bare_t _ _ _ _ _ _ _ (by simpa using HB.out)).mono ?_
  rintro e w' ⟨rfl,rfl⟩
  go_wp2_with fail
  refine(isSymbol_any _ _ ht).mono ?_
  rintro e w' ⟨rfl,rfl⟩
  go_wp2_with fail
  go_ret
  exact⟨ret_bool HV.out.symm,below_box⟩
 ·have HV:Hid (kindB x=false):=by show _=_;unfold kindB;rw[if_neg (by rw[HK.out];decide),if_neg (by rw[HK.out];decide),if_neg (by rw[HK.out];decide),if_neg (by rw[HK.out];decide),if_pos HK.out];rw[decide_eq_false (fun h=>hc ⟨rfl,h⟩),Bool.false_and]
  have HB:Hid _:=hc
  clear hc
  go_enter Tryz.func60,Tryz.ntmps60
  go_wp2_with fail
  refine(bare_f _ _ _ _ _ _ _ (by simpa using HB.out)).mono ?_
  rintro e w' ⟨rfl,rfl⟩
  go_wp2_with fail
  go_ret
  exact⟨ret_bool HV.out.symm,below_box⟩
set_option maxHeartbeats 1000000 in
theorem rightKind_5 (x:Nd)(w:World)(hk:x.kind=5):
 Calls Tryz.prog 60 #[nodeV x] w fun e w'=>e= .returned (.bool (kindB x))∧Below w.heap.size w w':=by
 unfold nodeV
 have hb5:(x.kind==5)=true:=by simpa using hk
 have hb0:(x.kind==0)=false:=by rw[hk];decide
 have hb1:(x.kind==1)=false:=by rw[hk];decide
 have hb2:(x.kind==2)=false:=by rw[hk];decide
 have hb3:(x.kind==3)=false:=by rw[hk];decide
 have hb4:(x.kind==4)=false:=by rw[hk];decide
 have HK:Hid (x.kind=5):=hk
 clear hk
 cases hn:numB x.n x.d
 ·have HV:Hid (kindB x=false):=by show _=_;unfold kindB;rw[if_neg (by rw[HK.out];decide),if_neg (by rw[HK.out];decide),if_neg (by rw[HK.out];decide),if_neg (by rw[HK.out];decide),if_neg (by rw[HK.out];decide),if_pos HK.out];rw[hn,Bool.false_and]
  go_enter Tryz.func60,Tryz.ntmps60
  go_wp2_with fail
  refine(rightNumber_any _ _ _).mono ?_
  rw[hn];rintro e w' ⟨rfl,m,rfl⟩
  go_wp2_with fail
  go_ret
  exact⟨ret_bool HV.out.symm,below_drewN below_box _⟩
 ·by_cases hc:x.text=[]∧(0:Int)=0∧(0:Int)=0∧x.subs.length=0
  ·have HV:Hid (kindB x=true):=by show _=_;unfold kindB;rw[if_neg (by rw[HK.out];decide),if_neg (by rw[HK.out];decide),if_neg (by rw[HK.out];decide),if_neg (by rw[HK.out];decide),if_neg (by rw[HK.out];decide),if_pos HK.out];rw[hn,decide_eq_true ⟨hc.1,hc.2.2.2⟩];rfl
   have HB:Hid _:=hc
   clear hc
   go_enter Tryz.func60,Tryz.ntmps60
   go_wp2_with fail
   refine(rightNumber_any _ _ _).mono ?_
   rw[hn];rintro e w' ⟨rfl,m,rfl⟩
   go_wp2_with fail
   refine(bare_t _ _ _ _ _ _ _ (by simpa using HB.out)).mono ?_
   rintro e w' ⟨rfl,rfl⟩
   go_wp2_with fail
   go_ret
   exact⟨ret_bool HV.out.symm,below_drewN below_box _⟩
  ·have HV:Hid (kindB x=false):=by show _=_;unfold kindB;rw[if_neg (by rw[HK.out];decide),if_neg (by rw[HK.out];decide),if_neg (by rw[HK.out];decide),if_neg (by rw[HK.out];decide),if_neg (by rw[HK.out];decide),if_pos HK.out];rw[hn,decide_eq_false (fun h=>hc ⟨h.1,rfl,rfl,h.2⟩)];rfl
   have HB:Hid _:=hc
   clear hc
   go_enter Tryz.func60,Tryz.ntmps60
   go_wp2_with fail
   refine(rightNumber_any _ _ _).mono ?_
   rw[hn];rintro e w' ⟨rfl,m,rfl⟩
   go_wp2_with fail
   refine(bare_f _ _ _ _ _ _ _ (by simpa using HB.out)).mono ?_
   rintro e w' ⟨rfl,rfl⟩
   go_wp2_with fail
   go_ret
   exact⟨ret_bool HV.out.symm,below_drewN below_box _⟩
set_option maxHeartbeats 1000000 in
theorem rightKind_6 (x:Nd)(w:World)(hk:x.kind=6):
 Calls Tryz.prog 60 #[nodeV x] w fun e w'=>e= .returned (.bool (kindB x))∧Below w.heap.size w w':=by
 unfold nodeV
 have hb6:(x.kind==6)=true:=by simpa using hk
 have hb0:(x.kind==0)=false:=by rw[hk];decide
 have hb1:(x.kind==1)=false:=by rw[hk];decide
 have hb2:(x.kind==2)=false:=by rw[hk];decide
 have hb3:(x.kind==3)=false:=by rw[hk];decide
 have hb4:(x.kind==4)=false:=by rw[hk];decide
 have hb5:(x.kind==5)=false:=by rw[hk];decide
 have HK:Hid (x.kind=6):=hk
 clear hk
 by_cases hl:x.n=0∨x.n=1
 ·by_cases hc:x.text=[]∧(0:Int)=0∧x.d=0∧x.subs.length=0
  ·have HV:Hid (kindB x=true):=by show _=_;unfold kindB;rw[if_neg (by rw[HK.out];decide),if_neg (by rw[HK.out];decide),if_neg (by rw[HK.out];decide),if_neg (by rw[HK.out];decide),if_neg (by rw[HK.out];decide),if_neg (by rw[HK.out];decide),if_pos HK.out];exact decide_eq_true ⟨hl,hc.1,hc.2.2.1,hc.2.2.2⟩
   have HB:Hid _:=hc
   clear hc
   cases hn0:(x.n==0)
   ·have hn1:(x.n==1)=true:=by rw[beq_iff_eq];have:=beq_eq_false_iff_ne.1 hn0;omega
    clear hl
    go_enter Tryz.func60,Tryz.ntmps60
    go_wp2_with fail
    refine(bare_t _ _ _ _ _ _ _ (by simpa using HB.out)).mono ?_
    rintro e w' ⟨rfl,rfl⟩
    go_wp2_with fail
    go_ret
    exact⟨ret_bool HV.out.symm,below_box⟩
   ·clear hl
    go_enter Tryz.func60,Tryz.ntmps60
    go_wp2_with fail
    refine(bare_t _ _ _ _ _ _ _ (by simpa using HB.out)).mono ?_
    rintro e w' ⟨rfl,rfl⟩
    go_wp2_with fail
    go_ret
    exact⟨ret_bool HV.out.symm,below_box⟩
  ·have HV:Hid (kindB x=false):=by show _=_;unfold kindB;rw[if_neg (by rw[HK.out];decide),if_neg (by rw[HK.out];decide),if_neg (by rw[HK.out];decide),if_neg (by rw[HK.out];decide),if_neg (by rw[HK.out];decide),if_neg (by rw[HK.out];decide),if_pos HK.out];exact decide_eq_false (fun h=>hc ⟨h.2.1,rfl,h.2.2.1,h.2.2.2⟩)
   have HB:Hid _:=hc
   clear hc
   cases hn0:(x.n==0)
   ·have hn1:(x.n==1)=true:=by rw[beq_iff_eq];have:=beq_eq_false_iff_ne.1 hn0;omega
    clear hl
    go_enter Tryz.func60,Tryz.ntmps60
    go_wp2_with fail
    refine(bare_f _ _ _ _ _ _ _ (by simpa using HB.out)).mono ?_
    rintro e w' ⟨rfl,rfl⟩
    go_wp2_with fail
    go_ret
    exact⟨ret_bool HV.out.symm,below_box⟩
   ·clear hl
    go_enter Tryz.func60,Tryz.ntmps60
    go_wp2_with fail
    refine(bare_f _ _ _ _ _ _ _ (by simpa using HB.out)).mono ?_
    rintro e w' ⟨rfl,rfl⟩
    go_wp2_with fail
    go_ret
    exact⟨ret_bool HV.out.symm,below_box⟩
 ·have HV:Hid (kindB x=false):=by show _=_;unfold kindB;rw[if_neg (by rw[HK.out];decide),if_neg (by rw[HK.out];decide),if_neg (by rw[HK.out];decide),if_neg (by rw[HK.out];decide),if_neg (by rw[HK.out];decide),if_neg (by rw[HK.out];decide),if_pos HK.out];exact decide_eq_false (fun h=>hl h.1)
  have hn0:(x.n==0)=false:=by rw[beq_eq_false_iff_ne];omega
  have hn1:(x.n==1)=false:=by rw[beq_eq_false_iff_ne];omega
  clear hl
  go_enter Tryz.func60,Tryz.ntmps60
  go_wp2_with fail
  go_ret
  exact⟨ret_bool HV.out.symm,below_box⟩
set_option maxHeartbeats 1000000 in
theorem rightKind_7 (x:Nd)(w:World)(hk:x.kind=7):
 Calls Tryz.prog 60 #[nodeV x] w fun e w'=>e= .returned (.bool (kindB x))∧Below w.heap.size w w':=by
 unfold nodeV
 have hb7:(x.kind==7)=true:=by simpa using hk
 have hb0:(x.kind==0)=false:=by rw[hk];decide
 have hb1:(x.kind==1)=false:=by rw[hk];decide
 have hb2:(x.kind==2)=false:=by rw[hk];decide
 have hb3:(x.kind==3)=false:=by rw[hk];decide
 have hb4:(x.kind==4)=false:=by rw[hk];decide
 have hb5:(x.kind==5)=false:=by rw[hk];decide
 have hb6:(x.kind==6)=false:=by rw[hk];decide
 have HK:Hid (x.kind=7):=hk
 clear hk
 cases hn:charB x.n
 ·have HV:Hid (kindB x=false):=by show _=_;unfold kindB;rw[if_neg (by rw[HK.out];decide),if_neg (by rw[HK.out];decide),if_neg (by rw[HK.out];decide),if_neg (by rw[HK.out];decide),if_neg (by rw[HK.out];decide),if_neg (by rw[HK.out];decide),if_neg (by rw[HK.out];decide),if_pos HK.out];rw[hn,Bool.false_and]
  go_enter Tryz.func60,Tryz.ntmps60
  go_wp2_with fail
  refine(isChar_any _ _).mono ?_
  rw[hn];rintro e w' ⟨rfl,rfl⟩
  go_wp2_with fail
  go_ret
  exact⟨ret_bool HV.out.symm,below_box⟩
 ·by_cases hc:x.text=[]∧(0:Int)=0∧x.d=0∧x.subs.length=0
  ·have HV:Hid (kindB x=true):=by show _=_;unfold kindB;rw[if_neg (by rw[HK.out];decide),if_neg (by rw[HK.out];decide),if_neg (by rw[HK.out];decide),if_neg (by rw[HK.out];decide),if_neg (by rw[HK.out];decide),if_neg (by rw[HK.out];decide),if_neg (by rw[HK.out];decide),if_pos HK.out];rw[hn,decide_eq_true ⟨hc.1,hc.2.2.1,hc.2.2.2⟩];rfl
   have HB:Hid _:=hc
   clear hc
   go_enter Tryz.func60,Tryz.ntmps60
   go_wp2_with fail
   refine(isChar_any _ _).mono ?_
   rw[hn];rintro e w' ⟨rfl,rfl⟩
   go_wp2_with fail
   refine(bare_t _ _ _ _ _ _ _ (by simpa using HB.out)).mono ?_
   rintro e w' ⟨rfl,rfl⟩
   go_wp2_with fail
   go_ret
   exact⟨ret_bool HV.out.symm,below_box⟩
  ·have HV:Hid (kindB x=false):=by show _=_;unfold kindB;rw[if_neg (by rw[HK.out];decide),if_neg (by rw[HK.out];decide),if_neg (by rw[HK.out];decide),if_neg (by rw[HK.out];decide),if_neg (by rw[HK.out];decide),if_neg (by rw[HK.out];decide),if_neg (by rw[HK.out];decide),if_pos HK.out];rw[hn,decide_eq_false (fun h=>hc ⟨h.1,rfl,h.2.1,h.2.2⟩)];rfl
   have HB:Hid _:=hc
   clear hc
   go_enter Tryz.func60,Tryz.ntmps60
   go_wp2_with fail
   refine(isChar_any _ _).mono ?_
   rw[hn];rintro e w' ⟨rfl,rfl⟩
   go_wp2_with fail
   refine(bare_f _ _ _ _ _ _ _ (by simpa using HB.out)).mono ?_
   rintro e w' ⟨rfl,rfl⟩
   go_wp2_with fail
   go_ret
   exact⟨ret_bool HV.out.symm,below_box⟩
set_option maxHeartbeats 1000000 in
theorem rightKind_else (x:Nd)(w:World)(hk:x.kind<0∨7<x.kind):
 Calls Tryz.prog 60 #[nodeV x] w fun e w'=>e= .returned (.bool (kindB x))∧Below w.heap.size w w':=by
 unfold nodeV
 have hb0:(x.kind==0)=false:=by rw[beq_eq_false_iff_ne];omega
 have hb1:(x.kind==1)=false:=by rw[beq_eq_false_iff_ne];omega
 have hb2:(x.kind==2)=false:=by rw[beq_eq_false_iff_ne];omega
 have hb3:(x.kind==3)=false:=by rw[beq_eq_false_iff_ne];omega
 have hb4:(x.kind==4)=false:=by rw[beq_eq_false_iff_ne];omega
 have hb5:(x.kind==5)=false:=by rw[beq_eq_false_iff_ne];omega
 have hb6:(x.kind==6)=false:=by rw[beq_eq_false_iff_ne];omega
 have hb7:(x.kind==7)=false:=by rw[beq_eq_false_iff_ne];omega
 have HV:Hid (kindB x=false):=by show _=_;unfold kindB;rw[if_neg (by omega),if_neg (by omega),if_neg (by omega),if_neg (by omega),if_neg (by omega),if_neg (by omega),if_neg (by omega),if_neg (by omega)]
 clear hk
 go_enter Tryz.func60,Tryz.ntmps60
 go_wp2_with fail
 go_ret
 exact⟨ret_bool HV.out.symm,below_box⟩
theorem rightKind_any (x:Nd)(w:World)(ht:x.text.length≤maxLen):
 Calls Tryz.prog 60 #[nodeV x] w fun e w'=>e= .returned (.bool (kindB x))∧Below w.heap.size w w':=by
 by_cases h:x.kind<0∨7<x.kind
 ·exact rightKind_else x w h
 ·have:x.kind=0∨x.kind=1∨x.kind=2∨x.kind=3∨x.kind=4∨x.kind=5∨x.kind=6∨x.kind=7:=by omega
  rcases this with h|h|h|h|h|h|h|h
  ·exact rightKind_0 x w h
  ·exact rightKind_1 x w h
  ·exact rightKind_2 x w h
  ·exact rightKind_3 x w h
  ·exact rightKind_4 x w ht h
  ·exact rightKind_5 x w h
  ·exact rightKind_6 x w h
  ·exact rightKind_7 x w h
theorem subsB_snoc (l:List Int)(k:Nat)(h:k<l.length)(all:Int):subsB (l.take (k+1)) all=(subsB (l.take k) all&&decide (0≤l.getD k 0∧l.getD k 0<all)):=by
 unfold subsB
 rw[List.take_succ_eq_append_getElem h,List.all_append]
 simp[List.getD,List.getElem?_eq_getElem h]
theorem subsB_no (l:List Int)(k:Nat)(h:k<l.length)(all:Int)(hb:¬ (0≤l.getD k 0∧l.getD k 0<all)):subsB l all=false:=by
 unfold subsB
 rw[List.all_eq_false]
 refine⟨l[k],List.getElem_mem h,?_⟩
 simp[List.getD,List.getElem?_eq_getElem h] at hb ⊢
 omega
set_option maxHeartbeats 1000000 in
theorem rightSubs_any (l:List Int)(a:Option Addr)(cap:Nat)(all:Int)(w:World)(hl:l.length≤maxLen)(hc:IntsAt w a l):
 Calls Tryz.prog 61 #[.slice a l.length cap,.int .i64 all] w fun e w'=>e= .returned (.bool (subsB l all))∧w'=w:=by
 unfold maxLen at hl
 rcases hc with rfl|⟨b,o,rfl,hc⟩
 ·go_enter Tryz.func61,Tryz.ntmps61
  go_wp2_with fail
  go_loop [9] (fun i=>i= .int .i64 0) (fun i=>(intOf i).toNat)
  case atStart=>rfl
  case round=>
   subst hrel
   go_wp2_with fail
   go_ret
   exact⟨rfl,rfl⟩
 ·have HC:Hid _:=hc
  clear hc
  go_enter Tryz.func61,Tryz.ntmps61
  go_wp2_with fail
  go_loop [9] (fun i=>∃ k:Nat,k≤l.length∧i= .int .i64 k∧Hid (subsB (l.take k) all=true)) (fun i=>l.length-(intOf i).toNat)
  case atStart=>exact⟨0,Nat.zero_le _,rfl,rfl⟩
  case round=>
   obtain⟨k,hk,rfl,hr⟩:=hrel
   by_cases hlt:k<l.length
   ·have hcell:=HC.out k hlt
    by_cases hb:0≤l.getD k 0∧l.getD k 0<all
    ·have H:Hid (subsB (l.take (k+1)) all=true):=by show _=_;rw[subsB_snoc l k hlt,hr.out,decide_eq_true hb];rfl
     obtain⟨hb1,hb2⟩:=hb
     generalize hg:l.getD k 0=v at *
     have HG:Hid _:=hg
     clear hg
     go_wp2_with fail
     go_round
     case rel=>exact⟨k+1,by omega,by go_num,H⟩
     case measure=>simp[intOf];omega
    ·have H:Hid (subsB l all=false):=subsB_no l k hlt all hb
     generalize hg:l.getD k 0=v at *
     have HG:Hid _:=hg
     clear hg
     by_cases h0:0≤v
     ·have h1:all≤v:=by omega
      clear hb
      go_wp2_with fail
      go_ret
      exact⟨ret_bool H.out.symm,rfl⟩
     ·clear hb
      go_wp2_with fail
      go_ret
      exact⟨ret_bool H.out.symm,rfl⟩
   ·have H:Hid (subsB l all=true):=by have:=hr.out;rwa[List.take_of_length_le (by omega)] at this
    go_wp2_with fail
    go_ret
    exact⟨ret_bool H.out.symm,rfl⟩
structure NodeAt (w:World) (b o:Nat) (x:Nd):Prop where
 kind:w.cell? ⟨b,o,none⟩=some (.int .i64 x.kind)
 text:w.cell? ⟨b,o+1,none⟩=some (.string ⟨⟨x.text⟩⟩)
 n:w.cell? ⟨b,o+2,none⟩=some (.int .i64 x.n)
 d:w.cell? ⟨b,o+3,none⟩=some (.int .i64 x.d)
 subs:w.cell? ⟨b,o+4,none⟩=some (.slice x.sa x.subs.length x.cap)
 ints:IntsAt w x.sa x.subs
 tlen:x.text.length≤maxLen
 slen:x.subs.length≤maxLen
def GraphAt (w:World)(b o:Nat)(G:List Nd):Prop:=∀ i,(h:i<G.length)→NodeAt w b (o+i*5) G[i]
theorem cell_lt {w:World}{a:Addr}{v:Value}(h:w.cell? a=some v):a.block<w.heap.size:=by
 unfold World.cell? at h
 by_cases hb:a.block<w.heap.size
 ·exact hb
 ·rw[Array.getElem?_eq_none (by omega)] at h;simp at h
theorem cell_below {w w':World}(hb:Below w.heap.size w w'){a:Addr}{v:Value}(h:w.cell? a=some v):w'.cell? a=some v:=by
 rw[hb.cell (cell_lt h)];exact h
theorem IntsAt.below {w w':World}{a:Option Addr}{l:List Int}(h:IntsAt w a l)(hb:Below w.heap.size w w'):IntsAt w' a l:=by
 rcases h with rfl|⟨b,o,rfl,hc⟩
 ·exact Or.inl rfl
 ·exact Or.inr ⟨b,o,rfl,fun j hj=>cell_below hb (hc j hj)⟩
theorem NodeAt.below {w w':World}{b o:Nat}{x:Nd}(h:NodeAt w b o x)(hb:Below w.heap.size w w'):NodeAt w' b o x:=
 ⟨cell_below hb h.kind,cell_below hb h.text,cell_below hb h.n,cell_below hb h.d,cell_below hb h.subs,h.ints.below hb,h.tlen,h.slen⟩
theorem GraphAt.below {w w':World}{b o:Nat}{G:List Nd}(h:GraphAt w b o G)(hb:Below w.heap.size w w'):GraphAt w' b o G:=fun i hi=>(h i hi).below hb
theorem blk_cells {w w1:World}{c:Array Value}{t:TypeId}(hb:Below (w.alloc (.cells c t)).heap.size (w.alloc (.cells c t)) w1):
 (∀ o,w1.cell? ⟨w.heap.size,o,none⟩=c[o]?)∧(∀ o,w1.frozen? ⟨w.heap.size,o,none⟩=false):=by
 refine⟨fun o=>?_,fun o=>?_⟩
 ·rw[hb.cell (by simp),World.cell?_alloc_at _ _ _ _ rfl]
 ·rw[hb.frozen (by simp),World.frozen?_alloc_at _ _ _ _ rfl]
theorem all_snoc {α:Type}(l:List α)(k:Nat)(h:k<l.length)(p:α→Bool):(l.take (k+1)).all p=((l.take k).all p&&p l[k]):=by
 rw[List.take_succ_eq_append_getElem h,List.all_append,List.all_cons,List.all_nil,Bool.and_true]
theorem all_no {α:Type}(l:List α)(k:Nat)(h:k<l.length)(p:α→Bool)(hp:p l[k]=false):l.all p=false:=by
 rw[List.all_eq_false];exact⟨l[k],List.getElem_mem h,by simp[hp]⟩
set_option maxHeartbeats 1000000 in
theorem right_any (G:List Nd)(b o cap:Nat)(w:World)(hl:G.length≤maxLen)(hG:GraphAt w b o G):
 Calls Tryz.prog 38 #[.slice (some ⟨b,o,none⟩) G.length cap] w fun e w'=>e= .returned (.bool (rightB G))∧Below w.heap.size w w':=by
 unfold maxLen at hl
 have HG:Hid _:=hG
 clear hG
 by_cases h1:G.length<1
 ·have H:Hid (rightB G=false):=by show _=_;unfold rightB;rw[decide_eq_false (by omega)];rfl
  go_enter Tryz.func38,Tryz.ntmps38
  go_wp2_with fail
  go_ret
  exact⟨ret_bool H.out.symm,Below.refl _ _⟩
 ·by_cases h2:150<G.length
  ·have H:Hid (rightB G=false):=by show _=_;unfold rightB;rw[decide_eq_false (by omega)];rfl
   go_enter Tryz.func38,Tryz.ntmps38
   go_wp2_with fail
   go_ret
   exact⟨ret_bool H.out.symm,Below.refl _ _⟩
  ·have d1:decide ((G.length:Int)<1)=false:=by simp;omega
   have d2:decide ((150:Int)<(G.length:Int))=false:=by simp;omega
   have HR:Hid (rightB G=G.all (fun x=>kindB x&&subsB x.subs G.length)):=by show _=_;unfold rightB;rw[decide_eq_true (by omega)];rfl
   go_enter Tryz.func38,Tryz.ntmps38
   go_wp2_with fail
   go_loopw [15] (fun i wr=>∃ k:Nat,k≤G.length∧i= .int .i64 k∧Below w.heap.size w wr∧Hid ((G.take k).all (fun x=>kindB x&&subsB x.subs G.length)=true)) (fun i _=>G.length-(intOf i).toNat)
   case atStart=>exact⟨0,Nat.zero_le _,rfl,Below.refl _ _,rfl⟩
   case round=>
    obtain⟨k,hk,rfl,hb,hr⟩:=hrel
    by_cases hlt:k<G.length
    ·obtain⟨c0,c1,c2,c3,c4,hi,ht,hs⟩:=(HG.out k hlt).below hb
     have HS:Hid _:=all_snoc G k hlt (fun x=>kindB x&&subsB x.subs G.length)
     have HN:Hid _:=all_no G k hlt (fun x=>kindB x&&subsB x.subs G.length)
     have HT:Hid _:=ht
     have HI:Hid _:=hi
     have HL:Hid _:=hs
     clear ht hi hs
     generalize G[k]=x at *
     have hz:=hb.size
     cases hkb:kindB x
     ·have HV:Hid (rightB G=false):=by show _=_;rw[HR.out];exact HN.out (by simp[hkb])
      go_wp2_with fail
      refine(rightKind_any x _ HT.out).mono ?_
      rw[hkb];rintro e w2 ⟨rfl,hb2⟩
      go_wp2_with fail
      go_ret
      exact⟨ret_bool HV.out.symm,(hb.alloc hz _).trans (hb2.mono (by simp;omega))⟩
     ·go_wp2_with fail
      refine(rightKind_any x _ HT.out).mono ?_
      rw[hkb];rintro e w2 ⟨rfl,hb2⟩
      obtain⟨hcell,hfz⟩:=blk_cells hb2
      have hb3:=(hb.alloc hz _).trans (hb2.mono (by simp;omega))
      have hz2:=hb2.size
      have HI2:Hid (IntsAt w2 x.sa x.subs):=IntsAt.below (w:=wr) HI.out ((Below.refl _ _).alloc (Nat.le_refl _) _ |>.trans (hb2.mono (by simp)))
      have HB2:Hid _:=hb2
      clear hb2 hfz c0 c1 c2 c3 c4
      cases hsb:subsB x.subs G.length
      ·have HV:Hid (rightB G=false):=by show _=_;rw[HR.out];exact HN.out (by simp[hsb])
       go_wp2_with fail
       refine(rightSubs_any x.subs _ _ _ _ HL.out HI2.out).mono ?_
       rw[hsb];rintro e w3 ⟨rfl,rfl⟩
       go_wp2_with fail
       go_ret
       exact⟨ret_bool HV.out.symm,hb3⟩
      ·have HV:Hid ((G.take (k+1)).all (fun x=>kindB x&&subsB x.subs G.length)=true):=by show _=_;rw[HS.out,hr.out,hkb,hsb];rfl
       go_wp2_with fail
       refine(rightSubs_any x.subs _ _ _ _ HL.out HI2.out).mono ?_
       rw[hsb];rintro e w3 ⟨rfl,rfl⟩
       go_wp2_with fail
       go_roundw
       case rel=>exact⟨k+1,by omega,by go_num,hb3,HV⟩
       case measure=>simp[intOf];omega
    ·have HV:Hid (rightB G=true):=by show _=_;rw[HR.out];have:=hr.out;rwa[List.take_of_length_le (by omega)] at this
     go_wp2_with fail
     go_ret
     exact⟨ret_bool HV.out.symm,hb⟩
end Go.Proofs.YtlhimdjkkiflhaaGreatDoor
