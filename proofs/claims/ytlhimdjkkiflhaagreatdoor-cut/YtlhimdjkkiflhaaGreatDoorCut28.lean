import Derived.Test.YtlhimdjkkiflhaaGreatDoorCut16
set_option maxHeartbeats 8000000
set_option maxRecDepth 100000
namespace Go.Proofs.YtlhimdjkkiflhaaGreatDoor
open Go.Proofs.Tryz
open Go.RowKit Go.Loop
structure Nd where
 kind:Int
 text:List UInt8
 n:Int
 d:Int
 subs:List Int
 sa:Option Addr
 cap:Nat
def dD (x:Nd):Value:= .agg #[.int .i64 x.kind,.string ⟨⟨x.text⟩⟩,.int .i64 x.n,.int .i64 x.d,.slice x.sa x.subs.length x.cap]
def qm (w:World)(a:Option Addr)(l:List Int):Prop:=
 l=[]∨∃b o,a=some ⟨b,o,none⟩∧∀j,j<l.length→w.cell? ⟨b,o+j,none⟩=some (.int .i64 (l.getD j 0))
def bp (x:Nd):Bool:=
 if x.kind=0 then decide (x.text=[]∧x.n=0∧x.d=0∧x.subs.length=0)
 else if x.kind=1 then decide (x.subs.length=2∧x.text=[]∧x.n=0∧x.d=0)
 else if x.kind=2 then decide (x.subs.length≤20∧x.text=[]∧x.n=0∧x.d=0)
 else if x.kind=3 then decide (x.text.length≤400∧x.n=0∧x.d=0∧x.subs.length=0)
 else if x.kind=4 then decide (x.n=0∧x.d=0∧x.subs.length=0)&&rA x.text
 else if x.kind=5 then Ar x.n x.d&&decide (x.text=[]∧x.subs.length=0)
 else if x.kind=6 then decide ((x.n=0∨x.n=1)∧x.text=[]∧x.d=0∧x.subs.length=0)
 else if x.kind=7 then rB x.n&&decide (x.text=[]∧x.d=0∧x.subs.length=0)
 else false
def fq (l:List Int)(all:Int):Bool:=l.all λs=>decide (0≤s∧s<all)
def eQ (G:List Nd):Bool:=decide (1≤G.length∧G.length≤150)&&G.all λx=>bp x&&fq x.subs G.length
theorem aG {w:World}{o:Obj}:Below w.heap.size w (w.alloc o):=(Below.refl _ _).alloc (zaa _) _
theorem mW (l:List UInt8)(n d:Int)(a:Option Addr)(len cap:Nat)(w:World)(h:l=[]∧n=0∧d=0∧len=0):Calls prog 95 #[.string ⟨⟨l⟩⟩,.int .i64 n,.int .i64 d,.slice a len cap] w λe w'=>e=.returned (.bool true)∧w'=w:=by
 have:=Cx l n d a len cap w;rwa[decide_eq_true h]at this
theorem mX (l:List UInt8)(n d:Int)(a:Option Addr)(len cap:Nat)(w:World)(h:¬(l=[]∧n=0∧d=0∧len=0)):Calls prog 95 #[.string ⟨⟨l⟩⟩,.int .i64 n,.int .i64 d,.slice a len cap] w λe w'=>e=.returned (.bool false)∧w'=w:=by
 have:=Cx l n d a len cap w;rwa[decide_eq_false h]at this
theorem C4 (x:Nd)(w:World)(hk:x.kind=0):Calls prog 60 #[dD x] w λe w'=>e=.returned (.bool (bp x))∧Below w.heap.size w w':=by
 unfold dD;have hb0:(x.kind==0)=true:=by simpa using hk
 have HK:Hid (x.kind=0):=hk;clear hk;by_cases hc:x.text=[]∧x.n=0∧x.d=0∧x.subs.length=0
 ·have HV:Hid (bp x=true):=by show _=_;unfold bp;rw[if_pos HK.out];exact decide_eq_true hc
  have HB:Hid _:=hc;clear hc;go_enter func60,ntmps60;go_wp2_with fail;refine(mW _ _ _ _ _ _ _ (by simpa using HB.out)).mono ?_;rintro e w' ⟨rfl,rfl⟩;go_wp2_with fail;go_ret;exact⟨aK HV.out.symm,aG⟩
 ·have HV:Hid (bp x=false):=by show _=_;unfold bp;rw[if_pos HK.out];exact decide_eq_false hc
  have HB:Hid _:=hc;clear hc;go_enter func60,ntmps60;go_wp2_with fail;refine(mX _ _ _ _ _ _ _ (by simpa using HB.out)).mono ?_;rintro e w' ⟨rfl,rfl⟩;go_wp2_with fail;go_ret;exact⟨aK HV.out.symm,aG⟩
theorem C5 (x:Nd)(w:World)(hk:x.kind=1):Calls prog 60 #[dD x] w λe w'=>e=.returned (.bool (bp x))∧Below w.heap.size w w':=by
 unfold dD;have hb1:(x.kind==1)=true:=by simpa using hk
 have hb0:(x.kind==0)=false:=by rw[hk];decide
 have HK:Hid (x.kind=1):=hk;clear hk;by_cases hl:x.subs.length=2
 ·by_cases hc:x.text=[]∧x.n=0∧x.d=0∧(0:Nat)=0
  ·have HV:Hid (bp x=true):=by show _=_;unfold bp;rw[if_neg (by rw[HK.out];decide),if_pos HK.out];simp only[decide_eq_true_eq];exact⟨hl,hc.1,hc.2.1,hc.2.2.1⟩
   have Kt:((x.subs.length:Int)==2)=true:=by rw[hl];rfl
   have HB:Hid _:=hc;clear hc hl;go_enter func60,ntmps60;go_wp2_with fail;refine(mW _ _ _ _ _ _ _ (by simpa using HB.out)).mono ?_;rintro e w' ⟨rfl,rfl⟩;go_wp2_with fail;go_ret;exact⟨aK HV.out.symm,aG⟩
  ·have HV:Hid (bp x=false):=by show _=_;unfold bp;rw[if_neg (by rw[HK.out];decide),if_pos HK.out];simp only[decide_eq_false_iff_not];intro h;exact hc ⟨h.2.1,h.2.2.1,h.2.2.2,rfl⟩
   have Kt:((x.subs.length:Int)==2)=true:=by rw[hl];rfl
   have HB:Hid _:=hc;clear hc hl;go_enter func60,ntmps60;go_wp2_with fail;refine(mX _ _ _ _ _ _ _ (by simpa using HB.out)).mono ?_;rintro e w' ⟨rfl,rfl⟩;go_wp2_with fail;go_ret;exact⟨aK HV.out.symm,aG⟩
 ·have HV:Hid (bp x=false):=by show _=_;unfold bp;rw[if_neg (by rw[HK.out];decide),if_pos HK.out];simp only[decide_eq_false_iff_not];intro h;exact hl h.1
  have Kt:((x.subs.length:Int)==2)=false:=by rw[beq_eq_false_iff_ne];omega
  clear hl;go_enter func60,ntmps60;go_wp2_with fail;go_ret;exact⟨aK HV.out.symm,aG⟩
theorem C6 (x:Nd)(w:World)(hk:x.kind=2):Calls prog 60 #[dD x] w λe w'=>e=.returned (.bool (bp x))∧Below w.heap.size w w':=by
 unfold dD;have hb2:(x.kind==2)=true:=by simpa using hk
 have hb0:(x.kind==0)=false:=by rw[hk];decide
 have hb1:(x.kind==1)=false:=by rw[hk];decide
 have HK:Hid (x.kind=2):=hk;clear hk;by_cases hl:x.subs.length≤20
 ·by_cases hc:x.text=[]∧x.n=0∧x.d=0∧(0:Nat)=0
  ·have HV:Hid (bp x=true):=by show _=_;unfold bp;rw[if_neg (by rw[HK.out];decide),if_neg (by rw[HK.out];decide),if_pos HK.out];simp only[decide_eq_true_eq];exact⟨hl,hc.1,hc.2.1,hc.2.2.1⟩
   have Kt:(x.subs.length:Int)≤20:=by omega
   have HB:Hid _:=hc;clear hc hl;go_enter func60,ntmps60;go_wp2_with fail;refine(mW _ _ _ _ _ _ _ (by simpa using HB.out)).mono ?_;rintro e w' ⟨rfl,rfl⟩;go_wp2_with fail;go_ret;exact⟨aK HV.out.symm,aG⟩
  ·have HV:Hid (bp x=false):=by show _=_;unfold bp;rw[if_neg (by rw[HK.out];decide),if_neg (by rw[HK.out];decide),if_pos HK.out];simp only[decide_eq_false_iff_not];intro h;exact hc ⟨h.2.1,h.2.2.1,h.2.2.2,rfl⟩
   have Kt:(x.subs.length:Int)≤20:=by omega
   have HB:Hid _:=hc;clear hc hl;go_enter func60,ntmps60;go_wp2_with fail;refine(mX _ _ _ _ _ _ _ (by simpa using HB.out)).mono ?_;rintro e w' ⟨rfl,rfl⟩;go_wp2_with fail;go_ret;exact⟨aK HV.out.symm,aG⟩
 ·have HV:Hid (bp x=false):=by show _=_;unfold bp;rw[if_neg (by rw[HK.out];decide),if_neg (by rw[HK.out];decide),if_pos HK.out];simp only[decide_eq_false_iff_not];intro h;exact hl h.1
  have Kt:(20:Int)<(x.subs.length:Int):=by omega
  clear hl;go_enter func60,ntmps60;go_wp2_with fail;go_ret;exact⟨aK HV.out.symm,aG⟩
theorem C7 (x:Nd)(w:World)(hk:x.kind=3):Calls prog 60 #[dD x] w λe w'=>e=.returned (.bool (bp x))∧Below w.heap.size w w':=by
 unfold dD;have hb3:(x.kind==3)=true:=by simpa using hk
 have hb0:(x.kind==0)=false:=by rw[hk];decide
 have hb1:(x.kind==1)=false:=by rw[hk];decide
 have hb2:(x.kind==2)=false:=by rw[hk];decide
 have HK:Hid (x.kind=3):=hk;clear hk;by_cases hl:x.text.length≤400
 ·by_cases hc:([]:List UInt8)=[]∧x.n=0∧x.d=0∧x.subs.length=0
  ·have HV:Hid (bp x=true):=by show _=_;unfold bp;rw[if_neg (by rw[HK.out];decide),if_neg (by rw[HK.out];decide),if_neg (by rw[HK.out];decide),if_pos HK.out];simp only[decide_eq_true_eq];exact⟨hl,hc.2.1,hc.2.2.1,hc.2.2.2⟩
   have Kt:(x.text.length:Int)≤400:=by omega
   have HB:Hid _:=hc;clear hc hl;go_enter func60,ntmps60;go_wp2_with fail;refine(mW _ _ _ _ _ _ _ (by simpa using HB.out)).mono ?_;rintro e w' ⟨rfl,rfl⟩;go_wp2_with fail;go_ret;exact⟨aK HV.out.symm,aG⟩
  ·have HV:Hid (bp x=false):=by show _=_;unfold bp;rw[if_neg (by rw[HK.out];decide),if_neg (by rw[HK.out];decide),if_neg (by rw[HK.out];decide),if_pos HK.out];simp only[decide_eq_false_iff_not];intro h;exact hc ⟨rfl,h.2.1,h.2.2.1,h.2.2.2⟩
   have Kt:(x.text.length:Int)≤400:=by omega
   have HB:Hid _:=hc;clear hc hl;go_enter func60,ntmps60;go_wp2_with fail;refine(mX _ _ _ _ _ _ _ (by simpa using HB.out)).mono ?_;rintro e w' ⟨rfl,rfl⟩;go_wp2_with fail;go_ret;exact⟨aK HV.out.symm,aG⟩
 ·have HV:Hid (bp x=false):=by show _=_;unfold bp;rw[if_neg (by rw[HK.out];decide),if_neg (by rw[HK.out];decide),if_neg (by rw[HK.out];decide),if_pos HK.out];simp only[decide_eq_false_iff_not];intro h;exact hl h.1
  have Kt:(400:Int)<(x.text.length:Int):=by omega
  clear hl;go_enter func60,ntmps60;go_wp2_with fail;go_ret;exact⟨aK HV.out.symm,aG⟩
theorem C8 (x:Nd)(w:World)(ht:x.text.length≤maxLen)(hk:x.kind=4):Calls prog 60 #[dD x] w λe w'=>e=.returned (.bool (bp x))∧Below w.heap.size w w':=by
 unfold dD;have hb4:(x.kind==4)=true:=by simpa using hk
 have hb0:(x.kind==0)=false:=by rw[hk];decide
 have hb1:(x.kind==1)=false:=by rw[hk];decide
 have hb2:(x.kind==2)=false:=by rw[hk];decide
 have hb3:(x.kind==3)=false:=by rw[hk];decide
 have HK:Hid (x.kind=4):=hk;clear hk;by_cases hc:([]:List UInt8)=[]∧x.n=0∧x.d=0∧x.subs.length=0
 ·have HV:Hid (bp x=rA x.text):=by show _=_;unfold bp;rw[if_neg (by rw[HK.out];decide),if_neg (by rw[HK.out];decide),if_neg (by rw[HK.out];decide),if_neg (by rw[HK.out];decide),if_pos HK.out];rw[decide_eq_true hc.2,zaW]
  have HB:Hid _:=hc;clear hc;go_enter func60,ntmps60;go_wp2_with fail;refine(mW _ _ _ _ _ _ _ (by simpa using HB.out)).mono ?_;rintro e w' ⟨rfl,rfl⟩;go_wp2_with fail;refine(AH _ _ ht).mono ?_;rintro e w' ⟨rfl,rfl⟩;go_wp2_with fail;go_ret;exact⟨aK HV.out.symm,aG⟩
 ·have HV:Hid (bp x=false):=by show _=_;unfold bp;rw[if_neg (by rw[HK.out];decide),if_neg (by rw[HK.out];decide),if_neg (by rw[HK.out];decide),if_neg (by rw[HK.out];decide),if_pos HK.out];rw[decide_eq_false (λh=>hc ⟨rfl,h⟩),Bool.false_and]
  have HB:Hid _:=hc;clear hc;go_enter func60,ntmps60;go_wp2_with fail;refine(mX _ _ _ _ _ _ _ (by simpa using HB.out)).mono ?_;rintro e w' ⟨rfl,rfl⟩;go_wp2_with fail;go_ret;exact⟨aK HV.out.symm,aG⟩
theorem C9 (x:Nd)(w:World)(hk:x.kind=5):Calls prog 60 #[dD x] w λe w'=>e=.returned (.bool (bp x))∧Below w.heap.size w w':=by
 unfold dD;have lC:(x.kind==5)=true:=by simpa using hk
 have hb0:(x.kind==0)=false:=by rw[hk];decide
 have hb1:(x.kind==1)=false:=by rw[hk];decide
 have hb2:(x.kind==2)=false:=by rw[hk];decide
 have hb3:(x.kind==3)=false:=by rw[hk];decide
 have hb4:(x.kind==4)=false:=by rw[hk];decide
 have HK:Hid (x.kind=5):=hk;clear hk;cases hn:Ar x.n x.d
 ·have HV:Hid (bp x=false):=by show _=_;unfold bp;rw[if_neg (by rw[HK.out];decide),if_neg (by rw[HK.out];decide),if_neg (by rw[HK.out];decide),if_neg (by rw[HK.out];decide),if_neg (by rw[HK.out];decide),if_pos HK.out];rw[hn,Bool.false_and]
  go_enter func60,ntmps60;go_wp2_with fail;refine(jV _ _ _).mono ?_;rw[hn];rintro e w' ⟨rfl,m,rfl⟩;go_wp2_with fail;go_ret;exact⟨aK HV.out.symm,below_drewN aG _⟩
 ·by_cases hc:x.text=[]∧(0:Int)=0∧(0:Int)=0∧x.subs.length=0
  ·have HV:Hid (bp x=true):=by show _=_;unfold bp;rw[if_neg (by rw[HK.out];decide),if_neg (by rw[HK.out];decide),if_neg (by rw[HK.out];decide),if_neg (by rw[HK.out];decide),if_neg (by rw[HK.out];decide),if_pos HK.out];rw[hn,decide_eq_true ⟨hc.1,hc.2.2.2⟩];rfl
   have HB:Hid _:=hc;clear hc;go_enter func60,ntmps60;go_wp2_with fail;refine(jV _ _ _).mono ?_;rw[hn];rintro e w' ⟨rfl,m,rfl⟩;go_wp2_with fail;refine(mW _ _ _ _ _ _ _ (by simpa using HB.out)).mono ?_;rintro e w' ⟨rfl,rfl⟩;go_wp2_with fail;go_ret;exact⟨aK HV.out.symm,below_drewN aG _⟩
  ·have HV:Hid (bp x=false):=by show _=_;unfold bp;rw[if_neg (by rw[HK.out];decide),if_neg (by rw[HK.out];decide),if_neg (by rw[HK.out];decide),if_neg (by rw[HK.out];decide),if_neg (by rw[HK.out];decide),if_pos HK.out];rw[hn,decide_eq_false (λh=>hc ⟨h.1,rfl,rfl,h.2⟩)];rfl
   have HB:Hid _:=hc;clear hc;go_enter func60,ntmps60;go_wp2_with fail;refine(jV _ _ _).mono ?_;rw[hn];rintro e w' ⟨rfl,m,rfl⟩;go_wp2_with fail;refine(mX _ _ _ _ _ _ _ (by simpa using HB.out)).mono ?_;rintro e w' ⟨rfl,rfl⟩;go_wp2_with fail;go_ret;exact⟨aK HV.out.symm,below_drewN aG _⟩
theorem Da (x:Nd)(w:World)(hk:x.kind=6):Calls prog 60 #[dD x] w λe w'=>e=.returned (.bool (bp x))∧Below w.heap.size w w':=by
 unfold dD;have mL:(x.kind==6)=true:=by simpa using hk
 have hb0:(x.kind==0)=false:=by rw[hk];decide
 have hb1:(x.kind==1)=false:=by rw[hk];decide
 have hb2:(x.kind==2)=false:=by rw[hk];decide
 have hb3:(x.kind==3)=false:=by rw[hk];decide
 have hb4:(x.kind==4)=false:=by rw[hk];decide
 have lC:(x.kind==5)=false:=by rw[hk];decide
 have HK:Hid (x.kind=6):=hk;clear hk;by_cases hl:x.n=0∨x.n=1
 ·by_cases hc:x.text=[]∧(0:Int)=0∧x.d=0∧x.subs.length=0
  ·have HV:Hid (bp x=true):=by show _=_;unfold bp;rw[if_neg (by rw[HK.out];decide),if_neg (by rw[HK.out];decide),if_neg (by rw[HK.out];decide),if_neg (by rw[HK.out];decide),if_neg (by rw[HK.out];decide),if_neg (by rw[HK.out];decide),if_pos HK.out];exact decide_eq_true ⟨hl,hc.1,hc.2.2.1,hc.2.2.2⟩
   have HB:Hid _:=hc;clear hc;cases KL:(x.n==0)
   ·have Uf:(x.n==1)=true:=by rw[beq_iff_eq];have:=beq_eq_false_iff_ne.1 KL;omega
    clear hl;go_enter func60,ntmps60;go_wp2_with fail;refine(mW _ _ _ _ _ _ _ (by simpa using HB.out)).mono ?_;rintro e w' ⟨rfl,rfl⟩;go_wp2_with fail;go_ret;exact⟨aK HV.out.symm,aG⟩
   ·clear hl;go_enter func60,ntmps60;go_wp2_with fail;refine(mW _ _ _ _ _ _ _ (by simpa using HB.out)).mono ?_;rintro e w' ⟨rfl,rfl⟩;go_wp2_with fail;go_ret;exact⟨aK HV.out.symm,aG⟩
  ·have HV:Hid (bp x=false):=by show _=_;unfold bp;rw[if_neg (by rw[HK.out];decide),if_neg (by rw[HK.out];decide),if_neg (by rw[HK.out];decide),if_neg (by rw[HK.out];decide),if_neg (by rw[HK.out];decide),if_neg (by rw[HK.out];decide),if_pos HK.out];exact decide_eq_false (λh=>hc ⟨h.2.1,rfl,h.2.2.1,h.2.2.2⟩)
   have HB:Hid _:=hc;clear hc;cases KL:(x.n==0)
   ·have Uf:(x.n==1)=true:=by rw[beq_iff_eq];have:=beq_eq_false_iff_ne.1 KL;omega
    clear hl;go_enter func60,ntmps60;go_wp2_with fail;refine(mX _ _ _ _ _ _ _ (by simpa using HB.out)).mono ?_;rintro e w' ⟨rfl,rfl⟩;go_wp2_with fail;go_ret;exact⟨aK HV.out.symm,aG⟩
   ·clear hl;go_enter func60,ntmps60;go_wp2_with fail;refine(mX _ _ _ _ _ _ _ (by simpa using HB.out)).mono ?_;rintro e w' ⟨rfl,rfl⟩;go_wp2_with fail;go_ret;exact⟨aK HV.out.symm,aG⟩
 ·have HV:Hid (bp x=false):=by show _=_;unfold bp;rw[if_neg (by rw[HK.out];decide),if_neg (by rw[HK.out];decide),if_neg (by rw[HK.out];decide),if_neg (by rw[HK.out];decide),if_neg (by rw[HK.out];decide),if_neg (by rw[HK.out];decide),if_pos HK.out];exact decide_eq_false (λh=>hl h.1)
  have KL:(x.n==0)=false:=by rw[beq_eq_false_iff_ne];omega
  have Uf:(x.n==1)=false:=by rw[beq_eq_false_iff_ne];omega
  clear hl;go_enter func60,ntmps60;go_wp2_with fail;go_ret;exact⟨aK HV.out.symm,aG⟩
theorem Db (x:Nd)(w:World)(hk:x.kind=7):Calls prog 60 #[dD x] w λe w'=>e=.returned (.bool (bp x))∧Below w.heap.size w w':=by
 unfold dD;have Bp:(x.kind==7)=true:=by simpa using hk
 have hb0:(x.kind==0)=false:=by rw[hk];decide
 have hb1:(x.kind==1)=false:=by rw[hk];decide
 have hb2:(x.kind==2)=false:=by rw[hk];decide
 have hb3:(x.kind==3)=false:=by rw[hk];decide
 have hb4:(x.kind==4)=false:=by rw[hk];decide
 have lC:(x.kind==5)=false:=by rw[hk];decide
 have mL:(x.kind==6)=false:=by rw[hk];decide
 have HK:Hid (x.kind=7):=hk;clear hk;cases hn:rB x.n
 ·have HV:Hid (bp x=false):=by show _=_;unfold bp;rw[if_neg (by rw[HK.out];decide),if_neg (by rw[HK.out];decide),if_neg (by rw[HK.out];decide),if_neg (by rw[HK.out];decide),if_neg (by rw[HK.out];decide),if_neg (by rw[HK.out];decide),if_neg (by rw[HK.out];decide),if_pos HK.out];rw[hn,Bool.false_and]
  go_enter func60,ntmps60;go_wp2_with fail;refine(qc _ _).mono ?_;rw[hn];rintro e w' ⟨rfl,rfl⟩;go_wp2_with fail;go_ret;exact⟨aK HV.out.symm,aG⟩
 ·by_cases hc:x.text=[]∧(0:Int)=0∧x.d=0∧x.subs.length=0
  ·have HV:Hid (bp x=true):=by show _=_;unfold bp;rw[if_neg (by rw[HK.out];decide),if_neg (by rw[HK.out];decide),if_neg (by rw[HK.out];decide),if_neg (by rw[HK.out];decide),if_neg (by rw[HK.out];decide),if_neg (by rw[HK.out];decide),if_neg (by rw[HK.out];decide),if_pos HK.out];rw[hn,decide_eq_true ⟨hc.1,hc.2.2.1,hc.2.2.2⟩];rfl
   have HB:Hid _:=hc;clear hc;go_enter func60,ntmps60;go_wp2_with fail;refine(qc _ _).mono ?_;rw[hn];rintro e w' ⟨rfl,rfl⟩;go_wp2_with fail;refine(mW _ _ _ _ _ _ _ (by simpa using HB.out)).mono ?_;rintro e w' ⟨rfl,rfl⟩;go_wp2_with fail;go_ret;exact⟨aK HV.out.symm,aG⟩
  ·have HV:Hid (bp x=false):=by show _=_;unfold bp;rw[if_neg (by rw[HK.out];decide),if_neg (by rw[HK.out];decide),if_neg (by rw[HK.out];decide),if_neg (by rw[HK.out];decide),if_neg (by rw[HK.out];decide),if_neg (by rw[HK.out];decide),if_neg (by rw[HK.out];decide),if_pos HK.out];rw[hn,decide_eq_false (λh=>hc ⟨h.1,rfl,h.2.1,h.2.2⟩)];rfl
   have HB:Hid _:=hc;clear hc;go_enter func60,ntmps60;go_wp2_with fail;refine(qc _ _).mono ?_;rw[hn];rintro e w' ⟨rfl,rfl⟩;go_wp2_with fail;refine(mX _ _ _ _ _ _ _ (by simpa using HB.out)).mono ?_;rintro e w' ⟨rfl,rfl⟩;go_wp2_with fail;go_ret;exact⟨aK HV.out.symm,aG⟩
theorem xp (x:Nd)(w:World)(hk:x.kind<0∨7<x.kind):Calls prog 60 #[dD x] w λe w'=>e=.returned (.bool (bp x))∧Below w.heap.size w w':=by
 unfold dD;have hb0:(x.kind==0)=false:=by rw[beq_eq_false_iff_ne];omega
 have hb1:(x.kind==1)=false:=by rw[beq_eq_false_iff_ne];omega
 have hb2:(x.kind==2)=false:=by rw[beq_eq_false_iff_ne];omega
 have hb3:(x.kind==3)=false:=by rw[beq_eq_false_iff_ne];omega
 have hb4:(x.kind==4)=false:=by rw[beq_eq_false_iff_ne];omega
 have lC:(x.kind==5)=false:=by rw[beq_eq_false_iff_ne];omega
 have mL:(x.kind==6)=false:=by rw[beq_eq_false_iff_ne];omega
 have Bp:(x.kind==7)=false:=by rw[beq_eq_false_iff_ne];omega
 have HV:Hid (bp x=false):=by show _=_;unfold bp;rw[if_neg (by omega),if_neg (by omega),if_neg (by omega),if_neg (by omega),if_neg (by omega),if_neg (by omega),if_neg (by omega),if_neg (by omega)]
 clear hk;go_enter func60,ntmps60;go_wp2_with fail;go_ret;exact⟨aK HV.out.symm,aG⟩
theorem pS (x:Nd)(w:World)(ht:x.text.length≤maxLen):Calls prog 60 #[dD x] w λe w'=>e=.returned (.bool (bp x))∧Below w.heap.size w w':=by
 by_cases h:x.kind<0∨7<x.kind
 ·exact xp x w h
 ·have:x.kind=0∨x.kind=1∨x.kind=2∨x.kind=3∨x.kind=4∨x.kind=5∨x.kind=6∨x.kind=7:=by omega
  rcases this with h|h|h|h|h|h|h|h
  ·exact C4 x w h
  ·exact C5 x w h
  ·exact C6 x w h
  ·exact C7 x w h
  ·exact C8 x w ht h
  ·exact C9 x w h
  ·exact Da x w h
  ·exact Db x w h
theorem Fy (l:List Int)(k:Nat)(h:k<l.length)(all:Int):fq (l.take (k+1)) all=(fq (l.take k) all&&decide (0≤l.getD k 0∧l.getD k 0<all)):=by
 unfold fq;rw[zbA h,List.all_append];simp[List.getD,List.getElem?_eq_getElem h]
theorem MR (l:List Int)(k:Nat)(h:k<l.length)(all:Int)(hb:¬(0≤l.getD k 0∧l.getD k 0<all)):fq l all=false:=by
 unfold fq;rw[List.all_eq_false];refine⟨l[k],zaN h,?_⟩;simp[List.getD,List.getElem?_eq_getElem h]at hb ⊢;omega
theorem pT (l:List Int)(a:Option Addr)(cap:Nat)(all:Int)(w:World)(hl:l.length≤maxLen)(hc:qm w a l):Calls prog 61 #[.slice a l.length cap,.int .i64 all] w λe w'=>e=.returned (.bool (fq l all))∧w'=w:=by
 unfold maxLen at hl;rcases hc with rfl|⟨b,o,rfl,hc⟩
 ·go_enter func61,ntmps61;go_wp2_with fail;go_loop [9] (λi=>i=.int .i64 0) (λi=>(intOf i).toNat)
  case atStart=>rfl
  case round=>
   subst hrel;go_wp2_with fail;go_ret;exact⟨rfl,rfl⟩
 ·have HC:Hid _:=hc;clear hc;go_enter func61,ntmps61;go_wp2_with fail;go_loop [9] (λi=>∃k:Nat,k≤l.length∧i=.int .i64 k∧Hid (fq (l.take k) all=true)) (λi=>l.length-(intOf i).toNat)
  case atStart=>exact⟨0,zaj _,rfl,rfl⟩
  case round=>
   obtain⟨k,hk,rfl,hr⟩:=hrel;by_cases hlt:k<l.length
   ·have hcell:=HC.out k hlt;by_cases hb:0≤l.getD k 0∧l.getD k 0<all
    ·have H:Hid (fq (l.take (k+1)) all=true):=by show _=_;rw[Fy l k hlt,hr.out,decide_eq_true hb];rfl
     obtain⟨hb1,hb2⟩:=hb;generalize hg:l.getD k 0=v at *;have HG:Hid _:=hg;clear hg;go_wp2_with fail
     go_round
     case rel=>exact⟨k+1,by omega,by go_num,H⟩
     case measure=>simp[intOf];omega
    ·have H:Hid (fq l all=false):=MR l k hlt all hb;generalize hg:l.getD k 0=v at *;have HG:Hid _:=hg;clear hg;by_cases h0:0≤v
     ·have h1:all≤v:=by omega
      clear hb;go_wp2_with fail;go_ret;exact⟨aK H.out.symm,rfl⟩
     ·clear hb;go_wp2_with fail;go_ret;exact⟨aK H.out.symm,rfl⟩
   ·have H:Hid (fq l all=true):=by have:=hr.out;rwa[zaI (by omega)]at this
    go_wp2_with fail;go_ret;exact⟨aK H.out.symm,rfl⟩
structure A7 (w:World) (b o:Nat) (x:Nd):Prop where
 kind:w.cell? ⟨b,o,none⟩=some (.int .i64 x.kind)
 text:w.cell? ⟨b,o+1,none⟩=some (.string ⟨⟨x.text⟩⟩)
 n:w.cell? ⟨b,o+2,none⟩=some (.int .i64 x.n)
 d:w.cell? ⟨b,o+3,none⟩=some (.int .i64 x.d)
 subs:w.cell? ⟨b,o+4,none⟩=some (.slice x.sa x.subs.length x.cap)
 ints:qm w x.sa x.subs
 Zu:x.text.length≤maxLen
 Zv:x.subs.length≤maxLen
def bM (w:World)(b o:Nat)(G:List Nd):Prop:=∀i,(h:i<G.length)→A7 w b (o+i*5) G[i]
theorem lp {w:World}{a:Addr}{v:Value}(h:w.cell? a=some v):a.block<w.heap.size:=by
 unfold World.cell? at h;by_cases hb:a.block<w.heap.size
 ·exact hb
 ·rw[zaU (by omega)]at h;simp at h
theorem cj {w w':World}(hb:Below w.heap.size w w'){a:Addr}{v:Value}(h:w.cell? a=some v):w'.cell? a=some v:=by
 rw[hb.cell (lp h)];exact h
theorem qm.below {w w':World}{a:Option Addr}{l:List Int}(h:qm w a l)(hb:Below w.heap.size w w'):qm w' a l:=by
 rcases h with rfl|⟨b,o,rfl,hc⟩
 ·exact Or.inl rfl
 ·exact Or.inr ⟨b,o,rfl,λj hj=>cj hb (hc j hj)⟩
theorem A7.below {w w':World}{b o:Nat}{x:Nd}(h:A7 w b o x)(hb:Below w.heap.size w w'):A7 w' b o x:=
 ⟨cj hb h.kind,cj hb h.text,cj hb h.n,cj hb h.d,cj hb h.subs,h.ints.below hb,h.Zu,h.Zv⟩
theorem bM.below {w w':World}{b o:Nat}{G:List Nd}(h:bM w b o G)(hb:Below w.heap.size w w'):bM w' b o G:=λi hi=>(h i hi).below hb
theorem zA {w w1:World}{c:Array Value}{t:TypeId}(hb:Below (w.alloc (.cells c t)).heap.size (w.alloc (.cells c t)) w1):(∀o,w1.cell? ⟨w.heap.size,o,none⟩=c[o]?)∧(∀o,w1.frozen? ⟨w.heap.size,o,none⟩=false):=by
 refine⟨λo=>?_,λo=>?_⟩
 ·rw[hb.cell (by simp),World.cell?_alloc_at _ _ _ _ rfl]
 ·rw[hb.frozen (by simp),World.frozen?_alloc_at _ _ _ _ rfl]
theorem MS {α:Type}(l:List α)(k:Nat)(h:k<l.length)(p:α→Bool):(l.take (k+1)).all p=((l.take k).all p&&p l[k]):=by
 rw[zbA h,List.all_append,zaf,List.all_nil,zba]
theorem UU {α:Type}(l:List α)(k:Nat)(h:k<l.length)(p:α→Bool)(hp:p l[k]=false):l.all p=false:=by
 rw[List.all_eq_false];exact⟨l[k],zaN h,by simp[hp]⟩
theorem pk (G:List Nd)(b o cap:Nat)(w:World)(hl:G.length≤maxLen)(hG:bM w b o G):Calls prog 38 #[.slice (some ⟨b,o,none⟩) G.length cap] w λe w'=>e=.returned (.bool (eQ G))∧Below w.heap.size w w':=by
 unfold maxLen at hl;have HG:Hid _:=hG;clear hG;by_cases h1:G.length<1
 ·have H:Hid (eQ G=false):=by show _=_;unfold eQ;rw[decide_eq_false (by omega)];rfl
  go_enter func38,ntmps38;go_wp2_with fail;go_ret;exact⟨aK H.out.symm,Below.refl _ _⟩
 ·by_cases h2:150<G.length
  ·have H:Hid (eQ G=false):=by show _=_;unfold eQ;rw[decide_eq_false (by omega)];rfl
   go_enter func38,ntmps38;go_wp2_with fail;go_ret;exact⟨aK H.out.symm,Below.refl _ _⟩
  ·have d1:decide ((G.length:Int)<1)=false:=by simp;omega
   have d2:decide ((150:Int)<(G.length:Int))=false:=by simp;omega
   have HR:Hid (eQ G=G.all (λx=>bp x&&fq x.subs G.length)):=by show _=_;unfold eQ;rw[decide_eq_true (by omega)];rfl
   go_enter func38,ntmps38;go_wp2_with fail;go_loopw [15] (λi wr=>∃k:Nat,k≤G.length∧i=.int .i64 k∧Below w.heap.size w wr∧Hid ((G.take k).all (λx=>bp x&&fq x.subs G.length)=true)) (λi _=>G.length-(intOf i).toNat)
   case atStart=>exact⟨0,zaj _,rfl,Below.refl _ _,rfl⟩
   case round=>
    obtain⟨k,hk,rfl,hb,hr⟩:=hrel;by_cases hlt:k<G.length
    ·obtain⟨c0,c1,c2,c3,c4,hi,ht,hs⟩:=(HG.out k hlt).below hb;have HS:Hid _:=MS G k hlt (λx=>bp x&&fq x.subs G.length);have HN:Hid _:=UU G k hlt (λx=>bp x&&fq x.subs G.length);have HT:Hid _:=ht;have HI:Hid _:=hi;have HL:Hid _:=hs;clear ht hi hs;generalize G[k]=x at *;have hz:=hb.size;cases hkb:bp x
     ·have HV:Hid (eQ G=false):=by show _=_;rw[HR.out];exact HN.out (by simp[hkb])
      go_wp2_with fail;refine(pS x _ HT.out).mono ?_;rw[hkb];rintro e w2 ⟨rfl,hb2⟩;go_wp2_with fail;go_ret;exact⟨aK HV.out.symm,(hb.alloc hz _).trans (hb2.mono (by simp;omega))⟩
     ·go_wp2_with fail;refine(pS x _ HT.out).mono ?_;rw[hkb];rintro e w2 ⟨rfl,hb2⟩;obtain⟨hcell,KJ⟩:=zA hb2;have hb3:=(hb.alloc hz _).trans (hb2.mono (by simp;omega));have hz2:=hb2.size;have HI2:Hid (qm w2 x.sa x.subs):=qm.below (w:=wr) HI.out ((Below.refl _ _).alloc (zaa _) _ |>.trans (hb2.mono (by simp)));have ij:Hid _:=hb2;clear hb2 KJ c0 c1 c2 c3 c4;cases hsb:fq x.subs G.length
      ·have HV:Hid (eQ G=false):=by show _=_;rw[HR.out];exact HN.out (by simp[hsb])
       go_wp2_with fail;refine(pT x.subs _ _ _ _ HL.out HI2.out).mono ?_;rw[hsb];rintro e w3 ⟨rfl,rfl⟩;go_wp2_with fail;go_ret;exact⟨aK HV.out.symm,hb3⟩
      ·have HV:Hid ((G.take (k+1)).all (λx=>bp x&&fq x.subs G.length)=true):=by show _=_;rw[HS.out,hr.out,hkb,hsb];rfl
       go_wp2_with fail;refine(pT x.subs _ _ _ _ HL.out HI2.out).mono ?_;rw[hsb];rintro e w3 ⟨rfl,rfl⟩;go_wp2_with fail;go_roundw
       case rel=>exact⟨k+1,by omega,by go_num,hb3,HV⟩
       case measure=>simp[intOf];omega
    ·have HV:Hid (eQ G=true):=by show _=_;rw[HR.out];have:=hr.out;rwa[zaI (by omega)]at this
     go_wp2_with fail;go_ret;exact⟨aK HV.out.symm,hb⟩
end Go.Proofs.YtlhimdjkkiflhaaGreatDoor
