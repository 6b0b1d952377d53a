import Derived.Test.YtlhimdjkkiflhaaGreatDoorRet10
set_option maxHeartbeats 8000000
set_option maxRecDepth 100000
open Go.Value renaming int→Γ
open Go.IntKind renaming i64→Δ
open Go renaming World→Θ,Calls→Ξ,Value→Φ,maxLen→θ
open List renaming replicate→Λ,getD→η
open Go.RowKit renaming Below→Ω
open Go.Lib renaming itoa→ζ
namespace Go.Proofs.YtlhimdjkkiflhaaGreatDoor
open Go.Proofs.Tryz
open Go.RowKit Go.Loop
structure Nd where
 kind:Int
 text:List UInt8
 n:Int
 d:Int
 subs:List Int
 sa:Option Addr
 cap:Nat
def dF (x:Nd):Φ:= .agg #[Γ Δ x.kind,.string ⟨⟨x.text⟩⟩,Γ Δ x.n,Γ Δ x.d,.slice x.sa x.subs.length x.cap]
def rA (w:Θ)(a:Option Addr)(l:List Int):Prop:=
 l=[]∨∃b o,a=some ⟨b,o,none⟩∧∀j,j<l.length→w.cell? ⟨b,o+j,none⟩=some (Γ Δ (l.getD j 0))
def aQ (x:Nd):Bool:=
 if x.kind=0 then decide (x.text=[]∧x.n=0∧x.d=0∧x.subs.length=0)
 else if x.kind=1 then decide (x.subs.length=2∧x.text=[]∧x.n=0∧x.d=0)
 else if x.kind=2 then decide (x.subs.length≤20∧x.text=[]∧x.n=0∧x.d=0)
 else if x.kind=3 then decide (x.text.length≤400∧x.n=0∧x.d=0∧x.subs.length=0)
 else if x.kind=4 then decide (x.n=0∧x.d=0∧x.subs.length=0)&&ir x.text
 else if x.kind=5 then lT x.n x.d&&decide (x.text=[]∧x.subs.length=0)
 else if x.kind=6 then decide ((x.n=0∨x.n=1)∧x.text=[]∧x.d=0∧x.subs.length=0)
 else if x.kind=7 then jf x.n&&decide (x.text=[]∧x.d=0∧x.subs.length=0)
 else false
def eT (l:List Int)(all:Int):Bool:=l.all λs=>decide (0≤s∧s<all)
def ey (G:List Nd):Bool:=decide (1≤G.length∧G.length≤150)&&G.all λx=>aQ x&&eT x.subs G.length
theorem aD {w:Θ}{o:Obj}:Ω w.heap.size w (w.alloc o):=(zad _ _).alloc (zac _) _
theorem ng (l:List UInt8)(n d:Int)(a:Option Addr)(len cap:Nat)(w:Θ)(h:l=[]∧n=0∧d=0∧len=0):Ξ prog 95 #[.string ⟨⟨l⟩⟩,Γ Δ n,Γ Δ d,.slice a len cap] w λe w'=>e=.returned (.bool true)∧w'=w:=by
 have:=Fb l n d a len cap w;rwa[zaY h]at this
theorem nh (l:List UInt8)(n d:Int)(a:Option Addr)(len cap:Nat)(w:Θ)(h:¬(l=[]∧n=0∧d=0∧len=0)):Ξ prog 95 #[.string ⟨⟨l⟩⟩,Γ Δ n,Γ Δ d,.slice a len cap] w λe w'=>e=.returned (.bool false)∧w'=w:=by
 have:=Fb l n d a len cap w;rwa[zaS h]at this
theorem FU (x:Nd)(w:Θ)(hk:x.kind=0):Ξ prog 60 #[dF x] w λe w'=>e=.returned (.bool (aQ x))∧Ω w.heap.size w w':=by
 unfold dF;have hb0:(x.kind==0)=true:=by simpa using hk
 have HK:Hid (x.kind=0):=hk;clear hk;by_cases hc:x.text=[]∧x.n=0∧x.d=0∧x.subs.length=0
 ·have HV:Hid (aQ x=true):=by show _=_;unfold aQ;rw[zab HK.out];exact zaY hc
  have HB:Hid _:=hc;clear hc;go_enter func60,ntmps60;go_wp2_with fail;refine(ng _ _ _ _ _ _ _ (by simpa using HB.out)).mono ?_;rintro e w' ⟨rfl,rfl⟩;go_wp2_with fail;go_ret;exact⟨aI HV.out.symm,aD⟩
 ·have HV:Hid (aQ x=false):=by show _=_;unfold aQ;rw[zab HK.out];exact zaS hc
  have HB:Hid _:=hc;clear hc;go_enter func60,ntmps60;go_wp2_with fail;refine(nh _ _ _ _ _ _ _ (by simpa using HB.out)).mono ?_;rintro e w' ⟨rfl,rfl⟩;go_wp2_with fail;go_ret;exact⟨aI HV.out.symm,aD⟩
theorem FW (x:Nd)(w:Θ)(hk:x.kind=1):Ξ prog 60 #[dF x] w λe w'=>e=.returned (.bool (aQ x))∧Ω w.heap.size w w':=by
 unfold dF;have hb1:(x.kind==1)=true:=by simpa using hk
 have hb0:(x.kind==0)=false:=by rw[hk];decide
 have HK:Hid (x.kind=1):=hk;clear hk;by_cases hl:x.subs.length=2
 ·by_cases hc:x.text=[]∧x.n=0∧x.d=0∧(0:Nat)=0
  ·have HV:Hid (aQ x=true):=by show _=_;unfold aQ;rw[zaa (by rw[HK.out];decide),zab HK.out];simp only[zaK];exact⟨hl,hc.1,hc.2.1,hc.2.2.1⟩
   have NQ:((x.subs.length:Int)==2)=true:=by rw[hl];rfl
   have HB:Hid _:=hc;clear hc hl;go_enter func60,ntmps60;go_wp2_with fail;refine(ng _ _ _ _ _ _ _ (by simpa using HB.out)).mono ?_;rintro e w' ⟨rfl,rfl⟩;go_wp2_with fail;go_ret;exact⟨aI HV.out.symm,aD⟩
  ·have HV:Hid (aQ x=false):=by show _=_;unfold aQ;rw[zaa (by rw[HK.out];decide),zab HK.out];simp only[zbW];intro h;exact hc ⟨h.2.1,h.2.2.1,h.2.2.2,rfl⟩
   have NQ:((x.subs.length:Int)==2)=true:=by rw[hl];rfl
   have HB:Hid _:=hc;clear hc hl;go_enter func60,ntmps60;go_wp2_with fail;refine(nh _ _ _ _ _ _ _ (by simpa using HB.out)).mono ?_;rintro e w' ⟨rfl,rfl⟩;go_wp2_with fail;go_ret;exact⟨aI HV.out.symm,aD⟩
 ·have HV:Hid (aQ x=false):=by show _=_;unfold aQ;rw[zaa (by rw[HK.out];decide),zab HK.out];simp only[zbW];intro h;exact hl h.1
  have NQ:((x.subs.length:Int)==2)=false:=by rw[zah];omega
  clear hl;go_enter func60,ntmps60;go_wp2_with fail;go_ret;exact⟨aI HV.out.symm,aD⟩
theorem FX (x:Nd)(w:Θ)(hk:x.kind=2):Ξ prog 60 #[dF x] w λe w'=>e=.returned (.bool (aQ x))∧Ω w.heap.size w w':=by
 unfold dF;have hb2:(x.kind==2)=true:=by simpa using hk
 have hb0:(x.kind==0)=false:=by rw[hk];decide
 have hb1:(x.kind==1)=false:=by rw[hk];decide
 have HK:Hid (x.kind=2):=hk;clear hk;by_cases hl:x.subs.length≤20
 ·by_cases hc:x.text=[]∧x.n=0∧x.d=0∧(0:Nat)=0
  ·have HV:Hid (aQ x=true):=by show _=_;unfold aQ;rw[zaa (by rw[HK.out];decide),zaa (by rw[HK.out];decide),zab HK.out];simp only[zaK];exact⟨hl,hc.1,hc.2.1,hc.2.2.1⟩
   have NQ:(x.subs.length:Int)≤20:=by omega
   have HB:Hid _:=hc;clear hc hl;go_enter func60,ntmps60;go_wp2_with fail;refine(ng _ _ _ _ _ _ _ (by simpa using HB.out)).mono ?_;rintro e w' ⟨rfl,rfl⟩;go_wp2_with fail;go_ret;exact⟨aI HV.out.symm,aD⟩
  ·have HV:Hid (aQ x=false):=by show _=_;unfold aQ;rw[zaa (by rw[HK.out];decide),zaa (by rw[HK.out];decide),zab HK.out];simp only[zbW];intro h;exact hc ⟨h.2.1,h.2.2.1,h.2.2.2,rfl⟩
   have NQ:(x.subs.length:Int)≤20:=by omega
   have HB:Hid _:=hc;clear hc hl;go_enter func60,ntmps60;go_wp2_with fail;refine(nh _ _ _ _ _ _ _ (by simpa using HB.out)).mono ?_;rintro e w' ⟨rfl,rfl⟩;go_wp2_with fail;go_ret;exact⟨aI HV.out.symm,aD⟩
 ·have HV:Hid (aQ x=false):=by show _=_;unfold aQ;rw[zaa (by rw[HK.out];decide),zaa (by rw[HK.out];decide),zab HK.out];simp only[zbW];intro h;exact hl h.1
  have NQ:(20:Int)<(x.subs.length:Int):=by omega
  clear hl;go_enter func60,ntmps60;go_wp2_with fail;go_ret;exact⟨aI HV.out.symm,aD⟩
theorem FY (x:Nd)(w:Θ)(hk:x.kind=3):Ξ prog 60 #[dF x] w λe w'=>e=.returned (.bool (aQ x))∧Ω w.heap.size w w':=by
 unfold dF;have hb3:(x.kind==3)=true:=by simpa using hk
 have hb0:(x.kind==0)=false:=by rw[hk];decide
 have hb1:(x.kind==1)=false:=by rw[hk];decide
 have hb2:(x.kind==2)=false:=by rw[hk];decide
 have HK:Hid (x.kind=3):=hk;clear hk;by_cases hl:x.text.length≤400
 ·by_cases hc:([]:List UInt8)=[]∧x.n=0∧x.d=0∧x.subs.length=0
  ·have HV:Hid (aQ x=true):=by show _=_;unfold aQ;rw[zaa (by rw[HK.out];decide),zaa (by rw[HK.out];decide),zaa (by rw[HK.out];decide),zab HK.out];simp only[zaK];exact⟨hl,hc.2.1,hc.2.2.1,hc.2.2.2⟩
   have NQ:(x.text.length:Int)≤400:=by omega
   have HB:Hid _:=hc;clear hc hl;go_enter func60,ntmps60;go_wp2_with fail;refine(ng _ _ _ _ _ _ _ (by simpa using HB.out)).mono ?_;rintro e w' ⟨rfl,rfl⟩;go_wp2_with fail;go_ret;exact⟨aI HV.out.symm,aD⟩
  ·have HV:Hid (aQ x=false):=by show _=_;unfold aQ;rw[zaa (by rw[HK.out];decide),zaa (by rw[HK.out];decide),zaa (by rw[HK.out];decide),zab HK.out];simp only[zbW];intro h;exact hc ⟨rfl,h.2.1,h.2.2.1,h.2.2.2⟩
   have NQ:(x.text.length:Int)≤400:=by omega
   have HB:Hid _:=hc;clear hc hl;go_enter func60,ntmps60;go_wp2_with fail;refine(nh _ _ _ _ _ _ _ (by simpa using HB.out)).mono ?_;rintro e w' ⟨rfl,rfl⟩;go_wp2_with fail;go_ret;exact⟨aI HV.out.symm,aD⟩
 ·have HV:Hid (aQ x=false):=by show _=_;unfold aQ;rw[zaa (by rw[HK.out];decide),zaa (by rw[HK.out];decide),zaa (by rw[HK.out];decide),zab HK.out];simp only[zbW];intro h;exact hl h.1
  have NQ:(400:Int)<(x.text.length:Int):=by omega
  clear hl;go_enter func60,ntmps60;go_wp2_with fail;go_ret;exact⟨aI HV.out.symm,aD⟩
theorem FZ (x:Nd)(w:Θ)(ht:x.text.length≤θ)(hk:x.kind=4):Ξ prog 60 #[dF x] w λe w'=>e=.returned (.bool (aQ x))∧Ω w.heap.size w w':=by
 unfold dF;have hb4:(x.kind==4)=true:=by simpa using hk
 have hb0:(x.kind==0)=false:=by rw[hk];decide
 have hb1:(x.kind==1)=false:=by rw[hk];decide
 have hb2:(x.kind==2)=false:=by rw[hk];decide
 have hb3:(x.kind==3)=false:=by rw[hk];decide
 have HK:Hid (x.kind=4):=hk;clear hk;by_cases hc:([]:List UInt8)=[]∧x.n=0∧x.d=0∧x.subs.length=0
 ·have HV:Hid (aQ x=ir x.text):=by show _=_;unfold aQ;rw[zaa (by rw[HK.out];decide),zaa (by rw[HK.out];decide),zaa (by rw[HK.out];decide),zaa (by rw[HK.out];decide),zab HK.out];rw[zaY hc.2,zbI]
  have HB:Hid _:=hc;clear hc;go_enter func60,ntmps60;go_wp2_with fail;refine(ng _ _ _ _ _ _ _ (by simpa using HB.out)).mono ?_;rintro e w' ⟨rfl,rfl⟩;go_wp2_with fail;refine(C4 _ _ ht).mono ?_;rintro e w' ⟨rfl,rfl⟩;go_wp2_with fail;go_ret;exact⟨aI HV.out.symm,aD⟩
 ·have HV:Hid (aQ x=false):=by show _=_;unfold aQ;rw[zaa (by rw[HK.out];decide),zaa (by rw[HK.out];decide),zaa (by rw[HK.out];decide),zaa (by rw[HK.out];decide),zab HK.out];rw[zaS (λh=>hc ⟨rfl,h⟩),Bool.false_and]
  have HB:Hid _:=hc;clear hc;go_enter func60,ntmps60;go_wp2_with fail;refine(nh _ _ _ _ _ _ _ (by simpa using HB.out)).mono ?_;rintro e w' ⟨rfl,rfl⟩;go_wp2_with fail;go_ret;exact⟨aI HV.out.symm,aD⟩
theorem F0 (x:Nd)(w:Θ)(hk:x.kind=5):Ξ prog 60 #[dF x] w λe w'=>e=.returned (.bool (aQ x))∧Ω w.heap.size w w':=by
 unfold dF;have j8:(x.kind==5)=true:=by simpa using hk
 have hb0:(x.kind==0)=false:=by rw[hk];decide
 have hb1:(x.kind==1)=false:=by rw[hk];decide
 have hb2:(x.kind==2)=false:=by rw[hk];decide
 have hb3:(x.kind==3)=false:=by rw[hk];decide
 have hb4:(x.kind==4)=false:=by rw[hk];decide
 have HK:Hid (x.kind=5):=hk;clear hk;cases hn:lT x.n x.d
 ·have HV:Hid (aQ x=false):=by show _=_;unfold aQ;rw[zaa (by rw[HK.out];decide),zaa (by rw[HK.out];decide),zaa (by rw[HK.out];decide),zaa (by rw[HK.out];decide),zaa (by rw[HK.out];decide),zab HK.out];rw[hn,Bool.false_and]
  go_enter func60,ntmps60;go_wp2_with fail;refine(jW _ _ _).mono ?_;rw[hn];rintro e w' ⟨rfl,m,rfl⟩;go_wp2_with fail;go_ret;exact⟨aI HV.out.symm,zbf aD _⟩
 ·by_cases hc:x.text=[]∧(0:Int)=0∧(0:Int)=0∧x.subs.length=0
  ·have HV:Hid (aQ x=true):=by show _=_;unfold aQ;rw[zaa (by rw[HK.out];decide),zaa (by rw[HK.out];decide),zaa (by rw[HK.out];decide),zaa (by rw[HK.out];decide),zaa (by rw[HK.out];decide),zab HK.out];rw[hn,zaY ⟨hc.1,hc.2.2.2⟩];rfl
   have HB:Hid _:=hc;clear hc;go_enter func60,ntmps60;go_wp2_with fail;refine(jW _ _ _).mono ?_;rw[hn];rintro e w' ⟨rfl,m,rfl⟩;go_wp2_with fail;refine(ng _ _ _ _ _ _ _ (by simpa using HB.out)).mono ?_;rintro e w' ⟨rfl,rfl⟩;go_wp2_with fail;go_ret;exact⟨aI HV.out.symm,zbf aD _⟩
  ·have HV:Hid (aQ x=false):=by show _=_;unfold aQ;rw[zaa (by rw[HK.out];decide),zaa (by rw[HK.out];decide),zaa (by rw[HK.out];decide),zaa (by rw[HK.out];decide),zaa (by rw[HK.out];decide),zab HK.out];rw[hn,zaS (λh=>hc ⟨h.1,rfl,rfl,h.2⟩)];rfl
   have HB:Hid _:=hc;clear hc;go_enter func60,ntmps60;go_wp2_with fail;refine(jW _ _ _).mono ?_;rw[hn];rintro e w' ⟨rfl,m,rfl⟩;go_wp2_with fail;refine(nh _ _ _ _ _ _ _ (by simpa using HB.out)).mono ?_;rintro e w' ⟨rfl,rfl⟩;go_wp2_with fail;go_ret;exact⟨aI HV.out.symm,zbf aD _⟩
theorem F3 (x:Nd)(w:Θ)(hk:x.kind=6):Ξ prog 60 #[dF x] w λe w'=>e=.returned (.bool (aQ x))∧Ω w.heap.size w w':=by
 unfold dF;have nX:(x.kind==6)=true:=by simpa using hk
 have hb0:(x.kind==0)=false:=by rw[hk];decide
 have hb1:(x.kind==1)=false:=by rw[hk];decide
 have hb2:(x.kind==2)=false:=by rw[hk];decide
 have hb3:(x.kind==3)=false:=by rw[hk];decide
 have hb4:(x.kind==4)=false:=by rw[hk];decide
 have j8:(x.kind==5)=false:=by rw[hk];decide
 have HK:Hid (x.kind=6):=hk;clear hk;by_cases hl:x.n=0∨x.n=1
 ·by_cases hc:x.text=[]∧(0:Int)=0∧x.d=0∧x.subs.length=0
  ·have HV:Hid (aQ x=true):=by show _=_;unfold aQ;rw[zaa (by rw[HK.out];decide),zaa (by rw[HK.out];decide),zaa (by rw[HK.out];decide),zaa (by rw[HK.out];decide),zaa (by rw[HK.out];decide),zaa (by rw[HK.out];decide),zab HK.out];exact zaY ⟨hl,hc.1,hc.2.2.1,hc.2.2.2⟩
   have HB:Hid _:=hc;clear hc;cases Ln:(x.n==0)
   ·have Yw:(x.n==1)=true:=by rw[zaJ];have:=beq_eq_false_iff_ne.1 Ln;omega
    clear hl;go_enter func60,ntmps60;go_wp2_with fail;refine(ng _ _ _ _ _ _ _ (by simpa using HB.out)).mono ?_;rintro e w' ⟨rfl,rfl⟩;go_wp2_with fail;go_ret;exact⟨aI HV.out.symm,aD⟩
   ·clear hl;go_enter func60,ntmps60;go_wp2_with fail;refine(ng _ _ _ _ _ _ _ (by simpa using HB.out)).mono ?_;rintro e w' ⟨rfl,rfl⟩;go_wp2_with fail;go_ret;exact⟨aI HV.out.symm,aD⟩
  ·have HV:Hid (aQ x=false):=by show _=_;unfold aQ;rw[zaa (by rw[HK.out];decide),zaa (by rw[HK.out];decide),zaa (by rw[HK.out];decide),zaa (by rw[HK.out];decide),zaa (by rw[HK.out];decide),zaa (by rw[HK.out];decide),zab HK.out];exact zaS (λh=>hc ⟨h.2.1,rfl,h.2.2.1,h.2.2.2⟩)
   have HB:Hid _:=hc;clear hc;cases Ln:(x.n==0)
   ·have Yw:(x.n==1)=true:=by rw[zaJ];have:=beq_eq_false_iff_ne.1 Ln;omega
    clear hl;go_enter func60,ntmps60;go_wp2_with fail;refine(nh _ _ _ _ _ _ _ (by simpa using HB.out)).mono ?_;rintro e w' ⟨rfl,rfl⟩;go_wp2_with fail;go_ret;exact⟨aI HV.out.symm,aD⟩
   ·clear hl;go_enter func60,ntmps60;go_wp2_with fail;refine(nh _ _ _ _ _ _ _ (by simpa using HB.out)).mono ?_;rintro e w' ⟨rfl,rfl⟩;go_wp2_with fail;go_ret;exact⟨aI HV.out.symm,aD⟩
 ·have HV:Hid (aQ x=false):=by show _=_;unfold aQ;rw[zaa (by rw[HK.out];decide),zaa (by rw[HK.out];decide),zaa (by rw[HK.out];decide),zaa (by rw[HK.out];decide),zaa (by rw[HK.out];decide),zaa (by rw[HK.out];decide),zab HK.out];exact zaS (λh=>hl h.1)
  have Ln:(x.n==0)=false:=by rw[zah];omega
  have Yw:(x.n==1)=false:=by rw[zah];omega
  clear hl;go_enter func60,ntmps60;go_wp2_with fail;go_ret;exact⟨aI HV.out.symm,aD⟩
theorem F4 (x:Nd)(w:Θ)(hk:x.kind=7):Ξ prog 60 #[dF x] w λe w'=>e=.returned (.bool (aQ x))∧Ω w.heap.size w w':=by
 unfold dF;have DT:(x.kind==7)=true:=by simpa using hk
 have hb0:(x.kind==0)=false:=by rw[hk];decide
 have hb1:(x.kind==1)=false:=by rw[hk];decide
 have hb2:(x.kind==2)=false:=by rw[hk];decide
 have hb3:(x.kind==3)=false:=by rw[hk];decide
 have hb4:(x.kind==4)=false:=by rw[hk];decide
 have j8:(x.kind==5)=false:=by rw[hk];decide
 have nX:(x.kind==6)=false:=by rw[hk];decide
 have HK:Hid (x.kind=7):=hk;clear hk;cases hn:jf x.n
 ·have HV:Hid (aQ x=false):=by show _=_;unfold aQ;rw[zaa (by rw[HK.out];decide),zaa (by rw[HK.out];decide),zaa (by rw[HK.out];decide),zaa (by rw[HK.out];decide),zaa (by rw[HK.out];decide),zaa (by rw[HK.out];decide),zaa (by rw[HK.out];decide),zab HK.out];rw[hn,Bool.false_and]
  go_enter func60,ntmps60;go_wp2_with fail;refine(ri _ _).mono ?_;rw[hn];rintro e w' ⟨rfl,rfl⟩;go_wp2_with fail;go_ret;exact⟨aI HV.out.symm,aD⟩
 ·by_cases hc:x.text=[]∧(0:Int)=0∧x.d=0∧x.subs.length=0
  ·have HV:Hid (aQ x=true):=by show _=_;unfold aQ;rw[zaa (by rw[HK.out];decide),zaa (by rw[HK.out];decide),zaa (by rw[HK.out];decide),zaa (by rw[HK.out];decide),zaa (by rw[HK.out];decide),zaa (by rw[HK.out];decide),zaa (by rw[HK.out];decide),zab HK.out];rw[hn,zaY ⟨hc.1,hc.2.2.1,hc.2.2.2⟩];rfl
   have HB:Hid _:=hc;clear hc;go_enter func60,ntmps60;go_wp2_with fail;refine(ri _ _).mono ?_;rw[hn];rintro e w' ⟨rfl,rfl⟩;go_wp2_with fail;refine(ng _ _ _ _ _ _ _ (by simpa using HB.out)).mono ?_;rintro e w' ⟨rfl,rfl⟩;go_wp2_with fail;go_ret;exact⟨aI HV.out.symm,aD⟩
  ·have HV:Hid (aQ x=false):=by show _=_;unfold aQ;rw[zaa (by rw[HK.out];decide),zaa (by rw[HK.out];decide),zaa (by rw[HK.out];decide),zaa (by rw[HK.out];decide),zaa (by rw[HK.out];decide),zaa (by rw[HK.out];decide),zaa (by rw[HK.out];decide),zab HK.out];rw[hn,zaS (λh=>hc ⟨h.1,rfl,h.2.1,h.2.2⟩)];rfl
   have HB:Hid _:=hc;clear hc;go_enter func60,ntmps60;go_wp2_with fail;refine(ri _ _).mono ?_;rw[hn];rintro e w' ⟨rfl,rfl⟩;go_wp2_with fail;refine(nh _ _ _ _ _ _ _ (by simpa using HB.out)).mono ?_;rintro e w' ⟨rfl,rfl⟩;go_wp2_with fail;go_ret;exact⟨aI HV.out.symm,aD⟩
theorem yS (x:Nd)(w:Θ)(hk:x.kind<0∨7<x.kind):Ξ prog 60 #[dF x] w λe w'=>e=.returned (.bool (aQ x))∧Ω w.heap.size w w':=by
 unfold dF;have hb0:(x.kind==0)=false:=by rw[zah];omega
 have hb1:(x.kind==1)=false:=by rw[zah];omega
 have hb2:(x.kind==2)=false:=by rw[zah];omega
 have hb3:(x.kind==3)=false:=by rw[zah];omega
 have hb4:(x.kind==4)=false:=by rw[zah];omega
 have j8:(x.kind==5)=false:=by rw[zah];omega
 have nX:(x.kind==6)=false:=by rw[zah];omega
 have DT:(x.kind==7)=false:=by rw[zah];omega
 have HV:Hid (aQ x=false):=by show _=_;unfold aQ;rw[zaa (by omega),zaa (by omega),zaa (by omega),zaa (by omega),zaa (by omega),zaa (by omega),zaa (by omega),zaa (by omega)]
 clear hk;go_enter func60,ntmps60;go_wp2_with fail;go_ret;exact⟨aI HV.out.symm,aD⟩
theorem qN (x:Nd)(w:Θ)(ht:x.text.length≤θ):Ξ prog 60 #[dF x] w λe w'=>e=.returned (.bool (aQ x))∧Ω w.heap.size w w':=by
 by_cases h:x.kind<0∨7<x.kind
 ·exact yS x w h
 ·have:x.kind=0∨x.kind=1∨x.kind=2∨x.kind=3∨x.kind=4∨x.kind=5∨x.kind=6∨x.kind=7:=by omega
  rcases this with h|h|h|h|h|h|h|h
  ·exact FU x w h
  ·exact FW x w h
  ·exact FX x w h
  ·exact FY x w h
  ·exact FZ x w ht h
  ·exact F0 x w h
  ·exact F3 x w h
  ·exact F4 x w h
theorem IX (l:List Int)(k:Nat)(h:k<l.length)(all:Int):eT (l.take (k+1)) all=(eT (l.take k) all&&decide (0≤l.getD k 0∧l.getD k 0<all)):=by
 unfold eT;rw[zcv h,List.all_append];simp[η,List.getElem?_eq_getElem h]
theorem Qk (l:List Int)(k:Nat)(h:k<l.length)(all:Int)(hb:¬(0≤l.getD k 0∧l.getD k 0<all)):eT l all=false:=by
 unfold eT;rw[List.all_eq_false];refine⟨l[k],zbx h,?_⟩;simp[η,List.getElem?_eq_getElem h]at hb ⊢;omega
theorem qO (l:List Int)(a:Option Addr)(cap:Nat)(all:Int)(w:Θ)(hl:l.length≤θ)(hc:rA w a l):Ξ prog 61 #[.slice a l.length cap,Γ Δ all] w λe w'=>e=.returned (.bool (eT l all))∧w'=w:=by
 unfold θ at hl;rcases hc with rfl|⟨b,o,rfl,hc⟩
 ·go_enter func61,ntmps61;go_wp2_with fail;go_loop [9] (λi=>i=Γ Δ 0) (λi=>(intOf i).toNat)
  case atStart=>rfl
  case round=>
   subst hrel;go_wp2_with fail;go_ret;exact⟨rfl,rfl⟩
 ·have HC:Hid _:=hc;clear hc;go_enter func61,ntmps61;go_wp2_with fail;go_loop [9] (λi=>∃k:Nat,k≤l.length∧i=Γ Δ k∧Hid (eT (l.take k) all=true)) (λi=>l.length-(intOf i).toNat)
  case atStart=>exact⟨0,zaq _,rfl,rfl⟩
  case round=>
   obtain⟨k,hk,rfl,hr⟩:=hrel;by_cases hlt:k<l.length
   ·have hcell:=HC.out k hlt;by_cases hb:0≤l.getD k 0∧l.getD k 0<all
    ·have H:Hid (eT (l.take (k+1)) all=true):=by show _=_;rw[IX l k hlt,hr.out,zaY hb];rfl
     obtain⟨hb1,hb2⟩:=hb;generalize hg:l.getD k 0=v at *;have HG:Hid _:=hg;clear hg;go_wp2_with fail
     go_round
     case rel=>exact⟨k+1,by omega,by go_num,H⟩
     case measure=>simp[intOf];omega
    ·have H:Hid (eT l all=false):=Qk l k hlt all hb;generalize hg:l.getD k 0=v at *;have HG:Hid _:=hg;clear hg;by_cases h0:0≤v
     ·have h1:all≤v:=by omega
      clear hb;go_wp2_with fail;go_ret;exact⟨aI H.out.symm,rfl⟩
     ·clear hb;go_wp2_with fail;go_ret;exact⟨aI H.out.symm,rfl⟩
   ·have H:Hid (eT l all=true):=by have:=hr.out;rwa[zbJ (by omega)]at this
    go_wp2_with fail;go_ret;exact⟨aI H.out.symm,rfl⟩
structure Dn (w:Θ) (b o:Nat) (x:Nd):Prop where
 kind:w.cell? ⟨b,o,none⟩=some (Γ Δ x.kind)
 text:w.cell? ⟨b,o+1,none⟩=some (.string ⟨⟨x.text⟩⟩)
 n:w.cell? ⟨b,o+2,none⟩=some (Γ Δ x.n)
 d:w.cell? ⟨b,o+3,none⟩=some (Γ Δ x.d)
 subs:w.cell? ⟨b,o+4,none⟩=some (.slice x.sa x.subs.length x.cap)
 ints:rA w x.sa x.subs
 abH:x.text.length≤θ
 abI:x.subs.length≤θ
def bK (w:Θ)(b o:Nat)(G:List Nd):Prop:=∀i,(h:i<G.length)→Dn w b (o+i*5) G[i]
theorem lH {w:Θ}{a:Addr}{v:Φ}(h:w.cell? a=some v):a.block<w.heap.size:=by
 unfold Θ.cell? at h;by_cases hb:a.block<w.heap.size
 ·exact hb
 ·rw[zbQ (by omega)]at h;simp at h
theorem cd {w w':Θ}(hb:Ω w.heap.size w w'){a:Addr}{v:Φ}(h:w.cell? a=some v):w'.cell? a=some v:=by
 rw[hb.cell (lH h)];exact h
theorem rA.below {w w':Θ}{a:Option Addr}{l:List Int}(h:rA w a l)(hb:Ω w.heap.size w w'):rA w' a l:=by
 rcases h with rfl|⟨b,o,rfl,hc⟩
 ·exact Or.inl rfl
 ·exact Or.inr ⟨b,o,rfl,λj hj=>cd hb (hc j hj)⟩
theorem Dn.below {w w':Θ}{b o:Nat}{x:Nd}(h:Dn w b o x)(hb:Ω w.heap.size w w'):Dn w' b o x:=
 ⟨cd hb h.kind,cd hb h.text,cd hb h.n,cd hb h.d,cd hb h.subs,h.ints.below hb,h.abH,h.abI⟩
theorem bK.below {w w':Θ}{b o:Nat}{G:List Nd}(h:bK w b o G)(hb:Ω w.heap.size w w'):bK w' b o G:=λi hi=>(h i hi).below hb
theorem BN {w w1:Θ}{c:Array Φ}{t:TypeId}(hb:Ω (w.alloc (.cells c t)).heap.size (w.alloc (.cells c t)) w1):(∀o,w1.cell? ⟨w.heap.size,o,none⟩=c[o]?)∧(∀o,w1.frozen? ⟨w.heap.size,o,none⟩=false):=by
 refine⟨λo=>?_,λo=>?_⟩
 ·rw[hb.cell (by simp),Θ.cell?_alloc_at _ _ _ _ rfl]
 ·rw[hb.frozen (by simp),Θ.frozen?_alloc_at _ _ _ _ rfl]
theorem Ql {α:Type}(l:List α)(k:Nat)(h:k<l.length)(p:α→Bool):(l.take (k+1)).all p=((l.take k).all p&&p l[k]):=by
 rw[zcv h,List.all_append,zap,List.all_nil,zbZ]
theorem Y9 {α:Type}(l:List α)(k:Nat)(h:k<l.length)(p:α→Bool)(hp:p l[k]=false):l.all p=false:=by
 rw[List.all_eq_false];exact⟨l[k],zbx h,by simp[hp]⟩
theorem pP (G:List Nd)(b o cap:Nat)(w:Θ)(hl:G.length≤θ)(hG:bK w b o G):Ξ prog 38 #[.slice (some ⟨b,o,none⟩) G.length cap] w λe w'=>e=.returned (.bool (ey G))∧Ω w.heap.size w w':=by
 unfold θ at hl;have HG:Hid _:=hG;clear hG;by_cases h1:G.length<1
 ·have H:Hid (ey G=false):=by show _=_;unfold ey;rw[zaS (by omega)];rfl
  go_enter func38,ntmps38;go_wp2_with fail;go_ret;exact⟨aI H.out.symm,zad _ _⟩
 ·by_cases h2:150<G.length
  ·have H:Hid (ey G=false):=by show _=_;unfold ey;rw[zaS (by omega)];rfl
   go_enter func38,ntmps38;go_wp2_with fail;go_ret;exact⟨aI H.out.symm,zad _ _⟩
  ·have d1:decide ((G.length:Int)<1)=false:=by simp;omega
   have d2:decide ((150:Int)<(G.length:Int))=false:=by simp;omega
   have HR:Hid (ey G=G.all (λx=>aQ x&&eT x.subs G.length)):=by show _=_;unfold ey;rw[zaY (by omega)];rfl
   go_enter func38,ntmps38;go_wp2_with fail;go_loopw [15] (λi wr=>∃k:Nat,k≤G.length∧i=Γ Δ k∧Ω w.heap.size w wr∧Hid ((G.take k).all (λx=>aQ x&&eT x.subs G.length)=true)) (λi _=>G.length-(intOf i).toNat)
   case atStart=>exact⟨0,zaq _,rfl,zad _ _,rfl⟩
   case round=>
    obtain⟨k,hk,rfl,hb,hr⟩:=hrel;by_cases hlt:k<G.length
    ·obtain⟨c0,c1,c2,c3,c4,hi,ht,hs⟩:=(HG.out k hlt).below hb;have HS:Hid _:=Ql G k hlt (λx=>aQ x&&eT x.subs G.length);have HN:Hid _:=Y9 G k hlt (λx=>aQ x&&eT x.subs G.length);have HT:Hid _:=ht;have HI:Hid _:=hi;have HL:Hid _:=hs;clear ht hi hs;generalize G[k]=x at *;have hz:=hb.size;cases hkb:aQ x
     ·have HV:Hid (ey G=false):=by show _=_;rw[HR.out];exact HN.out (by simp[hkb])
      go_wp2_with fail;refine(qN x _ HT.out).mono ?_;rw[hkb];rintro e w2 ⟨rfl,hb2⟩;go_wp2_with fail;go_ret;exact⟨aI HV.out.symm,(hb.alloc hz _).trans (hb2.mono (by simp;omega))⟩
     ·go_wp2_with fail;refine(qN x _ HT.out).mono ?_;rw[hkb];rintro e w2 ⟨rfl,hb2⟩;obtain⟨hcell,Oe⟩:=BN hb2;have hb3:=(hb.alloc hz _).trans (hb2.mono (by simp;omega));have hz2:=hb2.size;have HI2:Hid (rA w2 x.sa x.subs):=rA.below (w:=wr) HI.out ((zad _ _).alloc (zac _) _ |>.trans (hb2.mono (by simp)));have iB:Hid _:=hb2;clear hb2 Oe c0 c1 c2 c3 c4;cases hsb:eT x.subs G.length
      ·have HV:Hid (ey G=false):=by show _=_;rw[HR.out];exact HN.out (by simp[hsb])
       go_wp2_with fail;refine(qO x.subs _ _ _ _ HL.out HI2.out).mono ?_;rw[hsb];rintro e w3 ⟨rfl,rfl⟩;go_wp2_with fail;go_ret;exact⟨aI HV.out.symm,hb3⟩
      ·have HV:Hid ((G.take (k+1)).all (λx=>aQ x&&eT x.subs G.length)=true):=by show _=_;rw[HS.out,hr.out,hkb,hsb];rfl
       go_wp2_with fail;refine(qO x.subs _ _ _ _ HL.out HI2.out).mono ?_;rw[hsb];rintro e w3 ⟨rfl,rfl⟩;go_wp2_with fail;go_roundw
       case rel=>exact⟨k+1,by omega,by go_num,hb3,HV⟩
       case measure=>simp[intOf];omega
    ·have HV:Hid (ey G=true):=by show _=_;rw[HR.out];have:=hr.out;rwa[zbJ (by omega)]at this
     go_wp2_with fail;go_ret;exact⟨aI HV.out.symm,hb⟩
end Go.Proofs.YtlhimdjkkiflhaaGreatDoor
namespace Go.Loop
structure WS where
 met:List Int
 wi:List Bool
 op:List Bool
def WS.hit (s:WS)(a:Nat):WS:={ s with met:=s.met.set a (s.met.getD a 0+1) }
def WS.again (s:WS)(a:Nat):WS:={ s with wi:=s.wi.set a (s.wi.getD a false||s.op.getD a false) }
def WS.enter (s:WS)(a:Nat):WS:={ s with op:=s.op.set a true }
def WS.leave (s:WS)(a:Nat):WS:={ s with op:=s.op.set a false }
def bf (S:Nat→List Nat):Nat→WS→Nat→WS
 |0,s,_=>s
 |f+1,s,a=>if 0<s.met.getD a 0 then(s.hit a).again a else((S a).foldl (bf S f) ((s.hit a).enter a)).leave a
structure WS.Ok (n:Nat) (s:WS):Prop where
 lm:s.met.length=n
 lw:s.wi.length=n
 lo:s.op.length=n
 nn:∀i,0≤s.met.getD i 0
 om:∀i,s.op.getD i false=true→0<s.met.getD i 0
theorem cR {α:Type}(l:List α)(a i:Nat)(v d:α)(h:a<l.length):(l.set a v).getD i d=if i=a then v else l.getD i d:=by
 simp only[η,List.getElem?_set];by_cases e:a=i
 ·subst e;simp[h]
 ·rw[zaa e,zaa (λx=>e x.symm)]
theorem WS.Ok.hit {n:Nat}{s:WS}(h:s.Ok n){a:Nat}(ha:a<n):(s.hit a).Ok n:=by
 refine⟨by simp[WS.hit,h.lm],h.lw,h.lo,λi=>?_,λi hi=>?_⟩
 ·simp only[WS.hit];rw[cR _ _ _ _ _ (by rw[h.lm];exact ha)];split
  ·have:=h.nn a;omega
  ·exact h.nn i
 ·simp only[WS.hit];rw[cR _ _ _ _ _ (by rw[h.lm];exact ha)];split
  ·have:=h.nn a;omega
  ·exact h.om i hi
theorem WS.Ok.again {n:Nat}{s:WS}(h:s.Ok n)(a:Nat):(s.again a).Ok n:=⟨h.lm,by simp[WS.again,h.lw],h.lo,h.nn,h.om⟩
theorem WS.Ok.leave {n:Nat}{s:WS}(h:s.Ok n){a:Nat}(ha:a<n):(s.leave a).Ok n:=by
 refine⟨h.lm,h.lw,by simp[WS.leave,h.lo],h.nn,λi hi=>?_⟩;simp only[WS.leave]at hi;rw[cR _ _ _ _ _ (by rw[h.lo];exact ha)]at hi;split at hi
 ·exact absurd hi (by simp)
 ·exact h.om i hi
theorem WS.Ok.enter {n:Nat}{s:WS}(h:s.Ok n){a:Nat}(ha:a<n)(hm:0<s.met.getD a 0):(s.enter a).Ok n:=by
 refine⟨h.lm,h.lw,by simp[WS.enter,h.lo],h.nn,λi hi=>?_⟩;simp only[WS.enter]at hi;rw[cR _ _ _ _ _ (by rw[h.lo];exact ha)]at hi;split at hi
 ·rename_i e;subst e;exact hm
 ·exact h.om i hi
theorem dJ {n:Nat}{s:WS}(h:s.Ok n){a:Nat}(ha:a<n)(i:Nat):(s.hit a).met.getD i 0=if i=a then s.met.getD a 0+1 else s.met.getD i 0:=by
 simp only[WS.hit];rw[cR _ _ _ _ _ (by rw[h.lm];exact ha)]
theorem iW {n:Nat}{s:WS}(h:s.Ok n){a:Nat}(ha:a<n):0<(s.hit a).met.getD a 0:=by
 rw[dJ h ha,zab rfl];have:=h.nn a;omega
theorem Ok.meet {n:Nat}{S:Nat→List Nat}(hS:∀x,x<n→∀y∈S x,y<n):∀(f:Nat) (s:WS) (a:Nat),s.Ok n→a<n→(bf S f s a).Ok n
 |0,s,a,h,ha=>h
 |f+1,s,a,h,ha=>by
  simp only[bf];split
  ·exact(h.hit ha).again a
  ·refine WS.Ok.leave ?_ ha;have h2:((s.hit a).enter a).Ok n:=(h.hit ha).enter ha (iW h ha);have:∀(l:List Nat) (t:WS),(∀y∈l,y<n)→t.Ok n→(l.foldl (bf S f) t).Ok n:=by
    intro l
    induction l with
    |nil=>intro t _ ht;exact ht
    |cons y r ih=>intro t hl ht;exact ih _ (λz hz=>hl z (zaQ _ hz)) (Ok.meet hS f t y ht (hl y zaD))
   exact this _ _ (hS a ha) h2
def sW (g:Nat→Nat):Nat→List Int→Nat
 |_,[]=>0
 |i,m::r=>(if m=0 then g i else 0)+sW g (i+1) r
theorem F5 (g:Nat→Nat):∀(met:List Int) (i a:Nat) (v:Int),v≠0→a<met.length→sW g i (met.set a v)+(if met.getD a 0=0 then g (i+a)else 0)=sW g i met
 |[],_,_,_,_,h=>by simp at h
 |m::r,i,0,v,hv,_=>by simp[sW,List.set,hv];omega
 |m::r,i,a+1,v,hv,h=>by
  have ih:=F5 g r (i+1) a v hv (by simpa using h);simp only[List.set,sW,List.getD_cons_succ];rw[show i+(a+1)=i+1+a by omega];omega
def WS.pQ (s:WS)(g:Nat→Nat):Nat:=sW g 0 s.met
theorem pS {n:Nat}{s:WS}(h:s.Ok n){a:Nat}(ha:a<n)(g:Nat→Nat):(s.hit a).pQ g+(if s.met.getD a 0=0 then g a else 0)=s.pQ g:=by
 have:=F5 g s.met 0 a (s.met.getD a 0+1) (by have:=h.nn a;omega) (by rw[h.lm];exact ha);rw[Nat.zero_add]at this;exact this
def WS.Bd (S:Nat→List Nat)(c:Nat)(s:WS):Prop:=∀i,s.met.getD i 0+(s.pQ (λx=>(S x).length):Nat)≤c
theorem Bd.meet {n:Nat}{S:Nat→List Nat}(hS:∀x,x<n→∀y∈S x,y<n):∀(f:Nat) (s:WS) (a c:Nat),s.Ok n→a<n→s.Bd S c→(bf S f s a).Bd S (c+1)
 |0,s,a,c,h,ha,hb=>λi=>by have:=hb i;simp only[bf];omega
 |f+1,s,a,c,h,ha,hb=>by
  simp only[bf];have hp:=pS h ha (λx=>(S x).length);split
  ·rename_i hm;intro i;show(s.hit a).met.getD i 0+((s.hit a).pQ (λx=>(S x).length):Nat)≤_;rw[dJ h ha];rw[zaa (by omega)]at hp;have h1:=hb i;have h2:=hb a;split<;>omega
  ·rename_i hm;have hm0:s.met.getD a 0=0:=by have:=h.nn a;omega
   rw[zab hm0]at hp;have h2:((s.hit a).enter a).Ok n:=(h.hit ha).enter ha (iW h ha);have hc:(S a).length≤c:=by have:=hb a;omega
   have hb2:((s.hit a).enter a).Bd S (c+1-(S a).length):=by
    intro i;show(s.hit a).met.getD i 0+((s.hit a).pQ (λx=>(S x).length):Nat)≤_;rw[dJ h ha];have h1:=hb i;have h3:=hb a;split<;>omega
   have:∀(l:List Nat) (t:WS) (k:Nat),(∀y∈l,y<n)→t.Ok n→t.Bd S k→(l.foldl (bf S f) t).Bd S (k+l.length):=by
    intro l
    induction l with
    |nil=>intro t k _ _ ht;exact ht
    |cons y r ih=>
     intro t k hl ht hk;have:=ih (bf S f t y) (k+1) (λz hz=>hl z (zaQ _ hz)) (Ok.meet hS f t y ht (hl y zaD)) (Bd.meet hS f t y k ht (hl y zaD) hk);simp only[List.foldl_cons,zar];rw[show k+(r.length+1)=k+1+r.length by omega];exact this
   have h4:=this (S a) _ _ (hS a ha) h2 hb2;rw[show c+1-(S a).length + (S a).length=c+1 by omega]at h4;exact h4
theorem oV {n:Nat}{S:Nat→List Nat}(hS:∀x,x<n→∀y∈S x,y<n)(g:Nat→Nat):∀(f:Nat) (s:WS) (a:Nat),s.Ok n→a<n→(bf S f s a).pQ g≤s.pQ g
 |0,s,a,_,_=>zac _
 |f+1,s,a,h,ha=>by
  simp only[bf];have hp:=pS h ha g;split
  ·show(s.hit a).pQ g≤_;omega
  ·have h2:((s.hit a).enter a).Ok n:=(h.hit ha).enter ha (iW h ha);have:∀(l:List Nat) (t:WS),(∀y∈l,y<n)→t.Ok n→(l.foldl (bf S f) t).pQ g≤t.pQ g:=by
    intro l
    induction l with
    |nil=>intro t _ _;exact zac _
    |cons y r ih=>intro t hl ht;exact zag (ih _ (λz hz=>hl z (zaQ _ hz)) (Ok.meet hS f t y ht (hl y zaD))) (oV hS g f t y ht (hl y zaD))
   have h4:=this (S a) _ (hS a ha) h2;have h5:((s.hit a).enter a).pQ g=(s.hit a).pQ g:=rfl;show(((S a).foldl (bf S f) ((s.hit a).enter a))).pQ g≤_;omega
def sX (S:Nat→List Nat)(wi:List Bool)(fin:List Nat):Prop:=
 ∀(i x:Nat),fin[i]?=some x→∀y∈S x,wi.getD y false=true∨∃j:Nat,j<i∧fin[j]?=some y
structure Fnd (S:Nat→List Nat) (s:WS) (fin:List Nat):Prop where
 cl:∀x,0<s.met.getD x 0→s.op.getD x false=true∨x∈fin
 q:sX S s.wi fin
 wm:∀x,s.wi.getD x false=true→0<s.met.getD x 0
 fm:∀x∈fin,0<s.met.getD x 0
structure Met (S:Nat→List Nat) (s s':WS) (fin Qm:List Nat) (a:Nat):Prop where
 fnd:Fnd S s' Qm
 pre:∃ext,Qm=fin++ext
 op:∀i,s'.op.getD i false=s.op.getD i false
 wi:∀i,s.wi.getD i false=true→s'.wi.getD i false=true
 met:∀i,0<s.met.getD i 0→0<s'.met.getD i 0
 here:s'.wi.getD a false=true∨a∈Qm
 hit:0<s'.met.getD a 0
theorem sX.mono {S:Nat→List Nat}{wi wi':List Bool}{fin:List Nat}(h:sX S wi fin)(hw:∀i,wi.getD i false=true→wi'.getD i false=true):sX S wi' fin:=
 λi x hx y hy=>(h i x hx y hy).imp (hw y) id
theorem Ky {n:Nat}{S:Nat→List Nat}(hS:∀x,x<n→∀y∈S x,y<n):∀(f:Nat) (s:WS) (a:Nat) (fin:List Nat),s.Ok n→a<n→s.pQ (λ_=>1)<f→Fnd S s fin→∃Qm,Met S s (bf S f s a) fin Qm a
 |0,s,a,fin,_,_,h,_=>by omega
 |f+1,s,a,fin,h,ha,hf,hF=>by
  have hp:=pS h ha (λ_=>1);simp only[bf];split
  ·rename_i hm;have NR:∀i,s.wi.getD i false=true→((s.hit a).again a).wi.getD i false=true:=by
    intro i hi;show(s.wi.set a (s.wi.getD a false||s.op.getD a false)).getD i false=true;rw[cR _ _ _ _ _ (by rw[h.lw];exact ha)];split
    ·rename_i e;subst e;rw[hi];rfl
    ·exact hi
   have Xq:∀i,0<s.met.getD i 0→0<((s.hit a).again a).met.getD i 0:=by
    intro i hi;show 0<(s.hit a).met.getD i 0;rw[dJ h ha];split<;>omega
   refine⟨fin,⟨λx hx=>?_,hF.q.mono NR,λx hx=>?_,λx hx=>Xq x (hF.fm x hx)⟩,⟨[],by simp⟩,λi=>rfl,NR,Xq,?_,Xq a hm⟩
   ·change 0<(s.hit a).met.getD x 0 at hx;rw[dJ h ha]at hx;split at hx
    ·rename_i e;subst e;exact hF.cl x hm
    ·exact hF.cl x hx
   ·change(s.wi.set a (s.wi.getD a false||s.op.getD a false)).getD x false=true at hx;rw[cR _ _ _ _ _ (by rw[h.lw];exact ha)]at hx;split at hx
    ·rename_i e;subst e;exact Xq x hm
    ·exact Xq x (hF.wm x hx)
   ·rcases hF.cl a hm with ho|hi
    ·left;show(s.wi.set a (s.wi.getD a false||s.op.getD a false)).getD a false=true;rw[cR _ _ _ _ _ (by rw[h.lw];exact ha),zab rfl,ho];simp
    ·exact Or.inr hi
  ·rename_i hm;have hm0:s.met.getD a 0=0:=by have:=h.nn a;omega
   rw[zab hm0]at hp;have TP:s.op.getD a false=false:=by
    cases e:s.op.getD a false
    ·rfl
    ·have:=h.om a e;omega
   have h2:((s.hit a).enter a).Ok n:=(h.hit ha).enter ha (iW h ha);have abJ:∀i,((s.hit a).enter a).op.getD i false=if i=a then true else s.op.getD i false:=by
    intro i;show(s.op.set a true).getD i false=_;rw[cR _ _ _ _ _ (by rw[h.lo];exact ha)]
   have hF2:Fnd S ((s.hit a).enter a) fin:=by
    have Xq:∀i,0<s.met.getD i 0→0<((s.hit a).enter a).met.getD i 0:=by
     intro i hi;show 0<(s.hit a).met.getD i 0;rw[dJ h ha];split<;>omega
    refine⟨λx hx=>?_,hF.q,λx hx=>Xq x (hF.wm x hx),λx hx=>Xq x (hF.fm x hx)⟩;change 0<(s.hit a).met.getD x 0 at hx;rw[dJ h ha]at hx;rw[abJ];by_cases e:x=a
    ·left;rw[zab e]
    ·rw[zaa e]at hx;rw[zaa e];exact hF.cl x hx
   have key:∀(l:List Nat) (t:WS) (fn:List Nat),(∀y∈l,y<n)→t.Ok n→t.pQ (λ_=>1)<f→Fnd S t fn→
    ∃fn',Fnd S (l.foldl (bf S f) t) fn'∧(∃ext,fn'=fn++ext)∧(∀i,(l.foldl (bf S f) t).op.getD i false=t.op.getD i false)∧(∀i,t.wi.getD i false=true→(l.foldl (bf S f) t).wi.getD i false=true)
     ∧(∀i,0<t.met.getD i 0→0<(l.foldl (bf S f) t).met.getD i 0)∧(∀y∈l,(l.foldl (bf S f) t).wi.getD y false=true∨y∈fn'):=by
    intro l
    induction l with
    |nil=>intro t fn _ _ _ hT;exact⟨fn,hT,⟨[],by simp⟩,λ_=>rfl,λ_ h=>h,λ_ h=>h,λy hy=>by simp at hy⟩
    |cons y r ih=>
     intro t fn hl ht hpt hT;have hy:=hl y zaD;obtain⟨fn1,m1⟩:=Ky hS f t y fn ht hy hpt hT;obtain⟨e1,rfl⟩:=m1.pre;obtain⟨fn2,k1,⟨e2,rfl⟩,k3,k4,k5,k6⟩:=ih (bf S f t y) _ (λz hz=>hl z (zaQ _ hz)) (Ok.meet hS f t y ht hy) (zch (oV hS _ f t y ht hy) hpt) m1.fnd;refine⟨_,k1,⟨e1++e2,by simp⟩,λi=>(k3 i).trans (m1.op i),λi hi=>k4 i (m1.wi i hi),λi hi=>k5 i (m1.met i hi),λz hz=>?_⟩;rcases zal.1 hz with rfl|hz
     ·rcases m1.here with h|h
      ·exact Or.inl (k4 _ h)
      ·exact Or.inr (zcx _ h)
     ·exact k6 z hz
   obtain⟨fn,k1,⟨ext,rfl⟩,k3,k4,k5,k6⟩:=key (S a) ((s.hit a).enter a) fin (hS a ha) h2 (by show(s.hit a).pQ (λ_=>1)<f;omega) hF2;have Dp:((S a).foldl (bf S f) ((s.hit a).enter a)).Ok n:=by
    have:∀(l:List Nat) (t:WS),(∀y∈l,y<n)→t.Ok n→(l.foldl (bf S f) t).Ok n:=by
     intro l
     induction l with
     |nil=>intro t _ ht;exact ht
     |cons y r ih=>intro t hl ht;exact ih _ (λz hz=>hl z (zaQ _ hz)) (Ok.meet hS f t y ht (hl y zaD))
    exact this _ _ (hS a ha) h2
   generalize (S a).foldl (bf S f) ((s.hit a).enter a)=t at *;have abK:∀i,(t.leave a).op.getD i false=if i=a then false else t.op.getD i false:=by
    intro i;show(t.op.set a false).getD i false=_;rw[cR _ _ _ _ _ (by rw[Dp.lo];exact ha)]
   refine⟨fin++ext++[a],⟨λx hx=>?_,λi x hx y hy=>?_,k1.wm,λx hx=>?_⟩,⟨ext++[a],by simp⟩,λi=>?_,λi hi=>k4 i hi,λi hi=>k5 i ?_,Or.inr (by simp),k5 a (iW h ha)⟩
   ·by_cases e:x=a
    ·right;simp[e]
    ·rcases k1.cl x hx with ho|hi
     ·left;rw[abK,zaa e];exact ho
     ·right;exact zcx _ hi
   ·by_cases hi:i<(fin++ext).length
    ·rw[zbi hi]at hx;rcases k1.q i x hx y hy with hw|⟨j,hj,Xr⟩
     ·exact Or.inl hw
     ·refine Or.inr ⟨j,hj,?_⟩;rw[zbi (by omega)];exact Xr
    ·rw[zbv (by omega)]at hx;have hia:i-(fin++ext).length=0:=by
      rcases zcB (i-(fin++ext).length)with h|h
      ·exact h
      ·rw[zcp (by simp only[zar,zbk];omega)]at hx;simp at hx
     rw[hia]at hx;simp at hx;subst hx;rcases k6 y hy with hw|hm
     ·exact Or.inl hw
     ·obtain⟨j,hj,Xr⟩:=List.getElem_of_mem hm;refine Or.inr ⟨j,by omega,?_⟩;rw[zbi hj,zat hj,Xr]
   ·rcases zaF.1 hx with hx|hx
    ·exact k1.fm x hx
    ·rw[zbA.1 hx];exact k5 a (iW h ha)
   ·rw[abK];split
    ·rename_i e;rw[e,TP]
    ·rename_i e;rw[k3,abJ,zaa e]
   ·change 0<(s.hit a).met.getD i 0;rw[dJ h ha];split<;>omega
def WS.start (n:Nat):WS:=⟨Λ n 0,Λ n false,Λ n false⟩
theorem ez {α:Type}(n i:Nat)(v:α):(Λ n v).getD i v=v:=by
 simp[η,List.getElem?_replicate];split<;>rfl
theorem kY (n:Nat):(WS.start n).Ok n:=
 ⟨by simp[WS.start],by simp[WS.start],by simp[WS.start],λi=>by show 0≤(Λ n (0:Int)).getD i 0;rw[ez];omega,λi hi=>by
   change(Λ n false).getD i false=true at hi;rw[ez]at hi;exact absurd hi (by simp)⟩
theorem yT (n:Nat):∀i,sW (λ_=>1) i (Λ n 0)=n:=by
 induction n with
 |zero=>intro i;rfl
 |succ n ih=>intro i;simp[List.replicate_succ,sW,ih];omega
theorem ME (n:Nat)(S:Nat→List Nat):Fnd S (WS.start n) []:=
 ⟨λx hx=>by change 0<(Λ n (0:Int)).getD x 0 at hx;rw[ez]at hx;omega,λi x hx=>by simp at hx,
   λx hx=>by change(Λ n false).getD x false=true at hx;rw[ez]at hx;exact absurd hx (by simp),λx hx=>by simp at hx⟩
theorem F6:∀(l:List Nat) (j:Nat) (h:j<l.length),l.idxOf l[j]≤j
 |c::r,0,_=>by simp
 |c::r,j+1,h=>by
  have hj:j<r.length:=by simpa using h
  have ih:=F6 r j hj;rw[List.idxOf_cons];simp only[List.getElem_cons_succ];cases (c==r[j])<;>simp<;>omega
def fj (S:Nat→List Nat)(n:Nat):WS:=bf S (n+1) (WS.start n) 0
def reach (S:Nat→List Nat)(n:Nat)(x:Nat):Prop:=0<(fj S n).met.getD x 0
theorem MF {n:Nat}{S:Nat→List Nat}(hn:0<n)(hS:∀x,x<n→∀y∈S x,y<n):∃(R:Nat) (r:Nat→Nat),(∀x,r x≤R)∧reach S n 0∧(∀x,reach S n x→∀y∈S x,reach S n y)∧(∀x,reach S n x→∀y∈S x,(fj S n).wi.getD y false=false→r y<r x):=by
 obtain⟨fin,m⟩:=Ky hS (n+1) (WS.start n) 0 [] (kY n) hn (by show sW (λ_=>1) 0 (Λ n 0)<n+1;rw[yT];omega) (ME n S);have fK:∀x,reach S n x→x∈fin:=by
  intro x hx;rcases m.fnd.cl x hx with h|h
  ·rw[m.op]at h;change(Λ n false).getD x false=true at h;rw[ez]at h;exact absurd h (by simp)
  ·exact h
 refine⟨fin.length,λx=>fin.idxOf x,λx=>List.idxOf_le_length,m.hit,λx hx y hy=>?_,λx hx y hy hw=>?_⟩
 ·have hi:=fK x hx;have hlt:=List.idxOf_lt_length_of_mem hi;have hg:fin[fin.idxOf x]?=some x:=by rw[zat hlt,List.getElem_idxOf hlt]
  rcases m.fnd.q _ _ hg y hy with h|⟨j,_,hj⟩
  ·exact m.fnd.wm y h
  ·exact m.fnd.fm y (zbr hj)
 ·have hi:=fK x hx;have hlt:=List.idxOf_lt_length_of_mem hi;have hg:fin[fin.idxOf x]?=some x:=by rw[zat hlt,List.getElem_idxOf hlt]
  rcases m.fnd.q _ _ hg y hy with h|⟨j,hj,Xr⟩
  ·rw[show(bf S (n+1) (WS.start n) 0)=fj S n from rfl,hw]at h;exact absurd h (by simp)
  ·have xJ:j<fin.length:=by
    rcases zaw j fin.length with h|h
    ·exact h
    ·rw[zcp h]at Xr;simp at Xr
   rw[zat xJ]at Xr;have:fin.idxOf y≤j:=by
    rw[←zaM Xr];exact F6 fin j xJ
   show fin.idxOf y<fin.idxOf x;omega
structure TS where
 cE:List Int
 next:Nat
 out:List UInt8
 long:Bool
def TS.add (t:TS)(p:List UInt8):TS:=if t.long then t else if 400<t.out.length+p.length then { t with long:=true } else { t with out:=t.out++p }
def TS.put (t:TS)(a:Nat):TS:={ t.add (35::(ζ t.next++[61]))with cE:=t.cE.set a t.next,next:=t.next+1 }
def fY (node:TS→Nat→TS)(l:List Nat):Nat→TS→TS
 |0,t=>t
 |k+1,t=>node (if k=0 then fY node l k t else(fY node l k t).add [32]) (l.getD k 0)
def WF (K:Nat→Int)(S:Nat→List Nat)(At:Nat→List UInt8)(L:Nat→Bool):Nat→Bool→TS→Nat→TS
 |0,_,t,_=>t
 |f+1,false,t,a=>
  if t.long then t
  else if 0≤t.cE.getD a (-1)then t.add (35::(ζ (t.cE.getD a (-1))++[35]))
  else
   if K a=1 then WF K S At L f true (WF K S At L f false (((if L a then t.put a else t)).add [40]) ((S a).getD 0 0)) ((S a).getD 1 0)
   else if K a=2 then(fY (WF K S At L f false) (S a) (S a).length ((if L a then t.put a else t).add [35,40])).add [41]
   else(if L a then t.put a else t).add (At a)
 |f+1,true,t,r=>
  if K r=1∧L r=false then WF K S At L f true (WF K S At L f false (t.add [32]) ((S r).getD 0 0)) ((S r).getD 1 0)
  else if K r=0 then t.add [41]
  else(WF K S At L f false (t.add [32,46,32]) r).add [41]
structure TS.Ok (n:Nat) (L:Nat→Bool) (t:TS):Prop where
 ll:t.cE.length=n
 lo:t.long=false→t.out.length≤400
 ln:∀i,-1≤t.cE.getD i (-1)∧t.cE.getD i (-1)<t.next
 lL:∀i,0≤t.cE.getD i (-1)→L i=true
 nx:t.long=false→t.next≤t.out.length
 n2:t.next≤401
theorem dW {t:TS}(h:t.long=true)(p:List UInt8):t.add p=t:=by unfold TS.add;rw[zab h]
theorem kZ {t:TS}(h:t.long=false){p:List UInt8}(hp:400<t.out.length+p.length):t.add p={ t with long:=true }:=by unfold TS.add;rw[zaa (by simp[h]),zab hp]
theorem k8 {t:TS}(h:t.long=false){p:List UInt8}(hp:t.out.length+p.length≤400):t.add p={ t with out:=t.out++p }:=by unfold TS.add;rw[zaa (by simp[h]),zaa (by omega)]
theorem gX (t:TS)(p:List UInt8):(t.add p).cE=t.cE:=by
 unfold TS.add;repeat' split
 all_goals rfl
theorem fQ (t:TS)(p:List UInt8):(t.add p).next=t.next:=by
 unfold TS.add;repeat' split
 all_goals rfl
theorem TS.Ok.add {n:Nat}{L:Nat→Bool}{t:TS}(h:t.Ok n L)(p:List UInt8):(t.add p).Ok n L:=by
 refine⟨by rw[gX];exact h.ll,λhl=>?_,by rw[gX,fQ];exact h.ln,by rw[gX];exact h.lL,λhl=>?_,by rw[fQ];exact h.n2⟩;all_goals
  by_cases h1:t.long=true
  ·rw[dW h1,h1]at hl;exact absurd hl (by simp)
  ·have SQ:t.long=false:=by simpa using h1
   by_cases h2:400<t.out.length+p.length
   ·rw[kZ SQ h2]at hl;exact absurd hl (by simp)
   ·rw[k8 SQ (by omega)];have e1:=h.lo SQ;have e2:=h.nx SQ;simp only[zaR];omega
theorem TS.Ok.put {n:Nat}{L:Nat→Bool}{t:TS}(h:t.Ok n L){a:Nat}(ha:a<n)(hL:L a=true)(cV:t.long=false):(t.put a).Ok n L:=by
 have h1:=h.add (35::(ζ t.next++[61]));have e1:=h.lo cV;have e2:=h.nx cV;refine⟨by simp[TS.put,h.ll],h1.lo,λi=>?_,λi hi=>?_,λhl=>?_,by show t.next+1≤401;omega⟩
 ·show -1≤(t.cE.set a t.next).getD i (-1)∧(t.cE.set a t.next).getD i (-1)<((t.next+1:Nat):Int);rw[cR _ _ _ _ _ (by rw[h.ll];exact ha)];have:=h.ln i;split<;>omega
 ·change 0≤(t.cE.set a t.next).getD i (-1)at hi;rw[cR _ _ _ _ _ (by rw[h.ll];exact ha)]at hi;split at hi
  ·rename_i e;rw[e];exact hL
  ·exact h.lL i hi
 ·change(t.add (35::(ζ t.next++[61]))).long=false at hl;show t.next+1≤(t.add (35::(ζ t.next++[61]))).out.length;by_cases h2:400<t.out.length+(35::(ζ t.next++[61])).length
  ·rw[kZ cV h2]at hl;exact absurd hl (by simp)
  ·rw[k8 cV (by omega)];simp;omega
theorem IY {n:Nat}{L:Nat→Bool}{node:TS→Nat→TS}(hn:∀t y,t.Ok n L→y<n→(node t y).Ok n L)(l:List Nat)(hl:∀y∈l,y<n):∀(k:Nat) (t:TS),k≤l.length→t.Ok n L→(fY node l k t).Ok n L
 |0,t,_,h=>h
 |k+1,t,hk,h=>by
  simp only[fY];have hy:l.getD k 0<n:=hl _ (by simp[η,List.getElem?_eq_getElem (show k<l.length by omega)]);have ih:=IY hn l hl k t (by omega) h;split
  ·exact hn _ _ ih hy
  ·exact hn _ _ (ih.add _) hy
theorem nS {n:Nat}{K:Nat→Int}{S:Nat→List Nat}{At:Nat→List UInt8}{L:Nat→Bool}(hS:∀x,x<n→∀y∈S x,y<n)(h2:∀x,x<n→K x=1→(S x).length=2):∀(f:Nat) (b:Bool) (t:TS) (a:Nat),t.Ok n L→a<n→(WF K S At L f b t a).Ok n L
 |0,_,_,_,h,_=>h
 |f+1,false,t,a,h,ha=>by
  simp only[WF];by_cases cV:t.long=true
  ·rw[zab cV];exact h
  ·rw[zaa cV];by_cases hl:0≤t.cE.getD a (-1)
   ·rw[zab hl];exact h.add _
   ·rw[zaa hl];have h1:(if L a then t.put a else t).Ok n L:=by
     split
     ·rename_i e;exact h.put ha e (by simpa using cV)
     ·exact h
    by_cases k1:K a=1
    ·rw[zab k1];have hlen:=h2 a ha k1;exact nS hS h2 f true _ _ (nS hS h2 f false _ _ (h1.add _) (hS a ha _ (by simp[η,List.getElem?_eq_getElem (show 0<(S a).length by omega)]))) (hS a ha _ (by simp[η,List.getElem?_eq_getElem (show 1<(S a).length by omega)]))
    ·rw[zaa k1];by_cases k2:K a=2
     ·rw[zab k2];exact(IY (λt y ht hy=>nS hS h2 f false t y ht hy) (S a) (hS a ha) _ _ (zac _) (h1.add _)).add _
     ·rw[zaa k2];exact h1.add _
 |f+1,true,t,a,h,ha=>by
  simp only[WF];by_cases c1:K a=1∧L a=false
  ·rw[zab c1];have hlen:=h2 a ha c1.1;exact nS hS h2 f true _ _ (nS hS h2 f false _ _ (h.add _) (hS a ha _ (by simp[η,List.getElem?_eq_getElem (show 0<(S a).length by omega)]))) (hS a ha _ (by simp[η,List.getElem?_eq_getElem (show 1<(S a).length by omega)]))
  ·rw[zaa c1];by_cases c2:K a=0
   ·rw[zab c2];exact h.add _
   ·rw[zaa c2];exact(nS hS h2 f false _ _ (h.add _) ha).add _
theorem kv {K:Nat→Int}{S:Nat→List Nat}{At:Nat→List UInt8}{L:Nat→Bool}:∀(f:Nat) (b:Bool) (t:TS) (a:Nat),t.long=true→WF K S At L f b t a=t
 |0,_,_,_,_=>rfl
 |f+1,false,t,a,h=>by simp only[WF];rw[zab h]
 |f+1,true,t,a,h=>by
  simp only[WF];rw[dW h,dW h,dW h,kv f false t _ h,kv f false t _ h,kv f true t _ h,dW h,ite_self,ite_self]
def need (t:TS):Nat:=if t.long then 1 else 2+(401-t.out.length)
theorem eP (t:TS)(p:List UInt8):need (t.add p)≤need t:=by
 by_cases h:t.long=true
 ·rw[dW h];exact zac _
 ·have h':t.long=false:=by simpa using h
  by_cases h2:400<t.out.length+p.length
  ·rw[kZ h' h2];unfold need;rw[zab rfl,zaa h];omega
  ·rw[k8 h' (by omega)];unfold need;rw[zaa (by simpa using h'),zaa h];simp;omega
theorem sY {t:TS}(h:t.long=false)(ho:t.out.length≤400){p:List UInt8}(hp:1≤p.length):need (t.add p)<need t:=by
 by_cases h2:400<t.out.length+p.length
 ·rw[kZ h h2];unfold need;rw[zab rfl,zaa (by simp[h])];omega
 ·rw[k8 h (by omega)];unfold need;rw[zaa (by simp[h]),zaa (by simp[h])];simp;omega
theorem F7 (t:TS)(a:Nat):need (t.put a)≤need t:=eP t _
theorem sZ (t:TS):1≤need t:=by unfold need;split<;>omega
theorem s6 {node:TS→Nat→TS}(hn:∀t y,need (node t y)≤need t)(l:List Nat):∀(k:Nat) (t:TS),need (fY node l k t)≤need t
 |0,_=>zac _
 |k+1,t=>by
  simp only[fY];have ih:=s6 hn l k t;split
  ·exact zag (hn _ _) ih
  ·exact zag (hn _ _) (zag (eP _ _) ih)
theorem gY {K:Nat→Int}{S:Nat→List Nat}{At:Nat→List UInt8}{L:Nat→Bool}:∀(f:Nat) (b:Bool) (t:TS) (a:Nat),need (WF K S At L f b t a)≤need t
 |0,_,_,_=>zac _
 |f+1,false,t,a=>by
  simp only[WF];by_cases h1:t.long=true
  ·rw[zab h1];exact zac _
  ·rw[zaa h1];by_cases h2:0≤t.cE.getD a (-1)
   ·rw[zab h2];exact eP _ _
   ·rw[zaa h2];have h0:need (if L a then t.put a else t)≤need t:=by
     split
     ·exact F7 _ _
     ·exact zac _
    by_cases k1:K a=1
    ·rw[zab k1];exact zag (gY f true _ _) (zag (gY f false _ _) (zag (eP _ _) h0))
    ·rw[zaa k1];by_cases k2:K a=2
     ·rw[zab k2];exact zag (eP _ _) (zag (s6 (λt y=>gY f false t y) _ _ _) (zag (eP _ _) h0))
     ·rw[zaa k2];exact zag (eP _ _) h0
 |f+1,true,t,a=>by
  simp only[WF];by_cases c1:K a=1∧L a=false
  ·rw[zab c1];exact zag (gY f true _ _) (zag (gY f false _ _) (eP _ _))
  ·rw[zaa c1];by_cases c2:K a=0
   ·rw[zab c2];exact eP _ _
   ·rw[zaa c2];exact zag (eP _ _) (zag (gY f false _ _) (eP _ _))
end Go.Loop
namespace Go.Proofs.YtlhimdjkkiflhaaGreatDoor
open Go.RowKit Go.Loop
def lx (w:Θ)(b:Nat)(l:List Int):Prop:=∀i,i<l.length→w.cell? ⟨b,i,none⟩=some (Γ Δ (l.getD i 0))∧w.frozen? ⟨b,i,none⟩=false
def iA (w:Θ)(b:Nat)(l:List Bool):Prop:=∀i,i<l.length→w.cell? ⟨b,i,none⟩=some (.bool (l.getD i false))∧w.frozen? ⟨b,i,none⟩=false
theorem cell_far {w:Θ}{p a:Addr}{v:Φ}(h:p.block≠a.block):(w.setCell p v).cell? a=w.cell? a:=Θ.cell?_setCell_other w p a v (λe=>h (by rw[e]))
theorem lx.set {w:Θ}{b:Nat}{l:List Int}(h:lx w b l)(a:Nat)(ha:a<l.length)(v:Int):lx (w.setCell ⟨b,a,none⟩ (Γ Δ v)) b (l.set a v):=by
 intro i hi;rw[List.length_set]at hi;rw[cR _ _ _ _ _ ha,Θ.frozen?_setCell];refine⟨?_,(h i hi).2⟩;by_cases e:i=a
 ·subst e;rw[zab rfl,Θ.cell?_setCell_same (h:=(h i hi).1)]
 ·rw[zaa e,Θ.cell?_setCell_other (h:=by intro x;cases x;exact e rfl)];exact(h i hi).1
theorem iA.set {w:Θ}{b:Nat}{l:List Bool}(h:iA w b l)(a:Nat)(ha:a<l.length)(v:Bool):iA (w.setCell ⟨b,a,none⟩ (.bool v)) b (l.set a v):=by
 intro i hi;rw[List.length_set]at hi;rw[cR _ _ _ _ _ ha,Θ.frozen?_setCell];refine⟨?_,(h i hi).2⟩;by_cases e:i=a
 ·subst e;rw[zab rfl,Θ.cell?_setCell_same (h:=(h i hi).1)]
 ·rw[zaa e,Θ.cell?_setCell_other (h:=by intro x;cases x;exact e rfl)];exact(h i hi).1
theorem lx.far {w:Θ}{b:Nat}{l:List Int}(h:lx w b l){p:Addr}(hp:p.block≠b)(v:Φ):lx (w.setCell p v) b l:=λi hi=>by
 rw[cell_far hp,Θ.frozen?_setCell];exact h i hi
theorem iA.far {w:Θ}{b:Nat}{l:List Bool}(h:iA w b l){p:Addr}(hp:p.block≠b)(v:Φ):iA (w.setCell p v) b l:=λi hi=>by
 rw[cell_far hp,Θ.frozen?_setCell];exact h i hi
def ai (G:List Nd)(x:Nat):List Nat:=match G[x]? with|some y=>y.subs.map Int.toNat|none=>[]
structure fI (w:Θ) (p bo bm bw n:Nat) (nv:Φ) (s:WS):Prop where
 c0:w.cell? ⟨p,0,none⟩=some nv
 c1:w.cell? ⟨p,1,none⟩=some (.slice (some ⟨bo,0,none⟩) n n)
 c2:w.cell? ⟨p,2,none⟩=some (.slice (some ⟨bm,0,none⟩) n n)
 c3:w.cell? ⟨p,3,none⟩=some (.slice (some ⟨bw,0,none⟩) n n)
 rm:lx w bm s.met
 rw:iA w bw s.wi
 ro:iA w bo s.op
structure Apart (B p bo bm bw:Nat):Prop where
 hp:B≤p
 ho:B≤bo
 hm:B≤bm
 hw:B≤bw
 po:p≠bo
 pm:p≠bm
 pw:p≠bw
 om:bo≠bm
 ow:bo≠bw
 mw:bm≠bw
theorem fI.hit {w:Θ}{p bo bm bw n:Nat}{nv:Φ}{s:WS}{B:Nat}(h:fI w p bo bm bw n nv s)(A:Apart B p bo bm bw){a:Nat}(ha:a<s.met.length):fI (w.setCell ⟨bm,a,none⟩ (Γ Δ (s.met.getD a 0+1))) p bo bm bw n nv (s.hit a):=by
 have e:=A.pm.symm;exact⟨by rw[cell_far e];exact h.c0,by rw[cell_far e];exact h.c1,by rw[cell_far e];exact h.c2,
  by rw[cell_far e];exact h.c3,h.rm.set a ha _,h.rw.far A.mw _,h.ro.far A.om.symm _⟩
theorem fI.again {w:Θ}{p bo bm bw n:Nat}{nv:Φ}{s:WS}{B:Nat}(h:fI w p bo bm bw n nv s)(A:Apart B p bo bm bw){a:Nat}(ha:a<s.wi.length):fI (w.setCell ⟨bw,a,none⟩ (.bool (s.wi.getD a false||s.op.getD a false))) p bo bm bw n nv (s.again a):=by
 have e:=A.pw.symm;exact⟨by rw[cell_far e];exact h.c0,by rw[cell_far e];exact h.c1,by rw[cell_far e];exact h.c2,
  by rw[cell_far e];exact h.c3,h.rm.far A.mw.symm _,h.rw.set a ha _,h.ro.far A.ow.symm _⟩
theorem fI.Qn {w:Θ}{p bo bm bw n:Nat}{nv:Φ}{s:WS}{B:Nat}(h:fI w p bo bm bw n nv s)(A:Apart B p bo bm bw){a:Nat}(ha:a<s.op.length)(v:Bool):fI (w.setCell ⟨bo,a,none⟩ (.bool v)) p bo bm bw n nv { s with op:=s.op.set a v }:=by
 have e:=A.po.symm;exact⟨by rw[cell_far e];exact h.c0,by rw[cell_far e];exact h.c1,by rw[cell_far e];exact h.c2,
  by rw[cell_far e];exact h.c3,h.rm.far A.om _,h.rw.far A.ow _,h.ro.set a ha _⟩
theorem fI.drew {w:Θ}{p bo bm bw n:Nat}{nv:Φ}{s:WS}(h:fI w p bo bm bw n nv s):fI w.drew p bo bm bw n nv s:=⟨h.c0,h.c1,h.c2,h.c3,h.rm,h.rw,h.ro⟩
def cg (k f t:Int)(l:List UInt8)(n d:Int):Φ:= .agg #[.int .u8 k,Γ Δ f,Γ Δ t,.string ⟨⟨l⟩⟩,Γ Δ n,Γ Δ d]
section
attribute [local go_sem] wK yj sJ wL mo
end
theorem wS (a b:List UInt8):(ByteArray.mk (Array.mk a))++(ByteArray.mk (Array.mk b))=⟨⟨a++b⟩⟩:=by
 apply ByteArray.ext;simp
theorem Kz:∀(f u:Nat),u<10^f→(Lib.decDigits u).length≤f+1
 |0,u,h=>by
  have:u=0:=by simpa using h
  subst this;rw[Lib.decDigits_one (by omega)];simp
 |f+1,u,h=>by
  by_cases h10:u<10
  ·rw[Lib.decDigits_one h10];simp
  ·rw[Lib.decDigits,dif_neg h10];have:=Kz f (u/10) (by rw[Nat.pow_succ]at h;omega);simp;omega
theorem F8 (u:Nat)(h:u≤1000000000):(Lib.decDigits u).length≤11:=Kz 10 u (by omega)
def mB (c:UInt8):List UInt8:=
 if c.toNat=92 then[92,92]else if c.toNat=34 then[92,34]else if c.toNat=10 then[92,110]else if c.toNat=9 then[92,116]else[c]
def lZ (l:List UInt8):List UInt8:=34::(l.flatMap mB++[34])
def dV (n d:Int):List UInt8:=if d=1 then ζ n else ζ n++47::ζ d
def s7 (n:Int):List UInt8:=35::92::(if hasName n then nameOf n else[UInt8.ofNat n.toNat])
def eU (x:Nd):List UInt8:=
 if x.kind=0 then[40,41]else if x.kind=3 then lZ x.text else if x.kind=4 then x.text else if x.kind=5 then dV x.n x.d
 else if x.kind=6 then(if x.n=1 then[35,116]else[35,102])else s7 x.n
theorem Qo (l:List UInt8)(k:Nat)(h:k<l.length):(l.take (k+1)).flatMap mB=(l.take k).flatMap mB++mB l[k]:=by
 rw[zcv h,zcy];simp
theorem s8 (n:Int)(h1: -1000000000≤n)(h2:n≤1000000000):(ζ n).length≤12:=by
 unfold ζ;split
 ·have:=F8 n.natAbs (by omega);simp;omega
 ·have:=F8 n.toNat (by omega);omega
section
attribute [local go_sem] yj
end
end Go.Proofs.YtlhimdjkkiflhaaGreatDoor
namespace Go.Proofs.YtlhimdjkkiflhaaGreatDoor
open Go.Proofs.Tryz
open Go.RowKit Go.Loop
def ly (W w:Θ)(l:List UInt8):Prop:=∃cs v,cs.size=2∧fu w 116 0 W.heap.size W.heap.size cs v (Lib.byteCells l)∧Ω W.heap.size W w
theorem ly.start (W:Θ):ly W (W.alloc (.cells #[.pointer none,.slice none 0 0] 116)) []:=
 ⟨_,_,rfl,⟨zac _,zav W _,Or.inl rfl,rfl,zck _ _ _ _⟩,(zad _ _).alloc (zac _) _⟩
theorem bT:116≠5:=by decide
theorem fu.toB {w:Θ}{T:TypeId}{off B b:Nat}{cs:Array Φ}{v:Φ}{bs:List Φ}(h:fu w T off B b cs v bs):∀k,v.ownBlock=some k→B≤k:=λk hk=>(h.own.lt k hk).1
theorem ly.fT {W w:Θ}{l:List UInt8}(h:ly W w l)(c:UInt8)(hl:l.length≤100000):Ξ prog 191 #[.pointer (some ⟨W.heap.size,0,none⟩),.int .u8 c.toNat] w λe w'=>e=.returned .nilIface∧ly W w' (l++[c]):=by
 obtain⟨cs,v,hs,hb,hw⟩:=h;have hsz:=hw.size;refine(qH (hs▸yz) bT hb c.toNat (by rw[Lib.byteCells_length];omega) hsz).mono ?_;rintro e w' ⟨rfl,v',h1,h2⟩;refine⟨rfl,_,v',?_,by rw[Lib.byteCells_append];exact h1,hw.trans (h2.below hsz (zac _) hb.toB)⟩;simp[kR,hs]
theorem ly.writeString {W w:Θ}{l:List UInt8}(h:ly W w l)(s:List UInt8)(hl:l.length+s.length≤100000):Ξ prog 154 #[.pointer (some ⟨W.heap.size,0,none⟩),.string ⟨⟨s⟩⟩] w λe w'=>e=.returned (.tuple #[Γ Δ s.length,.nilIface])∧ly W w' (l++s):=by
 obtain⟨cs,v,hs,hb,hw⟩:=h;have hsz:=hw.size;refine(nP (hs▸yz) bT hb ⟨⟨s⟩⟩ (by rw[Lib.byteCells_length];show l.length+s.length≤_;omega) hsz).mono ?_;rintro e w' ⟨rfl,v',h1,h2⟩;refine⟨rfl,_,v',?_,by rw[Lib.byteCells_append];exact h1,hw.trans (h2.below hsz (zac _) hb.toB)⟩;simp[kR,hs]
theorem ly.string {W w:Θ}{l:List UInt8}(h:ly W w l)(h0:l≠[]):Ξ prog 63 #[.pointer (some ⟨W.heap.size,0,none⟩)] w λe w'=>e=.returned (.string ⟨⟨l⟩⟩)∧Ω W.heap.size W w':=by
 obtain⟨cs,v,hs,hb,hw⟩:=h;refine(lW hb h0).mono ?_;rintro e w' ⟨rfl,h2⟩;exact⟨rfl,hw.trans (h2.below hw.size (zac _) hb.toB)⟩
section
attribute [local go_sem] yj
theorem IZ (l:List UInt8)(w:Θ)(hl:l.length≤400):Ξ prog 156 #[.string ⟨⟨l⟩⟩] w λe w'=>e=.returned (.string ⟨⟨lZ l⟩⟩)∧Ω w.heap.size w w':=by
 have H0:Hid (ly w (w.alloc (.cells #[.pointer none,.slice none 0 0] 116)) []):=ly.start w;go_enter func156,ntmps156;go_wp2_with (go_at_call 191;refine(H0.out.fT 34 (by simp)).mono ?_);rintro e w1 ⟨rfl,h1⟩;have H1:Hid (ly w w1 ([]++[34])):=h1;clear h1 H0;go_wp2_with fail;go_loopw [9] (λi wr=>∃(k:Nat) (o:List UInt8),k≤l.length∧i=Γ Δ k∧o.length≤1+2*k∧Hid (ly w wr o)∧Hid (o=34::(l.take k).flatMap mB)) (λi _=>l.length-(intOf i).toNat)
 case atStart=>exact⟨0,[34],zaq _,rfl,by simp,H1.out,rfl⟩
 case round=>
  obtain⟨k,o,hk,rfl,AJ,H2,hle⟩:=hrel;by_cases hlt:k<l.length
  ·have HS:Hid _:=Qo l k hlt;cases e92:((l[k].toNat :Int)==92)
   ·cases e34:((l[k].toNat :Int)==34)
    ·cases OC:((l[k].toNat :Int)==10)
     ·cases e9:((l[k].toNat :Int)==9)
      ·have HE:Hid (mB l[k]=[l[k]]):=by
        show _=_;rw[zah]at e92 e34 OC e9;unfold mB;rw[zaa (by omega),zaa (by omega),zaa (by omega),zaa (by omega)]
       go_wp2_with (go_at_call 191;refine(H2.out.fT l[k] (by first|omega|(simp;omega))).mono ?_);rintro e w2 ⟨rfl,h2⟩;have H3:Hid (ly w w2 (o++[l[k]])):=h2;clear h2 H2;go_wp2_with fail;go_roundw
       case rel=>exact⟨k+1,_,by omega,by go_num,by simp;omega,H3.out,by show _=_;rw[HS.out,HE.out,hle.out];simp⟩
       case measure=>simp[intOf];omega
      ·have HE:Hid (mB l[k]=[92,116]):=by
        show _=_;rw[zah]at e92 e34 OC;rw[zaJ]at e9;unfold mB;rw[zaa (by omega),zaa (by omega),zaa (by omega),zab (by omega)]
       go_wp2_with (go_at_call 154;refine(H2.out.writeString [92,116] (by first|omega|(simp;omega))).mono ?_);rintro e w2 ⟨rfl,h2⟩;have H3:Hid (ly w w2 (o++[92,116])):=h2;clear h2 H2;go_wp2_with fail;go_roundw
       case rel=>exact⟨k+1,_,by omega,by go_num,by simp;omega,H3.out,by show _=_;rw[HS.out,HE.out,hle.out];simp⟩
       case measure=>simp[intOf];omega
     ·have HE:Hid (mB l[k]=[92,110]):=by
       show _=_;rw[zah]at e92 e34;rw[zaJ]at OC;unfold mB;rw[zaa (by omega),zaa (by omega),zab (by omega)]
      go_wp2_with (go_at_call 154;refine(H2.out.writeString [92,110] (by first|omega|(simp;omega))).mono ?_);rintro e w2 ⟨rfl,h2⟩;have H3:Hid (ly w w2 (o++[92,110])):=h2;clear h2 H2;go_wp2_with fail;go_roundw
      case rel=>exact⟨k+1,_,by omega,by go_num,by simp;omega,H3.out,by show _=_;rw[HS.out,HE.out,hle.out];simp⟩
      case measure=>simp[intOf];omega
    ·have HE:Hid (mB l[k]=[92,34]):=by
      show _=_;rw[zah]at e92;rw[zaJ]at e34;unfold mB;rw[zaa (by omega),zab (by omega)]
     have HC:Hid (l[k]=34):=by
      rw[zaJ]at e34;exact UInt8.toNat_inj.1 (by have:(34:UInt8).toNat=34:=rfl;omega)
     go_wp2_with (go_at_call 191;refine(H2.out.fT 92 (by first|omega|(simp;omega))).mono ?_);rintro e w2 ⟨rfl,h2⟩;have HA:Hid (ly w w2 (o++[92])):=h2;clear h2 H2;go_wp2_with (go_at_call 191;refine(HA.out.fT l[k] (by first|omega|(simp;omega))).mono ?_);rintro e w3 ⟨rfl,h3⟩;have H3:Hid (ly w w3 (o++[92]++[l[k]])):=h3;clear h3 HA;go_wp2_with fail;go_roundw
     case rel=>exact⟨k+1,_,by omega,by go_num,by simp;omega,H3.out,by show _=_;rw[HS.out,HE.out,hle.out];simp[HC.out]⟩
     case measure=>simp[intOf];omega
   ·have HE:Hid (mB l[k]=[92,92]):=by
     show _=_;rw[zaJ]at e92;unfold mB;rw[zab (by omega)]
    have HC:Hid (l[k]=92):=by
     rw[zaJ]at e92;exact UInt8.toNat_inj.1 (by have:(92:UInt8).toNat=92:=rfl;omega)
    go_wp2_with (go_at_call 191;refine(H2.out.fT 92 (by first|omega|(simp;omega))).mono ?_);rintro e w2 ⟨rfl,h2⟩;have HA:Hid (ly w w2 (o++[92])):=h2;clear h2 H2;go_wp2_with (go_at_call 191;refine(HA.out.fT l[k] (by first|omega|(simp;omega))).mono ?_);rintro e w3 ⟨rfl,h3⟩;have H3:Hid (ly w w3 (o++[92]++[l[k]])):=h3;clear h3 HA;go_wp2_with fail;go_roundw
    case rel=>exact⟨k+1,_,by omega,by go_num,by simp;omega,H3.out,by show _=_;rw[HS.out,HE.out,hle.out];simp[HC.out]⟩
    case measure=>simp[intOf];omega
  ·go_wp2_with (go_at_call 191;refine(H2.out.fT 34 (by first|omega|(simp;omega))).mono ?_);rintro e w2 ⟨rfl,h2⟩;have H3:Hid (ly w w2 (o++[34])):=h2;clear h2 H2;go_wp2_with (go_at_call 63;refine(H3.out.string (by simp)).mono ?_);rintro e w3 ⟨rfl,hb⟩;have HB:Hid (Ω w.heap.size w w3):=hb;clear hb;go_wp2_with fail;go_ret;refine⟨fe ?_,HB.out⟩;rw[hle.out,zbJ (by omega)];simp[lZ]
end
end Go.Proofs.YtlhimdjkkiflhaaGreatDoor
