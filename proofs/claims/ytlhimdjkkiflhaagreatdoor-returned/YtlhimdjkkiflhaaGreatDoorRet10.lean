import Derived.Shelf.Strings.Builder1
import Derived.Shelf.Small.Strs
import Derived.Shelf.Strings.BuilderF
import Derived.Shelf.Strings.BuilderK
import Derived.Shelf.Strconv.Itoa0
import Derived.Shelf.Strconv.Itoa1
import Derived.Shelf.LaysM
import Derived.Shelf.Strconv.Itoa2
import Derived.Shelf.Strconv.Itoa3
import Derived.Shelf.Strconv.Clone
import Derived.Shelf.Strings.Search1
import Derived.Shelf.Strings.Search2
import Derived.Shelf.Strings.Cut
import Derived.Shelf.Strings.Shaped
import Derived.Shelf.Strings.Prefix
import Derived.Test.YtlhimdjkkiflhaaGreatDoorProg
import Derived.Test.YtlhimdjkkiflhaaGreatDoorRows
import Derived.WalkKit
import Derived.WalkSpells
import Derived.WalkLawsBesides
import Derived.Deep.QuietTactic
import Derived.BigQuiet
import Derived.Lib.ItoaMem
import Derived.Lib.AppendStr
import Derived.Lib.UnsafeStr
import Derived.Laws.Externs
import Derived.KernelRfl
import Derived.Test.YtlhimdjkkiflhaaGreatDoorRet01
set_option maxHeartbeats 8000000
set_option maxRecDepth 100000
open Go.Value renaming int→Γ
open Go.IntKind renaming i64→Δ
open Go renaming World→Θ,Value→Λ,Calls→Φ,TypeId→Ω,maxLen→ζ,TypeInfo→θ
open Int renaming gcd→Ξ
open ByteArray renaming mk→η
namespace Go.Loop
def cF (c:Int):Bool:=decide (48≤c∧c≤57)
def fA (c:Int):Bool:=decide ((97≤c∧c≤122)∨(65≤c∧c≤90))
def ER (c:Int):Bool:=decide (c=43∨c=45∨c=42∨c=47∨c=60∨c=62∨c=61∨c=63∨c=33∨c=46∨c=95)
def bq (c:Int):Bool:=fA c||cF c||ER c
def sF (c:UInt8):Bool:=bq (c.toNat:Int)
def aT (p:Int→Bool):List UInt8→Nat
 |[]=>0
 |c::r=>if p (c.toNat:Int)then aT p r+1 else 0
def bX:List UInt8→Bool
 |[]=>false
 |c::r=>if c.toNat=43∨c.toNat=45 then(match r with|[]=>false|d::_=>cF (d.toNat:Int))else cF (c.toNat:Int)
def ir (l:List UInt8):Bool:=!l.isEmpty&&!(l==[46])&&!bX l&&l.all sF
def lT (n d:Int):Bool:=decide (1≤d∧d≤1000000∧-1000000≤n∧n≤1000000∧Ξ n d=1)
theorem ES (n d:Int)(hd:1≤d):(d/((Ξ n d:Nat):Int)==d)=decide (Ξ n d=1):=by
 have hp:0<Ξ n d:=zcC _ (by omega);rw[zaZ,zaJ,decide_eq_true_iff];constructor
 ·intro h;by_cases h1:Ξ n d=1
  ·exact h1
  ·exfalso;have h2:(2:Int)≤((Ξ n d:Nat):Int):=by omega
   have:d/((Ξ n d:Nat):Int)<d:=Int.ediv_lt_self_of_pos_of_ne_one (by omega) (by omega);omega
 ·intro h;rw[h];simp
theorem Az (c:UInt8)(r:List UInt8)(h1:¬(c.toNat:Int)=43)(h2:¬(c.toNat:Int)=45):bX (c::r)=cF (c.toNat:Int):=by
 simp only[bX];rw[zaa (by omega)]
theorem qC (c:UInt8)(h:(c.toNat:Int)=43∨(c.toNat:Int)=45):bX [c]=false:=by
 simp only[bX];rw[zab (by omega)]
theorem qD (c d:UInt8)(r:List UInt8)(h:(c.toNat:Int)=43∨(c.toNat:Int)=45):bX (c::d::r)=cF (d.toNat:Int):=by
 simp only[bX];rw[zab (by omega)]
theorem ET (p:Int→Bool)(l:List UInt8):decide (aT p l=l.length)=l.all (λc=>p (c.toNat:Int)):=by
 induction l with
 |nil=>rfl
 |cons c r ih=>
  simp only[aT,zap,zar];by_cases h:p (c.toNat:Int)=true
  ·simp only[h,if_true,zbI,←ih];rw[zaZ];simp
  ·simp[h]
def nameOf (n:Int):List UInt8:=
 if n=32 then[115,112,97,99,101]else if n=10 then[110,101,119,108,105,110,101]else if n=9 then[116,97,98]
 else if n=0 then[110,117,108]else if n=127 then[100,101,108,101,116,101]else if n=27 then[101,115,99,97,112,101]else[]
def hasName (n:Int):Bool:=decide (n=32∨n=10∨n=9∨n=0∨n=127∨n=27)
def jf (n:Int):Bool:=hasName n||decide (33≤n∧n≤126)
def gG (l:List UInt8):Int:=
 if l=[115,112,97,99,101]then 32 else if l=[110,101,119,108,105,110,101]then 10 else if l=[116,97,98]then 9
 else if l=[110,117,108]then 0 else if l=[100,101,108,101,116,101]then 127 else if l=[101,115,99,97,112,101]then 27 else -1
end Go.Loop
namespace Go.Proofs
open Go.Proofs.Tryz
open Go.Shelf
def Tryz.E6:Go.Shelf.Ren:=⟨λ|137=>127|217=>174|266=>202|n=>n,λ|9=>9|5=>5|3=>3|n=>n,λ|n=>n⟩
theorem Tryz.Ub:Go.Proofs.Lays.n137 prog Tryz.E6:={
 mixed:=by kernel_rfl
 f137:=func127.trans (zak some (by kernel_rfl))
 f217:=func174.trans (zak some (by kernel_rfl))
 f266:=func202.trans (zak some (by kernel_rfl))
 t3:=underlying3
 a3:=Tryz.isAgg3
 z3:=Tryz.sizeOf3
 v3:=Tryz.zeroValue3
 t5:=underlying5
 a5:=Tryz.isAgg5
 z5:=Tryz.sizeOf5
 v5:=Tryz.zeroValue5
 t9:=underlying9
 a9:=Tryz.isAgg9
 z9:=Tryz.sizeOf9
 v9:=Tryz.zeroValue9 }
open Go.RowKit in
theorem Tryz.strings_IndexByte (s:ByteArray)(c:Int)(w:Θ):Φ prog 127 #[.string s,.int .u8 c] w λe w'=>e=.returned (Γ Δ (Lib.indexByte s.data.toList c.toNat.toUInt8))∧w'=w:=Any.strings_IndexByte Tryz.Ub s c w
def Tryz.C2:Go.Shelf.Ren:=⟨λ|171=>100|243=>155|246=>190|283=>216|284=>217|285=>218|286=>219|129=>239|317=>238|318=>240|319=>241|320=>242|337=>245|338=>246|n=>n,λ|3=>3|9=>9|2=>2|4=>4|171=>282|0=>0|53=>137|37=>80|5=>5|173=>285|212=>300|51=>140|20=>20|213=>301|46=>200|232=>306|233=>307|n=>n,λ|17=>1|18=>2|19=>3|n=>n⟩
theorem Tryz.Pw:Go.Proofs.LaysM.n171 prog Tryz.C2:={
 mixed:=by kernel_rfl
 f129:=func239.trans (zak some (by kernel_rfl))
 f171:=func100.trans (zak some (by kernel_rfl))
 f243:=func155.trans (zak some (by kernel_rfl))
 f246:=func190.trans (zak some (by kernel_rfl))
 f283:=func216.trans (zak some (by kernel_rfl))
 f284:=func217.trans (zak some (by kernel_rfl))
 f285:=func218.trans (zak some (by kernel_rfl))
 f286:=func219.trans (zak some (by kernel_rfl))
 f317:=func238.trans (zak some (by kernel_rfl))
 f318:=func240.trans (zak some (by kernel_rfl))
 f319:=func241.trans (zak some (by kernel_rfl))
 f320:=func242.trans (zak some (by kernel_rfl))
 f337:=func245.trans (zak some (by kernel_rfl))
 f338:=func246.trans (zak some (by kernel_rfl))
 t0:=underlying0
 a0:=Tryz.isAgg0
 z0:=Tryz.sizeOf0
 v0:=Tryz.zeroValue0
 t2:=underlying2
 a2:=Tryz.isAgg2
 z2:=Tryz.sizeOf2
 v2:=Tryz.zeroValue2
 t3:=underlying3
 a3:=Tryz.isAgg3
 z3:=Tryz.sizeOf3
 v3:=Tryz.zeroValue3
 t4:=underlying4
 a4:=Tryz.isAgg4
 z4:=Tryz.sizeOf4
 v4:=Tryz.zeroValue4
 t5:=underlying5
 a5:=Tryz.isAgg5
 z5:=Tryz.sizeOf5
 v5:=Tryz.zeroValue5
 t9:=underlying9
 a9:=Tryz.isAgg9
 z9:=Tryz.sizeOf9
 v9:=Tryz.zeroValue9
 t20:=underlying20
 a20:=Tryz.isAgg20
 z20:=Tryz.sizeOf20
 v20:=Tryz.zeroValue20
 t37:=underlying80
 a37:=Tryz.isAgg80
 z37:=Tryz.sizeOf80
 v37:=Tryz.zeroValue80
 t46:=underlying200
 a46:=Tryz.isAgg200
 z46:=Tryz.sizeOf200
 v46:=Tryz.zeroValue200
 t51:=underlying140
 a51:=Tryz.isAgg140
 z51:=Tryz.sizeOf140
 v51:=Tryz.zeroValue140
 t53:=underlying137
 a53:=Tryz.isAgg137
 z53:=Tryz.sizeOf137
 v53:=Tryz.zeroValue137
 t171:=underlying282
 a171:=Tryz.isAgg282
 z171:=Tryz.sizeOf282
 v171:=Tryz.zeroValue282
 t173:=underlying285
 a173:=Tryz.isAgg285
 z173:=Tryz.sizeOf285
 v173:=Tryz.zeroValue285
 t212:=underlying300
 a212:=Tryz.isAgg300
 z212:=Tryz.sizeOf300
 v212:=Tryz.zeroValue300
 t213:=underlying301
 a213:=Tryz.isAgg301
 z213:=Tryz.sizeOf301
 t232:=underlying306
 a232:=Tryz.isAgg306
 z232:=Tryz.sizeOf306
 v232:=Tryz.zeroValue306
 t233:=underlying307
 a233:=Tryz.isAgg307
 z233:=Tryz.sizeOf307
 v233:=Tryz.zeroValue307
 g17:=by kernel_rfl
 g18:=by kernel_rfl
 g19:=by kernel_rfl
 i0:=by kernel_rfl
 i2:=by kernel_rfl
 i3:=by kernel_rfl
 i4:=by kernel_rfl
 i5:=by kernel_rfl
 i9:=by kernel_rfl
 i20:=by kernel_rfl
 i37:=by kernel_rfl
 i46:=by kernel_rfl
 i51:=by kernel_rfl
 i53:=by kernel_rfl
 i171:=by kernel_rfl
 i173:=by kernel_rfl
 i212:=by kernel_rfl
 i232:=by kernel_rfl
 i233:=by kernel_rfl
 m17:=by kernel_rfl
 m18:=by kernel_rfl
 m19:=by kernel_rfl }
open Go.RowKit Go.Sort Go.Lib in
theorem Tryz.strconv_Itoa (n:Int)(h0: -9223372036854775808≤n)(h1:n≤9223372036854775807)(w:Θ)(adC:Lib.TabIs prog w "internal/strconv.uint64pow10" .u64 Lib.pow10Tab):Φ prog 100 #[Γ Δ n] w λe w'=>e=.returned (.string ⟨(Lib.itoa n).toArray⟩)∧∃k os,w'=grow (w.drewN k) os:=Any.strconv_Itoa Tryz.Pw n h0 h1 w adC
def Tryz.C3:Go.Shelf.Ren:=⟨λ|316=>130|n=>n,λ|9=>9|3=>3|4=>4|37=>80|0=>0|127=>190|5=>5|n=>n,λ|n=>n⟩
theorem Tryz.Px:Go.Proofs.LaysM.n316 prog Tryz.C3:={
 mixed:=by kernel_rfl
 f316:=func130.trans (zak some (by kernel_rfl))
 t0:=underlying0
 a0:=Tryz.isAgg0
 z0:=Tryz.sizeOf0
 v0:=Tryz.zeroValue0
 t3:=underlying3
 a3:=Tryz.isAgg3
 z3:=Tryz.sizeOf3
 v3:=Tryz.zeroValue3
 t4:=underlying4
 a4:=Tryz.isAgg4
 z4:=Tryz.sizeOf4
 v4:=Tryz.zeroValue4
 t9:=underlying9
 a9:=Tryz.isAgg9
 z9:=Tryz.sizeOf9
 v9:=Tryz.zeroValue9
 t37:=underlying80
 a37:=Tryz.isAgg80
 z37:=Tryz.sizeOf80
 v37:=Tryz.zeroValue80
 t127:=underlying190
 a127:=Tryz.isAgg190
 z127:=Tryz.sizeOf190
 v127:=Tryz.zeroValue190
 t5:=underlying5
 a5:=Tryz.isAgg5
 z5:=Tryz.sizeOf5
 v5:=Tryz.zeroValue5
 i0:=by kernel_rfl
 i3:=by kernel_rfl
 i4:=by kernel_rfl
 i5:=by kernel_rfl
 i9:=by kernel_rfl
 i37:=by kernel_rfl
 i127:=by kernel_rfl }
open Go.RowKit in
theorem Tryz.stringslite_Clone (s:ByteArray)(w:Θ)(Yy:s.size≤281474976710656):Φ prog 130 #[.string s] w λe w'=>e=.returned (.string s)∧Below w.heap.size w w':=Any.stringslite_Clone Tryz.Px s w Yy
def Tryz.E7:Go.Shelf.Ren:=⟨λ|219=>247|217=>174|225=>248|224=>249|267=>250|266=>202|314=>251|n=>n,λ|9=>9|3=>3|4=>4|5=>5|46=>200|146=>308|51=>140|n=>n,λ|1=>0|n=>n⟩
theorem Tryz.Uc:Go.Proofs.Lays.n219 prog Tryz.E7:={
 mixed:=by kernel_rfl
 f217:=func174.trans (zak some (by kernel_rfl))
 f219:=func247.trans (zak some (by kernel_rfl))
 f224:=func249.trans (zak some (by kernel_rfl))
 f225:=func248.trans (zak some (by kernel_rfl))
 f266:=func202.trans (zak some (by kernel_rfl))
 f267:=func250.trans (zak some (by kernel_rfl))
 f314:=func251.trans (zak some (by kernel_rfl))
 t3:=underlying3
 a3:=Tryz.isAgg3
 z3:=Tryz.sizeOf3
 v3:=Tryz.zeroValue3
 t4:=underlying4
 a4:=Tryz.isAgg4
 z4:=Tryz.sizeOf4
 v4:=Tryz.zeroValue4
 t5:=underlying5
 a5:=Tryz.isAgg5
 z5:=Tryz.sizeOf5
 v5:=Tryz.zeroValue5
 t9:=underlying9
 a9:=Tryz.isAgg9
 z9:=Tryz.sizeOf9
 v9:=Tryz.zeroValue9
 t46:=underlying200
 a46:=Tryz.isAgg200
 z46:=Tryz.sizeOf200
 v46:=Tryz.zeroValue200
 t51:=underlying140
 a51:=Tryz.isAgg140
 z51:=Tryz.sizeOf140
 v51:=Tryz.zeroValue140
 t146:=underlying308
 a146:=Tryz.isAgg308
 z146:=Tryz.sizeOf308
 v146:=Tryz.zeroValue308
 g1:=by kernel_rfl }
open Go.RowKit Go.Lib in
theorem Tryz.stringslite_Index_one (s:ByteArray)(c:UInt8)(w:Θ):Φ prog 247 #[.string s,.string ⟨#[c]⟩] w λe w'=>e=.returned (Γ Δ (Lib.indexByte s.data.toList c))∧w'=w:=Any.stringslite_Index_one Tryz.Uc s c w
def Tryz.Il:Go.Shelf.Ren:=⟨λ|99=>75|206=>128|n=>n,λ|9=>9|4=>4|3=>3|n=>n,λ|n=>n⟩
theorem Tryz.Yz:Go.Proofs.Lays.n99 prog Tryz.Il:={
 mixed:=by kernel_rfl
 f99:=func75.trans (zak some (by kernel_rfl))
 f206:=func128.trans (zak some (by kernel_rfl))
 t3:=underlying3
 a3:=Tryz.isAgg3
 z3:=Tryz.sizeOf3
 v3:=Tryz.zeroValue3
 t4:=underlying4
 a4:=Tryz.isAgg4
 z4:=Tryz.sizeOf4
 v4:=Tryz.zeroValue4
 t9:=underlying9
 a9:=Tryz.isAgg9
 z9:=Tryz.sizeOf9
 v9:=Tryz.zeroValue9 }
open Go.RowKit Go.Lib in
theorem Tryz.strings_HasPrefix (s p:ByteArray)(w:Θ):Φ prog 75 #[.string s,.string p] w λe w'=>e=.returned (.bool (Lib.hasPrefix s.data.toList p.data.toList))∧w'=w:=Any.strings_HasPrefix Tryz.Yz s p w
end Go.Proofs
namespace Go.Proofs.YtlhimdjkkiflhaaGreatDoor
open Go.Proofs.Tryz
open Go.RowKit Go.Loop
theorem iO {k:IntKind}{a b:Int}(h:a=b):Ending.returned (.int k a)=.returned (.int k b):=by rw[h]
theorem aI {a b:Bool}(h:a=b):Ending.returned (.bool a)=.returned (.bool b):=by rw[h]
theorem ee (c:Int)(w:Θ):Φ prog 186 #[.int .u8 c] w λe w'=>e=.returned (.bool (cF c))∧w'=w:=by
 go_enter func186,ntmps186
 go_wp2
 all_goals
  go_ret;exact⟨aI (by simp[cF];try omega),rfl⟩
theorem iP (c:Int)(w:Θ):Φ prog 187 #[.int .u8 c] w λe w'=>e=.returned (.bool (fA c))∧w'=w:=by
 go_enter func187,ntmps187
 go_wp2
 all_goals
  go_ret;refine⟨aI ?_,rfl⟩;rw[zaZ];simp[fA];omega
theorem Py:∀n:Nat,n<256→ER n=decide (0≤Lib.indexByte [43,45,42,47,60,62,61,63,33,46,95] n.toUInt8):=by decide +kernel
theorem iQ (c:Int)(w:Θ)(h0:0≤c)(h1:c≤255):Φ prog 149 #[.int .u8 c] w λe w'=>e=.returned (.bool (bq c))∧w'=w:=by
 have hs:=Py c.toNat (by omega);rw[Int.toNat_of_nonneg h0]at hs;cases hl:fA c
 ·cases hd:cF c
  ·go_enter func149,ntmps149;go_wp2_with (first|(go_at_call 187;refine(iP _ _).mono ?_;rw[hl];rintro e w' ⟨rfl,rfl⟩)|(go_at_call 186;refine(ee _ _).mono ?_;rw[hd];rintro e w' ⟨rfl,rfl⟩)|(go_at_call 127;refine(Tryz.strings_IndexByte _ _ _).mono ?_;rintro e w' ⟨rfl,rfl⟩));all_goals
    go_ret;refine⟨aI ?_,rfl⟩;simp[bq,hl,hd,hs]
  ·go_enter func149,ntmps149;go_wp2_with (first|(go_at_call 187;refine(iP _ _).mono ?_;rw[hl];rintro e w' ⟨rfl,rfl⟩)|(go_at_call 186;refine(ee _ _).mono ?_;rw[hd];rintro e w' ⟨rfl,rfl⟩)|(go_at_call 127;refine(Tryz.strings_IndexByte _ _ _).mono ?_;rintro e w' ⟨rfl,rfl⟩));all_goals
    go_ret;refine⟨aI ?_,rfl⟩;simp[bq,hl,hd]
 ·go_enter func149,ntmps149;go_wp2_with (first|(go_at_call 187;refine(iP _ _).mono ?_;rw[hl];rintro e w' ⟨rfl,rfl⟩)|(go_at_call 186;refine(ee _ _).mono ?_;rintro e w' ⟨rfl,rfl⟩));all_goals
   go_ret;refine⟨aI ?_,rfl⟩;simp[bq,hl]
theorem L5 (s:ByteArray)(k:Nat)(h:k<s.size):s.data.toList.take (k+1)=s.data.toList.take k++[s[k]]:=by
 rw[zcv (by simpa using h)];rfl
theorem Pz (s:ByteArray)(k:Nat)(h:s.size≤k):s.data.toList.take k=s.data.toList:=zbJ (by simpa using h)
theorem wK (c:UInt8)(r:List UInt8)(h:0<(η (Array.mk (c::r))).size):(η (Array.mk (c::r)))[0]'h=c:=rfl
theorem sJ (c:UInt8)(r:List UInt8):(η (Array.mk (c::r))).extract 1 (r.length+1)=⟨⟨r⟩⟩:=by
 apply ByteArray.ext;simp
theorem wL (c d:UInt8)(r:List UInt8):(η (Array.mk (c::d::r))).extract 1 (r.length+1+1)=⟨⟨d::r⟩⟩:=sJ c (d::r)
theorem mo (r:List UInt8):(η (Array.mk r)).toList=r:=by simp
section
attribute [local go_sem] wK sJ wL mo
theorem jw (c:UInt8)(r:List UInt8)(w:Θ)(hs:(c::r).length≤ζ):Φ prog 147 #[.string ⟨⟨c::r⟩⟩] w λe w'=>e=.returned (.bool (bX (c::r)))∧w'=w:=by
 unfold ζ at hs;simp at hs;cases hp:((c.toNat:Int)==43)
 ·cases hm:((c.toNat:Int)==45)
  ·have H:Hid (bX (c::r)=cF (c.toNat:Int)):=by
    simp at hp hm;exact Az c r hp hm
   go_enter func147,ntmps147;go_wp2_with (go_at_call 186;refine(ee _ _).mono ?_;rintro e w' ⟨rfl,rfl⟩);go_ret;exact⟨aI H.out.symm,rfl⟩
  ·cases r with
   |nil=>
    have H:Hid (bX [c]=false):=by simp at hm;exact qC c (Or.inr hm)
    go_enter func147,ntmps147;go_wp2_with (go_at_call 186;refine(ee _ _).mono ?_;rintro e w' ⟨rfl,rfl⟩);go_ret;exact⟨aI H.out.symm,rfl⟩
   |cons d r=>
    have H:Hid (bX (c::d::r)=cF (d.toNat:Int)):=by
     simp at hm;exact qD c d r (Or.inr hm)
    simp at hs;go_enter func147,ntmps147;go_wp2_with (go_at_call 186;refine(ee _ _).mono ?_;rintro e w' ⟨rfl,rfl⟩);go_ret;exact⟨aI H.out.symm,rfl⟩
 ·cases r with
   |nil=>
    have H:Hid (bX [c]=false):=by simp at hp;exact qC c (Or.inl hp)
    go_enter func147,ntmps147;go_wp2_with (go_at_call 186;refine(ee _ _).mono ?_;rintro e w' ⟨rfl,rfl⟩);go_ret;exact⟨aI H.out.symm,rfl⟩
   |cons d r=>
    have H:Hid (bX (c::d::r)=cF (d.toNat:Int)):=by
     simp at hp;exact qD c d r (Or.inl hp)
    simp at hs;go_enter func147,ntmps147;go_wp2_with (go_at_call 186;refine(ee _ _).mono ?_;rintro e w' ⟨rfl,rfl⟩);go_ret;exact⟨aI H.out.symm,rfl⟩
end
theorem BA (p:Int→Bool)(a b:List UInt8)(h:a.all (λc=>p (c.toNat:Int))=true):aT p (a++b)=a.length+aT p b:=by
 induction a with
 |nil=>simp
 |cons c r ih=>
  simp at h;simp only[zam,aT,h.1,if_true,ih (by simpa using h.2),zar];omega
theorem ei (s:ByteArray)(E8:Int)(w:Θ)(hs:s.size≤ζ)(h0:0≤E8)(h1:E8≤s.size):Φ prog 148 #[.string s,Γ Δ E8,.func (.func 149) #[] #[]] w λe w'=>e=.returned (Γ Δ (E8+aT bq (s.data.toList.drop E8.toNat)))∧w'=w:=by
 unfold ζ at hs;obtain⟨a,rfl⟩:=zbq h0;rw[zbn];go_enter func148,ntmps148;go_wp2_with fail;go_loop [1] (λi=>∃k:Nat,a≤k∧k≤s.size∧i=Γ Δ k∧Hid ((a:Int)+aT bq (s.data.toList.drop a)=(k:Int)+aT bq (s.data.toList.drop k))) (λi=>s.size-(intOf i).toNat)
 case atStart=>exact⟨a,zac _,by omega,rfl,rfl⟩
 case round=>
  obtain⟨k,G0,hk,rfl,hr⟩:=hrel;by_cases hlt:k<s.size
  ·have hd:Hid (s.data.toList.drop k=s[k]::s.data.toList.drop (k+1)):=by show _=_;rw[zcD (by simpa using hlt)];rfl
   cases hp:bq (s[k].toNat :Int)
   ·have H:Hid (aT bq (s.data.toList.drop k)=0):=by show _=_;rw[hd.out];simp[aT,hp]
    go_wp2_with fail;refine(iQ _ _ (by omega) (by have:=s[k].toNat_lt;omega)).mono ?_;rw[hp];rintro e w' ⟨rfl,rfl⟩;go_wp2_with fail;go_ret;refine⟨iO ?_,rfl⟩;rw[hr.out,H.out];simp
   ·have H:Hid (aT bq (s.data.toList.drop k)=aT bq (s.data.toList.drop (k+1))+1):=by show _=_;rw[hd.out];simp[aT,hp]
    go_wp2_with fail;refine(iQ _ _ (by omega) (by have:=s[k].toNat_lt;omega)).mono ?_;rw[hp];rintro e w' ⟨rfl,rfl⟩;go_wp2_with fail
    go_round
    case rel=>exact⟨k+1,by omega,by omega,by go_num,by show _=_;rw[hr.out,H.out];omega⟩
    case measure=>simp[intOf];omega
  ·have H:Hid (aT bq (s.data.toList.drop k)=0):=by show _=_;rw[zbS (by simp;omega)];rfl
   go_wp2_with fail;go_ret;refine⟨iO ?_,rfl⟩;rw[hr.out,H.out];simp
theorem E9 (a b:Int):Ξ b (a.tmod b)=Ξ a b:=by
 have h:(a.tmod b)=a-b*(a.tdiv b):=by have:=Int.mul_tdiv_add_tmod a b;omega
 rw[h,Int.gcd_sub_mul_left_right,Int.gcd_comm]
theorem Kf (a b:Int)(hb:b≠0):(a.tmod b).natAbs <b.natAbs:=by
 rw[Int.natAbs_tmod];exact Nat.mod_lt _ (by omega)
theorem PC (t:Int)(b:Int)(h:t.natAbs<b.natAbs)(hb1: -4611686018427387904≤b)(hb2:b≤4611686018427387904): -4611686018427387904≤t∧t≤4611686018427387904:=by omega
theorem sK (a:Int):((Ξ a 0:Nat):Int)=max a (-a):=by
 rw[Int.gcd_zero_right];omega
theorem Fa (n d:Int)(w:Θ)(h1: -4611686018427387904≤n)(h2:n≤4611686018427387904)(h3: -4611686018427387904≤d)(h4:d≤4611686018427387904):Φ prog 214 #[Γ Δ n,Γ Δ d] w λe w'=>e=.returned (Γ Δ (Ξ n d))∧∃m,w'=w.drewN m:=by
 go_enter func214,ntmps214
 go_wp2
 go_loopw [0,1] (λx y wr=>∃a b:Int,x=Γ Δ a∧y=Γ Δ b∧-4611686018427387904≤a∧a≤4611686018427387904∧-4611686018427387904≤b∧b≤4611686018427387904∧Hid (Ξ a b=Ξ n d)∧∃m,wr=w.drewN m) (λ_ y _=>(intOf y).natAbs)
 case atStart=>exact⟨n,d,rfl,rfl,h1,h2,h3,h4,rfl,0,rfl⟩
 case round=>
  obtain⟨a,b,rfl,rfl,ha1,ha2,hb1,hb2,hg,m,rfl⟩:=hrel;by_cases hb:b=0
  ·subst hb
   go_wp2
   go_ret;exact⟨iO (by rw[←hg.out,sK]),_,rfl⟩
  ·have NC:(b != 0)=true:=by simpa using hb
   have HT:Hid ((a.tmod b).natAbs <b.natAbs):=Kf a b hb;obtain⟨t1,t2⟩:=PC _ _ HT.out hb1 hb2
   go_wp2
   go_quiet (fail)
   go_wp2
   go_roundw
   case rel=>exact⟨b,a.tmod b,rfl,rfl,hb1,hb2,t1,t2,(E9 a b).trans hg.out,_,Θ.drewN_drewN _ _ _⟩
   case measure=>exact HT.out
theorem Im (n d:Int)(w:Θ)(h1: -4611686018427387904≤n)(h2:n≤4611686018427387904)(h3:1≤d)(h4:d≤4611686018427387904):Φ prog 188 #[Γ Δ n,Γ Δ d] w λe w'=>e=.returned (.tuple #[Γ Δ (n.tdiv (Ξ n d)),Γ Δ (d/(Ξ n d))])∧∃m,w'=w.drewN m:=by
 have hg:1≤((Ξ n d:Nat):Int):=by
  have:0<Ξ n d:=zcC _ (by omega);omega
 go_enter func188,ntmps188;go_wp2_with (go_at_call 214;refine(Fa _ _ _ (by omega) (by omega) (by omega) (by omega)).mono ?_;rintro e w' ⟨rfl,m,rfl⟩)
 go_quiet (fail)
 go_wp2
 go_ret2;exact⟨rfl,_,Θ.drewN_drewN _ _ _⟩
theorem Ud (n g:Int)(h1: -4611686018427387904≤n)(h2:n≤4611686018427387904)(_hg:1≤g): -4611686018427387904≤n.tdiv g∧n.tdiv g≤4611686018427387904:=by
 have:(n.tdiv g).natAbs≤n.natAbs:=by rw[Int.natAbs_tdiv];exact Nat.div_le_self _ _
 omega
theorem YA (n g:Int)(h1:1≤n)(h2:n≤4611686018427387904)(hg:1≤g):0≤n/g∧n/g≤4611686018427387904:=by
 have h3:=Int.ediv_le_self (a:=n) g (by omega);have h4:=Int.ediv_nonneg (a:=n) (b:=g) (by omega) (by omega);omega
theorem nO (n d:Int)(w:Θ)(h1: -4611686018427387904≤n)(h2:n≤4611686018427387904)(h3:1≤d)(h4:d≤4611686018427387904):Φ prog 150 #[Γ Δ n,Γ Δ d] w λe w'=>e=.returned (.tuple #[Γ Δ (n.tdiv (Ξ n d)),Γ Δ (d/(Ξ n d))])∧∃m,w'=w.drewN m:=by
 have hg:1≤((Ξ n d:Nat):Int):=by
  have:0<Ξ n d:=zcC _ (by omega);omega
 obtain⟨t1,t2⟩:=Ud n _ h1 h2 hg;obtain⟨t3,t4⟩:=YA d _ h3 h4 hg;go_enter func150,ntmps150;go_wp2_with (go_at_call 188;refine(Im _ _ _ (by omega) (by omega) (by omega) (by omega)).mono ?_;rintro e w' ⟨rfl,m,rfl⟩);generalize n.tdiv (Ξ n d)=u at *;generalize d/(Ξ n d)=v at *
 go_wp2
 go_ret2;exact⟨rfl,_,rfl⟩
theorem SP (n d:Int)(w:Θ)(h1: -4611686018427387904≤n)(h2:n≤4611686018427387904)(h3:1≤d)(h4:d≤4611686018427387904):Φ prog 182 #[Γ Δ n,Γ Δ d] w λe w'=>e=.returned (.tuple #[Γ Δ (n.tdiv (Ξ n d)),Γ Δ (d/(Ξ n d))])∧∃m,w'=w.drewN m:=by
 have hg:1≤((Ξ n d:Nat):Int):=by
  have:0<Ξ n d:=zcC _ (by omega);omega
 go_enter func182,ntmps182
 go_wp2
 go_loop [6,7] (λx y=>∃a b:Int,x=Γ Δ a∧y=Γ Δ b∧-4611686018427387904≤a∧a≤4611686018427387904∧-4611686018427387904≤b∧b≤4611686018427387904∧Hid (Ξ a b=Ξ n d)) (λ_ y=>(intOf y).natAbs)
 case atStart=>exact⟨n,d,rfl,rfl,h1,h2,by omega,h4,rfl⟩
 case round=>
  obtain⟨a,b,rfl,rfl,ha1,ha2,hb1,hb2,tK⟩:=hrel;by_cases hb:b=0
  ·subst hb;have HM:Hid (((Ξ n d:Nat):Int)=max a (-a)):=by show _=_;rw[←tK.out,sK]
   by_cases ha:a<0
   ·obtain⟨g,rfl⟩:∃g,a=-g:=⟨-a,by omega⟩;have HA:Hid (((Ξ n d:Nat):Int)=g):=by show _=_;rw[HM.out];omega
    have hg1:1≤g:=by rw[←HA.out];exact hg
    go_wp2
    go_quiet (fail)
    go_wp2
    go_ret2;refine⟨?_,_,rfl⟩;rw[HA.out];rfl
   ·have HA:Hid (((Ξ n d:Nat):Int)=a):=by show _=_;rw[HM.out];omega
    have ha1:1≤a:=by rw[←HA.out];exact hg
    go_wp2
    go_quiet (fail)
    go_wp2
    go_ret2;refine⟨?_,_,rfl⟩;rw[HA.out];rfl
  ·have NC:(b != 0)=true:=by simpa using hb
   have HT:Hid ((a.tmod b).natAbs <b.natAbs):=Kf a b hb;obtain⟨t1,t2⟩:=PC _ _ HT.out hb1 hb2
   go_wp2
   go_round
   case rel=>exact⟨b,a.tmod b,rfl,rfl,hb1,hb2,t1,t2,(E9 a b).trans tK.out⟩
   case measure=>exact HT.out
theorem jW (n d:Int)(w:Θ):Φ prog 97 #[Γ Δ n,Γ Δ d] w λe w'=>e=.returned (.bool (lT n d))∧∃m,w'=w.drewN m:=by
 by_cases hb:1≤d∧d≤1000000∧-1000000≤n∧n≤1000000
 ·obtain⟨b1,b2,b3,b4⟩:=hb;have H:Hid ((d/((Ξ n d:Nat):Int)==d)=lT n d):=by
   show _=_;rw[ES n d b1];simp[lT,b1,b2,b3,b4]
  go_enter func97,ntmps97;go_wp2_with (go_at_call 150;refine(nO _ _ _ (by omega) (by omega) (by omega) (by omega)).mono ?_;rintro e w' ⟨rfl,m,rfl⟩);go_ret;exact⟨aI H.out,_,rfl⟩
 ·have H:Hid (lT n d=false):=by show _=_;simp[lT];omega
  go_enter func97,ntmps97;go_wp2_with fail;all_goals first
   |(exfalso;omega)
   |(go_ret;exact⟨aI H.out.symm,0,rfl⟩)
theorem yj (l:List UInt8)(k:Nat)(h:k<(η (Array.mk l)).size):(η (Array.mk l))[k]'h=l[k]'h:=rfl
section
attribute [local go_sem] wK yj sJ wL mo
theorem PD (l:List UInt8)(h1:l.isEmpty=false)(h2:(l==[46])=false)(h3:bX l=false):((aT bq l:Nat)==l.length)=ir l:=by
 unfold ir;rw[h1,h2,h3];simp only[Bool.not_false,zbI];rw[show(l.all sF)=l.all (λc=>bq (c.toNat:Int)) from rfl,←ET,zaZ];simp
theorem C4 (l:List UInt8)(w:Θ)(hs:l.length≤ζ):Φ prog 96 #[.string ⟨⟨l⟩⟩] w λe w'=>e=.returned (.bool (ir l))∧w'=w:=by
 cases l with
 |nil=>
  go_enter func96,ntmps96;go_wp2_with fail;go_ret;exact⟨rfl,rfl⟩
 |cons c r=>
 cases h2:((c::r)==[46])
 ·have H2:Hid (((c::r)==[46])=false):=h2;have jA:¬(c::r)=[46]:=by simpa using h2
  have hsz:(η (Array.mk (c::r))).size≤ζ:=hs;cases h3:bX (c::r)
  ·have H3:=PD (c::r) rfl h2 h3;have H:Hid ((((aT bq (c::r):Nat):Int)==(r.length:Int)+1)=ir (c::r)):=by
    show _=_;rw[←H3,zaZ];simp;omega
   clear H3;go_enter func96,ntmps96;go_wp2_with fail;refine(jw _ _ _ hs).mono ?_;rw[h3];rintro e w' ⟨rfl,rfl⟩;go_wp2_with fail;refine(ei _ _ _ hsz (by omega) (by omega)).mono ?_;rintro e w' ⟨rfl,rfl⟩;simp only[Int.toNat_zero,zbu,Int.zero_add];go_wp2_with fail;go_ret;exact⟨aI H.out,rfl⟩
  ·have H:Hid (ir (c::r)=false):=by show _=_;simp[ir,h3]
   go_enter func96,ntmps96;go_wp2_with fail;refine(jw _ _ _ hs).mono ?_;rw[h3];rintro e w' ⟨rfl,rfl⟩;go_wp2_with fail;go_ret;exact⟨aI H.out.symm,rfl⟩
 ·have jA:(c::r)=[46]:=by simpa using h2
  rw[jA];go_enter func96,ntmps96;go_wp2_with fail;go_ret;exact⟨rfl,rfl⟩
theorem ic (n:Int)(w:Θ):Φ prog 151 #[Γ Δ n] w λe w'=>e=.returned (.tuple #[.string ⟨⟨nameOf n⟩⟩,.bool (hasName n)])∧w'=w:=by
 go_enter func151,ntmps151;go_wp2_with fail;all_goals
  go_ret2;refine⟨?_,rfl⟩;simp_all [nameOf,hasName]
theorem lU (n:Int)(w:Θ):Φ prog 152 #[Γ Δ n] w λe w'=>e=.returned (.bool (decide (33≤n∧n≤126)))∧w'=w:=by
 go_enter func152,ntmps152;go_wp2_with fail;all_goals
  go_ret;exact⟨aI (by simp;try omega),rfl⟩
theorem ri (n:Int)(w:Θ):Φ prog 98 #[Γ Δ n] w λe w'=>e=.returned (.bool (jf n))∧w'=w:=by
 cases h:hasName n
 ·go_enter func98,ntmps98;go_wp2_with fail;refine(ic _ _).mono ?_;rw[h];rintro e w' ⟨rfl,rfl⟩;go_wp2_with fail;refine(lU _ _).mono ?_;rintro e w' ⟨rfl,rfl⟩;go_wp2_with fail;go_ret;exact⟨aI (by simp[jf,h]),rfl⟩
 ·go_enter func98,ntmps98;go_wp2_with fail;refine(ic _ _).mono ?_;rw[h];rintro e w' ⟨rfl,rfl⟩;go_wp2_with fail;go_ret;exact⟨aI (by simp[jf,h]),rfl⟩
theorem Fb (l:List UInt8)(n d:Int)(a:Option Addr)(len cap:Nat)(w:Θ):Φ prog 95 #[.string ⟨⟨l⟩⟩,Γ Δ n,Γ Δ d,.slice a len cap] w λe w'=>e=.returned (.bool (decide (l=[]∧n=0∧d=0∧len=0)))∧w'=w:=by
 go_enter func95,ntmps95;go_wp2_with fail;all_goals
  go_ret;refine⟨aI ?_,rfl⟩;first|(simp_all;done)|(simp_all;rw[zaZ];simp)
theorem fe {a b:List UInt8}(h:a=b):Ending.returned (.string ⟨⟨a⟩⟩)=.returned (.string ⟨⟨b⟩⟩):=by rw[h]
end
structure Mc (T:Ω) (cells off:Nat):Prop where
 lies:liesAt prog prog.depth T (cells/prog.cellsOf T) off 116 1=true
 lt:off<cells
theorem yz:Mc 116 2 0:=⟨by kernel_rfl,by omega⟩
theorem Fj:Mc 118 7 4:=⟨by kernel_rfl,by omega⟩
theorem ve:(prog.info? 116).map (·.size)=some 2:=by kernel_rfl
theorem infoByte:(prog.info? 5).map (λi=>(i.zero,i.size,i.bytes))=some (some (.int .u8 0),1,1):=by kernel_rfl
structure fu (w:Θ) (T:Ω) (off B b:Nat) (cs:Array Λ) (v:Λ) (bs:List Λ):Prop where
 hB:B≤b
 blk:w.heap[b]?=some (.cells cs T (0,0))
 c0:cs[off]?=some (.pointer none)∨cs[off]?=some (.pointer (some ⟨b,off,none⟩))
 c1:cs[off+1]?=some v
 own:w.ownsRow B 5 1 v bs.length bs
structure iu (w w':Θ) (b:Nat) (v v':Λ):Prop where
 os:w'.os=w.os
 tape:w'.tape=w.tape
 output:w'.output=w.output
 size:w.heap.size≤w'.heap.size
 block:∀k,k<w.heap.size→k≠b→some k≠v.ownBlock→w'.heap[k]?=w.heap[k]?
 buf:v'.ownBlock=v.ownBlock∨∃k,v'.ownBlock=some k∧w.heap.size≤k
theorem iu.refl (w:Θ)(b:Nat)(v:Λ):iu w w b v v:=⟨rfl,rfl,rfl,zac _,λ_ _ _ _=>rfl,Or.inl rfl⟩
theorem iu.trans {w w' w'':Θ}{b:Nat}{v v' v'':Λ}(h:iu w w' b v v')(k:iu w' w'' b v' v''):iu w w'' b v v'':=by
 refine⟨k.os.trans h.os,k.tape.trans h.tape,k.output.trans h.output,zag h.size k.size,λi hi hb hv=>?_,?_⟩
 ·have hne:some i≠v'.ownBlock:=by
   rcases h.buf with e|⟨g,e,hg⟩
   ·rw[e];exact hv
   ·rw[e];intro x;simp only[zaE]at x;omega
  exact(k.block i (zaI hi h.size) hb hne).trans (h.block i hi hb hv)
 ·rcases k.buf with e|⟨g,e,hg⟩
  ·rw[e];exact h.buf
  ·exact Or.inr ⟨g,e,zag h.size hg⟩
theorem iu.below {w w':Θ}{B b:Nat}{v v':Λ}(h:iu w w' b v v')(hB:B≤w.heap.size)(hb:B≤b)(hv:∀k,v.ownBlock=some k→B≤k):Below B w w':=
 ⟨h.os,h.tape,h.output,h.size,λk hk=>h.block k (by omega) (by omega) (λe=>by have:=hv k e.symm;omega)⟩
theorem fu.cell {w:Θ}{T:Ω}{off B b:Nat}{cs:Array Λ}{v:Λ}{bs:List Λ}(h:fu w T off B b cs v bs)(j:Nat):w.cell? ⟨b,j,none⟩=cs[j]?:=zbw h.blk j
theorem fu.frozen {w:Θ}{T:Ω}{off B b:Nat}{cs:Array Λ}{v:Λ}{bs:List Λ}(h:fu w T off B b cs v bs)(j:Nat):w.frozen? ⟨b,j,none⟩=false:=Lib.frozen_of_heap h.blk j
theorem fu.lt {w:Θ}{T:Ω}{off B b:Nat}{cs:Array Λ}{v:Λ}{bs:List Λ}(h:fu w T off B b cs v bs):b<w.heap.size:=(zaj.1 h.blk).1
theorem yA (b off:Nat)(w:Θ)(h0:w.cell? ⟨b,off,none⟩=some (.pointer (some ⟨b,off,none⟩))):Φ prog 189 #[.pointer (some ⟨b,off,none⟩)] w λe w'=>e=.returned (.tuple #[])∧w'=w:=by
 obtain⟨j,hj,_⟩:=zas.1 ve;go_enter func189,ntmps189
 go_wp2
 rw[Lib.run_neq_ptr_same w _ underlying114 hj]
 go_wp2
 go_end0
 exact⟨rfl,rfl⟩
theorem vN (T:Ω)(cells b off:Nat)(X:Mc T cells off)(w:Θ)(h0:w.cell? ⟨b,off,none⟩=some (.pointer none))(C8:w.shape? b=some (T,cells))(Oe:w.frozen? ⟨b,off,none⟩=false):Φ prog 189 #[.pointer (some ⟨b,off,none⟩)] w λe w'=>e=.returned (.tuple #[])∧w'=w.setCell ⟨b,off,none⟩ (.pointer (some ⟨b,off,none⟩)):=by
 obtain⟨j,hj,hjs⟩:=zas.1 ve;go_enter func189,ntmps189
 go_wp2
 rw[Lib.run_to_unsafe w ⟨b,off,none⟩ underlying114 underlying196 hj (by rw[hjs];decide) C8 X.lt];simp only[Result.andThen];rw[Oper.upon_value]
 go_wp2
 rw[run_callFunc_extern func215 (by kernel_rfl) (by kernel_rfl) (by kernel_rfl) (e:=Extern.AbiNoEscape.same) (by kernel_rfl)];rw[Lib.run_noEscape];simp only[Result.andThen];rw[Oper.upon_value]
 go_wp2
 rw[Lib.run_from_unsafe w ⟨b,off,none⟩ underlying196 underlying114 hj C8 X.lies];simp only[Result.andThen];rw[Oper.upon_value]
 go_wp2
 go_end0
 exact⟨rfl,rfl⟩
def kR (off b:Nat)(cs:Array Λ):Array Λ:=cs.setIfInBounds off (.pointer (some ⟨b,off,none⟩))
theorem Iq {off b:Nat}{cs:Array Λ}(h:cs[off]?=some (.pointer (some ⟨b,off,none⟩))):kR off b cs=cs:=by
 apply Array.ext_getElem?
 intro i;unfold kR;rw[zcK];split
 ·next e=>subst e;obtain⟨hlt,_⟩:=zaj.1 h;rw[zab hlt,h]
 ·rfl
theorem qF {w:Θ}{T:Ω}{off B b:Nat}{cs:Array Λ}{v:Λ}{bs:List Λ}(X:Mc T cs.size off)(hT:T≠5)(h:fu w T off B b cs v bs):Φ prog 189 #[.pointer (some ⟨b,off,none⟩)] w λe w'=>e=.returned (.tuple #[])∧fu w' T off B b (kR off b cs) v bs∧(kR off b cs)[off]?=some (.pointer (some ⟨b,off,none⟩))∧iu w w' b v v:=by
 have hlt:=X.lt;rcases h.c0 with h0|h0
 ·refine(vN T cs.size b off X w ((h.cell off).trans h0) (by simp[Θ.shape?,h.blk]) (h.frozen off)).mono ?_;rintro e w' ⟨rfl,rfl⟩;have hn:=Lib.ownBlock_ne h.own h.blk hT;have hu:(kR off b cs)[off]?=some (.pointer (some ⟨b,off,none⟩)):=by simp[kR,hlt]
  refine⟨rfl,⟨h.hB,?_,Or.inr hu,?_,?_⟩,hu,⟨rfl,rfl,rfl,by simp[Θ.setCell],λk _ hk _=>zax _ _ _ _ hk,Or.inl rfl⟩⟩
  ·have:=heap_setCell_same w b off cs T (.pointer (some ⟨b,off,none⟩)) h.blk;exact this
  ·unfold kR;rw[zcK,zaa (by omega)];exact h.c1
  ·exact h.own.kept (row:=some b) ⟨rfl,rfl,rfl,by simp[Θ.setCell],λk _ hk=>zax _ _ _ _ (λe=>hk (by simp[e]))⟩ (Or.inr hn)
 ·refine(yA b off w ((h.cell off).trans h0)).mono ?_;rintro e w' ⟨rfl,rfl⟩;rw[Iq h0];exact⟨rfl,h,h0,iu.refl _ _ _⟩
theorem rp {w:Θ}{T:Ω}{off B b:Nat}{cs:Array Λ}{v:Λ}{bs:List Λ}(h:fu w T off B b cs v bs):Φ prog 153 #[.pointer (some ⟨b,off,none⟩)] w λe w'=>e=.returned (Γ Δ bs.length)∧w'=w:=by
 have c1:=(h.cell (off+1)).trans h.c1;have hown:=h.own;obtain⟨ao,cap,rfl⟩:∃ao cap,v=.slice ao bs.length cap:=by
  rcases hown.2 with⟨hv,h0⟩|⟨g,cap,cur,hv,_⟩
  ·exact⟨none,0,by rw[hv,h0]⟩
  ·exact⟨_,_,hv⟩
 clear hown h;go_enter func153,ntmps153
 go_wp2
 go_ret;exact⟨rfl,rfl⟩
section
variable {P:Program}
theorem yB (w:Θ)(base:Nat)(t u ty e:Ω)(i:θ)(ht:P.underlying t=some (.slice e))(hu:P.underlying u=some .string)(hi:P.info? e=some i)(hz:i.zero=some (.int .u8 0))
 (hsize:i.size=1)(hby:i.bytes=1)
 (v:Λ)(n:Nat)(xs:List Λ)(hown:w.ownsRow base e 1 v n xs)(s:ByteArray)
 (h63:n+s.size≤ζ)(hbytes:n+s.size≤140737488355328)(hbase:base≤w.heap.size):
 ∃v' w',(Builtin.append_ #[t,u] ty #[v,.string s]).run P w=.ok v' w'∧w'.ownsRow base e 1 v' (n+s.size) (xs++Lib.strCells s)∧w.grownBy w' v.ownBlock∧
  (v'.ownBlock=v.ownBlock∨∃k,v'.ownBlock=some k∧w.heap.size≤k):=by
 obtain⟨v',w',hr,h2,h3,h4⟩:=Lib.run_append_own_string (P:=P) w base t u ty e i ht hu hi hz hsize hby v n xs hown s h63 hbytes hbase;refine⟨v',w',hr,h2,h3,?_⟩;have hxl:xs.length=n:=by simpa using hown.1
 have Ir:n+s.size≤9223372036854775807:=by simp only[ζ]at h63;omega
 rcases hown.2 with⟨rfl,rfl⟩|⟨g,cap,cur,rfl,hbg,hg,hnc,hcm,hcs,Fl⟩
 ·by_cases hm:s.size=0
  ·have:=h4.2 ⟨rfl,hm⟩;rw[this];exact Or.inl rfl
  ·have qy:=Go.run_append_nil_string (P:=P) w t u ty e i (.int .u8 0) ht hu hi hz s (by omega) (by omega) (by rw[hby];omega);rw[qy]at hr;injection hr with a b;rw[←a];exact Or.inr ⟨_,rfl,zac _⟩
 ·by_cases hroom:n+s.size≤cap
  ·have aft:cur.size=cap:=by simpa using hcs
   have qy:=Lib.run_append_room_string (P:=P) w t u ty e i ht hu hi hsize g n cap cur hg s hroom (by omega);rw[qy]at hr;injection hr with a b;rw[←a];exact Or.inl rfl
  ·have holds:∀j u,xs[j]?=some u→w.cell? ((⟨g,0,none⟩:Addr).add j)=some u:=hown.cells (g:=g) rfl;have qy:=Lib.run_append_grow_string (P:=P) w t u ty e i (.int .u8 0) ht hu hi hz ⟨g,0,none⟩ n cap xs (by rw[hsize];simpa using hxl) holds s (by omega) (by omega) (by rw[hby];exact growslice_fits (by omega) (by omega));rw[qy]at hr;injection hr with a b;rw[←a];exact Or.inr ⟨_,rfl,zac _⟩
theorem sP {w:Θ}{ops:Array Oper}{rest:List Oper}{o:Oper}{a:Act}{Q:Exit→Act→Θ→Prop}(hgd:o.guard=none)(sl x:Operand)(t u:Ω)
 (ho:o.op=.call { callee:= .builtin .append,args:=#[sl,x],argTypes:=#[t,u] })
 (base:Nat)(e:Ω)(i:θ)(ht:P.underlying t=some (.slice e))(hu:P.underlying u=some .string)(hi:P.info? e=some i)(hz:i.zero=some (.int .u8 0))
 (hsize:i.size=1)(hby:i.bytes=1)
 (v:Λ)(n:Nat)(xs:List Λ)(hs:a.eval sl=v)(hown:w.ownsRow base e 1 v n xs)(s:ByteArray)(hx:a.eval x=.string s)
 (h63:n+s.size≤ζ)(hbytes:n+s.size≤140737488355328)(hbase:base≤w.heap.size)
 (h:∀v' w',w'.ownsRow base e 1 v' (n+s.size) (xs++Lib.strCells s)→w.grownBy w' v.ownBlock→(v'.ownBlock=v.ownBlock∨∃k,v'.ownBlock=some k∧w.heap.size≤k)→wpList P ops Q rest (a.put o.dst v') w'):wpList P ops Q (o::rest) a w:=by
 refine wpList_plain hgd λK hK=>?_;obtain⟨v',w',hr,h2,h3,h4⟩:=yB (P:=P) w base t u o.type e i ht hu hi hz hsize hby v n xs hown s h63 hbytes hbase;unfold Oper.wp execOp;simp only[ho,resolve,invoke,builtin,zba,zbd,zbb,zbR,zaB,zbt,hs,hx,hr];exact hK _ _ (h v' w' h2 h3 h4)
end
theorem fu.put {w w2:Θ}{T:Ω}{off B b:Nat}{cs:Array Λ}{v v':Λ}{bs bs':List Λ}(h:fu w T off B b cs v bs)(hT:T≠5)(hg:w.grownBy w2 v.ownBlock)
 (hown:w2.ownsRow B 5 1 v' bs'.length bs')(kT:v'.ownBlock=v.ownBlock∨∃k,v'.ownBlock=some k∧w.heap.size≤k):
 fu (w2.setCell ⟨b,off+1,none⟩ v') T off B b (cs.setIfInBounds (off+1) v') v' bs'∧iu w (w2.setCell ⟨b,off+1,none⟩ v') b v v':=by
 have hn:=Lib.ownBlock_ne h.own h.blk hT;have hlt:=h.lt;have hb2:w2.heap[b]?=some (.cells cs T (0,0)):=(hg.block b hlt (λe=>hn e.symm)).trans h.blk;have wJ:=Lib.ownBlock_ne hown hb2 hT;obtain⟨rq,_⟩:=zaj.1 h.c1;refine⟨⟨h.hB,heap_setCell_same w2 b (off+1) cs T v' hb2,?_,?_,?_⟩,⟨hg.os,hg.tape,hg.output,?_,λk hk hkb hkv=>?_,kT⟩⟩
 ·rw[zcK,zaa (by omega)];exact h.c0
 ·simp[rq]
 ·exact hown.kept (row:=some b) ⟨rfl,rfl,rfl,by simp[Θ.setCell],λk _ hk=>zax _ _ _ _ (λe=>hk (by simp[e]))⟩ (Or.inr wJ)
 ·have:=hg.size;simpa[Θ.setCell]using this
 ·rw[zax _ _ _ _ hkb];exact hg.block k hk hkv
theorem nP {w:Θ}{T:Ω}{off B b:Nat}{cs:Array Λ}{v:Λ}{bs:List Λ}(X:Mc T cs.size off)(hT:T≠5)(h:fu w T off B b cs v bs)(s:ByteArray)(hlen:bs.length+s.size≤140737488355328)(Uj:B≤w.heap.size):Φ prog 154 #[.pointer (some ⟨b,off,none⟩),.string s] w λe w'=>e=.returned (.tuple #[Γ Δ s.size,.nilIface])∧∃v',fu w' T off B b ((kR off b cs).setIfInBounds (off+1) v') v' (bs++Lib.strCells s)∧iu w w' b v v':=by
 obtain⟨i0,hi,hz0,hz1,hz2⟩:=info_parts infoByte;go_enter func154,ntmps154;go_wp2_with (go_at_call 189;refine(qF X hT h).mono ?_);rintro e w1 ⟨rfl,h1,hc0,rH⟩;have c0:w1.cell? ⟨b,off,none⟩=some (.pointer (some ⟨b,off,none⟩)):=(h1.cell off).trans hc0;have c1:w1.cell? ⟨b,off+1,none⟩=some v:=(h1.cell (off+1)).trans h1.c1;have hs1:=rH.size;go_wp2_with (at_builtin;refine sP rfl _ _ 80 9 rfl B 5 i0 underlying80 underlying9 hi hz0 hz1 hz2 _ _ _ rfl h1.own s rfl ?c3 ?c4 ?c5 ?_)
 case c3=>unfold ζ;omega
 case c4=>omega
 case c5=>omega
 intro v' w2 hown' hgrow kT;obtain⟨hA,hTo⟩:=h1.put hT hgrow (bs':=bs++Lib.strCells s) (by simpa[Lib.strCells_length]using hown') kT;have hn:=Lib.ownBlock_ne h1.own h1.blk hT;have hb2:w2.heap[b]?=some (.cells (kR off b cs) T (0,0)):=(hgrow.block b h1.lt (λe=>hn e.symm)).trans h1.blk;have d0:w2.cell? ⟨b,off,none⟩=some (.pointer (some ⟨b,off,none⟩)):=(zbw hb2 _).trans hc0;have d1:w2.cell? ⟨b,off+1,none⟩=some v:=(zbw hb2 _).trans h1.c1;have f1:w2.frozen? ⟨b,off+1,none⟩=false:=Lib.frozen_of_heap hb2 _;obtain⟨ao,n',cap,rfl⟩:∃ao n' cap,v'=.slice ao n' cap:=by
  rcases hown'.2 with⟨hv,_⟩|⟨g,cap,cur,hv,_⟩
  ·exact⟨_,_,_,hv⟩
  ·exact⟨_,_,_,hv⟩
 go_wp2
 go_ret2;exact⟨rfl,_,hA,rH.trans hTo⟩
section
variable {P:Program}
theorem yC (w:Θ)(base:Nat)(t ty e:Ω)(i:θ)(z:Λ)(ht:P.underlying t=some (.slice e))(hi:P.info? e=some i)(hz:i.zero=some z)
 (hsize:i.size=1)(hby:i.bytes=1)(hzs:z.cells.size=1)
 (v:Λ)(n:Nat)(xs:List Λ)(hown:w.ownsRow base e 1 v n xs)
 (a:Addr)(m c:Nat)(news:List Λ)(hm:m≠0)(hl:news.length=m*1)(hnews:∀j u,news[j]?=some u→w.cell? (a.add j)=some u)(h1:∀u∈news,u.oneCell'=true)
 (h63:n+m≤ζ)(hbytes:(n+m)*1≤140737488355328)(hbase:base≤w.heap.size):
 ∃v' w',(Builtin.append_ #[t,t] ty #[v,.slice (some a) m c]).run P w=.ok v' w'∧w'.ownsRow base e 1 v' (n+m) (xs++news)∧w.grownBy w' v.ownBlock∧
  (v'.ownBlock=v.ownBlock∨∃k,v'.ownBlock=some k∧w.heap.size≤k):=by
 obtain⟨v',w',hr,h2,h3,h4⟩:=run_append_own (P:=P) w base t ty e i z 1 1 ht hi hz hsize hby hzs (by decide) v n xs hown a m c news hl hnews h1 h63 hbytes hbase;refine⟨v',w',hr,h2,h3,?_⟩;have Ir:n+m≤9223372036854775807:=by simp only[ζ]at h63;omega
 rcases hown.2 with⟨rfl,rfl⟩|⟨g,cap,cur,rfl,hbg,hg,hnc,hcm,hcs,Fl⟩
 ·have qy:=run_append_nil (P:=P) w t ty e i z ht hi hz a m c news (by rw[hsize];exact hl) hnews (by omega) (by omega) (by rw[hby];omega);rw[qy]at hr;injection hr with a b;rw[←a];exact Or.inr ⟨_,rfl,zac _⟩
 ·by_cases hroom:n+m≤cap
  ·have qy:=run_append_room (P:=P) w t ty e i ht hi g n cap cur hg a m c news (by rw[hsize];exact hl) hnews h1 hroom (by rw[hsize];omega);rw[qy]at hr;injection hr with a b;rw[←a];exact Or.inl rfl
  ·have holds:∀j u,xs[j]?=some u→w.cell? ((⟨g,0,none⟩:Addr).add j)=some u:=hown.cells (g:=g) rfl;have qy:=run_append_grow (P:=P) w t ty e i z ht hi hz ⟨g,0,none⟩ n cap xs (by rw[hsize];exact hown.1) holds a m c news (by rw[hsize];exact hl) hnews (by omega) (by omega) (by rw[hby];exact growslice_fits (by omega) hbytes);rw[qy]at hr;injection hr with a b;rw[←a];exact Or.inr ⟨_,rfl,zac _⟩
theorem sQ {w:Θ}{ops:Array Oper}{rest:List Oper}{o:Oper}{a:Act}{Q:Exit→Act→Θ→Prop}(hgd:o.guard=none)(sl x:Operand)(t:Ω)
 (ho:o.op=.call { callee:= .builtin .append,args:=#[sl,x],argTypes:=#[t,t] })
 (base:Nat)(e:Ω)(i:θ)(z:Λ)(ht:P.underlying t=some (.slice e))(hi:P.info? e=some i)(hz:i.zero=some z)
 (hsize:i.size=1)(hby:i.bytes=1)(hzs:z.cells.size=1)
 (v:Λ)(n:Nat)(xs:List Λ)(hs:a.eval sl=v)(hown:w.ownsRow base e 1 v n xs)
 (ad:Addr)(m c:Nat)(news:List Λ)(hx:a.eval x=.slice (some ad) m c)(hm:m≠0)(hl:news.length=m*1)(hnews:∀j u,news[j]?=some u→w.cell? (ad.add j)=some u)(h1:∀u∈news,u.oneCell'=true)
 (h63:n+m≤ζ)(hbytes:(n+m)*1≤140737488355328)(hbase:base≤w.heap.size)
 (h:∀v' w',w'.ownsRow base e 1 v' (n+m) (xs++news)→w.grownBy w' v.ownBlock→(v'.ownBlock=v.ownBlock∨∃k,v'.ownBlock=some k∧w.heap.size≤k)→wpList P ops Q rest (a.put o.dst v') w'):wpList P ops Q (o::rest) a w:=by
 refine wpList_plain hgd λK hK=>?_;obtain⟨v',w',hr,h2,h3,h4⟩:=yC (P:=P) w base t o.type e i z ht hi hz hsize hby hzs v n xs hown ad m c news hm hl hnews h1 h63 hbytes hbase;unfold Oper.wp execOp;simp only[ho,resolve,invoke,builtin,zba,zbd,zbb,zbR,zaB,zbt,hs,hx,hr];exact hK _ _ (h v' w' h2 h3 h4)
end
theorem fu.alloc {w:Θ}{T:Ω}{off B b:Nat}{cs:Array Λ}{v:Λ}{bs:List Λ}(h:fu w T off B b cs v bs)(o:Obj):fu (w.alloc o) T off B b cs v bs:=
 ⟨h.hB,(zaT w o b h.lt).trans h.blk,h.c0,h.c1,h.own.alloc o⟩
theorem iu.aG {w w':Θ}{b:Nat}{v:Λ}(h:Below w.heap.size w w'):iu w w' b v v:=⟨h.os,h.tape,h.output,h.size,λk hk _ _=>h.block k hk,Or.inl rfl⟩
theorem qH {w:Θ}{T:Ω}{off B b:Nat}{cs:Array Λ}{v:Λ}{bs:List Λ}(X:Mc T cs.size off)(hT:T≠5)(h:fu w T off B b cs v bs)(c:Int)(hlen:bs.length+1≤140737488355328)(Uj:B≤w.heap.size):Φ prog 191 #[.pointer (some ⟨b,off,none⟩),.int .u8 c] w λe w'=>e=.returned .nilIface∧∃v',fu w' T off B b ((kR off b cs).setIfInBounds (off+1) v') v' (bs++[.int .u8 c])∧iu w w' b v v':=by
 obtain⟨i0,hi,hz0,hz1,hz2⟩:=info_parts infoByte;go_enter func191,ntmps191;go_wp2_with (go_at_call 189;refine(qF X hT h).mono ?_);rintro e w1 ⟨rfl,h1,hc0,rH⟩;have c0:w1.cell? ⟨b,off,none⟩=some (.pointer (some ⟨b,off,none⟩)):=(h1.cell off).trans hc0;have c1:w1.cell? ⟨b,off+1,none⟩=some v:=(h1.cell (off+1)).trans h1.c1;have hs1:=rH.size;go_wp2_with (at_builtin;refine sQ rfl _ _ 80 rfl B 5 i0 (.int .u8 0) underlying80 hi hz0 hz1 hz2 rfl _ _ _ rfl (h1.alloc _).own ⟨w1.heap.size,0,none⟩ 1 1 [.int .u8 c] rfl (by decide) rfl ?c1 ?c2 ?c3 ?c4 ?c5 ?_)
 case c1=>
  intro j u hj
  match j,hj with
  |0,hj=>simp at hj;subst hj;simp[Addr.add]
 case c2=>intro u hu;simp at hu;subst hu;rfl
 case c3=>unfold ζ;omega
 case c4=>omega
 case c5=>simp;omega
 intro v' w2 hown' hgrow kT;have h1a:=h1.alloc (.cells #[.int .u8 c] 5);obtain⟨hA,hTo⟩:=h1a.put hT hgrow (bs':=bs++[.int .u8 c]) (by simpa using hown') (by simpa using kT);have hn:=Lib.ownBlock_ne h1a.own h1a.blk hT;have hb2:w2.heap[b]?=some (.cells (kR off b cs) T (0,0)):=(hgrow.block b h1a.lt (λe=>hn e.symm)).trans h1a.blk;have d0:w2.cell? ⟨b,off,none⟩=some (.pointer (some ⟨b,off,none⟩)):=(zbw hb2 _).trans hc0;have d1:w2.cell? ⟨b,off+1,none⟩=some v:=(zbw hb2 _).trans h1.c1;have f1:w2.frozen? ⟨b,off+1,none⟩=false:=Lib.frozen_of_heap hb2 _;obtain⟨ao,n',cap,rfl⟩:∃ao n' cap,v'=.slice ao n' cap:=by
  rcases hown'.2 with⟨hv,_⟩|⟨g,cap,cur,hv,_⟩
  ·exact⟨_,_,_,hv⟩
  ·exact⟨_,_,_,hv⟩
 go_wp2
 go_ret;exact⟨rfl,_,hA,(rH.trans (iu.aG ((zad _ _).alloc (zac _) _))).trans hTo⟩
theorem lW {w:Θ}{T:Ω}{off B b:Nat}{cs:Array Λ}{v:Λ}{l:List UInt8}(h:fu w T off B b cs v (Lib.byteCells l))(h0:l≠[]):Φ prog 63 #[.pointer (some ⟨b,off,none⟩)] w λe w'=>e=.returned (.string ⟨l.toArray⟩)∧iu w w' b v v:=by
 have hl0:l.length≠0:=by simpa using h0
 have hown:=h.own;rw[Lib.byteCells_length]at hown;have hc1:=h.c1;have G1:=h.blk;clear h;obtain⟨g,cap,cur,rfl,hbg,hg,hnc,hcm,hcs,Fl⟩:∃g cap cur,v=.slice (some ⟨g,0,none⟩) l.length cap∧B≤g∧w.heap[g]?=some (.cells cur 5 (0,0))∧l.length≤cap∧cap≤ζ∧cur.size=cap*1∧cur.toList.take (l.length*1)=Lib.byteCells l:=by
  rcases hown.2 with⟨_,hz⟩|⟨g,cap,cur,hv,r⟩
  ·exact absurd hz hl0
  ·exact⟨g,cap,cur,hv,r⟩
 have c1:w.drew.cell? ⟨b,off+1,none⟩=some (.slice (some ⟨g,0,none⟩) l.length cap):=by
  have:w.drew.heap[b]?=some (.cells cs T (0,0)):=G1;rw[zbw this];exact hc1
 have hSD:(Builtin.unsafeSliceData_ #[80] 190 #[.slice (some ⟨g,0,none⟩) l.length cap]).run prog w.drew=.ok (.pointer (some ⟨g,0,none⟩)) w.drew:=
  Lib.run_unsafeSliceData_row _ _ _ _ _ _ (by omega)
 have hUS:(Builtin.unsafeString_ #[190,3] 9 #[.pointer (some ⟨g,0,none⟩),Γ Δ l.length]).run prog w.drew=.ok (.string ⟨l.toArray⟩) (w.drew.freeze ⟨g,0,none⟩ l.length):=by
  refine Lib.run_unsafeString_row w.drew 190 3 9 5 underlying190 (by kernel_rfl) g cur.size (by have tK:w.drew.heap[g]?=some (.cells cur 5 (0,0)):=hg;simp[Θ.shape?,tK]) l h0 (by omega) (by unfold ζ at hcm;omega) ?_;intro j x hx;have:=hown.cells (g:=g) rfl j (.int .u8 x.toNat) (by simp[Lib.byteCells,hx]);exact this
 have hF:Hid (iu w (w.drew.freeze ⟨g,0,none⟩ l.length) b (.slice (some ⟨g,0,none⟩) l.length cap) (.slice (some ⟨g,0,none⟩) l.length cap)):=by
  unfold Θ.freeze;split
  ·exact⟨rfl,rfl,rfl,zac _,λ_ _ _ _=>rfl,Or.inl rfl⟩
  ·refine⟨rfl,rfl,rfl,by simp,λk hk hkb hkv=>?_,Or.inl rfl⟩;simp only[Array.getElem?_modify];rw[zaa (λe=>hkv (by simp[Λ.ownBlock,←e]))];rfl
 clear hown G1 hc1 hg Fl;go_enter func63,ntmps63
 go_wp2
 go_region;all_goals (go_wp2;go_ret;exact⟨rfl,hF.out⟩)
end Go.Proofs.YtlhimdjkkiflhaaGreatDoor
