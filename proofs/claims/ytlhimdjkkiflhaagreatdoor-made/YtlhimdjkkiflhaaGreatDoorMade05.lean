import Derived.Shelf.Strings.Builder1
import Derived.Shelf.Small.Strs
import Derived.Shelf.Strings.BuilderF
import Derived.Shelf.Strings.BuilderK
import Derived.Shelf.Strconv.Itoa0
import Derived.Shelf.Strconv.Itoa1
import Derived.Shelf.LaysM
import Derived.Shelf.Strconv.Itoa2
import Derived.Shelf.Strconv.Itoa3
import Derived.Shelf.Strconv.Clone
import Derived.Shelf.Strings.Search1
import Derived.Shelf.Strings.Search2
import Derived.Shelf.Strings.Cut
import Derived.Shelf.Strings.Shaped
import Derived.Shelf.Strings.Prefix
import Derived.Test.YtlhimdjkkiflhaaGreatDoorProg
import Derived.Test.YtlhimdjkkiflhaaGreatDoorRows
import Derived.WalkKit
import Derived.WalkSpells
import Derived.WalkLawsBesides
import Derived.Deep.QuietTactic
import Derived.BigQuiet
import Derived.Lib.ItoaMem
import Derived.Lib.AppendStr
import Derived.Lib.UnsafeStr
import Derived.Laws.Externs
import Derived.KernelRfl
import Derived.Lib.AppendIntMem
import Derived.Deep.DeepCutAuto
import Derived.Test.YtlhimdjkkiflhaaGreatDoorMade01
set_option maxHeartbeats 8000000
set_option maxRecDepth 100000
open Go.Value renaming int→Γ
open Go.IntKind renaming i64→Δ
open Go renaming World→Θ,Value→Λ,Calls→Ξ,maxLen→ι,TypeId→ξ,TypeInfo→χ
open Int renaming gcd→Φ
open Go.RowKit renaming Below→Ω,intOf→φ
open Go.Lib renaming byteCells→ζ,itoa→θ
open List renaming replicate→η,getD→π
open ByteArray renaming mk→υ
namespace Go.Loop
def cF (c:Int):Bool:=decide (48≤c∧c≤57)
def fA (c:Int):Bool:=decide ((97≤c∧c≤122)∨(65≤c∧c≤90))
def ER (c:Int):Bool:=decide (c=43∨c=45∨c=42∨c=47∨c=60∨c=62∨c=61∨c=63∨c=33∨c=46∨c=95)
def bq (c:Int):Bool:=fA c||cF c||ER c
def sF (c:UInt8):Bool:=bq (c.toNat:Int)
def aT (p:Int→Bool):List UInt8→Nat
 |[]=>0
 |c::r=>if p (c.toNat:Int)then aT p r+1 else 0
def bX:List UInt8→Bool
 |[]=>false
 |c::r=>if c.toNat=43∨c.toNat=45 then(match r with|[]=>false|d::_=>cF (d.toNat:Int))else cF (c.toNat:Int)
def ir (l:List UInt8):Bool:=!l.isEmpty&&!(l==[46])&&!bX l&&l.all sF
def lT (n d:Int):Bool:=decide (1≤d∧d≤1000000∧-1000000≤n∧n≤1000000∧Φ n d=1)
theorem ES (n d:Int)(hd:1≤d):(d/((Φ n d:Nat):Int)==d)=decide (Φ n d=1):=by
 have hp:0<Φ n d:=zcC _ (by omega);rw[zaZ,zaJ,decide_eq_true_iff];constructor
 ·intro h;by_cases h1:Φ n d=1
  ·exact h1
  ·exfalso;have h2:(2:Int)≤((Φ n d:Nat):Int):=by omega
   have:d/((Φ n d:Nat):Int)<d:=Int.ediv_lt_self_of_pos_of_ne_one (by omega) (by omega);omega
 ·intro h;rw[h];simp
theorem Az (c:UInt8)(r:List UInt8)(h1:¬(c.toNat:Int)=43)(h2:¬(c.toNat:Int)=45):bX (c::r)=cF (c.toNat:Int):=by
 simp only[bX];rw[zaa (by omega)]
theorem qC (c:UInt8)(h:(c.toNat:Int)=43∨(c.toNat:Int)=45):bX [c]=false:=by
 simp only[bX];rw[zab (by omega)]
theorem qD (c d:UInt8)(r:List UInt8)(h:(c.toNat:Int)=43∨(c.toNat:Int)=45):bX (c::d::r)=cF (d.toNat:Int):=by
 simp only[bX];rw[zab (by omega)]
theorem ET (p:Int→Bool)(l:List UInt8):decide (aT p l=l.length)=l.all (λc=>p (c.toNat:Int)):=by
 induction l with
 |nil=>rfl
 |cons c r ih=>
  simp only[aT,zap,zar];by_cases h:p (c.toNat:Int)=true
  ·simp only[h,if_true,zbI,←ih];rw[zaZ];simp
  ·simp[h]
def nameOf (n:Int):List UInt8:=
 if n=32 then[115,112,97,99,101]else if n=10 then[110,101,119,108,105,110,101]else if n=9 then[116,97,98]
 else if n=0 then[110,117,108]else if n=127 then[100,101,108,101,116,101]else if n=27 then[101,115,99,97,112,101]else[]
def hasName (n:Int):Bool:=decide (n=32∨n=10∨n=9∨n=0∨n=127∨n=27)
def jf (n:Int):Bool:=hasName n||decide (33≤n∧n≤126)
def gG (l:List UInt8):Int:=
 if l=[115,112,97,99,101]then 32 else if l=[110,101,119,108,105,110,101]then 10 else if l=[116,97,98]then 9
 else if l=[110,117,108]then 0 else if l=[100,101,108,101,116,101]then 127 else if l=[101,115,99,97,112,101]then 27 else -1
end Go.Loop
namespace Go.Proofs
open Go.Proofs.Tryz
open Go.Shelf
def Tryz.E6:Go.Shelf.Ren:=⟨λ|137=>127|217=>174|266=>202|n=>n,λ|9=>9|5=>5|3=>3|n=>n,λ|n=>n⟩
theorem Tryz.Ub:Go.Proofs.Lays.n137 prog Tryz.E6:={
 mixed:=by kernel_rfl
 f137:=func127.trans (zak some (by kernel_rfl))
 f217:=func174.trans (zak some (by kernel_rfl))
 f266:=func202.trans (zak some (by kernel_rfl))
 t3:=underlying3
 a3:=Tryz.isAgg3
 z3:=Tryz.sizeOf3
 v3:=Tryz.zeroValue3
 t5:=underlying5
 a5:=Tryz.isAgg5
 z5:=Tryz.sizeOf5
 v5:=Tryz.zeroValue5
 t9:=underlying9
 a9:=Tryz.isAgg9
 z9:=Tryz.sizeOf9
 v9:=Tryz.zeroValue9 }
open Go.RowKit in
theorem Tryz.strings_IndexByte (s:ByteArray)(c:Int)(w:Θ):Ξ prog 127 #[.string s,.int .u8 c] w λe w'=>e=.returned (Γ Δ (Lib.indexByte s.data.toList c.toNat.toUInt8))∧w'=w:=Any.strings_IndexByte Tryz.Ub s c w
def Tryz.C2:Go.Shelf.Ren:=⟨λ|171=>100|243=>155|246=>190|283=>216|284=>217|285=>218|286=>219|129=>239|317=>238|318=>240|319=>241|320=>242|337=>245|338=>246|n=>n,λ|3=>3|9=>9|2=>2|4=>4|171=>282|0=>0|53=>137|37=>80|5=>5|173=>285|212=>300|51=>140|20=>20|213=>301|46=>200|232=>306|233=>307|n=>n,λ|17=>1|18=>2|19=>3|n=>n⟩
theorem Tryz.Pw:Go.Proofs.LaysM.n171 prog Tryz.C2:={
 mixed:=by kernel_rfl
 f129:=func239.trans (zak some (by kernel_rfl))
 f171:=func100.trans (zak some (by kernel_rfl))
 f243:=func155.trans (zak some (by kernel_rfl))
 f246:=func190.trans (zak some (by kernel_rfl))
 f283:=func216.trans (zak some (by kernel_rfl))
 f284:=func217.trans (zak some (by kernel_rfl))
 f285:=func218.trans (zak some (by kernel_rfl))
 f286:=func219.trans (zak some (by kernel_rfl))
 f317:=func238.trans (zak some (by kernel_rfl))
 f318:=func240.trans (zak some (by kernel_rfl))
 f319:=func241.trans (zak some (by kernel_rfl))
 f320:=func242.trans (zak some (by kernel_rfl))
 f337:=func245.trans (zak some (by kernel_rfl))
 f338:=func246.trans (zak some (by kernel_rfl))
 t0:=underlying0
 a0:=Tryz.isAgg0
 z0:=Tryz.sizeOf0
 v0:=Tryz.zeroValue0
 t2:=underlying2
 a2:=Tryz.isAgg2
 z2:=Tryz.sizeOf2
 v2:=Tryz.zeroValue2
 t3:=underlying3
 a3:=Tryz.isAgg3
 z3:=Tryz.sizeOf3
 v3:=Tryz.zeroValue3
 t4:=underlying4
 a4:=Tryz.isAgg4
 z4:=Tryz.sizeOf4
 v4:=Tryz.zeroValue4
 t5:=underlying5
 a5:=Tryz.isAgg5
 z5:=Tryz.sizeOf5
 v5:=Tryz.zeroValue5
 t9:=underlying9
 a9:=Tryz.isAgg9
 z9:=Tryz.sizeOf9
 v9:=Tryz.zeroValue9
 t20:=underlying20
 a20:=Tryz.isAgg20
 z20:=Tryz.sizeOf20
 v20:=Tryz.zeroValue20
 t37:=underlying80
 a37:=Tryz.isAgg80
 z37:=Tryz.sizeOf80
 v37:=Tryz.zeroValue80
 t46:=underlying200
 a46:=Tryz.isAgg200
 z46:=Tryz.sizeOf200
 v46:=Tryz.zeroValue200
 t51:=underlying140
 a51:=Tryz.isAgg140
 z51:=Tryz.sizeOf140
 v51:=Tryz.zeroValue140
 t53:=underlying137
 a53:=Tryz.isAgg137
 z53:=Tryz.sizeOf137
 v53:=Tryz.zeroValue137
 t171:=underlying282
 a171:=Tryz.isAgg282
 z171:=Tryz.sizeOf282
 v171:=Tryz.zeroValue282
 t173:=underlying285
 a173:=Tryz.isAgg285
 z173:=Tryz.sizeOf285
 v173:=Tryz.zeroValue285
 t212:=underlying300
 a212:=Tryz.isAgg300
 z212:=Tryz.sizeOf300
 v212:=Tryz.zeroValue300
 t213:=underlying301
 a213:=Tryz.isAgg301
 z213:=Tryz.sizeOf301
 t232:=underlying306
 a232:=Tryz.isAgg306
 z232:=Tryz.sizeOf306
 v232:=Tryz.zeroValue306
 t233:=underlying307
 a233:=Tryz.isAgg307
 z233:=Tryz.sizeOf307
 v233:=Tryz.zeroValue307
 g17:=by kernel_rfl
 g18:=by kernel_rfl
 g19:=by kernel_rfl
 i0:=by kernel_rfl
 i2:=by kernel_rfl
 i3:=by kernel_rfl
 i4:=by kernel_rfl
 i5:=by kernel_rfl
 i9:=by kernel_rfl
 i20:=by kernel_rfl
 i37:=by kernel_rfl
 i46:=by kernel_rfl
 i51:=by kernel_rfl
 i53:=by kernel_rfl
 i171:=by kernel_rfl
 i173:=by kernel_rfl
 i212:=by kernel_rfl
 i232:=by kernel_rfl
 i233:=by kernel_rfl
 m17:=by kernel_rfl
 m18:=by kernel_rfl
 m19:=by kernel_rfl }
open Go.RowKit Go.Sort Go.Lib in
theorem Tryz.strconv_Itoa (n:Int)(h0: -9223372036854775808≤n)(h1:n≤9223372036854775807)(w:Θ)(adC:Lib.TabIs prog w "internal/strconv.uint64pow10" .u64 Lib.pow10Tab):Ξ prog 100 #[Γ Δ n] w λe w'=>e=.returned (.string ⟨(θ n).toArray⟩)∧∃k os,w'=grow (w.drewN k) os:=Any.strconv_Itoa Tryz.Pw n h0 h1 w adC
def Tryz.C3:Go.Shelf.Ren:=⟨λ|316=>130|n=>n,λ|9=>9|3=>3|4=>4|37=>80|0=>0|127=>190|5=>5|n=>n,λ|n=>n⟩
theorem Tryz.Px:Go.Proofs.LaysM.n316 prog Tryz.C3:={
 mixed:=by kernel_rfl
 f316:=func130.trans (zak some (by kernel_rfl))
 t0:=underlying0
 a0:=Tryz.isAgg0
 z0:=Tryz.sizeOf0
 v0:=Tryz.zeroValue0
 t3:=underlying3
 a3:=Tryz.isAgg3
 z3:=Tryz.sizeOf3
 v3:=Tryz.zeroValue3
 t4:=underlying4
 a4:=Tryz.isAgg4
 z4:=Tryz.sizeOf4
 v4:=Tryz.zeroValue4
 t9:=underlying9
 a9:=Tryz.isAgg9
 z9:=Tryz.sizeOf9
 v9:=Tryz.zeroValue9
 t37:=underlying80
 a37:=Tryz.isAgg80
 z37:=Tryz.sizeOf80
 v37:=Tryz.zeroValue80
 t127:=underlying190
 a127:=Tryz.isAgg190
 z127:=Tryz.sizeOf190
 v127:=Tryz.zeroValue190
 t5:=underlying5
 a5:=Tryz.isAgg5
 z5:=Tryz.sizeOf5
 v5:=Tryz.zeroValue5
 i0:=by kernel_rfl
 i3:=by kernel_rfl
 i4:=by kernel_rfl
 i5:=by kernel_rfl
 i9:=by kernel_rfl
 i37:=by kernel_rfl
 i127:=by kernel_rfl }
open Go.RowKit in
theorem Tryz.stringslite_Clone (s:ByteArray)(w:Θ)(Yy:s.size≤281474976710656):Ξ prog 130 #[.string s] w λe w'=>e=.returned (.string s)∧Ω w.heap.size w w':=Any.stringslite_Clone Tryz.Px s w Yy
def Tryz.E7:Go.Shelf.Ren:=⟨λ|219=>247|217=>174|225=>248|224=>249|267=>250|266=>202|314=>251|n=>n,λ|9=>9|3=>3|4=>4|5=>5|46=>200|146=>308|51=>140|n=>n,λ|1=>0|n=>n⟩
theorem Tryz.Uc:Go.Proofs.Lays.n219 prog Tryz.E7:={
 mixed:=by kernel_rfl
 f217:=func174.trans (zak some (by kernel_rfl))
 f219:=func247.trans (zak some (by kernel_rfl))
 f224:=func249.trans (zak some (by kernel_rfl))
 f225:=func248.trans (zak some (by kernel_rfl))
 f266:=func202.trans (zak some (by kernel_rfl))
 f267:=func250.trans (zak some (by kernel_rfl))
 f314:=func251.trans (zak some (by kernel_rfl))
 t3:=underlying3
 a3:=Tryz.isAgg3
 z3:=Tryz.sizeOf3
 v3:=Tryz.zeroValue3
 t4:=underlying4
 a4:=Tryz.isAgg4
 z4:=Tryz.sizeOf4
 v4:=Tryz.zeroValue4
 t5:=underlying5
 a5:=Tryz.isAgg5
 z5:=Tryz.sizeOf5
 v5:=Tryz.zeroValue5
 t9:=underlying9
 a9:=Tryz.isAgg9
 z9:=Tryz.sizeOf9
 v9:=Tryz.zeroValue9
 t46:=underlying200
 a46:=Tryz.isAgg200
 z46:=Tryz.sizeOf200
 v46:=Tryz.zeroValue200
 t51:=underlying140
 a51:=Tryz.isAgg140
 z51:=Tryz.sizeOf140
 v51:=Tryz.zeroValue140
 t146:=underlying308
 a146:=Tryz.isAgg308
 z146:=Tryz.sizeOf308
 v146:=Tryz.zeroValue308
 g1:=by kernel_rfl }
open Go.RowKit Go.Lib in
theorem Tryz.stringslite_Index_one (s:ByteArray)(c:UInt8)(w:Θ):Ξ prog 247 #[.string s,.string ⟨#[c]⟩] w λe w'=>e=.returned (Γ Δ (Lib.indexByte s.data.toList c))∧w'=w:=Any.stringslite_Index_one Tryz.Uc s c w
def Tryz.Il:Go.Shelf.Ren:=⟨λ|99=>75|206=>128|n=>n,λ|9=>9|4=>4|3=>3|n=>n,λ|n=>n⟩
theorem Tryz.Yz:Go.Proofs.Lays.n99 prog Tryz.Il:={
 mixed:=by kernel_rfl
 f99:=func75.trans (zak some (by kernel_rfl))
 f206:=func128.trans (zak some (by kernel_rfl))
 t3:=underlying3
 a3:=Tryz.isAgg3
 z3:=Tryz.sizeOf3
 v3:=Tryz.zeroValue3
 t4:=underlying4
 a4:=Tryz.isAgg4
 z4:=Tryz.sizeOf4
 v4:=Tryz.zeroValue4
 t9:=underlying9
 a9:=Tryz.isAgg9
 z9:=Tryz.sizeOf9
 v9:=Tryz.zeroValue9 }
open Go.RowKit Go.Lib in
theorem Tryz.strings_HasPrefix (s p:ByteArray)(w:Θ):Ξ prog 75 #[.string s,.string p] w λe w'=>e=.returned (.bool (Lib.hasPrefix s.data.toList p.data.toList))∧w'=w:=Any.strings_HasPrefix Tryz.Yz s p w
end Go.Proofs
namespace Go.Proofs.YtlhimdjkkiflhaaGreatDoor
open Go.Proofs.Tryz
open Go.RowKit Go.Loop
variable {w w':Θ}{b B off:Nat}{v v':Λ}{T:ξ}{cs:Array Λ}{bs:List Λ}
theorem iO {k:IntKind}{a b:Int}(h:a=b):Ending.returned (.int k a)=.returned (.int k b):=by rw[h]
theorem aI {a b:Bool}(h:a=b):Ending.returned (.bool a)=.returned (.bool b):=by rw[h]
theorem ee (c:Int)(w:Θ):Ξ prog 186 #[.int .u8 c] w λe w'=>e=.returned (.bool (cF c))∧w'=w:=by
 go_enter func186,ntmps186
 go_wp2
 all_goals
  go_ret;exact⟨aI (by simp[cF];try omega),rfl⟩
theorem iP (c:Int)(w:Θ):Ξ prog 187 #[.int .u8 c] w λe w'=>e=.returned (.bool (fA c))∧w'=w:=by
 go_enter func187,ntmps187
 go_wp2
 all_goals
  go_ret;refine⟨aI ?_,rfl⟩;rw[zaZ];simp[fA];omega
theorem Py:∀n:Nat,n<256→ER n=decide (0≤Lib.indexByte [43,45,42,47,60,62,61,63,33,46,95] n.toUInt8):=by decide +kernel
theorem iQ (c:Int)(w:Θ)(h0:0≤c)(h1:c≤255):Ξ prog 149 #[.int .u8 c] w λe w'=>e=.returned (.bool (bq c))∧w'=w:=by
 have hs:=Py c.toNat (by omega);rw[Int.toNat_of_nonneg h0]at hs;cases hl:fA c
 ·cases hd:cF c
  ·go_enter func149,ntmps149;go_wp2_with (first|(go_at_call 187;refine(iP _ _).mono ?_;rw[hl];rintro e w' ⟨rfl,rfl⟩)|(go_at_call 186;refine(ee _ _).mono ?_;rw[hd];rintro e w' ⟨rfl,rfl⟩)|(go_at_call 127;refine(Tryz.strings_IndexByte _ _ _).mono ?_;rintro e w' ⟨rfl,rfl⟩));all_goals
    go_ret;refine⟨aI ?_,rfl⟩;simp[bq,hl,hd,hs]
  ·go_enter func149,ntmps149;go_wp2_with (first|(go_at_call 187;refine(iP _ _).mono ?_;rw[hl];rintro e w' ⟨rfl,rfl⟩)|(go_at_call 186;refine(ee _ _).mono ?_;rw[hd];rintro e w' ⟨rfl,rfl⟩)|(go_at_call 127;refine(Tryz.strings_IndexByte _ _ _).mono ?_;rintro e w' ⟨rfl,rfl⟩));all_goals
    go_ret;refine⟨aI ?_,rfl⟩;simp[bq,hl,hd]
 ·go_enter func149,ntmps149;go_wp2_with (first|(go_at_call 187;refine(iP _ _).mono ?_;rw[hl];rintro e w' ⟨rfl,rfl⟩)|(go_at_call 186;refine(ee _ _).mono ?_;rintro e w' ⟨rfl,rfl⟩));all_goals
   go_ret;refine⟨aI ?_,rfl⟩;simp[bq,hl]
theorem L5 (s:ByteArray)(k:Nat)(h:k<s.size):s.data.toList.take (k+1)=s.data.toList.take k++[s[k]]:=by
 rw[zcv (by simpa using h)];rfl
theorem Pz (s:ByteArray)(k:Nat)(h:s.size≤k):s.data.toList.take k=s.data.toList:=zbJ (by simpa using h)
theorem wK (c:UInt8)(r:List UInt8)(h:0<(υ (Array.mk (c::r))).size):(υ (Array.mk (c::r)))[0]'h=c:=rfl
theorem sJ (c:UInt8)(r:List UInt8):(υ (Array.mk (c::r))).extract 1 (r.length+1)=⟨⟨r⟩⟩:=by
 apply ByteArray.ext;simp
theorem wL (c d:UInt8)(r:List UInt8):(υ (Array.mk (c::d::r))).extract 1 (r.length+1+1)=⟨⟨d::r⟩⟩:=sJ c (d::r)
theorem mo (r:List UInt8):(υ (Array.mk r)).toList=r:=by simp
section
attribute [local go_sem] wK sJ wL mo
theorem jw (c:UInt8)(r:List UInt8)(w:Θ)(hs:(c::r).length≤ι):Ξ prog 147 #[.string ⟨⟨c::r⟩⟩] w λe w'=>e=.returned (.bool (bX (c::r)))∧w'=w:=by
 unfold ι at hs;simp at hs;cases hp:((c.toNat:Int)==43)
 ·cases hm:((c.toNat:Int)==45)
  ·have H:Hid (bX (c::r)=cF (c.toNat:Int)):=by
    simp at hp hm;exact Az c r hp hm
   go_enter func147,ntmps147;go_wp2_with (go_at_call 186;refine(ee _ _).mono ?_;rintro e w' ⟨rfl,rfl⟩);go_ret;exact⟨aI H.out.symm,rfl⟩
  ·cases r with
   |nil=>
    have H:Hid (bX [c]=false):=by simp at hm;exact qC c (Or.inr hm)
    go_enter func147,ntmps147;go_wp2_with (go_at_call 186;refine(ee _ _).mono ?_;rintro e w' ⟨rfl,rfl⟩);go_ret;exact⟨aI H.out.symm,rfl⟩
   |cons d r=>
    have H:Hid (bX (c::d::r)=cF (d.toNat:Int)):=by
     simp at hm;exact qD c d r (Or.inr hm)
    simp at hs;go_enter func147,ntmps147;go_wp2_with (go_at_call 186;refine(ee _ _).mono ?_;rintro e w' ⟨rfl,rfl⟩);go_ret;exact⟨aI H.out.symm,rfl⟩
 ·cases r with
   |nil=>
    have H:Hid (bX [c]=false):=by simp at hp;exact qC c (Or.inl hp)
    go_enter func147,ntmps147;go_wp2_with (go_at_call 186;refine(ee _ _).mono ?_;rintro e w' ⟨rfl,rfl⟩);go_ret;exact⟨aI H.out.symm,rfl⟩
   |cons d r=>
    have H:Hid (bX (c::d::r)=cF (d.toNat:Int)):=by
     simp at hp;exact qD c d r (Or.inl hp)
    simp at hs;go_enter func147,ntmps147;go_wp2_with (go_at_call 186;refine(ee _ _).mono ?_;rintro e w' ⟨rfl,rfl⟩);go_ret;exact⟨aI H.out.symm,rfl⟩
end
theorem BA (p:Int→Bool)(a b:List UInt8)(h:a.all (λc=>p (c.toNat:Int))=true):aT p (a++b)=a.length+aT p b:=by
 induction a with
 |nil=>simp
 |cons c r ih=>
  simp at h;simp only[zam,aT,h.1,if_true,ih (by simpa using h.2),zar];omega
theorem ei (s:ByteArray)(E8:Int)(w:Θ)(hs:s.size≤ι)(h0:0≤E8)(h1:E8≤s.size):Ξ prog 148 #[.string s,Γ Δ E8,.func (.func 149) #[] #[]] w λe w'=>e=.returned (Γ Δ (E8+aT bq (s.data.toList.drop E8.toNat)))∧w'=w:=by
 unfold ι at hs;obtain⟨a,rfl⟩:=zbq h0;rw[zbn];go_enter func148,ntmps148;go_wp2_with fail;go_loop [1] (λi=>∃k:Nat,a≤k∧k≤s.size∧i=Γ Δ k∧Hid ((a:Int)+aT bq (s.data.toList.drop a)=(k:Int)+aT bq (s.data.toList.drop k))) (λi=>s.size-(φ i).toNat)
 case atStart=>exact⟨a,zac _,by omega,rfl,rfl⟩
 case round=>
  obtain⟨k,G0,hk,rfl,hr⟩:=hrel;by_cases hlt:k<s.size
  ·have hd:Hid (s.data.toList.drop k=s[k]::s.data.toList.drop (k+1)):=by show _=_;rw[zcD (by simpa using hlt)];rfl
   cases hp:bq (s[k].toNat :Int)
   ·have H:Hid (aT bq (s.data.toList.drop k)=0):=by show _=_;rw[hd.out];simp[aT,hp]
    go_wp2_with fail;refine(iQ _ _ (by omega) (by have:=s[k].toNat_lt;omega)).mono ?_;rw[hp];rintro e w' ⟨rfl,rfl⟩;go_wp2_with fail;go_ret;refine⟨iO ?_,rfl⟩;rw[hr.out,H.out];simp
   ·have H:Hid (aT bq (s.data.toList.drop k)=aT bq (s.data.toList.drop (k+1))+1):=by show _=_;rw[hd.out];simp[aT,hp]
    go_wp2_with fail;refine(iQ _ _ (by omega) (by have:=s[k].toNat_lt;omega)).mono ?_;rw[hp];rintro e w' ⟨rfl,rfl⟩;go_wp2_with fail
    go_round
    case rel=>exact⟨k+1,by omega,by omega,by go_num,by show _=_;rw[hr.out,H.out];omega⟩
    case measure=>simp[φ];omega
  ·have H:Hid (aT bq (s.data.toList.drop k)=0):=by show _=_;rw[zbS (by simp;omega)];rfl
   go_wp2_with fail;go_ret;refine⟨iO ?_,rfl⟩;rw[hr.out,H.out];simp
theorem E9 (a b:Int):Φ b (a.tmod b)=Φ a b:=by
 have h:(a.tmod b)=a-b*(a.tdiv b):=by have:=Int.mul_tdiv_add_tmod a b;omega
 rw[h,Int.gcd_sub_mul_left_right,Int.gcd_comm]
theorem Kf (a b:Int)(hb:b≠0):(a.tmod b).natAbs <b.natAbs:=by
 rw[Int.natAbs_tmod];exact zcL _ (by omega)
theorem PC (t:Int)(b:Int)(h:t.natAbs<b.natAbs)(hb1: -4611686018427387904≤b)(hb2:b≤4611686018427387904): -4611686018427387904≤t∧t≤4611686018427387904:=by omega
theorem sK (a:Int):((Φ a 0:Nat):Int)=max a (-a):=by
 rw[Int.gcd_zero_right];omega
theorem Fa (n d:Int)(w:Θ)(h1: -4611686018427387904≤n)(h2:n≤4611686018427387904)(h3: -4611686018427387904≤d)(h4:d≤4611686018427387904):Ξ prog 214 #[Γ Δ n,Γ Δ d] w λe w'=>e=.returned (Γ Δ (Φ n d))∧∃m,w'=w.drewN m:=by
 go_enter func214,ntmps214
 go_wp2
 go_loopw [0,1] (λx y wr=>∃a b:Int,x=Γ Δ a∧y=Γ Δ b∧-4611686018427387904≤a∧a≤4611686018427387904∧-4611686018427387904≤b∧b≤4611686018427387904∧Hid (Φ a b=Φ n d)∧∃m,wr=w.drewN m) (λ_ y _=>(φ y).natAbs)
 case atStart=>exact⟨n,d,rfl,rfl,h1,h2,h3,h4,rfl,0,rfl⟩
 case round=>
  obtain⟨a,b,rfl,rfl,ha1,ha2,hb1,hb2,hg,m,rfl⟩:=hrel;by_cases hb:b=0
  ·subst hb
   go_wp2
   go_ret;exact⟨iO (by rw[←hg.out,sK]),_,rfl⟩
  ·have NC:(b != 0)=true:=by simpa using hb
   have HT:Hid ((a.tmod b).natAbs <b.natAbs):=Kf a b hb;obtain⟨t1,t2⟩:=PC _ _ HT.out hb1 hb2
   go_wp2
   go_quiet (fail)
   go_wp2
   go_roundw
   case rel=>exact⟨b,a.tmod b,rfl,rfl,hb1,hb2,t1,t2,(E9 a b).trans hg.out,_,Θ.drewN_drewN _ _ _⟩
   case measure=>exact HT.out
theorem Im (n d:Int)(w:Θ)(h1: -4611686018427387904≤n)(h2:n≤4611686018427387904)(h3:1≤d)(h4:d≤4611686018427387904):Ξ prog 188 #[Γ Δ n,Γ Δ d] w λe w'=>e=.returned (.tuple #[Γ Δ (n.tdiv (Φ n d)),Γ Δ (d/(Φ n d))])∧∃m,w'=w.drewN m:=by
 have hg:1≤((Φ n d:Nat):Int):=by
  have:0<Φ n d:=zcC _ (by omega);omega
 go_enter func188,ntmps188;go_wp2_with (go_at_call 214;refine(Fa _ _ _ (by omega) (by omega) (by omega) (by omega)).mono ?_;rintro e w' ⟨rfl,m,rfl⟩)
 go_quiet (fail)
 go_wp2
 go_ret2;exact⟨rfl,_,Θ.drewN_drewN _ _ _⟩
theorem Ud (n g:Int)(h1: -4611686018427387904≤n)(h2:n≤4611686018427387904)(_hg:1≤g): -4611686018427387904≤n.tdiv g∧n.tdiv g≤4611686018427387904:=by
 have:(n.tdiv g).natAbs≤n.natAbs:=by rw[Int.natAbs_tdiv];exact Nat.div_le_self _ _
 omega
theorem YA (n g:Int)(h1:1≤n)(h2:n≤4611686018427387904)(hg:1≤g):0≤n/g∧n/g≤4611686018427387904:=by
 have h3:=Int.ediv_le_self (a:=n) g (by omega);have h4:=Int.ediv_nonneg (a:=n) (b:=g) (by omega) (by omega);omega
theorem nO (n d:Int)(w:Θ)(h1: -4611686018427387904≤n)(h2:n≤4611686018427387904)(h3:1≤d)(h4:d≤4611686018427387904):Ξ prog 150 #[Γ Δ n,Γ Δ d] w λe w'=>e=.returned (.tuple #[Γ Δ (n.tdiv (Φ n d)),Γ Δ (d/(Φ n d))])∧∃m,w'=w.drewN m:=by
 have hg:1≤((Φ n d:Nat):Int):=by
  have:0<Φ n d:=zcC _ (by omega);omega
 obtain⟨t1,t2⟩:=Ud n _ h1 h2 hg;obtain⟨t3,t4⟩:=YA d _ h3 h4 hg;go_enter func150,ntmps150;go_wp2_with (go_at_call 188;refine(Im _ _ _ (by omega) (by omega) (by omega) (by omega)).mono ?_;rintro e w' ⟨rfl,m,rfl⟩);generalize n.tdiv (Φ n d)=u at *;generalize d/(Φ n d)=v at *
 go_wp2
 go_ret2;exact⟨rfl,_,rfl⟩
theorem SP (n d:Int)(w:Θ)(h1: -4611686018427387904≤n)(h2:n≤4611686018427387904)(h3:1≤d)(h4:d≤4611686018427387904):Ξ prog 182 #[Γ Δ n,Γ Δ d] w λe w'=>e=.returned (.tuple #[Γ Δ (n.tdiv (Φ n d)),Γ Δ (d/(Φ n d))])∧∃m,w'=w.drewN m:=by
 have hg:1≤((Φ n d:Nat):Int):=by
  have:0<Φ n d:=zcC _ (by omega);omega
 go_enter func182,ntmps182
 go_wp2
 go_loop [6,7] (λx y=>∃a b:Int,x=Γ Δ a∧y=Γ Δ b∧-4611686018427387904≤a∧a≤4611686018427387904∧-4611686018427387904≤b∧b≤4611686018427387904∧Hid (Φ a b=Φ n d)) (λ_ y=>(φ y).natAbs)
 case atStart=>exact⟨n,d,rfl,rfl,h1,h2,by omega,h4,rfl⟩
 case round=>
  obtain⟨a,b,rfl,rfl,ha1,ha2,hb1,hb2,tK⟩:=hrel;by_cases hb:b=0
  ·subst hb;have HM:Hid (((Φ n d:Nat):Int)=max a (-a)):=by show _=_;rw[←tK.out,sK]
   by_cases ha:a<0
   ·obtain⟨g,rfl⟩:∃g,a=-g:=⟨-a,by omega⟩;have HA:Hid (((Φ n d:Nat):Int)=g):=by show _=_;rw[HM.out];omega
    have hg1:1≤g:=by rw[←HA.out];exact hg
    go_wp2
    go_quiet (fail)
    go_wp2
    go_ret2;refine⟨?_,_,rfl⟩;rw[HA.out];rfl
   ·have HA:Hid (((Φ n d:Nat):Int)=a):=by show _=_;rw[HM.out];omega
    have ha1:1≤a:=by rw[←HA.out];exact hg
    go_wp2
    go_quiet (fail)
    go_wp2
    go_ret2;refine⟨?_,_,rfl⟩;rw[HA.out];rfl
  ·have NC:(b != 0)=true:=by simpa using hb
   have HT:Hid ((a.tmod b).natAbs <b.natAbs):=Kf a b hb;obtain⟨t1,t2⟩:=PC _ _ HT.out hb1 hb2
   go_wp2
   go_round
   case rel=>exact⟨b,a.tmod b,rfl,rfl,hb1,hb2,t1,t2,(E9 a b).trans tK.out⟩
   case measure=>exact HT.out
theorem jW (n d:Int)(w:Θ):Ξ prog 97 #[Γ Δ n,Γ Δ d] w λe w'=>e=.returned (.bool (lT n d))∧∃m,w'=w.drewN m:=by
 by_cases hb:1≤d∧d≤1000000∧-1000000≤n∧n≤1000000
 ·obtain⟨b1,b2,b3,b4⟩:=hb;have H:Hid ((d/((Φ n d:Nat):Int)==d)=lT n d):=by
   show _=_;rw[ES n d b1];simp[lT,b1,b2,b3,b4]
  go_enter func97,ntmps97;go_wp2_with (go_at_call 150;refine(nO _ _ _ (by omega) (by omega) (by omega) (by omega)).mono ?_;rintro e w' ⟨rfl,m,rfl⟩);go_ret;exact⟨aI H.out,_,rfl⟩
 ·have H:Hid (lT n d=false):=by show _=_;simp[lT];omega
  go_enter func97,ntmps97;go_wp2_with fail;all_goals first
   |(exfalso;omega)
   |(go_ret;exact⟨aI H.out.symm,0,rfl⟩)
theorem yj (l:List UInt8)(k:Nat)(h:k<(υ (Array.mk l)).size):(υ (Array.mk l))[k]'h=l[k]'h:=rfl
section
attribute [local go_sem] wK yj sJ wL mo
theorem PD (l:List UInt8)(h1:l.isEmpty=false)(h2:(l==[46])=false)(h3:bX l=false):((aT bq l:Nat)==l.length)=ir l:=by
 unfold ir;rw[h1,h2,h3];simp only[Bool.not_false,zbI];rw[show(l.all sF)=l.all (λc=>bq (c.toNat:Int)) from rfl,←ET,zaZ];simp
theorem C4 (l:List UInt8)(w:Θ)(hs:l.length≤ι):Ξ prog 96 #[.string ⟨⟨l⟩⟩] w λe w'=>e=.returned (.bool (ir l))∧w'=w:=by
 cases l with
 |nil=>
  go_enter func96,ntmps96;go_wp2_with fail;go_ret;exact⟨rfl,rfl⟩
 |cons c r=>
 cases h2:((c::r)==[46])
 ·have H2:Hid (((c::r)==[46])=false):=h2;have jA:¬(c::r)=[46]:=by simpa using h2
  have hsz:(υ (Array.mk (c::r))).size≤ι:=hs;cases h3:bX (c::r)
  ·have H3:=PD (c::r) rfl h2 h3;have H:Hid ((((aT bq (c::r):Nat):Int)==(r.length:Int)+1)=ir (c::r)):=by
    show _=_;rw[←H3,zaZ];simp;omega
   clear H3;go_enter func96,ntmps96;go_wp2_with fail;refine(jw _ _ _ hs).mono ?_;rw[h3];rintro e w' ⟨rfl,rfl⟩;go_wp2_with fail;refine(ei _ _ _ hsz (by omega) (by omega)).mono ?_;rintro e w' ⟨rfl,rfl⟩;simp only[Int.toNat_zero,zbu,Int.zero_add];go_wp2_with fail;go_ret;exact⟨aI H.out,rfl⟩
  ·have H:Hid (ir (c::r)=false):=by show _=_;simp[ir,h3]
   go_enter func96,ntmps96;go_wp2_with fail;refine(jw _ _ _ hs).mono ?_;rw[h3];rintro e w' ⟨rfl,rfl⟩;go_wp2_with fail;go_ret;exact⟨aI H.out.symm,rfl⟩
 ·have jA:(c::r)=[46]:=by simpa using h2
  rw[jA];go_enter func96,ntmps96;go_wp2_with fail;go_ret;exact⟨rfl,rfl⟩
theorem ic (n:Int)(w:Θ):Ξ prog 151 #[Γ Δ n] w λe w'=>e=.returned (.tuple #[.string ⟨⟨nameOf n⟩⟩,.bool (hasName n)])∧w'=w:=by
 go_enter func151,ntmps151;go_wp2_with fail;all_goals
  go_ret2;refine⟨?_,rfl⟩;simp_all [nameOf,hasName]
theorem lU (n:Int)(w:Θ):Ξ prog 152 #[Γ Δ n] w λe w'=>e=.returned (.bool (decide (33≤n∧n≤126)))∧w'=w:=by
 go_enter func152,ntmps152;go_wp2_with fail;all_goals
  go_ret;exact⟨aI (by simp;try omega),rfl⟩
theorem ri (n:Int)(w:Θ):Ξ prog 98 #[Γ Δ n] w λe w'=>e=.returned (.bool (jf n))∧w'=w:=by
 cases h:hasName n
 ·go_enter func98,ntmps98;go_wp2_with fail;refine(ic _ _).mono ?_;rw[h];rintro e w' ⟨rfl,rfl⟩;go_wp2_with fail;refine(lU _ _).mono ?_;rintro e w' ⟨rfl,rfl⟩;go_wp2_with fail;go_ret;exact⟨aI (by simp[jf,h]),rfl⟩
 ·go_enter func98,ntmps98;go_wp2_with fail;refine(ic _ _).mono ?_;rw[h];rintro e w' ⟨rfl,rfl⟩;go_wp2_with fail;go_ret;exact⟨aI (by simp[jf,h]),rfl⟩
theorem Fb (l:List UInt8)(n d:Int)(a:Option Addr)(len cap:Nat)(w:Θ):Ξ prog 95 #[.string ⟨⟨l⟩⟩,Γ Δ n,Γ Δ d,.slice a len cap] w λe w'=>e=.returned (.bool (decide (l=[]∧n=0∧d=0∧len=0)))∧w'=w:=by
 go_enter func95,ntmps95;go_wp2_with fail;all_goals
  go_ret;refine⟨aI ?_,rfl⟩;first|(simp_all;done)|(simp_all;rw[zaZ];simp)
theorem fe {a b:List UInt8}(h:a=b):Ending.returned (.string ⟨⟨a⟩⟩)=.returned (.string ⟨⟨b⟩⟩):=by rw[h]
end
structure Mc (T:ξ) (cells off:Nat):Prop where
 lies:liesAt prog prog.depth T (cells/prog.cellsOf T) off 116 1=true
 lt:off<cells
theorem yz:Mc 116 2 0:=⟨by kernel_rfl,by omega⟩
theorem Fj:Mc 118 7 4:=⟨by kernel_rfl,by omega⟩
theorem ve:(prog.info? 116).map (·.size)=some 2:=by kernel_rfl
theorem infoByte:(prog.info? 5).map (λi=>(i.zero,i.size,i.bytes))=some (some (.int .u8 0),1,1):=by kernel_rfl
structure fu (w:Θ) (T:ξ) (off B b:Nat) (cs:Array Λ) (v:Λ) (bs:List Λ):Prop where
 hB:B≤b
 blk:w.heap[b]?=some (.cells cs T (0,0))
 c0:cs[off]?=some (.pointer none)∨cs[off]?=some (.pointer (some ⟨b,off,none⟩))
 c1:cs[off+1]?=some v
 own:w.ownsRow B 5 1 v bs.length bs
structure iu (w w':Θ) (b:Nat) (v v':Λ):Prop where
 os:w'.os=w.os
 tape:w'.tape=w.tape
 output:w'.output=w.output
 size:w.heap.size≤w'.heap.size
 block:∀k,k<w.heap.size→k≠b→some k≠v.ownBlock→w'.heap[k]?=w.heap[k]?
 buf:v'.ownBlock=v.ownBlock∨∃k,v'.ownBlock=some k∧w.heap.size≤k
theorem iu.refl (w:Θ)(b:Nat)(v:Λ):iu w w b v v:=⟨rfl,rfl,rfl,zac _,λ_ _ _ _=>rfl,Or.inl rfl⟩
theorem iu.trans {w'':Θ}{v'':Λ}(h:iu w w' b v v')(k:iu w' w'' b v' v''):iu w w'' b v v'':=by
 refine⟨k.os.trans h.os,k.tape.trans h.tape,k.output.trans h.output,zag h.size k.size,λi hi hb hv=>?_,?_⟩
 ·have hne:some i≠v'.ownBlock:=by
   rcases h.buf with e|⟨g,e,hg⟩
   ·rw[e];exact hv
   ·rw[e];intro x;simp only[zaE]at x;omega
  exact(k.block i (zaI hi h.size) hb hne).trans (h.block i hi hb hv)
 ·rcases k.buf with e|⟨g,e,hg⟩
  ·rw[e];exact h.buf
  ·exact Or.inr ⟨g,e,zag h.size hg⟩
theorem iu.below (h:iu w w' b v v')(hB:B≤w.heap.size)(hb:B≤b)(hv:∀k,v.ownBlock=some k→B≤k):Ω B w w':=
 ⟨h.os,h.tape,h.output,h.size,λk hk=>h.block k (by omega) (by omega) (λe=>by have:=hv k e.symm;omega)⟩
theorem fu.cell (h:fu w T off B b cs v bs)(j:Nat):w.cell? ⟨b,j,none⟩=cs[j]?:=zbw h.blk j
theorem fu.frozen (h:fu w T off B b cs v bs)(j:Nat):w.frozen? ⟨b,j,none⟩=false:=Lib.frozen_of_heap h.blk j
theorem fu.lt {w:Θ}{T:ξ}{off B b:Nat}{cs:Array Λ}{v:Λ}{bs:List Λ}(h:fu w T off B b cs v bs):b<w.heap.size:=(zaj.1 h.blk).1
theorem yA (b off:Nat)(w:Θ)(h0:w.cell? ⟨b,off,none⟩=some (.pointer (some ⟨b,off,none⟩))):Ξ prog 189 #[.pointer (some ⟨b,off,none⟩)] w λe w'=>e=.returned (.tuple #[])∧w'=w:=by
 obtain⟨j,hj,_⟩:=zas.1 ve;go_enter func189,ntmps189
 go_wp2
 rw[Lib.run_neq_ptr_same w _ underlying114 hj]
 go_wp2
 go_end0
 exact⟨rfl,rfl⟩
theorem vN (T:ξ)(cells b off:Nat)(X:Mc T cells off)(w:Θ)(h0:w.cell? ⟨b,off,none⟩=some (.pointer none))(C8:w.shape? b=some (T,cells))(Oe:w.frozen? ⟨b,off,none⟩=false):Ξ prog 189 #[.pointer (some ⟨b,off,none⟩)] w λe w'=>e=.returned (.tuple #[])∧w'=w.setCell ⟨b,off,none⟩ (.pointer (some ⟨b,off,none⟩)):=by
 obtain⟨j,hj,hjs⟩:=zas.1 ve;go_enter func189,ntmps189
 go_wp2
 rw[Lib.run_to_unsafe w ⟨b,off,none⟩ underlying114 underlying196 hj (by rw[hjs];decide) C8 X.lt];simp only[Result.andThen];rw[Oper.upon_value]
 go_wp2
 rw[run_callFunc_extern func215 (by kernel_rfl) (by kernel_rfl) (by kernel_rfl) (e:=Extern.AbiNoEscape.same) (by kernel_rfl)];rw[Lib.run_noEscape];simp only[Result.andThen];rw[Oper.upon_value]
 go_wp2
 rw[Lib.run_from_unsafe w ⟨b,off,none⟩ underlying196 underlying114 hj C8 X.lies];simp only[Result.andThen];rw[Oper.upon_value]
 go_wp2
 go_end0
 exact⟨rfl,rfl⟩
def kR (off b:Nat)(cs:Array Λ):Array Λ:=cs.setIfInBounds off (.pointer (some ⟨b,off,none⟩))
theorem Iq (h:cs[off]?=some (.pointer (some ⟨b,off,none⟩))):kR off b cs=cs:=by
 apply Array.ext_getElem?
 intro i;unfold kR;rw[zcK];split
 ·next e=>subst e;obtain⟨hlt,_⟩:=zaj.1 h;rw[zab hlt,h]
 ·rfl
theorem qF (X:Mc T cs.size off)(hT:T≠5)(h:fu w T off B b cs v bs):Ξ prog 189 #[.pointer (some ⟨b,off,none⟩)] w λe w'=>e=.returned (.tuple #[])∧fu w' T off B b (kR off b cs) v bs∧(kR off b cs)[off]?=some (.pointer (some ⟨b,off,none⟩))∧iu w w' b v v:=by
 have hlt:=X.lt;rcases h.c0 with h0|h0
 ·refine(vN T cs.size b off X w ((h.cell off).trans h0) (by simp[Θ.shape?,h.blk]) (h.frozen off)).mono ?_;rintro e w' ⟨rfl,rfl⟩;have hn:=Lib.ownBlock_ne h.own h.blk hT;have hu:(kR off b cs)[off]?=some (.pointer (some ⟨b,off,none⟩)):=by simp[kR,hlt]
  refine⟨rfl,⟨h.hB,?_,Or.inr hu,?_,?_⟩,hu,⟨rfl,rfl,rfl,by simp[Θ.setCell],λk _ hk _=>zax _ _ _ _ hk,Or.inl rfl⟩⟩
  ·have:=heap_setCell_same w b off cs T (.pointer (some ⟨b,off,none⟩)) h.blk;exact this
  ·unfold kR;rw[zcK,zaa (by omega)];exact h.c1
  ·exact h.own.kept (row:=some b) ⟨rfl,rfl,rfl,by simp[Θ.setCell],λk _ hk=>zax _ _ _ _ (λe=>hk (by simp[e]))⟩ (Or.inr hn)
 ·refine(yA b off w ((h.cell off).trans h0)).mono ?_;rintro e w' ⟨rfl,rfl⟩;rw[Iq h0];exact⟨rfl,h,h0,iu.refl _ _ _⟩
theorem rp (h:fu w T off B b cs v bs):Ξ prog 153 #[.pointer (some ⟨b,off,none⟩)] w λe w'=>e=.returned (Γ Δ bs.length)∧w'=w:=by
 have c1:=(h.cell (off+1)).trans h.c1;have hown:=h.own;obtain⟨ao,cap,rfl⟩:∃ao cap,v=.slice ao bs.length cap:=by
  rcases hown.2 with⟨hv,h0⟩|⟨g,cap,cur,hv,_⟩
  ·exact⟨none,0,by rw[hv,h0]⟩
  ·exact⟨_,_,hv⟩
 clear hown h;go_enter func153,ntmps153
 go_wp2
 go_ret;exact⟨rfl,rfl⟩
section
variable {P:Program}
theorem yB (w:Θ)(base:Nat)(t u ty e:ξ)(i:χ)(ht:P.underlying t=some (.slice e))(hu:P.underlying u=some .string)(hi:P.info? e=some i)(hz:i.zero=some (.int .u8 0))
 (hsize:i.size=1)(hby:i.bytes=1)
 (v:Λ)(n:Nat)(xs:List Λ)(hown:w.ownsRow base e 1 v n xs)(s:ByteArray)
 (h63:n+s.size≤ι)(hbytes:n+s.size≤140737488355328)(hbase:base≤w.heap.size):
 ∃v' w',(Builtin.append_ #[t,u] ty #[v,.string s]).run P w=.ok v' w'∧w'.ownsRow base e 1 v' (n+s.size) (xs++Lib.strCells s)∧w.grownBy w' v.ownBlock∧
  (v'.ownBlock=v.ownBlock∨∃k,v'.ownBlock=some k∧w.heap.size≤k):=by
 obtain⟨v',w',hr,h2,h3,h4⟩:=Lib.run_append_own_string (P:=P) w base t u ty e i ht hu hi hz hsize hby v n xs hown s h63 hbytes hbase;refine⟨v',w',hr,h2,h3,?_⟩;have hxl:xs.length=n:=by simpa using hown.1
 have Ir:n+s.size≤9223372036854775807:=by simp only[ι]at h63;omega
 rcases hown.2 with⟨rfl,rfl⟩|⟨g,cap,cur,rfl,hbg,hg,hnc,hcm,hcs,Fl⟩
 ·by_cases hm:s.size=0
  ·have:=h4.2 ⟨rfl,hm⟩;rw[this];exact Or.inl rfl
  ·have qy:=Go.run_append_nil_string (P:=P) w t u ty e i (.int .u8 0) ht hu hi hz s (by omega) (by omega) (by rw[hby];omega);rw[qy]at hr;injection hr with a b;rw[←a];exact Or.inr ⟨_,rfl,zac _⟩
 ·by_cases hroom:n+s.size≤cap
  ·have aft:cur.size=cap:=by simpa using hcs
   have qy:=Lib.run_append_room_string (P:=P) w t u ty e i ht hu hi hsize g n cap cur hg s hroom (by omega);rw[qy]at hr;injection hr with a b;rw[←a];exact Or.inl rfl
  ·have holds:∀j u,xs[j]?=some u→w.cell? ((⟨g,0,none⟩:Addr).add j)=some u:=hown.cells (g:=g) rfl;have qy:=Lib.run_append_grow_string (P:=P) w t u ty e i (.int .u8 0) ht hu hi hz ⟨g,0,none⟩ n cap xs (by rw[hsize];simpa using hxl) holds s (by omega) (by omega) (by rw[hby];exact growslice_fits (by omega) (by omega));rw[qy]at hr;injection hr with a b;rw[←a];exact Or.inr ⟨_,rfl,zac _⟩
theorem sP {ops:Array Oper}{rest:List Oper}{o:Oper}{a:Act}{Q:Exit→Act→Θ→Prop}(hgd:o.guard=none)(sl x:Operand)(t u:ξ)
 (ho:o.op=.call { callee:= .builtin .append,args:=#[sl,x],argTypes:=#[t,u] })
 (base:Nat)(e:ξ)(i:χ)(ht:P.underlying t=some (.slice e))(hu:P.underlying u=some .string)(hi:P.info? e=some i)(hz:i.zero=some (.int .u8 0))
 (hsize:i.size=1)(hby:i.bytes=1)
 (v:Λ)(n:Nat)(xs:List Λ)(hs:a.eval sl=v)(hown:w.ownsRow base e 1 v n xs)(s:ByteArray)(hx:a.eval x=.string s)
 (h63:n+s.size≤ι)(hbytes:n+s.size≤140737488355328)(hbase:base≤w.heap.size)
 (h:∀v' w',w'.ownsRow base e 1 v' (n+s.size) (xs++Lib.strCells s)→w.grownBy w' v.ownBlock→(v'.ownBlock=v.ownBlock∨∃k,v'.ownBlock=some k∧w.heap.size≤k)→wpList P ops Q rest (a.put o.dst v') w'):wpList P ops Q (o::rest) a w:=by
 refine wpList_plain hgd λK hK=>?_;obtain⟨v',w',hr,h2,h3,h4⟩:=yB (P:=P) w base t u o.type e i ht hu hi hz hsize hby v n xs hown s h63 hbytes hbase;unfold Oper.wp execOp;simp only[ho,resolve,invoke,builtin,zba,zbd,zbb,zbR,zaB,zbt,hs,hx,hr];exact hK _ _ (h v' w' h2 h3 h4)
end
theorem fu.put {w2:Θ}{bs':List Λ}(h:fu w T off B b cs v bs)(hT:T≠5)(hg:w.grownBy w2 v.ownBlock)
 (hown:w2.ownsRow B 5 1 v' bs'.length bs')(kT:v'.ownBlock=v.ownBlock∨∃k,v'.ownBlock=some k∧w.heap.size≤k):
 fu (w2.setCell ⟨b,off+1,none⟩ v') T off B b (cs.setIfInBounds (off+1) v') v' bs'∧iu w (w2.setCell ⟨b,off+1,none⟩ v') b v v':=by
 have hn:=Lib.ownBlock_ne h.own h.blk hT;have hlt:=h.lt;have hb2:w2.heap[b]?=some (.cells cs T (0,0)):=(hg.block b hlt (λe=>hn e.symm)).trans h.blk;have wJ:=Lib.ownBlock_ne hown hb2 hT;obtain⟨rq,_⟩:=zaj.1 h.c1;refine⟨⟨h.hB,heap_setCell_same w2 b (off+1) cs T v' hb2,?_,?_,?_⟩,⟨hg.os,hg.tape,hg.output,?_,λk hk hkb hkv=>?_,kT⟩⟩
 ·rw[zcK,zaa (by omega)];exact h.c0
 ·simp[rq]
 ·exact hown.kept (row:=some b) ⟨rfl,rfl,rfl,by simp[Θ.setCell],λk _ hk=>zax _ _ _ _ (λe=>hk (by simp[e]))⟩ (Or.inr wJ)
 ·have:=hg.size;simpa[Θ.setCell]using this
 ·rw[zax _ _ _ _ hkb];exact hg.block k hk hkv
theorem nP (X:Mc T cs.size off)(hT:T≠5)(h:fu w T off B b cs v bs)(s:ByteArray)(hlen:bs.length+s.size≤140737488355328)(Uj:B≤w.heap.size):Ξ prog 154 #[.pointer (some ⟨b,off,none⟩),.string s] w λe w'=>e=.returned (.tuple #[Γ Δ s.size,.nilIface])∧∃v',fu w' T off B b ((kR off b cs).setIfInBounds (off+1) v') v' (bs++Lib.strCells s)∧iu w w' b v v':=by
 obtain⟨i0,hi,hz0,hz1,hz2⟩:=info_parts infoByte;go_enter func154,ntmps154;go_wp2_with (go_at_call 189;refine(qF X hT h).mono ?_);rintro e w1 ⟨rfl,h1,hc0,rH⟩;have c0:w1.cell? ⟨b,off,none⟩=some (.pointer (some ⟨b,off,none⟩)):=(h1.cell off).trans hc0;have c1:w1.cell? ⟨b,off+1,none⟩=some v:=(h1.cell (off+1)).trans h1.c1;have hs1:=rH.size;go_wp2_with (at_builtin;refine sP rfl _ _ 80 9 rfl B 5 i0 underlying80 underlying9 hi hz0 hz1 hz2 _ _ _ rfl h1.own s rfl ?c3 ?c4 ?c5 ?_)
 case c3=>unfold ι;omega
 case c4=>omega
 case c5=>omega
 intro v' w2 hown' hgrow kT;obtain⟨hA,hTo⟩:=h1.put hT hgrow (bs':=bs++Lib.strCells s) (by simpa[Lib.strCells_length]using hown') kT;have hn:=Lib.ownBlock_ne h1.own h1.blk hT;have hb2:w2.heap[b]?=some (.cells (kR off b cs) T (0,0)):=(hgrow.block b h1.lt (λe=>hn e.symm)).trans h1.blk;have d0:w2.cell? ⟨b,off,none⟩=some (.pointer (some ⟨b,off,none⟩)):=(zbw hb2 _).trans hc0;have d1:w2.cell? ⟨b,off+1,none⟩=some v:=(zbw hb2 _).trans h1.c1;have f1:w2.frozen? ⟨b,off+1,none⟩=false:=Lib.frozen_of_heap hb2 _;obtain⟨ao,n',cap,rfl⟩:∃ao n' cap,v'=.slice ao n' cap:=by
  rcases hown'.2 with⟨hv,_⟩|⟨g,cap,cur,hv,_⟩
  ·exact⟨_,_,_,hv⟩
  ·exact⟨_,_,_,hv⟩
 go_wp2
 go_ret2;exact⟨rfl,_,hA,rH.trans hTo⟩
section
variable {P:Program}
theorem yC (w:Θ)(base:Nat)(t ty e:ξ)(i:χ)(z:Λ)(ht:P.underlying t=some (.slice e))(hi:P.info? e=some i)(hz:i.zero=some z)
 (hsize:i.size=1)(hby:i.bytes=1)(hzs:z.cells.size=1)
 (v:Λ)(n:Nat)(xs:List Λ)(hown:w.ownsRow base e 1 v n xs)
 (a:Addr)(m c:Nat)(news:List Λ)(hm:m≠0)(hl:news.length=m*1)(hnews:∀j u,news[j]?=some u→w.cell? (a.add j)=some u)(h1:∀u∈news,u.oneCell'=true)
 (h63:n+m≤ι)(hbytes:(n+m)*1≤140737488355328)(hbase:base≤w.heap.size):
 ∃v' w',(Builtin.append_ #[t,t] ty #[v,.slice (some a) m c]).run P w=.ok v' w'∧w'.ownsRow base e 1 v' (n+m) (xs++news)∧w.grownBy w' v.ownBlock∧
  (v'.ownBlock=v.ownBlock∨∃k,v'.ownBlock=some k∧w.heap.size≤k):=by
 obtain⟨v',w',hr,h2,h3,h4⟩:=run_append_own (P:=P) w base t ty e i z 1 1 ht hi hz hsize hby hzs (by decide) v n xs hown a m c news hl hnews h1 h63 hbytes hbase;refine⟨v',w',hr,h2,h3,?_⟩;have Ir:n+m≤9223372036854775807:=by simp only[ι]at h63;omega
 rcases hown.2 with⟨rfl,rfl⟩|⟨g,cap,cur,rfl,hbg,hg,hnc,hcm,hcs,Fl⟩
 ·have qy:=run_append_nil (P:=P) w t ty e i z ht hi hz a m c news (by rw[hsize];exact hl) hnews (by omega) (by omega) (by rw[hby];omega);rw[qy]at hr;injection hr with a b;rw[←a];exact Or.inr ⟨_,rfl,zac _⟩
 ·by_cases hroom:n+m≤cap
  ·have qy:=run_append_room (P:=P) w t ty e i ht hi g n cap cur hg a m c news (by rw[hsize];exact hl) hnews h1 hroom (by rw[hsize];omega);rw[qy]at hr;injection hr with a b;rw[←a];exact Or.inl rfl
  ·have holds:∀j u,xs[j]?=some u→w.cell? ((⟨g,0,none⟩:Addr).add j)=some u:=hown.cells (g:=g) rfl;have qy:=run_append_grow (P:=P) w t ty e i z ht hi hz ⟨g,0,none⟩ n cap xs (by rw[hsize];exact hown.1) holds a m c news (by rw[hsize];exact hl) hnews (by omega) (by omega) (by rw[hby];exact growslice_fits (by omega) hbytes);rw[qy]at hr;injection hr with a b;rw[←a];exact Or.inr ⟨_,rfl,zac _⟩
theorem sQ {ops:Array Oper}{rest:List Oper}{o:Oper}{a:Act}{Q:Exit→Act→Θ→Prop}(hgd:o.guard=none)(sl x:Operand)(t:ξ)
 (ho:o.op=.call { callee:= .builtin .append,args:=#[sl,x],argTypes:=#[t,t] })
 (base:Nat)(e:ξ)(i:χ)(z:Λ)(ht:P.underlying t=some (.slice e))(hi:P.info? e=some i)(hz:i.zero=some z)
 (hsize:i.size=1)(hby:i.bytes=1)(hzs:z.cells.size=1)
 (v:Λ)(n:Nat)(xs:List Λ)(hs:a.eval sl=v)(hown:w.ownsRow base e 1 v n xs)
 (ad:Addr)(m c:Nat)(news:List Λ)(hx:a.eval x=.slice (some ad) m c)(hm:m≠0)(hl:news.length=m*1)(hnews:∀j u,news[j]?=some u→w.cell? (ad.add j)=some u)(h1:∀u∈news,u.oneCell'=true)
 (h63:n+m≤ι)(hbytes:(n+m)*1≤140737488355328)(hbase:base≤w.heap.size)
 (h:∀v' w',w'.ownsRow base e 1 v' (n+m) (xs++news)→w.grownBy w' v.ownBlock→(v'.ownBlock=v.ownBlock∨∃k,v'.ownBlock=some k∧w.heap.size≤k)→wpList P ops Q rest (a.put o.dst v') w'):wpList P ops Q (o::rest) a w:=by
 refine wpList_plain hgd λK hK=>?_;obtain⟨v',w',hr,h2,h3,h4⟩:=yC (P:=P) w base t o.type e i z ht hi hz hsize hby hzs v n xs hown ad m c news hm hl hnews h1 h63 hbytes hbase;unfold Oper.wp execOp;simp only[ho,resolve,invoke,builtin,zba,zbd,zbb,zbR,zaB,zbt,hs,hx,hr];exact hK _ _ (h v' w' h2 h3 h4)
end
theorem fu.alloc {w:Θ}{T:ξ}{off B b:Nat}{cs:Array Λ}{v:Λ}{bs:List Λ}(h:fu w T off B b cs v bs)(o:Obj):fu (w.alloc o) T off B b cs v bs:=
 ⟨h.hB,(zaT w o b h.lt).trans h.blk,h.c0,h.c1,h.own.alloc o⟩
theorem iu.aG (h:Ω w.heap.size w w'):iu w w' b v v:=⟨h.os,h.tape,h.output,h.size,λk hk _ _=>h.block k hk,Or.inl rfl⟩
theorem qH (X:Mc T cs.size off)(hT:T≠5)(h:fu w T off B b cs v bs)(c:Int)(hlen:bs.length+1≤140737488355328)(Uj:B≤w.heap.size):Ξ prog 191 #[.pointer (some ⟨b,off,none⟩),.int .u8 c] w λe w'=>e=.returned .nilIface∧∃v',fu w' T off B b ((kR off b cs).setIfInBounds (off+1) v') v' (bs++[.int .u8 c])∧iu w w' b v v':=by
 obtain⟨i0,hi,hz0,hz1,hz2⟩:=info_parts infoByte;go_enter func191,ntmps191;go_wp2_with (go_at_call 189;refine(qF X hT h).mono ?_);rintro e w1 ⟨rfl,h1,hc0,rH⟩;have c0:w1.cell? ⟨b,off,none⟩=some (.pointer (some ⟨b,off,none⟩)):=(h1.cell off).trans hc0;have c1:w1.cell? ⟨b,off+1,none⟩=some v:=(h1.cell (off+1)).trans h1.c1;have hs1:=rH.size;go_wp2_with (at_builtin;refine sQ rfl _ _ 80 rfl B 5 i0 (.int .u8 0) underlying80 hi hz0 hz1 hz2 rfl _ _ _ rfl (h1.alloc _).own ⟨w1.heap.size,0,none⟩ 1 1 [.int .u8 c] rfl (by decide) rfl ?c1 ?c2 ?c3 ?c4 ?c5 ?_)
 case c1=>
  intro j u hj
  match j,hj with
  |0,hj=>simp at hj;subst hj;simp[Addr.add]
 case c2=>intro u hu;simp at hu;subst hu;rfl
 case c3=>unfold ι;omega
 case c4=>omega
 case c5=>simp;omega
 intro v' w2 hown' hgrow kT;have h1a:=h1.alloc (.cells #[.int .u8 c] 5);obtain⟨hA,hTo⟩:=h1a.put hT hgrow (bs':=bs++[.int .u8 c]) (by simpa using hown') (by simpa using kT);have hn:=Lib.ownBlock_ne h1a.own h1a.blk hT;have hb2:w2.heap[b]?=some (.cells (kR off b cs) T (0,0)):=(hgrow.block b h1a.lt (λe=>hn e.symm)).trans h1a.blk;have d0:w2.cell? ⟨b,off,none⟩=some (.pointer (some ⟨b,off,none⟩)):=(zbw hb2 _).trans hc0;have d1:w2.cell? ⟨b,off+1,none⟩=some v:=(zbw hb2 _).trans h1.c1;have f1:w2.frozen? ⟨b,off+1,none⟩=false:=Lib.frozen_of_heap hb2 _;obtain⟨ao,n',cap,rfl⟩:∃ao n' cap,v'=.slice ao n' cap:=by
  rcases hown'.2 with⟨hv,_⟩|⟨g,cap,cur,hv,_⟩
  ·exact⟨_,_,_,hv⟩
  ·exact⟨_,_,_,hv⟩
 go_wp2
 go_ret;exact⟨rfl,_,hA,(rH.trans (iu.aG ((zad _ _).alloc (zac _) _))).trans hTo⟩
theorem lW {l:List UInt8}(h:fu w T off B b cs v (ζ l))(h0:l≠[]):Ξ prog 63 #[.pointer (some ⟨b,off,none⟩)] w λe w'=>e=.returned (.string ⟨l.toArray⟩)∧iu w w' b v v:=by
 have hl0:l.length≠0:=by simpa using h0
 have hown:=h.own;rw[Lib.byteCells_length]at hown;have hc1:=h.c1;have G1:=h.blk;clear h;obtain⟨g,cap,cur,rfl,hbg,hg,hnc,hcm,hcs,Fl⟩:∃g cap cur,v=.slice (some ⟨g,0,none⟩) l.length cap∧B≤g∧w.heap[g]?=some (.cells cur 5 (0,0))∧l.length≤cap∧cap≤ι∧cur.size=cap*1∧cur.toList.take (l.length*1)=ζ l:=by
  rcases hown.2 with⟨_,hz⟩|⟨g,cap,cur,hv,r⟩
  ·exact absurd hz hl0
  ·exact⟨g,cap,cur,hv,r⟩
 have c1:w.drew.cell? ⟨b,off+1,none⟩=some (.slice (some ⟨g,0,none⟩) l.length cap):=by
  have:w.drew.heap[b]?=some (.cells cs T (0,0)):=G1;rw[zbw this];exact hc1
 have hSD:(Builtin.unsafeSliceData_ #[80] 190 #[.slice (some ⟨g,0,none⟩) l.length cap]).run prog w.drew=.ok (.pointer (some ⟨g,0,none⟩)) w.drew:=
  Lib.run_unsafeSliceData_row _ _ _ _ _ _ (by omega)
 have hUS:(Builtin.unsafeString_ #[190,3] 9 #[.pointer (some ⟨g,0,none⟩),Γ Δ l.length]).run prog w.drew=.ok (.string ⟨l.toArray⟩) (w.drew.freeze ⟨g,0,none⟩ l.length):=by
  refine Lib.run_unsafeString_row w.drew 190 3 9 5 underlying190 (by kernel_rfl) g cur.size (by have tK:w.drew.heap[g]?=some (.cells cur 5 (0,0)):=hg;simp[Θ.shape?,tK]) l h0 (by omega) (by unfold ι at hcm;omega) ?_;intro j x hx;have:=hown.cells (g:=g) rfl j (.int .u8 x.toNat) (by simp[ζ,hx]);exact this
 have hF:Hid (iu w (w.drew.freeze ⟨g,0,none⟩ l.length) b (.slice (some ⟨g,0,none⟩) l.length cap) (.slice (some ⟨g,0,none⟩) l.length cap)):=by
  unfold Θ.freeze;split
  ·exact⟨rfl,rfl,rfl,zac _,λ_ _ _ _=>rfl,Or.inl rfl⟩
  ·refine⟨rfl,rfl,rfl,by simp,λk hk hkb hkv=>?_,Or.inl rfl⟩;simp only[Array.getElem?_modify];rw[zaa (λe=>hkv (by simp[Λ.ownBlock,←e]))];rfl
 clear hown G1 hc1 hg Fl;go_enter func63,ntmps63
 go_wp2
 go_region;all_goals (go_wp2;go_ret;exact⟨rfl,hF.out⟩)
structure Nd where
 kind:Int
 text:List UInt8
 n:Int
 d:Int
 subs:List Int
 sa:Option Addr
 cap:Nat
def dF (x:Nd):Λ:= .agg #[Γ Δ x.kind,.string ⟨⟨x.text⟩⟩,Γ Δ x.n,Γ Δ x.d,.slice x.sa x.subs.length x.cap]
def rA (w:Θ)(a:Option Addr)(l:List Int):Prop:=
 l=[]∨∃b o,a=some ⟨b,o,none⟩∧∀j,j<l.length→w.cell? ⟨b,o+j,none⟩=some (Γ Δ (l.getD j 0))
def aQ (x:Nd):Bool:=
 if x.kind=0 then decide (x.text=[]∧x.n=0∧x.d=0∧x.subs.length=0)
 else if x.kind=1 then decide (x.subs.length=2∧x.text=[]∧x.n=0∧x.d=0)
 else if x.kind=2 then decide (x.subs.length≤20∧x.text=[]∧x.n=0∧x.d=0)
 else if x.kind=3 then decide (x.text.length≤400∧x.n=0∧x.d=0∧x.subs.length=0)
 else if x.kind=4 then decide (x.n=0∧x.d=0∧x.subs.length=0)&&ir x.text
 else if x.kind=5 then lT x.n x.d&&decide (x.text=[]∧x.subs.length=0)
 else if x.kind=6 then decide ((x.n=0∨x.n=1)∧x.text=[]∧x.d=0∧x.subs.length=0)
 else if x.kind=7 then jf x.n&&decide (x.text=[]∧x.d=0∧x.subs.length=0)
 else false
def eT (l:List Int)(all:Int):Bool:=l.all λs=>decide (0≤s∧s<all)
def ey (G:List Nd):Bool:=decide (1≤G.length∧G.length≤150)&&G.all λx=>aQ x&&eT x.subs G.length
theorem aD {o:Obj}:Ω w.heap.size w (w.alloc o):=(zad _ _).alloc (zac _) _
theorem ng (l:List UInt8)(n d:Int)(a:Option Addr)(len cap:Nat)(w:Θ)(h:l=[]∧n=0∧d=0∧len=0):Ξ prog 95 #[.string ⟨⟨l⟩⟩,Γ Δ n,Γ Δ d,.slice a len cap] w λe w'=>e=.returned (.bool true)∧w'=w:=by
 have:=Fb l n d a len cap w;rwa[zaY h]at this
theorem nh (l:List UInt8)(n d:Int)(a:Option Addr)(len cap:Nat)(w:Θ)(h:¬(l=[]∧n=0∧d=0∧len=0)):Ξ prog 95 #[.string ⟨⟨l⟩⟩,Γ Δ n,Γ Δ d,.slice a len cap] w λe w'=>e=.returned (.bool false)∧w'=w:=by
 have:=Fb l n d a len cap w;rwa[zaS h]at this
theorem FU (x:Nd)(w:Θ)(hk:x.kind=0):Ξ prog 60 #[dF x] w λe w'=>e=.returned (.bool (aQ x))∧Ω w.heap.size w w':=by
 unfold dF;have hb0:(x.kind==0)=true:=by simpa using hk
 have HK:Hid (x.kind=0):=hk;clear hk;by_cases hc:x.text=[]∧x.n=0∧x.d=0∧x.subs.length=0
 ·have HV:Hid (aQ x=true):=by show _=_;unfold aQ;rw[zab HK.out];exact zaY hc
  have HB:Hid _:=hc;clear hc;go_enter func60,ntmps60;go_wp2_with fail;refine(ng _ _ _ _ _ _ _ (by simpa using HB.out)).mono ?_;rintro e w' ⟨rfl,rfl⟩;go_wp2_with fail;go_ret;exact⟨aI HV.out.symm,aD⟩
 ·have HV:Hid (aQ x=false):=by show _=_;unfold aQ;rw[zab HK.out];exact zaS hc
  have HB:Hid _:=hc;clear hc;go_enter func60,ntmps60;go_wp2_with fail;refine(nh _ _ _ _ _ _ _ (by simpa using HB.out)).mono ?_;rintro e w' ⟨rfl,rfl⟩;go_wp2_with fail;go_ret;exact⟨aI HV.out.symm,aD⟩
theorem FW (x:Nd)(w:Θ)(hk:x.kind=1):Ξ prog 60 #[dF x] w λe w'=>e=.returned (.bool (aQ x))∧Ω w.heap.size w w':=by
 unfold dF;have hb1:(x.kind==1)=true:=by simpa using hk
 have hb0:(x.kind==0)=false:=by rw[hk];decide
 have HK:Hid (x.kind=1):=hk;clear hk;by_cases hl:x.subs.length=2
 ·by_cases hc:x.text=[]∧x.n=0∧x.d=0∧(0:Nat)=0
  ·have HV:Hid (aQ x=true):=by show _=_;unfold aQ;rw[zaa (by rw[HK.out];decide),zab HK.out];simp only[zaK];exact⟨hl,hc.1,hc.2.1,hc.2.2.1⟩
   have NQ:((x.subs.length:Int)==2)=true:=by rw[hl];rfl
   have HB:Hid _:=hc;clear hc hl;go_enter func60,ntmps60;go_wp2_with fail;refine(ng _ _ _ _ _ _ _ (by simpa using HB.out)).mono ?_;rintro e w' ⟨rfl,rfl⟩;go_wp2_with fail;go_ret;exact⟨aI HV.out.symm,aD⟩
  ·have HV:Hid (aQ x=false):=by show _=_;unfold aQ;rw[zaa (by rw[HK.out];decide),zab HK.out];simp only[zbW];intro h;exact hc ⟨h.2.1,h.2.2.1,h.2.2.2,rfl⟩
   have NQ:((x.subs.length:Int)==2)=true:=by rw[hl];rfl
   have HB:Hid _:=hc;clear hc hl;go_enter func60,ntmps60;go_wp2_with fail;refine(nh _ _ _ _ _ _ _ (by simpa using HB.out)).mono ?_;rintro e w' ⟨rfl,rfl⟩;go_wp2_with fail;go_ret;exact⟨aI HV.out.symm,aD⟩
 ·have HV:Hid (aQ x=false):=by show _=_;unfold aQ;rw[zaa (by rw[HK.out];decide),zab HK.out];simp only[zbW];intro h;exact hl h.1
  have NQ:((x.subs.length:Int)==2)=false:=by rw[zah];omega
  clear hl;go_enter func60,ntmps60;go_wp2_with fail;go_ret;exact⟨aI HV.out.symm,aD⟩
theorem FX (x:Nd)(w:Θ)(hk:x.kind=2):Ξ prog 60 #[dF x] w λe w'=>e=.returned (.bool (aQ x))∧Ω w.heap.size w w':=by
 unfold dF;have hb2:(x.kind==2)=true:=by simpa using hk
 have hb0:(x.kind==0)=false:=by rw[hk];decide
 have hb1:(x.kind==1)=false:=by rw[hk];decide
 have HK:Hid (x.kind=2):=hk;clear hk;by_cases hl:x.subs.length≤20
 ·by_cases hc:x.text=[]∧x.n=0∧x.d=0∧(0:Nat)=0
  ·have HV:Hid (aQ x=true):=by show _=_;unfold aQ;rw[zaa (by rw[HK.out];decide),zaa (by rw[HK.out];decide),zab HK.out];simp only[zaK];exact⟨hl,hc.1,hc.2.1,hc.2.2.1⟩
   have NQ:(x.subs.length:Int)≤20:=by omega
   have HB:Hid _:=hc;clear hc hl;go_enter func60,ntmps60;go_wp2_with fail;refine(ng _ _ _ _ _ _ _ (by simpa using HB.out)).mono ?_;rintro e w' ⟨rfl,rfl⟩;go_wp2_with fail;go_ret;exact⟨aI HV.out.symm,aD⟩
  ·have HV:Hid (aQ x=false):=by show _=_;unfold aQ;rw[zaa (by rw[HK.out];decide),zaa (by rw[HK.out];decide),zab HK.out];simp only[zbW];intro h;exact hc ⟨h.2.1,h.2.2.1,h.2.2.2,rfl⟩
   have NQ:(x.subs.length:Int)≤20:=by omega
   have HB:Hid _:=hc;clear hc hl;go_enter func60,ntmps60;go_wp2_with fail;refine(nh _ _ _ _ _ _ _ (by simpa using HB.out)).mono ?_;rintro e w' ⟨rfl,rfl⟩;go_wp2_with fail;go_ret;exact⟨aI HV.out.symm,aD⟩
 ·have HV:Hid (aQ x=false):=by show _=_;unfold aQ;rw[zaa (by rw[HK.out];decide),zaa (by rw[HK.out];decide),zab HK.out];simp only[zbW];intro h;exact hl h.1
  have NQ:(20:Int)<(x.subs.length:Int):=by omega
  clear hl;go_enter func60,ntmps60;go_wp2_with fail;go_ret;exact⟨aI HV.out.symm,aD⟩
theorem FY (x:Nd)(w:Θ)(hk:x.kind=3):Ξ prog 60 #[dF x] w λe w'=>e=.returned (.bool (aQ x))∧Ω w.heap.size w w':=by
 unfold dF;have hb3:(x.kind==3)=true:=by simpa using hk
 have hb0:(x.kind==0)=false:=by rw[hk];decide
 have hb1:(x.kind==1)=false:=by rw[hk];decide
 have hb2:(x.kind==2)=false:=by rw[hk];decide
 have HK:Hid (x.kind=3):=hk;clear hk;by_cases hl:x.text.length≤400
 ·by_cases hc:([]:List UInt8)=[]∧x.n=0∧x.d=0∧x.subs.length=0
  ·have HV:Hid (aQ x=true):=by show _=_;unfold aQ;rw[zaa (by rw[HK.out];decide),zaa (by rw[HK.out];decide),zaa (by rw[HK.out];decide),zab HK.out];simp only[zaK];exact⟨hl,hc.2.1,hc.2.2.1,hc.2.2.2⟩
   have NQ:(x.text.length:Int)≤400:=by omega
   have HB:Hid _:=hc;clear hc hl;go_enter func60,ntmps60;go_wp2_with fail;refine(ng _ _ _ _ _ _ _ (by simpa using HB.out)).mono ?_;rintro e w' ⟨rfl,rfl⟩;go_wp2_with fail;go_ret;exact⟨aI HV.out.symm,aD⟩
  ·have HV:Hid (aQ x=false):=by show _=_;unfold aQ;rw[zaa (by rw[HK.out];decide),zaa (by rw[HK.out];decide),zaa (by rw[HK.out];decide),zab HK.out];simp only[zbW];intro h;exact hc ⟨rfl,h.2.1,h.2.2.1,h.2.2.2⟩
   have NQ:(x.text.length:Int)≤400:=by omega
   have HB:Hid _:=hc;clear hc hl;go_enter func60,ntmps60;go_wp2_with fail;refine(nh _ _ _ _ _ _ _ (by simpa using HB.out)).mono ?_;rintro e w' ⟨rfl,rfl⟩;go_wp2_with fail;go_ret;exact⟨aI HV.out.symm,aD⟩
 ·have HV:Hid (aQ x=false):=by show _=_;unfold aQ;rw[zaa (by rw[HK.out];decide),zaa (by rw[HK.out];decide),zaa (by rw[HK.out];decide),zab HK.out];simp only[zbW];intro h;exact hl h.1
  have NQ:(400:Int)<(x.text.length:Int):=by omega
  clear hl;go_enter func60,ntmps60;go_wp2_with fail;go_ret;exact⟨aI HV.out.symm,aD⟩
theorem FZ (x:Nd)(w:Θ)(ht:x.text.length≤ι)(hk:x.kind=4):Ξ prog 60 #[dF x] w λe w'=>e=.returned (.bool (aQ x))∧Ω w.heap.size w w':=by
 unfold dF;have hb4:(x.kind==4)=true:=by simpa using hk
 have hb0:(x.kind==0)=false:=by rw[hk];decide
 have hb1:(x.kind==1)=false:=by rw[hk];decide
 have hb2:(x.kind==2)=false:=by rw[hk];decide
 have hb3:(x.kind==3)=false:=by rw[hk];decide
 have HK:Hid (x.kind=4):=hk;clear hk;by_cases hc:([]:List UInt8)=[]∧x.n=0∧x.d=0∧x.subs.length=0
 ·have HV:Hid (aQ x=ir x.text):=by show _=_;unfold aQ;rw[zaa (by rw[HK.out];decide),zaa (by rw[HK.out];decide),zaa (by rw[HK.out];decide),zaa (by rw[HK.out];decide),zab HK.out];rw[zaY hc.2,zbI]
  have HB:Hid _:=hc;clear hc;go_enter func60,ntmps60;go_wp2_with fail;refine(ng _ _ _ _ _ _ _ (by simpa using HB.out)).mono ?_;rintro e w' ⟨rfl,rfl⟩;go_wp2_with fail;refine(C4 _ _ ht).mono ?_;rintro e w' ⟨rfl,rfl⟩;go_wp2_with fail;go_ret;exact⟨aI HV.out.symm,aD⟩
 ·have HV:Hid (aQ x=false):=by show _=_;unfold aQ;rw[zaa (by rw[HK.out];decide),zaa (by rw[HK.out];decide),zaa (by rw[HK.out];decide),zaa (by rw[HK.out];decide),zab HK.out];rw[zaS (λh=>hc ⟨rfl,h⟩),Bool.false_and]
  have HB:Hid _:=hc;clear hc;go_enter func60,ntmps60;go_wp2_with fail;refine(nh _ _ _ _ _ _ _ (by simpa using HB.out)).mono ?_;rintro e w' ⟨rfl,rfl⟩;go_wp2_with fail;go_ret;exact⟨aI HV.out.symm,aD⟩
theorem F0 (x:Nd)(w:Θ)(hk:x.kind=5):Ξ prog 60 #[dF x] w λe w'=>e=.returned (.bool (aQ x))∧Ω w.heap.size w w':=by
 unfold dF;have j8:(x.kind==5)=true:=by simpa using hk
 have hb0:(x.kind==0)=false:=by rw[hk];decide
 have hb1:(x.kind==1)=false:=by rw[hk];decide
 have hb2:(x.kind==2)=false:=by rw[hk];decide
 have hb3:(x.kind==3)=false:=by rw[hk];decide
 have hb4:(x.kind==4)=false:=by rw[hk];decide
 have HK:Hid (x.kind=5):=hk;clear hk;cases hn:lT x.n x.d
 ·have HV:Hid (aQ x=false):=by show _=_;unfold aQ;rw[zaa (by rw[HK.out];decide),zaa (by rw[HK.out];decide),zaa (by rw[HK.out];decide),zaa (by rw[HK.out];decide),zaa (by rw[HK.out];decide),zab HK.out];rw[hn,Bool.false_and]
  go_enter func60,ntmps60;go_wp2_with fail;refine(jW _ _ _).mono ?_;rw[hn];rintro e w' ⟨rfl,m,rfl⟩;go_wp2_with fail;go_ret;exact⟨aI HV.out.symm,zbf aD _⟩
 ·by_cases hc:x.text=[]∧(0:Int)=0∧(0:Int)=0∧x.subs.length=0
  ·have HV:Hid (aQ x=true):=by show _=_;unfold aQ;rw[zaa (by rw[HK.out];decide),zaa (by rw[HK.out];decide),zaa (by rw[HK.out];decide),zaa (by rw[HK.out];decide),zaa (by rw[HK.out];decide),zab HK.out];rw[hn,zaY ⟨hc.1,hc.2.2.2⟩];rfl
   have HB:Hid _:=hc;clear hc;go_enter func60,ntmps60;go_wp2_with fail;refine(jW _ _ _).mono ?_;rw[hn];rintro e w' ⟨rfl,m,rfl⟩;go_wp2_with fail;refine(ng _ _ _ _ _ _ _ (by simpa using HB.out)).mono ?_;rintro e w' ⟨rfl,rfl⟩;go_wp2_with fail;go_ret;exact⟨aI HV.out.symm,zbf aD _⟩
  ·have HV:Hid (aQ x=false):=by show _=_;unfold aQ;rw[zaa (by rw[HK.out];decide),zaa (by rw[HK.out];decide),zaa (by rw[HK.out];decide),zaa (by rw[HK.out];decide),zaa (by rw[HK.out];decide),zab HK.out];rw[hn,zaS (λh=>hc ⟨h.1,rfl,rfl,h.2⟩)];rfl
   have HB:Hid _:=hc;clear hc;go_enter func60,ntmps60;go_wp2_with fail;refine(jW _ _ _).mono ?_;rw[hn];rintro e w' ⟨rfl,m,rfl⟩;go_wp2_with fail;refine(nh _ _ _ _ _ _ _ (by simpa using HB.out)).mono ?_;rintro e w' ⟨rfl,rfl⟩;go_wp2_with fail;go_ret;exact⟨aI HV.out.symm,zbf aD _⟩
theorem F3 (x:Nd)(w:Θ)(hk:x.kind=6):Ξ prog 60 #[dF x] w λe w'=>e=.returned (.bool (aQ x))∧Ω w.heap.size w w':=by
 unfold dF;have nX:(x.kind==6)=true:=by simpa using hk
 have hb0:(x.kind==0)=false:=by rw[hk];decide
 have hb1:(x.kind==1)=false:=by rw[hk];decide
 have hb2:(x.kind==2)=false:=by rw[hk];decide
 have hb3:(x.kind==3)=false:=by rw[hk];decide
 have hb4:(x.kind==4)=false:=by rw[hk];decide
 have j8:(x.kind==5)=false:=by rw[hk];decide
 have HK:Hid (x.kind=6):=hk;clear hk;by_cases hl:x.n=0∨x.n=1
 ·by_cases hc:x.text=[]∧(0:Int)=0∧x.d=0∧x.subs.length=0
  ·have HV:Hid (aQ x=true):=by show _=_;unfold aQ;rw[zaa (by rw[HK.out];decide),zaa (by rw[HK.out];decide),zaa (by rw[HK.out];decide),zaa (by rw[HK.out];decide),zaa (by rw[HK.out];decide),zaa (by rw[HK.out];decide),zab HK.out];exact zaY ⟨hl,hc.1,hc.2.2.1,hc.2.2.2⟩
   have HB:Hid _:=hc;clear hc;cases Ln:(x.n==0)
   ·have Yw:(x.n==1)=true:=by rw[zaJ];have:=beq_eq_false_iff_ne.1 Ln;omega
    clear hl;go_enter func60,ntmps60;go_wp2_with fail;refine(ng _ _ _ _ _ _ _ (by simpa using HB.out)).mono ?_;rintro e w' ⟨rfl,rfl⟩;go_wp2_with fail;go_ret;exact⟨aI HV.out.symm,aD⟩
   ·clear hl;go_enter func60,ntmps60;go_wp2_with fail;refine(ng _ _ _ _ _ _ _ (by simpa using HB.out)).mono ?_;rintro e w' ⟨rfl,rfl⟩;go_wp2_with fail;go_ret;exact⟨aI HV.out.symm,aD⟩
  ·have HV:Hid (aQ x=false):=by show _=_;unfold aQ;rw[zaa (by rw[HK.out];decide),zaa (by rw[HK.out];decide),zaa (by rw[HK.out];decide),zaa (by rw[HK.out];decide),zaa (by rw[HK.out];decide),zaa (by rw[HK.out];decide),zab HK.out];exact zaS (λh=>hc ⟨h.2.1,rfl,h.2.2.1,h.2.2.2⟩)
   have HB:Hid _:=hc;clear hc;cases Ln:(x.n==0)
   ·have Yw:(x.n==1)=true:=by rw[zaJ];have:=beq_eq_false_iff_ne.1 Ln;omega
    clear hl;go_enter func60,ntmps60;go_wp2_with fail;refine(nh _ _ _ _ _ _ _ (by simpa using HB.out)).mono ?_;rintro e w' ⟨rfl,rfl⟩;go_wp2_with fail;go_ret;exact⟨aI HV.out.symm,aD⟩
   ·clear hl;go_enter func60,ntmps60;go_wp2_with fail;refine(nh _ _ _ _ _ _ _ (by simpa using HB.out)).mono ?_;rintro e w' ⟨rfl,rfl⟩;go_wp2_with fail;go_ret;exact⟨aI HV.out.symm,aD⟩
 ·have HV:Hid (aQ x=false):=by show _=_;unfold aQ;rw[zaa (by rw[HK.out];decide),zaa (by rw[HK.out];decide),zaa (by rw[HK.out];decide),zaa (by rw[HK.out];decide),zaa (by rw[HK.out];decide),zaa (by rw[HK.out];decide),zab HK.out];exact zaS (λh=>hl h.1)
  have Ln:(x.n==0)=false:=by rw[zah];omega
  have Yw:(x.n==1)=false:=by rw[zah];omega
  clear hl;go_enter func60,ntmps60;go_wp2_with fail;go_ret;exact⟨aI HV.out.symm,aD⟩
theorem F4 (x:Nd)(w:Θ)(hk:x.kind=7):Ξ prog 60 #[dF x] w λe w'=>e=.returned (.bool (aQ x))∧Ω w.heap.size w w':=by
 unfold dF;have DT:(x.kind==7)=true:=by simpa using hk
 have hb0:(x.kind==0)=false:=by rw[hk];decide
 have hb1:(x.kind==1)=false:=by rw[hk];decide
 have hb2:(x.kind==2)=false:=by rw[hk];decide
 have hb3:(x.kind==3)=false:=by rw[hk];decide
 have hb4:(x.kind==4)=false:=by rw[hk];decide
 have j8:(x.kind==5)=false:=by rw[hk];decide
 have nX:(x.kind==6)=false:=by rw[hk];decide
 have HK:Hid (x.kind=7):=hk;clear hk;cases hn:jf x.n
 ·have HV:Hid (aQ x=false):=by show _=_;unfold aQ;rw[zaa (by rw[HK.out];decide),zaa (by rw[HK.out];decide),zaa (by rw[HK.out];decide),zaa (by rw[HK.out];decide),zaa (by rw[HK.out];decide),zaa (by rw[HK.out];decide),zaa (by rw[HK.out];decide),zab HK.out];rw[hn,Bool.false_and]
  go_enter func60,ntmps60;go_wp2_with fail;refine(ri _ _).mono ?_;rw[hn];rintro e w' ⟨rfl,rfl⟩;go_wp2_with fail;go_ret;exact⟨aI HV.out.symm,aD⟩
 ·by_cases hc:x.text=[]∧(0:Int)=0∧x.d=0∧x.subs.length=0
  ·have HV:Hid (aQ x=true):=by show _=_;unfold aQ;rw[zaa (by rw[HK.out];decide),zaa (by rw[HK.out];decide),zaa (by rw[HK.out];decide),zaa (by rw[HK.out];decide),zaa (by rw[HK.out];decide),zaa (by rw[HK.out];decide),zaa (by rw[HK.out];decide),zab HK.out];rw[hn,zaY ⟨hc.1,hc.2.2.1,hc.2.2.2⟩];rfl
   have HB:Hid _:=hc;clear hc;go_enter func60,ntmps60;go_wp2_with fail;refine(ri _ _).mono ?_;rw[hn];rintro e w' ⟨rfl,rfl⟩;go_wp2_with fail;refine(ng _ _ _ _ _ _ _ (by simpa using HB.out)).mono ?_;rintro e w' ⟨rfl,rfl⟩;go_wp2_with fail;go_ret;exact⟨aI HV.out.symm,aD⟩
  ·have HV:Hid (aQ x=false):=by show _=_;unfold aQ;rw[zaa (by rw[HK.out];decide),zaa (by rw[HK.out];decide),zaa (by rw[HK.out];decide),zaa (by rw[HK.out];decide),zaa (by rw[HK.out];decide),zaa (by rw[HK.out];decide),zaa (by rw[HK.out];decide),zab HK.out];rw[hn,zaS (λh=>hc ⟨h.1,rfl,h.2.1,h.2.2⟩)];rfl
   have HB:Hid _:=hc;clear hc;go_enter func60,ntmps60;go_wp2_with fail;refine(ri _ _).mono ?_;rw[hn];rintro e w' ⟨rfl,rfl⟩;go_wp2_with fail;refine(nh _ _ _ _ _ _ _ (by simpa using HB.out)).mono ?_;rintro e w' ⟨rfl,rfl⟩;go_wp2_with fail;go_ret;exact⟨aI HV.out.symm,aD⟩
theorem yS (x:Nd)(w:Θ)(hk:x.kind<0∨7<x.kind):Ξ prog 60 #[dF x] w λe w'=>e=.returned (.bool (aQ x))∧Ω w.heap.size w w':=by
 unfold dF;have hb0:(x.kind==0)=false:=by rw[zah];omega
 have hb1:(x.kind==1)=false:=by rw[zah];omega
 have hb2:(x.kind==2)=false:=by rw[zah];omega
 have hb3:(x.kind==3)=false:=by rw[zah];omega
 have hb4:(x.kind==4)=false:=by rw[zah];omega
 have j8:(x.kind==5)=false:=by rw[zah];omega
 have nX:(x.kind==6)=false:=by rw[zah];omega
 have DT:(x.kind==7)=false:=by rw[zah];omega
 have HV:Hid (aQ x=false):=by show _=_;unfold aQ;rw[zaa (by omega),zaa (by omega),zaa (by omega),zaa (by omega),zaa (by omega),zaa (by omega),zaa (by omega),zaa (by omega)]
 clear hk;go_enter func60,ntmps60;go_wp2_with fail;go_ret;exact⟨aI HV.out.symm,aD⟩
theorem qN (x:Nd)(w:Θ)(ht:x.text.length≤ι):Ξ prog 60 #[dF x] w λe w'=>e=.returned (.bool (aQ x))∧Ω w.heap.size w w':=by
 by_cases h:x.kind<0∨7<x.kind
 ·exact yS x w h
 ·have:x.kind=0∨x.kind=1∨x.kind=2∨x.kind=3∨x.kind=4∨x.kind=5∨x.kind=6∨x.kind=7:=by omega
  rcases this with h|h|h|h|h|h|h|h
  ·exact FU x w h
  ·exact FW x w h
  ·exact FX x w h
  ·exact FY x w h
  ·exact FZ x w ht h
  ·exact F0 x w h
  ·exact F3 x w h
  ·exact F4 x w h
theorem IX (l:List Int)(k:Nat)(h:k<l.length)(all:Int):eT (l.take (k+1)) all=(eT (l.take k) all&&decide (0≤l.getD k 0∧l.getD k 0<all)):=by
 unfold eT;rw[zcv h,List.all_append];simp[π,List.getElem?_eq_getElem h]
theorem Qk (l:List Int)(k:Nat)(h:k<l.length)(all:Int)(hb:¬(0≤l.getD k 0∧l.getD k 0<all)):eT l all=false:=by
 unfold eT;rw[List.all_eq_false];refine⟨l[k],zbx h,?_⟩;simp[π,List.getElem?_eq_getElem h]at hb ⊢;omega
theorem qO (l:List Int)(a:Option Addr)(cap:Nat)(all:Int)(w:Θ)(hl:l.length≤ι)(hc:rA w a l):Ξ prog 61 #[.slice a l.length cap,Γ Δ all] w λe w'=>e=.returned (.bool (eT l all))∧w'=w:=by
 unfold ι at hl;rcases hc with rfl|⟨b,o,rfl,hc⟩
 ·go_enter func61,ntmps61;go_wp2_with fail;go_loop [9] (λi=>i=Γ Δ 0) (λi=>(φ i).toNat)
  case atStart=>rfl
  case round=>
   subst hrel;go_wp2_with fail;go_ret;exact⟨rfl,rfl⟩
 ·have HC:Hid _:=hc;clear hc;go_enter func61,ntmps61;go_wp2_with fail;go_loop [9] (λi=>∃k:Nat,k≤l.length∧i=Γ Δ k∧Hid (eT (l.take k) all=true)) (λi=>l.length-(φ i).toNat)
  case atStart=>exact⟨0,zaq _,rfl,rfl⟩
  case round=>
   obtain⟨k,hk,rfl,hr⟩:=hrel;by_cases hlt:k<l.length
   ·have hcell:=HC.out k hlt;by_cases hb:0≤l.getD k 0∧l.getD k 0<all
    ·have H:Hid (eT (l.take (k+1)) all=true):=by show _=_;rw[IX l k hlt,hr.out,zaY hb];rfl
     obtain⟨hb1,hb2⟩:=hb;generalize hg:l.getD k 0=v at *;have HG:Hid _:=hg;clear hg;go_wp2_with fail
     go_round
     case rel=>exact⟨k+1,by omega,by go_num,H⟩
     case measure=>simp[φ];omega
    ·have H:Hid (eT l all=false):=Qk l k hlt all hb;generalize hg:l.getD k 0=v at *;have HG:Hid _:=hg;clear hg;by_cases h0:0≤v
     ·have h1:all≤v:=by omega
      clear hb;go_wp2_with fail;go_ret;exact⟨aI H.out.symm,rfl⟩
     ·clear hb;go_wp2_with fail;go_ret;exact⟨aI H.out.symm,rfl⟩
   ·have H:Hid (eT l all=true):=by have:=hr.out;rwa[zbJ (by omega)]at this
    go_wp2_with fail;go_ret;exact⟨aI H.out.symm,rfl⟩
structure Dn (w:Θ) (b o:Nat) (x:Nd):Prop where
 kind:w.cell? ⟨b,o,none⟩=some (Γ Δ x.kind)
 text:w.cell? ⟨b,o+1,none⟩=some (.string ⟨⟨x.text⟩⟩)
 n:w.cell? ⟨b,o+2,none⟩=some (Γ Δ x.n)
 d:w.cell? ⟨b,o+3,none⟩=some (Γ Δ x.d)
 subs:w.cell? ⟨b,o+4,none⟩=some (.slice x.sa x.subs.length x.cap)
 ints:rA w x.sa x.subs
 abH:x.text.length≤ι
 abI:x.subs.length≤ι
def bK (w:Θ)(b o:Nat)(G:List Nd):Prop:=∀i,(h:i<G.length)→Dn w b (o+i*5) G[i]
theorem lH {a:Addr}(h:w.cell? a=some v):a.block<w.heap.size:=by
 unfold Θ.cell? at h;by_cases hb:a.block<w.heap.size
 ·exact hb
 ·rw[zbQ (by omega)]at h;simp at h
theorem cd (hb:Ω w.heap.size w w'){a:Addr}(h:w.cell? a=some v):w'.cell? a=some v:=by
 rw[hb.cell (lH h)];exact h
theorem rA.below {a:Option Addr}{l:List Int}(h:rA w a l)(hb:Ω w.heap.size w w'):rA w' a l:=by
 rcases h with rfl|⟨b,o,rfl,hc⟩
 ·exact Or.inl rfl
 ·exact Or.inr ⟨b,o,rfl,λj hj=>cd hb (hc j hj)⟩
theorem Dn.below {o:Nat}{x:Nd}(h:Dn w b o x)(hb:Ω w.heap.size w w'):Dn w' b o x:=
 ⟨cd hb h.kind,cd hb h.text,cd hb h.n,cd hb h.d,cd hb h.subs,h.ints.below hb,h.abH,h.abI⟩
theorem bK.below {o:Nat}{G:List Nd}(h:bK w b o G)(hb:Ω w.heap.size w w'):bK w' b o G:=λi hi=>(h i hi).below hb
theorem BN {w1:Θ}{c:Array Λ}{t:ξ}(hb:Ω (w.alloc (.cells c t)).heap.size (w.alloc (.cells c t)) w1):(∀o,w1.cell? ⟨w.heap.size,o,none⟩=c[o]?)∧(∀o,w1.frozen? ⟨w.heap.size,o,none⟩=false):=by
 refine⟨λo=>?_,λo=>?_⟩
 ·rw[hb.cell (by simp),Θ.cell?_alloc_at _ _ _ _ rfl]
 ·rw[hb.frozen (by simp),Θ.frozen?_alloc_at _ _ _ _ rfl]
theorem Ql {α:Type}(l:List α)(k:Nat)(h:k<l.length)(p:α→Bool):(l.take (k+1)).all p=((l.take k).all p&&p l[k]):=by
 rw[zcv h,List.all_append,zap,List.all_nil,zbZ]
theorem Y9 {α:Type}(l:List α)(k:Nat)(h:k<l.length)(p:α→Bool)(hp:p l[k]=false):l.all p=false:=by
 rw[List.all_eq_false];exact⟨l[k],zbx h,by simp[hp]⟩
theorem pP (G:List Nd)(b o cap:Nat)(w:Θ)(hl:G.length≤ι)(hG:bK w b o G):Ξ prog 38 #[.slice (some ⟨b,o,none⟩) G.length cap] w λe w'=>e=.returned (.bool (ey G))∧Ω w.heap.size w w':=by
 unfold ι at hl;have HG:Hid _:=hG;clear hG;by_cases h1:G.length<1
 ·have H:Hid (ey G=false):=by show _=_;unfold ey;rw[zaS (by omega)];rfl
  go_enter func38,ntmps38;go_wp2_with fail;go_ret;exact⟨aI H.out.symm,zad _ _⟩
 ·by_cases h2:150<G.length
  ·have H:Hid (ey G=false):=by show _=_;unfold ey;rw[zaS (by omega)];rfl
   go_enter func38,ntmps38;go_wp2_with fail;go_ret;exact⟨aI H.out.symm,zad _ _⟩
  ·have d1:decide ((G.length:Int)<1)=false:=by simp;omega
   have d2:decide ((150:Int)<(G.length:Int))=false:=by simp;omega
   have HR:Hid (ey G=G.all (λx=>aQ x&&eT x.subs G.length)):=by show _=_;unfold ey;rw[zaY (by omega)];rfl
   go_enter func38,ntmps38;go_wp2_with fail;go_loopw [15] (λi wr=>∃k:Nat,k≤G.length∧i=Γ Δ k∧Ω w.heap.size w wr∧Hid ((G.take k).all (λx=>aQ x&&eT x.subs G.length)=true)) (λi _=>G.length-(φ i).toNat)
   case atStart=>exact⟨0,zaq _,rfl,zad _ _,rfl⟩
   case round=>
    obtain⟨k,hk,rfl,hb,hr⟩:=hrel;by_cases hlt:k<G.length
    ·obtain⟨c0,c1,c2,c3,c4,hi,ht,hs⟩:=(HG.out k hlt).below hb;have HS:Hid _:=Ql G k hlt (λx=>aQ x&&eT x.subs G.length);have HN:Hid _:=Y9 G k hlt (λx=>aQ x&&eT x.subs G.length);have HT:Hid _:=ht;have HI:Hid _:=hi;have HL:Hid _:=hs;clear ht hi hs;generalize G[k]=x at *;have hz:=hb.size;cases hkb:aQ x
     ·have HV:Hid (ey G=false):=by show _=_;rw[HR.out];exact HN.out (by simp[hkb])
      go_wp2_with fail;refine(qN x _ HT.out).mono ?_;rw[hkb];rintro e w2 ⟨rfl,hb2⟩;go_wp2_with fail;go_ret;exact⟨aI HV.out.symm,(hb.alloc hz _).trans (hb2.mono (by simp;omega))⟩
     ·go_wp2_with fail;refine(qN x _ HT.out).mono ?_;rw[hkb];rintro e w2 ⟨rfl,hb2⟩;obtain⟨hcell,Oe⟩:=BN hb2;have hb3:=(hb.alloc hz _).trans (hb2.mono (by simp;omega));have hz2:=hb2.size;have HI2:Hid (rA w2 x.sa x.subs):=rA.below (w:=wr) HI.out ((zad _ _).alloc (zac _) _ |>.trans (hb2.mono (by simp)));have iB:Hid _:=hb2;clear hb2 Oe c0 c1 c2 c3 c4;cases hsb:eT x.subs G.length
      ·have HV:Hid (ey G=false):=by show _=_;rw[HR.out];exact HN.out (by simp[hsb])
       go_wp2_with fail;refine(qO x.subs _ _ _ _ HL.out HI2.out).mono ?_;rw[hsb];rintro e w3 ⟨rfl,rfl⟩;go_wp2_with fail;go_ret;exact⟨aI HV.out.symm,hb3⟩
      ·have HV:Hid ((G.take (k+1)).all (λx=>aQ x&&eT x.subs G.length)=true):=by show _=_;rw[HS.out,hr.out,hkb,hsb];rfl
       go_wp2_with fail;refine(qO x.subs _ _ _ _ HL.out HI2.out).mono ?_;rw[hsb];rintro e w3 ⟨rfl,rfl⟩;go_wp2_with fail;go_roundw
       case rel=>exact⟨k+1,by omega,by go_num,hb3,HV⟩
       case measure=>simp[φ];omega
    ·have HV:Hid (ey G=true):=by show _=_;rw[HR.out];have:=hr.out;rwa[zbJ (by omega)]at this
     go_wp2_with fail;go_ret;exact⟨aI HV.out.symm,hb⟩
end Go.Proofs.YtlhimdjkkiflhaaGreatDoor
namespace Go.Loop
variable {n:Nat}{S:Nat→List Nat}
structure WS where
 met:List Int
 wi:List Bool
 op:List Bool
def WS.hit (s:WS)(a:Nat):WS:={ s with met:=s.met.set a (s.met.getD a 0+1) }
def WS.again (s:WS)(a:Nat):WS:={ s with wi:=s.wi.set a (s.wi.getD a false||s.op.getD a false) }
def WS.enter (s:WS)(a:Nat):WS:={ s with op:=s.op.set a true }
def WS.leave (s:WS)(a:Nat):WS:={ s with op:=s.op.set a false }
def bf (S:Nat→List Nat):Nat→WS→Nat→WS
 |0,s,_=>s
 |f+1,s,a=>if 0<s.met.getD a 0 then(s.hit a).again a else((S a).foldl (bf S f) ((s.hit a).enter a)).leave a
structure WS.Ok (n:Nat) (s:WS):Prop where
 lm:s.met.length=n
 lw:s.wi.length=n
 lo:s.op.length=n
 nn:∀i,0≤s.met.getD i 0
 om:∀i,s.op.getD i false=true→0<s.met.getD i 0
theorem cR {α:Type}(l:List α)(a i:Nat)(v d:α)(h:a<l.length):(l.set a v).getD i d=if i=a then v else l.getD i d:=by
 simp only[π,List.getElem?_set];by_cases e:a=i
 ·subst e;simp[h]
 ·rw[zaa e,zaa (λx=>e x.symm)]
theorem WS.Ok.hit {s:WS}(h:s.Ok n){a:Nat}(ha:a<n):(s.hit a).Ok n:=by
 refine⟨by simp[WS.hit,h.lm],h.lw,h.lo,λi=>?_,λi hi=>?_⟩
 ·simp only[WS.hit];rw[cR _ _ _ _ _ (by rw[h.lm];exact ha)];split
  ·have:=h.nn a;omega
  ·exact h.nn i
 ·simp only[WS.hit];rw[cR _ _ _ _ _ (by rw[h.lm];exact ha)];split
  ·have:=h.nn a;omega
  ·exact h.om i hi
theorem WS.Ok.again {s:WS}(h:s.Ok n)(a:Nat):(s.again a).Ok n:=⟨h.lm,by simp[WS.again,h.lw],h.lo,h.nn,h.om⟩
theorem WS.Ok.leave {s:WS}(h:s.Ok n){a:Nat}(ha:a<n):(s.leave a).Ok n:=by
 refine⟨h.lm,h.lw,by simp[WS.leave,h.lo],h.nn,λi hi=>?_⟩;simp only[WS.leave]at hi;rw[cR _ _ _ _ _ (by rw[h.lo];exact ha)]at hi;split at hi
 ·exact absurd hi (by simp)
 ·exact h.om i hi
theorem WS.Ok.enter {s:WS}(h:s.Ok n){a:Nat}(ha:a<n)(hm:0<s.met.getD a 0):(s.enter a).Ok n:=by
 refine⟨h.lm,h.lw,by simp[WS.enter,h.lo],h.nn,λi hi=>?_⟩;simp only[WS.enter]at hi;rw[cR _ _ _ _ _ (by rw[h.lo];exact ha)]at hi;split at hi
 ·rename_i e;subst e;exact hm
 ·exact h.om i hi
theorem dJ {s:WS}(h:s.Ok n){a:Nat}(ha:a<n)(i:Nat):(s.hit a).met.getD i 0=if i=a then s.met.getD a 0+1 else s.met.getD i 0:=by
 simp only[WS.hit];rw[cR _ _ _ _ _ (by rw[h.lm];exact ha)]
theorem iW {s:WS}(h:s.Ok n){a:Nat}(ha:a<n):0<(s.hit a).met.getD a 0:=by
 rw[dJ h ha,zab rfl];have:=h.nn a;omega
theorem Ok.meet (hS:∀x,x<n→∀y∈S x,y<n):∀(f:Nat) (s:WS) (a:Nat),s.Ok n→a<n→(bf S f s a).Ok n
 |0,s,a,h,ha=>h
 |f+1,s,a,h,ha=>by
  simp only[bf];split
  ·exact(h.hit ha).again a
  ·refine WS.Ok.leave ?_ ha;have h2:((s.hit a).enter a).Ok n:=(h.hit ha).enter ha (iW h ha);have:∀(l:List Nat) (t:WS),(∀y∈l,y<n)→t.Ok n→(l.foldl (bf S f) t).Ok n:=by
    intro l
    induction l with
    |nil=>intro t _ ht;exact ht
    |cons y r ih=>intro t hl ht;exact ih _ (λz hz=>hl z (zaQ _ hz)) (Ok.meet hS f t y ht (hl y zaD))
   exact this _ _ (hS a ha) h2
def sW (g:Nat→Nat):Nat→List Int→Nat
 |_,[]=>0
 |i,m::r=>(if m=0 then g i else 0)+sW g (i+1) r
theorem F5 (g:Nat→Nat):∀(met:List Int) (i a:Nat) (v:Int),v≠0→a<met.length→sW g i (met.set a v)+(if met.getD a 0=0 then g (i+a)else 0)=sW g i met
 |[],_,_,_,_,h=>by simp at h
 |m::r,i,0,v,hv,_=>by simp[sW,List.set,hv];omega
 |m::r,i,a+1,v,hv,h=>by
  have ih:=F5 g r (i+1) a v hv (by simpa using h);simp only[List.set,sW,List.getD_cons_succ];rw[show i+(a+1)=i+1+a by omega];omega
def WS.pQ (s:WS)(g:Nat→Nat):Nat:=sW g 0 s.met
theorem pS {s:WS}(h:s.Ok n){a:Nat}(ha:a<n)(g:Nat→Nat):(s.hit a).pQ g+(if s.met.getD a 0=0 then g a else 0)=s.pQ g:=by
 have:=F5 g s.met 0 a (s.met.getD a 0+1) (by have:=h.nn a;omega) (by rw[h.lm];exact ha);rw[Nat.zero_add]at this;exact this
def WS.Bd (S:Nat→List Nat)(c:Nat)(s:WS):Prop:=∀i,s.met.getD i 0+(s.pQ (λx=>(S x).length):Nat)≤c
theorem Bd.meet (hS:∀x,x<n→∀y∈S x,y<n):∀(f:Nat) (s:WS) (a c:Nat),s.Ok n→a<n→s.Bd S c→(bf S f s a).Bd S (c+1)
 |0,s,a,c,h,ha,hb=>λi=>by have:=hb i;simp only[bf];omega
 |f+1,s,a,c,h,ha,hb=>by
  simp only[bf];have hp:=pS h ha (λx=>(S x).length);split
  ·rename_i hm;intro i;show(s.hit a).met.getD i 0+((s.hit a).pQ (λx=>(S x).length):Nat)≤_;rw[dJ h ha];rw[zaa (by omega)]at hp;have h1:=hb i;have h2:=hb a;split<;>omega
  ·rename_i hm;have hm0:s.met.getD a 0=0:=by have:=h.nn a;omega
   rw[zab hm0]at hp;have h2:((s.hit a).enter a).Ok n:=(h.hit ha).enter ha (iW h ha);have hc:(S a).length≤c:=by have:=hb a;omega
   have hb2:((s.hit a).enter a).Bd S (c+1-(S a).length):=by
    intro i;show(s.hit a).met.getD i 0+((s.hit a).pQ (λx=>(S x).length):Nat)≤_;rw[dJ h ha];have h1:=hb i;have h3:=hb a;split<;>omega
   have:∀(l:List Nat) (t:WS) (k:Nat),(∀y∈l,y<n)→t.Ok n→t.Bd S k→(l.foldl (bf S f) t).Bd S (k+l.length):=by
    intro l
    induction l with
    |nil=>intro t k _ _ ht;exact ht
    |cons y r ih=>
     intro t k hl ht hk;have:=ih (bf S f t y) (k+1) (λz hz=>hl z (zaQ _ hz)) (Ok.meet hS f t y ht (hl y zaD)) (Bd.meet hS f t y k ht (hl y zaD) hk);simp only[List.foldl_cons,zar];rw[show k+(r.length+1)=k+1+r.length by omega];exact this
   have h4:=this (S a) _ _ (hS a ha) h2 hb2;rw[show c+1-(S a).length + (S a).length=c+1 by omega]at h4;exact h4
theorem oV {n:Nat}{S:Nat→List Nat}(hS:∀x,x<n→∀y∈S x,y<n)(g:Nat→Nat):∀(f:Nat) (s:WS) (a:Nat),s.Ok n→a<n→(bf S f s a).pQ g≤s.pQ g
 |0,s,a,_,_=>zac _
 |f+1,s,a,h,ha=>by
  simp only[bf];have hp:=pS h ha g;split
  ·show(s.hit a).pQ g≤_;omega
  ·have h2:((s.hit a).enter a).Ok n:=(h.hit ha).enter ha (iW h ha);have:∀(l:List Nat) (t:WS),(∀y∈l,y<n)→t.Ok n→(l.foldl (bf S f) t).pQ g≤t.pQ g:=by
    intro l
    induction l with
    |nil=>intro t _ _;exact zac _
    |cons y r ih=>intro t hl ht;exact zag (ih _ (λz hz=>hl z (zaQ _ hz)) (Ok.meet hS f t y ht (hl y zaD))) (oV hS g f t y ht (hl y zaD))
   have h4:=this (S a) _ (hS a ha) h2;have h5:((s.hit a).enter a).pQ g=(s.hit a).pQ g:=rfl;show(((S a).foldl (bf S f) ((s.hit a).enter a))).pQ g≤_;omega
def sX (S:Nat→List Nat)(wi:List Bool)(fin:List Nat):Prop:=
 ∀(i x:Nat),fin[i]?=some x→∀y∈S x,wi.getD y false=true∨∃j:Nat,j<i∧fin[j]?=some y
structure Fnd (S:Nat→List Nat) (s:WS) (fin:List Nat):Prop where
 cl:∀x,0<s.met.getD x 0→s.op.getD x false=true∨x∈fin
 q:sX S s.wi fin
 wm:∀x,s.wi.getD x false=true→0<s.met.getD x 0
 fm:∀x∈fin,0<s.met.getD x 0
structure Met (S:Nat→List Nat) (s s':WS) (fin Qm:List Nat) (a:Nat):Prop where
 fnd:Fnd S s' Qm
 pre:∃ext,Qm=fin++ext
 op:∀i,s'.op.getD i false=s.op.getD i false
 wi:∀i,s.wi.getD i false=true→s'.wi.getD i false=true
 met:∀i,0<s.met.getD i 0→0<s'.met.getD i 0
 here:s'.wi.getD a false=true∨a∈Qm
 hit:0<s'.met.getD a 0
theorem sX.mono {S:Nat→List Nat}{wi wi':List Bool}{fin:List Nat}(h:sX S wi fin)(hw:∀i,wi.getD i false=true→wi'.getD i false=true):sX S wi' fin:=
 λi x hx y hy=>(h i x hx y hy).imp (hw y) id
theorem Ky {n:Nat}{S:Nat→List Nat}(hS:∀x,x<n→∀y∈S x,y<n):∀(f:Nat) (s:WS) (a:Nat) (fin:List Nat),s.Ok n→a<n→s.pQ (λ_=>1)<f→Fnd S s fin→∃Qm,Met S s (bf S f s a) fin Qm a
 |0,s,a,fin,_,_,h,_=>by omega
 |f+1,s,a,fin,h,ha,hf,hF=>by
  have hp:=pS h ha (λ_=>1);simp only[bf];split
  ·rename_i hm;have NR:∀i,s.wi.getD i false=true→((s.hit a).again a).wi.getD i false=true:=by
    intro i hi;show(s.wi.set a (s.wi.getD a false||s.op.getD a false)).getD i false=true;rw[cR _ _ _ _ _ (by rw[h.lw];exact ha)];split
    ·rename_i e;subst e;rw[hi];rfl
    ·exact hi
   have Xq:∀i,0<s.met.getD i 0→0<((s.hit a).again a).met.getD i 0:=by
    intro i hi;show 0<(s.hit a).met.getD i 0;rw[dJ h ha];split<;>omega
   refine⟨fin,⟨λx hx=>?_,hF.q.mono NR,λx hx=>?_,λx hx=>Xq x (hF.fm x hx)⟩,⟨[],by simp⟩,λi=>rfl,NR,Xq,?_,Xq a hm⟩
   ·change 0<(s.hit a).met.getD x 0 at hx;rw[dJ h ha]at hx;split at hx
    ·rename_i e;subst e;exact hF.cl x hm
    ·exact hF.cl x hx
   ·change(s.wi.set a (s.wi.getD a false||s.op.getD a false)).getD x false=true at hx;rw[cR _ _ _ _ _ (by rw[h.lw];exact ha)]at hx;split at hx
    ·rename_i e;subst e;exact Xq x hm
    ·exact Xq x (hF.wm x hx)
   ·rcases hF.cl a hm with ho|hi
    ·left;show(s.wi.set a (s.wi.getD a false||s.op.getD a false)).getD a false=true;rw[cR _ _ _ _ _ (by rw[h.lw];exact ha),zab rfl,ho];simp
    ·exact Or.inr hi
  ·rename_i hm;have hm0:s.met.getD a 0=0:=by have:=h.nn a;omega
   rw[zab hm0]at hp;have TP:s.op.getD a false=false:=by
    cases e:s.op.getD a false
    ·rfl
    ·have:=h.om a e;omega
   have h2:((s.hit a).enter a).Ok n:=(h.hit ha).enter ha (iW h ha);have abJ:∀i,((s.hit a).enter a).op.getD i false=if i=a then true else s.op.getD i false:=by
    intro i;show(s.op.set a true).getD i false=_;rw[cR _ _ _ _ _ (by rw[h.lo];exact ha)]
   have hF2:Fnd S ((s.hit a).enter a) fin:=by
    have Xq:∀i,0<s.met.getD i 0→0<((s.hit a).enter a).met.getD i 0:=by
     intro i hi;show 0<(s.hit a).met.getD i 0;rw[dJ h ha];split<;>omega
    refine⟨λx hx=>?_,hF.q,λx hx=>Xq x (hF.wm x hx),λx hx=>Xq x (hF.fm x hx)⟩;change 0<(s.hit a).met.getD x 0 at hx;rw[dJ h ha]at hx;rw[abJ];by_cases e:x=a
    ·left;rw[zab e]
    ·rw[zaa e]at hx;rw[zaa e];exact hF.cl x hx
   have key:∀(l:List Nat) (t:WS) (fn:List Nat),(∀y∈l,y<n)→t.Ok n→t.pQ (λ_=>1)<f→Fnd S t fn→
    ∃fn',Fnd S (l.foldl (bf S f) t) fn'∧(∃ext,fn'=fn++ext)∧(∀i,(l.foldl (bf S f) t).op.getD i false=t.op.getD i false)∧(∀i,t.wi.getD i false=true→(l.foldl (bf S f) t).wi.getD i false=true)
     ∧(∀i,0<t.met.getD i 0→0<(l.foldl (bf S f) t).met.getD i 0)∧(∀y∈l,(l.foldl (bf S f) t).wi.getD y false=true∨y∈fn'):=by
    intro l
    induction l with
    |nil=>intro t fn _ _ _ hT;exact⟨fn,hT,⟨[],by simp⟩,λ_=>rfl,λ_ h=>h,λ_ h=>h,λy hy=>by simp at hy⟩
    |cons y r ih=>
     intro t fn hl ht hpt hT;have hy:=hl y zaD;obtain⟨fn1,m1⟩:=Ky hS f t y fn ht hy hpt hT;obtain⟨e1,rfl⟩:=m1.pre;obtain⟨fn2,k1,⟨e2,rfl⟩,k3,k4,k5,k6⟩:=ih (bf S f t y) _ (λz hz=>hl z (zaQ _ hz)) (Ok.meet hS f t y ht hy) (zch (oV hS _ f t y ht hy) hpt) m1.fnd;refine⟨_,k1,⟨e1++e2,by simp⟩,λi=>(k3 i).trans (m1.op i),λi hi=>k4 i (m1.wi i hi),λi hi=>k5 i (m1.met i hi),λz hz=>?_⟩;rcases zal.1 hz with rfl|hz
     ·rcases m1.here with h|h
      ·exact Or.inl (k4 _ h)
      ·exact Or.inr (zcx _ h)
     ·exact k6 z hz
   obtain⟨fn,k1,⟨ext,rfl⟩,k3,k4,k5,k6⟩:=key (S a) ((s.hit a).enter a) fin (hS a ha) h2 (by show(s.hit a).pQ (λ_=>1)<f;omega) hF2;have Dp:((S a).foldl (bf S f) ((s.hit a).enter a)).Ok n:=by
    have:∀(l:List Nat) (t:WS),(∀y∈l,y<n)→t.Ok n→(l.foldl (bf S f) t).Ok n:=by
     intro l
     induction l with
     |nil=>intro t _ ht;exact ht
     |cons y r ih=>intro t hl ht;exact ih _ (λz hz=>hl z (zaQ _ hz)) (Ok.meet hS f t y ht (hl y zaD))
    exact this _ _ (hS a ha) h2
   generalize (S a).foldl (bf S f) ((s.hit a).enter a)=t at *;have abK:∀i,(t.leave a).op.getD i false=if i=a then false else t.op.getD i false:=by
    intro i;show(t.op.set a false).getD i false=_;rw[cR _ _ _ _ _ (by rw[Dp.lo];exact ha)]
   refine⟨fin++ext++[a],⟨λx hx=>?_,λi x hx y hy=>?_,k1.wm,λx hx=>?_⟩,⟨ext++[a],by simp⟩,λi=>?_,λi hi=>k4 i hi,λi hi=>k5 i ?_,Or.inr (by simp),k5 a (iW h ha)⟩
   ·by_cases e:x=a
    ·right;simp[e]
    ·rcases k1.cl x hx with ho|hi
     ·left;rw[abK,zaa e];exact ho
     ·right;exact zcx _ hi
   ·by_cases hi:i<(fin++ext).length
    ·rw[zbi hi]at hx;rcases k1.q i x hx y hy with hw|⟨j,hj,Xr⟩
     ·exact Or.inl hw
     ·refine Or.inr ⟨j,hj,?_⟩;rw[zbi (by omega)];exact Xr
    ·rw[zbv (by omega)]at hx;have hia:i-(fin++ext).length=0:=by
      rcases zcB (i-(fin++ext).length)with h|h
      ·exact h
      ·rw[zcp (by simp only[zar,zbk];omega)]at hx;simp at hx
     rw[hia]at hx;simp at hx;subst hx;rcases k6 y hy with hw|hm
     ·exact Or.inl hw
     ·obtain⟨j,hj,Xr⟩:=List.getElem_of_mem hm;refine Or.inr ⟨j,by omega,?_⟩;rw[zbi hj,zat hj,Xr]
   ·rcases zaF.1 hx with hx|hx
    ·exact k1.fm x hx
    ·rw[zbA.1 hx];exact k5 a (iW h ha)
   ·rw[abK];split
    ·rename_i e;rw[e,TP]
    ·rename_i e;rw[k3,abJ,zaa e]
   ·change 0<(s.hit a).met.getD i 0;rw[dJ h ha];split<;>omega
def WS.start (n:Nat):WS:=⟨η n 0,η n false,η n false⟩
theorem ez {α:Type}(n i:Nat)(v:α):(η n v).getD i v=v:=by
 simp[π,List.getElem?_replicate];split<;>rfl
theorem kY (n:Nat):(WS.start n).Ok n:=
 ⟨by simp[WS.start],by simp[WS.start],by simp[WS.start],λi=>by show 0≤(η n (0:Int)).getD i 0;rw[ez];omega,λi hi=>by
   change(η n false).getD i false=true at hi;rw[ez]at hi;exact absurd hi (by simp)⟩
theorem yT (n:Nat):∀i,sW (λ_=>1) i (η n 0)=n:=by
 induction n with
 |zero=>intro i;rfl
 |succ n ih=>intro i;simp[List.replicate_succ,sW,ih];omega
theorem ME (n:Nat)(S:Nat→List Nat):Fnd S (WS.start n) []:=
 ⟨λx hx=>by change 0<(η n (0:Int)).getD x 0 at hx;rw[ez]at hx;omega,λi x hx=>by simp at hx,
   λx hx=>by change(η n false).getD x false=true at hx;rw[ez]at hx;exact absurd hx (by simp),λx hx=>by simp at hx⟩
theorem F6:∀(l:List Nat) (j:Nat) (h:j<l.length),l.idxOf l[j]≤j
 |c::r,0,_=>by simp
 |c::r,j+1,h=>by
  have hj:j<r.length:=by simpa using h
  have ih:=F6 r j hj;rw[List.idxOf_cons];simp only[List.getElem_cons_succ];cases (c==r[j])<;>simp<;>omega
def fj (S:Nat→List Nat)(n:Nat):WS:=bf S (n+1) (WS.start n) 0
def reach (S:Nat→List Nat)(n:Nat)(x:Nat):Prop:=0<(fj S n).met.getD x 0
theorem MF (hn:0<n)(hS:∀x,x<n→∀y∈S x,y<n):∃(R:Nat) (r:Nat→Nat),(∀x,r x≤R)∧reach S n 0∧(∀x,reach S n x→∀y∈S x,reach S n y)∧(∀x,reach S n x→∀y∈S x,(fj S n).wi.getD y false=false→r y<r x):=by
 obtain⟨fin,m⟩:=Ky hS (n+1) (WS.start n) 0 [] (kY n) hn (by show sW (λ_=>1) 0 (η n 0)<n+1;rw[yT];omega) (ME n S);have fK:∀x,reach S n x→x∈fin:=by
  intro x hx;rcases m.fnd.cl x hx with h|h
  ·rw[m.op]at h;change(η n false).getD x false=true at h;rw[ez]at h;exact absurd h (by simp)
  ·exact h
 refine⟨fin.length,λx=>fin.idxOf x,λx=>List.idxOf_le_length,m.hit,λx hx y hy=>?_,λx hx y hy hw=>?_⟩
 ·have hi:=fK x hx;have hlt:=List.idxOf_lt_length_of_mem hi;have hg:fin[fin.idxOf x]?=some x:=by rw[zat hlt,List.getElem_idxOf hlt]
  rcases m.fnd.q _ _ hg y hy with h|⟨j,_,hj⟩
  ·exact m.fnd.wm y h
  ·exact m.fnd.fm y (zbr hj)
 ·have hi:=fK x hx;have hlt:=List.idxOf_lt_length_of_mem hi;have hg:fin[fin.idxOf x]?=some x:=by rw[zat hlt,List.getElem_idxOf hlt]
  rcases m.fnd.q _ _ hg y hy with h|⟨j,hj,Xr⟩
  ·rw[show(bf S (n+1) (WS.start n) 0)=fj S n from rfl,hw]at h;exact absurd h (by simp)
  ·have xJ:j<fin.length:=by
    rcases zaw j fin.length with h|h
    ·exact h
    ·rw[zcp h]at Xr;simp at Xr
   rw[zat xJ]at Xr;have:fin.idxOf y≤j:=by
    rw[←zaM Xr];exact F6 fin j xJ
   show fin.idxOf y<fin.idxOf x;omega
structure TS where
 cE:List Int
 next:Nat
 out:List UInt8
 long:Bool
def TS.add (t:TS)(p:List UInt8):TS:=if t.long then t else if 400<t.out.length+p.length then { t with long:=true } else { t with out:=t.out++p }
def TS.put (t:TS)(a:Nat):TS:={ t.add (35::(θ t.next++[61]))with cE:=t.cE.set a t.next,next:=t.next+1 }
def fY (node:TS→Nat→TS)(l:List Nat):Nat→TS→TS
 |0,t=>t
 |k+1,t=>node (if k=0 then fY node l k t else(fY node l k t).add [32]) (l.getD k 0)
def WF (K:Nat→Int)(S:Nat→List Nat)(At:Nat→List UInt8)(L:Nat→Bool):Nat→Bool→TS→Nat→TS
 |0,_,t,_=>t
 |f+1,false,t,a=>
  if t.long then t
  else if 0≤t.cE.getD a (-1)then t.add (35::(θ (t.cE.getD a (-1))++[35]))
  else
   if K a=1 then WF K S At L f true (WF K S At L f false (((if L a then t.put a else t)).add [40]) ((S a).getD 0 0)) ((S a).getD 1 0)
   else if K a=2 then(fY (WF K S At L f false) (S a) (S a).length ((if L a then t.put a else t).add [35,40])).add [41]
   else(if L a then t.put a else t).add (At a)
 |f+1,true,t,r=>
  if K r=1∧L r=false then WF K S At L f true (WF K S At L f false (t.add [32]) ((S r).getD 0 0)) ((S r).getD 1 0)
  else if K r=0 then t.add [41]
  else(WF K S At L f false (t.add [32,46,32]) r).add [41]
structure TS.Ok (n:Nat) (L:Nat→Bool) (t:TS):Prop where
 ll:t.cE.length=n
 lo:t.long=false→t.out.length≤400
 ln:∀i,-1≤t.cE.getD i (-1)∧t.cE.getD i (-1)<t.next
 lL:∀i,0≤t.cE.getD i (-1)→L i=true
 nx:t.long=false→t.next≤t.out.length
 n2:t.next≤401
theorem dW {t:TS}(h:t.long=true)(p:List UInt8):t.add p=t:=by unfold TS.add;rw[zab h]
theorem kZ {t:TS}(h:t.long=false){p:List UInt8}(hp:400<t.out.length+p.length):t.add p={ t with long:=true }:=by unfold TS.add;rw[zaa (by simp[h]),zab hp]
theorem k8 {t:TS}(h:t.long=false){p:List UInt8}(hp:t.out.length+p.length≤400):t.add p={ t with out:=t.out++p }:=by unfold TS.add;rw[zaa (by simp[h]),zaa (by omega)]
theorem gX (t:TS)(p:List UInt8):(t.add p).cE=t.cE:=by
 unfold TS.add;repeat' split
 all_goals rfl
theorem fQ (t:TS)(p:List UInt8):(t.add p).next=t.next:=by
 unfold TS.add;repeat' split
 all_goals rfl
theorem TS.Ok.add {L:Nat→Bool}{t:TS}(h:t.Ok n L)(p:List UInt8):(t.add p).Ok n L:=by
 refine⟨by rw[gX];exact h.ll,λhl=>?_,by rw[gX,fQ];exact h.ln,by rw[gX];exact h.lL,λhl=>?_,by rw[fQ];exact h.n2⟩;all_goals
  by_cases h1:t.long=true
  ·rw[dW h1,h1]at hl;exact absurd hl (by simp)
  ·have SQ:t.long=false:=by simpa using h1
   by_cases h2:400<t.out.length+p.length
   ·rw[kZ SQ h2]at hl;exact absurd hl (by simp)
   ·rw[k8 SQ (by omega)];have e1:=h.lo SQ;have e2:=h.nx SQ;simp only[zaR];omega
theorem TS.Ok.put {L:Nat→Bool}{t:TS}(h:t.Ok n L){a:Nat}(ha:a<n)(hL:L a=true)(cV:t.long=false):(t.put a).Ok n L:=by
 have h1:=h.add (35::(θ t.next++[61]));have e1:=h.lo cV;have e2:=h.nx cV;refine⟨by simp[TS.put,h.ll],h1.lo,λi=>?_,λi hi=>?_,λhl=>?_,by show t.next+1≤401;omega⟩
 ·show -1≤(t.cE.set a t.next).getD i (-1)∧(t.cE.set a t.next).getD i (-1)<((t.next+1:Nat):Int);rw[cR _ _ _ _ _ (by rw[h.ll];exact ha)];have:=h.ln i;split<;>omega
 ·change 0≤(t.cE.set a t.next).getD i (-1)at hi;rw[cR _ _ _ _ _ (by rw[h.ll];exact ha)]at hi;split at hi
  ·rename_i e;rw[e];exact hL
  ·exact h.lL i hi
 ·change(t.add (35::(θ t.next++[61]))).long=false at hl;show t.next+1≤(t.add (35::(θ t.next++[61]))).out.length;by_cases h2:400<t.out.length+(35::(θ t.next++[61])).length
  ·rw[kZ cV h2]at hl;exact absurd hl (by simp)
  ·rw[k8 cV (by omega)];simp;omega
theorem IY {n:Nat}{L:Nat→Bool}{node:TS→Nat→TS}(hn:∀t y,t.Ok n L→y<n→(node t y).Ok n L)(l:List Nat)(hl:∀y∈l,y<n):∀(k:Nat) (t:TS),k≤l.length→t.Ok n L→(fY node l k t).Ok n L
 |0,t,_,h=>h
 |k+1,t,hk,h=>by
  simp only[fY];have hy:l.getD k 0<n:=hl _ (by simp[π,List.getElem?_eq_getElem (show k<l.length by omega)]);have ih:=IY hn l hl k t (by omega) h;split
  ·exact hn _ _ ih hy
  ·exact hn _ _ (ih.add _) hy
theorem nS {n:Nat}{K:Nat→Int}{S:Nat→List Nat}{At:Nat→List UInt8}{L:Nat→Bool}(hS:∀x,x<n→∀y∈S x,y<n)(h2:∀x,x<n→K x=1→(S x).length=2):∀(f:Nat) (b:Bool) (t:TS) (a:Nat),t.Ok n L→a<n→(WF K S At L f b t a).Ok n L
 |0,_,_,_,h,_=>h
 |f+1,false,t,a,h,ha=>by
  simp only[WF];by_cases cV:t.long=true
  ·rw[zab cV];exact h
  ·rw[zaa cV];by_cases hl:0≤t.cE.getD a (-1)
   ·rw[zab hl];exact h.add _
   ·rw[zaa hl];have h1:(if L a then t.put a else t).Ok n L:=by
     split
     ·rename_i e;exact h.put ha e (by simpa using cV)
     ·exact h
    by_cases k1:K a=1
    ·rw[zab k1];have hlen:=h2 a ha k1;exact nS hS h2 f true _ _ (nS hS h2 f false _ _ (h1.add _) (hS a ha _ (by simp[π,List.getElem?_eq_getElem (show 0<(S a).length by omega)]))) (hS a ha _ (by simp[π,List.getElem?_eq_getElem (show 1<(S a).length by omega)]))
    ·rw[zaa k1];by_cases k2:K a=2
     ·rw[zab k2];exact(IY (λt y ht hy=>nS hS h2 f false t y ht hy) (S a) (hS a ha) _ _ (zac _) (h1.add _)).add _
     ·rw[zaa k2];exact h1.add _
 |f+1,true,t,a,h,ha=>by
  simp only[WF];by_cases c1:K a=1∧L a=false
  ·rw[zab c1];have hlen:=h2 a ha c1.1;exact nS hS h2 f true _ _ (nS hS h2 f false _ _ (h.add _) (hS a ha _ (by simp[π,List.getElem?_eq_getElem (show 0<(S a).length by omega)]))) (hS a ha _ (by simp[π,List.getElem?_eq_getElem (show 1<(S a).length by omega)]))
  ·rw[zaa c1];by_cases c2:K a=0
   ·rw[zab c2];exact h.add _
   ·rw[zaa c2];exact(nS hS h2 f false _ _ (h.add _) ha).add _
theorem kv {K:Nat→Int}{S:Nat→List Nat}{At:Nat→List UInt8}{L:Nat→Bool}:∀(f:Nat) (b:Bool) (t:TS) (a:Nat),t.long=true→WF K S At L f b t a=t
 |0,_,_,_,_=>rfl
 |f+1,false,t,a,h=>by simp only[WF];rw[zab h]
 |f+1,true,t,a,h=>by
  simp only[WF];rw[dW h,dW h,dW h,kv f false t _ h,kv f false t _ h,kv f true t _ h,dW h,ite_self,ite_self]
def need (t:TS):Nat:=if t.long then 1 else 2+(401-t.out.length)
theorem eP (t:TS)(p:List UInt8):need (t.add p)≤need t:=by
 by_cases h:t.long=true
 ·rw[dW h];exact zac _
 ·have h':t.long=false:=by simpa using h
  by_cases h2:400<t.out.length+p.length
  ·rw[kZ h' h2];unfold need;rw[zab rfl,zaa h];omega
  ·rw[k8 h' (by omega)];unfold need;rw[zaa (by simpa using h'),zaa h];simp;omega
theorem sY {t:TS}(h:t.long=false)(ho:t.out.length≤400){p:List UInt8}(hp:1≤p.length):need (t.add p)<need t:=by
 by_cases h2:400<t.out.length+p.length
 ·rw[kZ h h2];unfold need;rw[zab rfl,zaa (by simp[h])];omega
 ·rw[k8 h (by omega)];unfold need;rw[zaa (by simp[h]),zaa (by simp[h])];simp;omega
theorem F7 (t:TS)(a:Nat):need (t.put a)≤need t:=eP t _
theorem sZ (t:TS):1≤need t:=by unfold need;split<;>omega
theorem s6 {node:TS→Nat→TS}(hn:∀t y,need (node t y)≤need t)(l:List Nat):∀(k:Nat) (t:TS),need (fY node l k t)≤need t
 |0,_=>zac _
 |k+1,t=>by
  simp only[fY];have ih:=s6 hn l k t;split
  ·exact zag (hn _ _) ih
  ·exact zag (hn _ _) (zag (eP _ _) ih)
theorem gY {K:Nat→Int}{S:Nat→List Nat}{At:Nat→List UInt8}{L:Nat→Bool}:∀(f:Nat) (b:Bool) (t:TS) (a:Nat),need (WF K S At L f b t a)≤need t
 |0,_,_,_=>zac _
 |f+1,false,t,a=>by
  simp only[WF];by_cases h1:t.long=true
  ·rw[zab h1];exact zac _
  ·rw[zaa h1];by_cases h2:0≤t.cE.getD a (-1)
   ·rw[zab h2];exact eP _ _
   ·rw[zaa h2];have h0:need (if L a then t.put a else t)≤need t:=by
     split
     ·exact F7 _ _
     ·exact zac _
    by_cases k1:K a=1
    ·rw[zab k1];exact zag (gY f true _ _) (zag (gY f false _ _) (zag (eP _ _) h0))
    ·rw[zaa k1];by_cases k2:K a=2
     ·rw[zab k2];exact zag (eP _ _) (zag (s6 (λt y=>gY f false t y) _ _ _) (zag (eP _ _) h0))
     ·rw[zaa k2];exact zag (eP _ _) h0
 |f+1,true,t,a=>by
  simp only[WF];by_cases c1:K a=1∧L a=false
  ·rw[zab c1];exact zag (gY f true _ _) (zag (gY f false _ _) (eP _ _))
  ·rw[zaa c1];by_cases c2:K a=0
   ·rw[zab c2];exact eP _ _
   ·rw[zaa c2];exact zag (eP _ _) (zag (gY f false _ _) (eP _ _))
end Go.Loop
namespace Go.Proofs.YtlhimdjkkiflhaaGreatDoor
open Go.RowKit Go.Loop
variable {w W w':Θ}{v nv v':Λ}{b bo bm bw n B bl bL:Nat}{l:List Int}{s:WS}{t:TS}
def lx (w:Θ)(b:Nat)(l:List Int):Prop:=∀i,i<l.length→w.cell? ⟨b,i,none⟩=some (Γ Δ (l.getD i 0))∧w.frozen? ⟨b,i,none⟩=false
def iA (w:Θ)(b:Nat)(l:List Bool):Prop:=∀i,i<l.length→w.cell? ⟨b,i,none⟩=some (.bool (l.getD i false))∧w.frozen? ⟨b,i,none⟩=false
theorem cell_far {p a:Addr}(h:p.block≠a.block):(w.setCell p v).cell? a=w.cell? a:=Θ.cell?_setCell_other w p a v (λe=>h (by rw[e]))
theorem lx.set (h:lx w b l)(a:Nat)(ha:a<l.length)(v:Int):lx (w.setCell ⟨b,a,none⟩ (Γ Δ v)) b (l.set a v):=by
 intro i hi;rw[List.length_set]at hi;rw[cR _ _ _ _ _ ha,Θ.frozen?_setCell];refine⟨?_,(h i hi).2⟩;by_cases e:i=a
 ·subst e;rw[zab rfl,Θ.cell?_setCell_same (h:=(h i hi).1)]
 ·rw[zaa e,Θ.cell?_setCell_other (h:=by intro x;cases x;exact e rfl)];exact(h i hi).1
theorem iA.set {l:List Bool}(h:iA w b l)(a:Nat)(ha:a<l.length)(v:Bool):iA (w.setCell ⟨b,a,none⟩ (.bool v)) b (l.set a v):=by
 intro i hi;rw[List.length_set]at hi;rw[cR _ _ _ _ _ ha,Θ.frozen?_setCell];refine⟨?_,(h i hi).2⟩;by_cases e:i=a
 ·subst e;rw[zab rfl,Θ.cell?_setCell_same (h:=(h i hi).1)]
 ·rw[zaa e,Θ.cell?_setCell_other (h:=by intro x;cases x;exact e rfl)];exact(h i hi).1
theorem lx.far (h:lx w b l){p:Addr}(hp:p.block≠b)(v:Λ):lx (w.setCell p v) b l:=λi hi=>by
 rw[cell_far hp,Θ.frozen?_setCell];exact h i hi
theorem iA.far {l:List Bool}(h:iA w b l){p:Addr}(hp:p.block≠b)(v:Λ):iA (w.setCell p v) b l:=λi hi=>by
 rw[cell_far hp,Θ.frozen?_setCell];exact h i hi
def ai (G:List Nd)(x:Nat):List Nat:=match G[x]? with|some y=>y.subs.map Int.toNat|none=>[]
structure fI (w:Θ) (p bo bm bw n:Nat) (nv:Λ) (s:WS):Prop where
 c0:w.cell? ⟨p,0,none⟩=some nv
 c1:w.cell? ⟨p,1,none⟩=some (.slice (some ⟨bo,0,none⟩) n n)
 c2:w.cell? ⟨p,2,none⟩=some (.slice (some ⟨bm,0,none⟩) n n)
 c3:w.cell? ⟨p,3,none⟩=some (.slice (some ⟨bw,0,none⟩) n n)
 rm:lx w bm s.met
 rw:iA w bw s.wi
 ro:iA w bo s.op
structure Apart (B p bo bm bw:Nat):Prop where
 hp:B≤p
 ho:B≤bo
 hm:B≤bm
 hw:B≤bw
 po:p≠bo
 pm:p≠bm
 pw:p≠bw
 om:bo≠bm
 ow:bo≠bw
 mw:bm≠bw
theorem fI.hit {p:Nat}(h:fI w p bo bm bw n nv s)(A:Apart B p bo bm bw){a:Nat}(ha:a<s.met.length):fI (w.setCell ⟨bm,a,none⟩ (Γ Δ (s.met.getD a 0+1))) p bo bm bw n nv (s.hit a):=by
 have e:=A.pm.symm;exact⟨by rw[cell_far e];exact h.c0,by rw[cell_far e];exact h.c1,by rw[cell_far e];exact h.c2,
  by rw[cell_far e];exact h.c3,h.rm.set a ha _,h.rw.far A.mw _,h.ro.far A.om.symm _⟩
theorem fI.again {p:Nat}(h:fI w p bo bm bw n nv s)(A:Apart B p bo bm bw){a:Nat}(ha:a<s.wi.length):fI (w.setCell ⟨bw,a,none⟩ (.bool (s.wi.getD a false||s.op.getD a false))) p bo bm bw n nv (s.again a):=by
 have e:=A.pw.symm;exact⟨by rw[cell_far e];exact h.c0,by rw[cell_far e];exact h.c1,by rw[cell_far e];exact h.c2,
  by rw[cell_far e];exact h.c3,h.rm.far A.mw.symm _,h.rw.set a ha _,h.ro.far A.ow.symm _⟩
theorem fI.Qn {p:Nat}(h:fI w p bo bm bw n nv s)(A:Apart B p bo bm bw){a:Nat}(ha:a<s.op.length)(v:Bool):fI (w.setCell ⟨bo,a,none⟩ (.bool v)) p bo bm bw n nv { s with op:=s.op.set a v }:=by
 have e:=A.po.symm;exact⟨by rw[cell_far e];exact h.c0,by rw[cell_far e];exact h.c1,by rw[cell_far e];exact h.c2,
  by rw[cell_far e];exact h.c3,h.rm.far A.om _,h.rw.far A.ow _,h.ro.set a ha _⟩
theorem fI.drew {p:Nat}(h:fI w p bo bm bw n nv s):fI w.drew p bo bm bw n nv s:=⟨h.c0,h.c1,h.c2,h.c3,h.rm,h.rw,h.ro⟩
def cg (k f t:Int)(l:List UInt8)(n d:Int):Λ:= .agg #[.int .u8 k,Γ Δ f,Γ Δ t,.string ⟨⟨l⟩⟩,Γ Δ n,Γ Δ d]
section
attribute [local go_sem] wK yj sJ wL mo
end
theorem wS (a b:List UInt8):(υ (Array.mk a))++(υ (Array.mk b))=⟨⟨a++b⟩⟩:=by
 apply ByteArray.ext;simp
theorem Kz:∀(f u:Nat),u<10^f→(Lib.decDigits u).length≤f+1
 |0,u,h=>by
  have:u=0:=by simpa using h
  subst this;rw[Lib.decDigits_one (by omega)];simp
 |f+1,u,h=>by
  by_cases h10:u<10
  ·rw[Lib.decDigits_one h10];simp
  ·rw[Lib.decDigits,dif_neg h10];have:=Kz f (u/10) (by rw[Nat.pow_succ]at h;omega);simp;omega
theorem F8 (u:Nat)(h:u≤1000000000):(Lib.decDigits u).length≤11:=Kz 10 u (by omega)
def mB (c:UInt8):List UInt8:=
 if c.toNat=92 then[92,92]else if c.toNat=34 then[92,34]else if c.toNat=10 then[92,110]else if c.toNat=9 then[92,116]else[c]
def lZ (l:List UInt8):List UInt8:=34::(l.flatMap mB++[34])
def dV (n d:Int):List UInt8:=if d=1 then θ n else θ n++47::θ d
def s7 (n:Int):List UInt8:=35::92::(if hasName n then nameOf n else[UInt8.ofNat n.toNat])
def eU (x:Nd):List UInt8:=
 if x.kind=0 then[40,41]else if x.kind=3 then lZ x.text else if x.kind=4 then x.text else if x.kind=5 then dV x.n x.d
 else if x.kind=6 then(if x.n=1 then[35,116]else[35,102])else s7 x.n
theorem Qo (l:List UInt8)(k:Nat)(h:k<l.length):(l.take (k+1)).flatMap mB=(l.take k).flatMap mB++mB l[k]:=by
 rw[zcv h,zcy];simp
theorem s8 (n:Int)(h1: -1000000000≤n)(h2:n≤1000000000):(θ n).length≤12:=by
 unfold θ;split
 ·have:=F8 n.natAbs (by omega);simp;omega
 ·have:=F8 n.toNat (by omega);omega
section
attribute [local go_sem] yj
end
open Go.Proofs.Tryz
def ly (W w:Θ)(l:List UInt8):Prop:=∃cs v,cs.size=2∧fu w 116 0 W.heap.size W.heap.size cs v (ζ l)∧Ω W.heap.size W w
theorem ly.start (W:Θ):ly W (W.alloc (.cells #[.pointer none,.slice none 0 0] 116)) []:=
 ⟨_,_,rfl,⟨zac _,zav W _,Or.inl rfl,rfl,zck _ _ _ _⟩,(zad _ _).alloc (zac _) _⟩
theorem bT:116≠5:=by decide
theorem fu.toB {T:ξ}{off:Nat}{cs:Array Λ}{bs:List Λ}(h:fu w T off B b cs v bs):∀k,v.ownBlock=some k→B≤k:=λk hk=>(h.own.lt k hk).1
theorem ly.fT {l:List UInt8}(h:ly W w l)(c:UInt8)(hl:l.length≤100000):Ξ prog 191 #[.pointer (some ⟨W.heap.size,0,none⟩),.int .u8 c.toNat] w λe w'=>e=.returned .nilIface∧ly W w' (l++[c]):=by
 obtain⟨cs,v,hs,hb,hw⟩:=h;have hsz:=hw.size;refine(qH (hs▸yz) bT hb c.toNat (by rw[Lib.byteCells_length];omega) hsz).mono ?_;rintro e w' ⟨rfl,v',h1,h2⟩;refine⟨rfl,_,v',?_,by rw[Lib.byteCells_append];exact h1,hw.trans (h2.below hsz (zac _) hb.toB)⟩;simp[kR,hs]
theorem ly.writeString {l:List UInt8}(h:ly W w l)(s:List UInt8)(hl:l.length+s.length≤100000):Ξ prog 154 #[.pointer (some ⟨W.heap.size,0,none⟩),.string ⟨⟨s⟩⟩] w λe w'=>e=.returned (.tuple #[Γ Δ s.length,.nilIface])∧ly W w' (l++s):=by
 obtain⟨cs,v,hs,hb,hw⟩:=h;have hsz:=hw.size;refine(nP (hs▸yz) bT hb ⟨⟨s⟩⟩ (by rw[Lib.byteCells_length];show l.length+s.length≤_;omega) hsz).mono ?_;rintro e w' ⟨rfl,v',h1,h2⟩;refine⟨rfl,_,v',?_,by rw[Lib.byteCells_append];exact h1,hw.trans (h2.below hsz (zac _) hb.toB)⟩;simp[kR,hs]
theorem ly.string {l:List UInt8}(h:ly W w l)(h0:l≠[]):Ξ prog 63 #[.pointer (some ⟨W.heap.size,0,none⟩)] w λe w'=>e=.returned (.string ⟨⟨l⟩⟩)∧Ω W.heap.size W w':=by
 obtain⟨cs,v,hs,hb,hw⟩:=h;refine(lW hb h0).mono ?_;rintro e w' ⟨rfl,h2⟩;exact⟨rfl,hw.trans (h2.below hw.size (zac _) hb.toB)⟩
section
attribute [local go_sem] yj
theorem IZ (l:List UInt8)(w:Θ)(hl:l.length≤400):Ξ prog 156 #[.string ⟨⟨l⟩⟩] w λe w'=>e=.returned (.string ⟨⟨lZ l⟩⟩)∧Ω w.heap.size w w':=by
 have H0:Hid (ly w (w.alloc (.cells #[.pointer none,.slice none 0 0] 116)) []):=ly.start w;go_enter func156,ntmps156;go_wp2_with (go_at_call 191;refine(H0.out.fT 34 (by simp)).mono ?_);rintro e w1 ⟨rfl,h1⟩;have H1:Hid (ly w w1 ([]++[34])):=h1;clear h1 H0;go_wp2_with fail;go_loopw [9] (λi wr=>∃(k:Nat) (o:List UInt8),k≤l.length∧i=Γ Δ k∧o.length≤1+2*k∧Hid (ly w wr o)∧Hid (o=34::(l.take k).flatMap mB)) (λi _=>l.length-(φ i).toNat)
 case atStart=>exact⟨0,[34],zaq _,rfl,by simp,H1.out,rfl⟩
 case round=>
  obtain⟨k,o,hk,rfl,AJ,H2,hle⟩:=hrel;by_cases hlt:k<l.length
  ·have HS:Hid _:=Qo l k hlt;cases e92:((l[k].toNat :Int)==92)
   ·cases e34:((l[k].toNat :Int)==34)
    ·cases OC:((l[k].toNat :Int)==10)
     ·cases e9:((l[k].toNat :Int)==9)
      ·have HE:Hid (mB l[k]=[l[k]]):=by
        show _=_;rw[zah]at e92 e34 OC e9;unfold mB;rw[zaa (by omega),zaa (by omega),zaa (by omega),zaa (by omega)]
       go_wp2_with (go_at_call 191;refine(H2.out.fT l[k] (by first|omega|(simp;omega))).mono ?_);rintro e w2 ⟨rfl,h2⟩;have H3:Hid (ly w w2 (o++[l[k]])):=h2;clear h2 H2;go_wp2_with fail;go_roundw
       case rel=>exact⟨k+1,_,by omega,by go_num,by simp;omega,H3.out,by show _=_;rw[HS.out,HE.out,hle.out];simp⟩
       case measure=>simp[φ];omega
      ·have HE:Hid (mB l[k]=[92,116]):=by
        show _=_;rw[zah]at e92 e34 OC;rw[zaJ]at e9;unfold mB;rw[zaa (by omega),zaa (by omega),zaa (by omega),zab (by omega)]
       go_wp2_with (go_at_call 154;refine(H2.out.writeString [92,116] (by first|omega|(simp;omega))).mono ?_);rintro e w2 ⟨rfl,h2⟩;have H3:Hid (ly w w2 (o++[92,116])):=h2;clear h2 H2;go_wp2_with fail;go_roundw
       case rel=>exact⟨k+1,_,by omega,by go_num,by simp;omega,H3.out,by show _=_;rw[HS.out,HE.out,hle.out];simp⟩
       case measure=>simp[φ];omega
     ·have HE:Hid (mB l[k]=[92,110]):=by
       show _=_;rw[zah]at e92 e34;rw[zaJ]at OC;unfold mB;rw[zaa (by omega),zaa (by omega),zab (by omega)]
      go_wp2_with (go_at_call 154;refine(H2.out.writeString [92,110] (by first|omega|(simp;omega))).mono ?_);rintro e w2 ⟨rfl,h2⟩;have H3:Hid (ly w w2 (o++[92,110])):=h2;clear h2 H2;go_wp2_with fail;go_roundw
      case rel=>exact⟨k+1,_,by omega,by go_num,by simp;omega,H3.out,by show _=_;rw[HS.out,HE.out,hle.out];simp⟩
      case measure=>simp[φ];omega
    ·have HE:Hid (mB l[k]=[92,34]):=by
      show _=_;rw[zah]at e92;rw[zaJ]at e34;unfold mB;rw[zaa (by omega),zab (by omega)]
     have HC:Hid (l[k]=34):=by
      rw[zaJ]at e34;exact UInt8.toNat_inj.1 (by have:(34:UInt8).toNat=34:=rfl;omega)
     go_wp2_with (go_at_call 191;refine(H2.out.fT 92 (by first|omega|(simp;omega))).mono ?_);rintro e w2 ⟨rfl,h2⟩;have HA:Hid (ly w w2 (o++[92])):=h2;clear h2 H2;go_wp2_with (go_at_call 191;refine(HA.out.fT l[k] (by first|omega|(simp;omega))).mono ?_);rintro e w3 ⟨rfl,h3⟩;have H3:Hid (ly w w3 (o++[92]++[l[k]])):=h3;clear h3 HA;go_wp2_with fail;go_roundw
     case rel=>exact⟨k+1,_,by omega,by go_num,by simp;omega,H3.out,by show _=_;rw[HS.out,HE.out,hle.out];simp[HC.out]⟩
     case measure=>simp[φ];omega
   ·have HE:Hid (mB l[k]=[92,92]):=by
     show _=_;rw[zaJ]at e92;unfold mB;rw[zab (by omega)]
    have HC:Hid (l[k]=92):=by
     rw[zaJ]at e92;exact UInt8.toNat_inj.1 (by have:(92:UInt8).toNat=92:=rfl;omega)
    go_wp2_with (go_at_call 191;refine(H2.out.fT 92 (by first|omega|(simp;omega))).mono ?_);rintro e w2 ⟨rfl,h2⟩;have HA:Hid (ly w w2 (o++[92])):=h2;clear h2 H2;go_wp2_with (go_at_call 191;refine(HA.out.fT l[k] (by first|omega|(simp;omega))).mono ?_);rintro e w3 ⟨rfl,h3⟩;have H3:Hid (ly w w3 (o++[92]++[l[k]])):=h3;clear h3 HA;go_wp2_with fail;go_roundw
    case rel=>exact⟨k+1,_,by omega,by go_num,by simp;omega,H3.out,by show _=_;rw[HS.out,HE.out,hle.out];simp[HC.out]⟩
    case measure=>simp[φ];omega
  ·go_wp2_with (go_at_call 191;refine(H2.out.fT 34 (by first|omega|(simp;omega))).mono ?_);rintro e w2 ⟨rfl,h2⟩;have H3:Hid (ly w w2 (o++[34])):=h2;clear h2 H2;go_wp2_with (go_at_call 63;refine(H3.out.string (by simp)).mono ?_);rintro e w3 ⟨rfl,hb⟩;have HB:Hid (Ω w.heap.size w w3):=hb;clear hb;go_wp2_with fail;go_ret;refine⟨fe ?_,HB.out⟩;rw[hle.out,zbJ (by omega)];simp[lZ]
end
def Pow (w:Θ):Prop:=Lib.TabIs prog w "internal/strconv.uint64pow10" .u64 Lib.pow10Tab
theorem Pow.on (h:Pow w)(hb:Ω w.heap.size w w'):Pow w':=Lib.tabBelow_of_tabIs h w' hb
theorem oW (n:Int)(w:Θ)(h1: -1000000000≤n)(h2:n≤1000000000)(hp:Pow w):Ξ prog 100 #[Γ Δ n] w λe w'=>e=.returned (.string ⟨⟨θ n⟩⟩)∧Ω w.heap.size w w':=by
 refine(Tryz.strconv_Itoa n (by omega) (by omega) w hp).mono ?_;rintro e w' ⟨rfl,k,os,rfl⟩;exact⟨rfl,Lib.below_grow _ w (zac _) k os⟩
def uD (n:Int):List UInt8:=if n=1 then[35,116]else[35,102]
theorem MG (n:Int)(w:Θ):Ξ prog 158 #[Γ Δ n] w λe w'=>e=.returned (.string ⟨⟨uD n⟩⟩)∧w'=w:=by
 cases hn:(n==1)
 ·have HV:Hid (uD n=[35,102]):=by show _=_;unfold uD;rw[zah]at hn;rw[zaa hn]
  go_enter func158,ntmps158;go_wp2_with fail;go_ret;exact⟨fe HV.out.symm,rfl⟩
 ·have HV:Hid (uD n=[35,116]):=by show _=_;unfold uD;rw[zaJ]at hn;rw[zab hn]
  go_enter func158,ntmps158;go_wp2_with fail;go_ret;exact⟨fe HV.out.symm,rfl⟩
theorem Dq:∀k:Nat,k<128→Utf8.encode (k:Int)=⟨⟨[UInt8.ofNat k]⟩⟩:=by decide +kernel
theorem Qp (n:Int)(w:Θ)(hc:jf n=true):Ξ prog 159 #[Γ Δ n] w λe w'=>e=.returned (.string ⟨⟨s7 n⟩⟩)∧w'=w:=by
 have ks:=wS;have HNm:Hid (s7 n=35::92::(if hasName n then nameOf n else[UInt8.ofNat n.toNat])):=rfl
 have hln:(nameOf n).length≤7:=by unfold nameOf;repeat' split
                                  all_goals simp
 cases hn:hasName n
 ·have hr:33≤n∧n≤126:=by unfold jf at hc;rw[hn]at hc;simpa using hc
  obtain⟨k,rfl⟩:∃k:Nat,n=k:=⟨n.toNat,by omega⟩;have he:=Dq k (by omega);go_enter func159,ntmps159;go_wp2_with (go_at_call 151;refine(ic _ _).mono ?_);rintro e w1 ⟨rfl,rfl⟩;rw[hn];go_wp2_with fail;go_ret;refine⟨fe ?_,rfl⟩;rw[HNm.out,hn];simp
 ·go_enter func159,ntmps159;go_wp2_with (go_at_call 151;refine(ic _ _).mono ?_);rintro e w1 ⟨rfl,rfl⟩;rw[hn];go_wp2_with fail;go_ret;refine⟨fe ?_,rfl⟩;rw[HNm.out,hn];simp
theorem I0 (n d:Int)(w:Θ)(n1: -1000000≤n)(n2:n≤1000000)(d1:1≤d)(d2:d≤1000000)(hp:Pow w):Ξ prog 157 #[Γ Δ n,Γ Δ d] w λe w'=>e=.returned (.string ⟨⟨dV n d⟩⟩)∧Ω w.heap.size w w':=by
 have rq:=s8 n (by omega) (by omega);have hl2:=s8 d (by omega) (by omega);have ks:=wS;have HP:Hid (Pow w):=hp;clear hp;cases hd:(d==1)
 ·have HN:Hid (dV n d=θ n++47::θ d):=by show _=_;rw[zah]at hd;unfold dV;rw[zaa hd]
  go_enter func157,ntmps157;go_wp2_with (go_at_call 100;refine(oW n _ (by omega) (by omega) HP.out).mono ?_);rintro e w1 ⟨rfl,hb1⟩;have jb:Hid (Ω w.heap.size w w1):=hb1;clear hb1;go_wp2_with (go_at_call 100;refine(oW d _ (by omega) (by omega) (HP.out.on jb.out)).mono ?_);rintro e w2 ⟨rfl,hb2⟩;have iB:Hid (Ω w.heap.size w w2):=jb.out.trans (hb2.mono jb.out.size);clear hb2;go_wp2_with fail;go_ret;refine⟨fe ?_,iB.out⟩;rw[HN.out];first|done|simp
 ·have HN:Hid (dV n d=θ n):=by show _=_;rw[zaJ]at hd;unfold dV;rw[zab hd]
  go_enter func157,ntmps157;go_wp2_with (go_at_call 100;refine(oW n _ (by omega) (by omega) HP.out).mono ?_);rintro e w1 ⟨rfl,hb1⟩;have jb:Hid (Ω w.heap.size w w1):=hb1;clear hb1;go_wp2_with fail;go_ret;exact⟨fe HN.out.symm,jb.out⟩
theorem Za (x:Nd)(w:Θ)(hk:x.kind=0):Ξ prog 104 #[dF x] w λe w'=>e=.returned (.string ⟨⟨eU x⟩⟩)∧Ω w.heap.size w w':=by
 have HV:Hid (eU x=[40,41]):=by show _=_;unfold eU;rw[zab hk]
 have hb3:(x.kind==3)=false:=by rw[hk];decide
 have hb4:(x.kind==4)=false:=by rw[hk];decide
 have j8:(x.kind==5)=false:=by rw[hk];decide
 have nX:(x.kind==6)=false:=by rw[hk];decide
 have DT:(x.kind==7)=false:=by rw[hk];decide
 clear hk;unfold dF;go_enter func104,ntmps104;go_wp2_with fail;go_ret;exact⟨fe HV.out.symm,aD⟩
theorem Zb (x:Nd)(w:Θ)(ht:x.text.length≤400)(hk:x.kind=3):Ξ prog 104 #[dF x] w λe w'=>e=.returned (.string ⟨⟨eU x⟩⟩)∧Ω w.heap.size w w':=by
 have HV:Hid (eU x=lZ x.text):=by show _=_;unfold eU;rw[zaa (by omega),zab hk]
 have hb3:(x.kind==3)=true:=by rw[hk];decide
 have hb4:(x.kind==4)=false:=by rw[hk];decide
 have j8:(x.kind==5)=false:=by rw[hk];decide
 have nX:(x.kind==6)=false:=by rw[hk];decide
 have DT:(x.kind==7)=false:=by rw[hk];decide
 clear hk;unfold dF;go_enter func104,ntmps104;go_wp2_with (go_at_call 156;refine(IZ x.text _ ht).mono ?_);rintro e w1 ⟨rfl,hb⟩;have HB:Hid (Ω w.heap.size w w1):=aD.trans (hb.mono (by simp));clear hb;go_wp2_with fail;go_ret;exact⟨fe HV.out.symm,HB.out⟩
theorem Zc (x:Nd)(w:Θ)(hk:x.kind=4):Ξ prog 104 #[dF x] w λe w'=>e=.returned (.string ⟨⟨eU x⟩⟩)∧Ω w.heap.size w w':=by
 have HV:Hid (eU x=x.text):=by show _=_;unfold eU;rw[zaa (by omega),zaa (by omega),zab hk]
 have hb3:(x.kind==3)=false:=by rw[hk];decide
 have hb4:(x.kind==4)=true:=by rw[hk];decide
 have j8:(x.kind==5)=false:=by rw[hk];decide
 have nX:(x.kind==6)=false:=by rw[hk];decide
 have DT:(x.kind==7)=false:=by rw[hk];decide
 clear hk;unfold dF;go_enter func104,ntmps104;go_wp2_with fail;go_ret;exact⟨fe HV.out.symm,aD⟩
theorem Zd (x:Nd)(w:Θ)(n1: -1000000≤x.n)(n2:x.n≤1000000)(d1:1≤x.d)(d2:x.d≤1000000)(hp:Pow w)(hk:x.kind=5):Ξ prog 104 #[dF x] w λe w'=>e=.returned (.string ⟨⟨eU x⟩⟩)∧Ω w.heap.size w w':=by
 have HV:Hid (eU x=dV x.n x.d):=by show _=_;unfold eU;rw[zaa (by omega),zaa (by omega),zaa (by omega),zab hk]
 have hb3:(x.kind==3)=false:=by rw[hk];decide
 have hb4:(x.kind==4)=false:=by rw[hk];decide
 have j8:(x.kind==5)=true:=by rw[hk];decide
 have nX:(x.kind==6)=false:=by rw[hk];decide
 have DT:(x.kind==7)=false:=by rw[hk];decide
 clear hk;have HPA:Hid (∀o:Obj,Pow (w.alloc o)):=λo=>hp.on aD;clear hp;unfold dF;go_enter func104,ntmps104;go_wp2_with (go_at_call 157;refine(I0 x.n x.d _ n1 n2 d1 d2 (HPA.out _)).mono ?_);rintro e w1 ⟨rfl,hb⟩;have HB:Hid (Ω w.heap.size w w1):=aD.trans (hb.mono (by simp));clear hb;go_wp2_with fail;go_ret;exact⟨fe HV.out.symm,HB.out⟩
theorem Ze (x:Nd)(w:Θ)(hk:x.kind=6):Ξ prog 104 #[dF x] w λe w'=>e=.returned (.string ⟨⟨eU x⟩⟩)∧Ω w.heap.size w w':=by
 have HV:Hid (eU x=uD x.n):=by show _=_;unfold eU;rw[zaa (by omega),zaa (by omega),zaa (by omega),zaa (by omega),zab hk];rfl
 have hb3:(x.kind==3)=false:=by rw[hk];decide
 have hb4:(x.kind==4)=false:=by rw[hk];decide
 have j8:(x.kind==5)=false:=by rw[hk];decide
 have nX:(x.kind==6)=true:=by rw[hk];decide
 have DT:(x.kind==7)=false:=by rw[hk];decide
 clear hk;unfold dF;go_enter func104,ntmps104;go_wp2_with (go_at_call 158;refine(MG x.n _).mono ?_);rintro e w1 ⟨rfl,rfl⟩;go_wp2_with fail;go_ret;exact⟨fe HV.out.symm,aD⟩
theorem Zf (x:Nd)(w:Θ)(hc:jf x.n=true)(hk:x.kind=7):Ξ prog 104 #[dF x] w λe w'=>e=.returned (.string ⟨⟨eU x⟩⟩)∧Ω w.heap.size w w':=by
 have HV:Hid (eU x=s7 x.n):=by show _=_;unfold eU;rw[zaa (by omega),zaa (by omega),zaa (by omega),zaa (by omega),zaa (by omega)]
 have hb3:(x.kind==3)=false:=by rw[hk];decide
 have hb4:(x.kind==4)=false:=by rw[hk];decide
 have j8:(x.kind==5)=false:=by rw[hk];decide
 have nX:(x.kind==6)=false:=by rw[hk];decide
 have DT:(x.kind==7)=true:=by rw[hk];decide
 clear hk;unfold dF;go_enter func104,ntmps104;go_wp2_with (go_at_call 159;refine(Qp x.n _ hc).mono ?_);rintro e w1 ⟨rfl,rfl⟩;go_wp2_with fail;go_ret;exact⟨fe HV.out.symm,aD⟩
theorem I1 (S:Nat→List Nat)(f:Nat)(t:WS)(l:List Nat)(k:Nat)(h:k<l.length):(l.take (k+1)).foldl (bf S f) t=bf S f ((l.take k).foldl (bf S f) t) l[k]:=by
 rw[zcv h,List.foldl_append];rfl
theorem KA {n:Nat}{S:Nat→List Nat}(hS:∀x,x<n→∀y∈S x,y<n)(f:Nat):∀(l:List Nat) (t:WS),(∀y∈l,y<n)→t.Ok n→(l.foldl (bf S f) t).Ok n
 |[],_,_,ht=>ht
 |y::r,t,hl,ht=>KA hS f r _ (λz hz=>hl z (zaQ _ hz)) (Ok.meet hS f t y ht (hl y zaD))
theorem F9 {n:Nat}{S:Nat→List Nat}(hS:∀x,x<n→∀y∈S x,y<n)(g:Nat→Nat)(f:Nat):∀(l:List Nat) (t:WS),(∀y∈l,y<n)→t.Ok n→(l.foldl (bf S f) t).pQ g≤t.pQ g
 |[],_,_,_=>zac _
 |y::r,t,hl,ht=>zag (F9 hS g f r _ (λz hz=>hl z (zaQ _ hz)) (Ok.meet hS f t y ht (hl y zaD))) (oV hS g f t y ht (hl y zaD))
theorem KB {n:Nat}{S:Nat→List Nat}(hS:∀x,x<n→∀y∈S x,y<n)(f:Nat):∀(l:List Nat) (t:WS) (k:Nat),(∀y∈l,y<n)→t.Ok n→t.Bd S k→(l.foldl (bf S f) t).Bd S (k+l.length)
 |[],_,_,_,_,hk=>hk
 |y::r,t,k,hl,ht,hk=>by
  have:=KB hS f r (bf S f t y) (k+1) (λz hz=>hl z (zaQ _ hz)) (Ok.meet hS f t y ht (hl y zaD)) (Bd.meet hS f t y k ht (hl y zaD) hk);simp only[List.foldl_cons,zar];rw[show k+(r.length+1)=k+1+r.length by omega];exact this
theorem rB {N:Nat}{S:Nat→List Nat}(hS:∀x,x<N→∀y∈S x,y<N)(f:Nat)(s:WS)(n c k:Nat)(cG:s.Ok N)(hn:n<N)(hf:s.pQ (λ_=>1)<f+1)(vL:s.Bd S c)(hm:s.met.getD n 0=0)(hk:k≤(S n).length):(((S n).take k).foldl (bf S f) ((s.hit n).enter n)).Ok N∧(((S n).take k).foldl (bf S f) ((s.hit n).enter n)).pQ (λ_=>1)<f∧(((S n).take k).foldl (bf S f) ((s.hit n).enter n)).Bd S (c+1-(S n).length + k)∧(S n).length≤c:=by
 have h2:((s.hit n).enter n).Ok N:=(cG.hit hn).enter hn (iW cG hn);have hl:∀y∈(S n).take k,y<N:=λy hy=>hS n hn y (List.mem_of_mem_take hy);have hp:=pS cG hn (λ_=>1);have PF:=pS cG hn (λx=>(S x).length);rw[zab hm]at hp PF;have hc:(S n).length≤c:=by have:=vL n;omega
 refine⟨KA hS f _ _ hl h2,?_,?_,hc⟩
 ·have:=F9 hS (λ_=>1) f _ _ hl h2;have e:((s.hit n).enter n).pQ (λ_=>1)=(s.hit n).pQ (λ_=>1):=rfl;omega
 ·have hb2:((s.hit n).enter n).Bd S (c+1-(S n).length):=by
   intro i;show(s.hit n).met.getD i 0+((s.hit n).pQ (λx=>(S x).length):Nat)≤_;rw[dJ cG hn];have h1:=vL i;have h3:=vL n;split<;>omega
  have:=KB hS f _ _ _ hl h2 hb2;rwa[zcM,Nat.min_eq_left hk]at this
theorem iX (G:List Nd)(x:Nat)(h:x<G.length):ai G x=G[x].subs.map Int.toNat:=by
 unfold ai;rw[zat h]
theorem mC (l:List Int)(all:Int)(h:eT l all=true)(k:Nat)(hk:k<l.length):0≤l.getD k 0∧l.getD k 0<all:=by
 unfold eT at h;have:=zaC.1 h _ (zbx hk);simp[π,List.getElem?_eq_getElem hk]at this ⊢;exact this
theorem k9 (G:List Nd)(ia:∀x (h:x<G.length),eT G[x].subs G.length=true):∀x,x<G.length→∀y∈ai G x,y<G.length:=by
 intro x hx y hy;rw[iX G x hx]at hy;obtain⟨v,hv,rfl⟩:=zbo.1 hy;have:=zaC.1 (ia x hx) v hv;simp at this;omega
theorem Qq (G:List Nd)(b o cap:Nat)(W0:Θ)(hG:Hid (bK W0 b o G))(_hn:G.length≤150)(ia:Hid (∀x (h:x<G.length),eT G[x].subs G.length=true))(p bo bm bw:Nat)(A:Apart W0.heap.size p bo bm bw):∀(f:Nat) (s:WS) (a:Int) (w:Θ) (c:Nat),s.Ok G.length→0≤a→a<G.length→s.pQ (λ_=>1)<f→s.Bd (ai G) c→c+1≤1000000→Ω W0.heap.size W0 w→fI w p bo bm bw G.length (.slice (some ⟨b,o,none⟩) G.length cap) s→Ξ prog 45 #[.pointer (some ⟨p,0,none⟩),Γ Δ a] w λe w'=>e=.returned (.tuple #[])∧fI w' p bo bm bw G.length (.slice (some ⟨b,o,none⟩) G.length cap) (bf (ai G) f s a.toNat)∧Ω W0.heap.size W0 w':=by
 intro f
 induction f with
 |zero=>intro s a w c _ _ _ h;omega
 |succ f ih=>
  intro s a w c cG ha0 ha hf vL hc hb hw;have IH:Hid _:=ih;clear ih;obtain⟨n,rfl⟩:=zbq ha0;rw[zbn];have jM:n<G.length:=by omega
  have Xs:n<s.met.length:=by rw[cG.lm];exact jM
  have hbn:=vL n;have hnn:=cG.nn n;have GZ:=hw.hit A Xs;have hb1:Ω W0.heap.size W0 (w.setCell ⟨bm,n,none⟩ (Γ Δ (s.met.getD n 0+1))):=hb.setCell A.hm _;obtain⟨c0,c1,c2,c3,rm,Xt,ro⟩:=hw;have hmc:=(rm n Xs).1;have hmf:=(rm n Xs).2;have DU:Hid _:=cG;have HBD:Hid _:=vL;have hval:∃m:Int,Hid (m=s.met.getD n 0):=⟨_,rfl⟩;obtain⟨m,hm⟩:=hval;have Xu:(s.hit n).met.getD n 0=m+1:=by rw[dJ cG jM,zab rfl,hm.out]
  rw[←hm.out]at hmc hnn hbn hb1 GZ;have TC:m≤1000000:=by omega
  have jb:Hid _:=hb1;have I2:Hid _:=GZ;have HM1:Hid _:=Xu;clear GZ cG vL hb1 rm Xt ro Xs hbn Xu;go_enter func45,ntmps45
  go_upto_region 1 with fail
  generalize w.setCell ⟨bm,n,none⟩ (Γ Δ (m+1))=w1 at *;clear c0 c1 c2 c3 hmc hmf;obtain⟨d0,d1,d2,d3,rm,Xt,ro⟩:=I2.out;have Xs:n<(s.hit n).met.length:=by rw[(DU.out.hit jM).lm];exact jM
  have hwl:n<(s.hit n).wi.length:=by rw[(DU.out.hit jM).lw];exact jM
  have I3:n<(s.hit n).op.length:=by rw[(DU.out.hit jM).lo];exact jM
  have e0:=(rm n Xs).1;rw[HM1.out]at e0;by_cases P7:0<m
  ·have e1:=(Xt n hwl).1;have e2:=(Xt n hwl).2;have e3:=(ro n I3).1;have HA:Hid _:=I2.out.again A hwl;have HBa:Hid _:=λv=>jb.out.setCell (p:=⟨bw,n,none⟩) A.hw v;have HF:Hid (bf (ai G) (f+1) s n=(s.hit n).again n):=by show _=_;simp only[bf];rw[zab (by rw[←hm.out];exact P7)]
   rw[show(s.hit n).wi=s.wi from rfl]at e1 HA;rw[show(s.hit n).op=s.op from rfl]at e3 HA;clear rm Xt ro Xs hwl I3 IH;cases NR:s.wi.getD n false
   ·cases hop:s.op.getD n false
    ·rw[NR]at e1;rw[hop]at e3;rw[NR,hop]at HA;clear NR hop;go_wp2_with fail;go_region;go_wp2_with fail;refine zao (results_none rfl _ _ _) rfl ?_;refine⟨rfl,?_,?_⟩
     ·rw[HF.out];exact HA.out.drew
     ·exact(HBa.out _).drew
    ·rw[NR]at e1;rw[hop]at e3;rw[NR,hop]at HA;clear NR hop;go_wp2_with fail;go_region;go_wp2_with fail;refine zao (results_none rfl _ _ _) rfl ?_;refine⟨rfl,?_,?_⟩
     ·rw[HF.out];exact HA.out.drew
     ·exact(HBa.out _).drew
   ·rw[NR]at e1;rw[NR,Bool.true_or]at HA;clear NR e3;go_wp2_with fail;go_region;go_wp2_with fail;refine zao (results_none rfl _ _ _) rfl ?_;refine⟨rfl,?_,?_⟩
    ·rw[HF.out];exact HA.out.drew
    ·exact(HBa.out _).drew
  ·have DN:m≤0:=by omega
   have e3:=(ro n I3).1;have e4:=(ro n I3).2;have HE:Hid _:=I2.out.Qn A I3 true;have HBe:Hid _:=jb.out.setCell (p:=⟨bo,n,none⟩) A.ho (.bool true);have HF:Hid (bf (ai G) (f+1) s n=((ai G n).foldl (bf (ai G) f) ((s.hit n).enter n)).leave n):=by show _=_;simp only[bf];rw[zaa (by rw[←hm.out];exact P7)]
   have HM0:Hid (s.met.getD n 0=0):=by show _=_;rw[←hm.out];omega
   have HS:Hid _:=k9 G ia.out;have abL:=(hG.out n jM).below HBe.out;have HSN:Hid _:=iX G n jM;have HSB:Hid _:=ia.out n jM;have HI0:Hid _:=(hG.out n jM).ints;clear rm Xt ro Xs hwl I3 hm P7
   go_upto_region 4 with fail
   generalize w1.setCell ⟨bo,n,none⟩ (.bool true)=w2 at *;obtain⟨c0,c1,c2,c3,c4,hi,ht,hs⟩:=abL;have HI:Hid _:=hi;have HL:Hid _:=hs;obtain⟨f0,f1,f2,f3,rm,Xt,ro⟩:=HE.out;clear d0 d1 d2 d3 e0 e3 e4 c0 c1 c2 c3 hi ht hs f1 f2 f3 rm Xt ro jb I2 HM1;generalize G[n]=x at *;rcases HI0.out with h|⟨sb,so,Nu,hc⟩
   ·have HE0:Hid _:=h;clear h;go_wp2_with fail;go_loopw [64] (λi wr=>∃k:Nat,k≤x.subs.length∧i=Γ Δ k∧Hid (fI wr p bo bm bw G.length (.slice (some ⟨b,o,none⟩) G.length cap) (((ai G n).take k).foldl (bf (ai G) f) ((s.hit n).enter n)))∧Hid (Ω W0.heap.size W0 wr)) (λi _=>x.subs.length-(φ i).toNat)
    case atStart=>exact⟨0,zaq _,rfl,HE.out,HBe.out⟩
    case round=>
     obtain⟨k,hk,rfl,yU,G1⟩:=hrel;have Uu:(ai G n).length=x.subs.length:=by rw[HSN.out];simp
     have NT:Hid _:=Uu;clear Uu;by_cases hlt:k<x.subs.length
     ·exfalso;rw[HE0.out]at hlt;simp at hlt
     ·have S3:k=x.subs.length:=by omega
      have hw4:=yU.out;rw[zbJ (by rw[NT.out];omega)]at hw4;have Dp:=(rB HS.out f s n c (ai G n).length DU.out jM hf HBD.out HM0.out (zac _)).1;rw[zbJ (zac _)]at Dp;have I3:n<((ai G n).foldl (bf (ai G) f) ((s.hit n).enter n)).op.length:=by rw[Dp.lo];exact jM
      have jL:Hid _:=hw4.Qn A I3 false;have qJ:Hid _:=G1.out.setCell (p:=⟨bo,n,none⟩) A.ho (.bool false);have g1:=hw4.c1;obtain⟨g2,g3⟩:=hw4.ro n I3;clear hw4 I3 Dp yU G1;generalize ((ai G n).foldl (bf (ai G) f) ((s.hit n).enter n))=t at *;generalize t.op.getD n false=ob at *;go_wp2_with fail
      go_end0
      refine⟨rfl,?_,qJ.out⟩;rw[HF.out];exact jL.out
   ·have HC:Hid _:=hc;rw[Nu]at c4;clear hc Nu;go_wp2_with fail;go_loopw [64] (λi wr=>∃k:Nat,k≤x.subs.length∧i=Γ Δ k∧Hid (fI wr p bo bm bw G.length (.slice (some ⟨b,o,none⟩) G.length cap) (((ai G n).take k).foldl (bf (ai G) f) ((s.hit n).enter n)))∧Hid (Ω W0.heap.size W0 wr)) (λi _=>x.subs.length-(φ i).toNat)
    case atStart=>exact⟨0,zaq _,rfl,HE.out,HBe.out⟩
    case round=>
     obtain⟨k,hk,rfl,yU,G1⟩:=hrel;have Uu:(ai G n).length=x.subs.length:=by rw[HSN.out];simp
     have NT:Hid _:=Uu;clear Uu;by_cases hlt:k<x.subs.length
     ·have hcell:=cd G1.out (HC.out k hlt);obtain⟨tok,abM,tbd,tc⟩:=rB HS.out f s n c k DU.out jM hf HBD.out HM0.out (by rw[NT.out];omega);obtain⟨v0,v1⟩:=mC _ _ HSB.out k hlt;have Xv:(ai G n)[k]'(by rw[NT.out];exact hlt)=(x.subs.getD k 0).toNat:=by
       have e:∀(l:List Nat) (hl:k<l.length),l=x.subs.map Int.toNat→l[k]=(x.subs.getD k 0).toNat:=by
        intro l hl e;subst e;simp[π,List.getElem?_eq_getElem hlt]
       exact e _ _ HSN.out
      have Xw:Hid _:=I1 (ai G) f ((s.hit n).enter n) (ai G n) k (by rw[NT.out];exact hlt);rw[Xv]at Xw;have fK:c+1-(ai G n).length + k+1≤1000000:=by have:=NT.out;omega
      have Xo:Hid _:=fK;have hsl:x.subs.length≤1000000:=by have:=NT.out;omega
      have TOK:Hid _:=tok;have adX:Hid _:=abM;have TBD:Hid _:=tbd;clear tok abM tbd tc Xv fK;generalize x.subs.getD k 0=v at *;go_wp2_with fail;refine(IH.out _ v _ _ TOK.out v0 v1 adX.out TBD.out Xo.out G1.out yU.out).mono ?_;rintro e w3 ⟨rfl,hw3,hb3⟩;rw[←Xw.out]at hw3;have Aj:Hid _:=hw3;have iT:Hid _:=hb3;clear hw3 hb3 yU G1 hcell;go_wp2_with fail;go_roundw
      case rel=>exact⟨k+1,by omega,by go_num,Aj,iT⟩
      case measure=>simp[φ];omega
     ·have S3:k=x.subs.length:=by omega
      have hw4:=yU.out;rw[zbJ (by rw[NT.out];omega)]at hw4;have Dp:=(rB HS.out f s n c (ai G n).length DU.out jM hf HBD.out HM0.out (zac _)).1;rw[zbJ (zac _)]at Dp;have I3:n<((ai G n).foldl (bf (ai G) f) ((s.hit n).enter n)).op.length:=by rw[Dp.lo];exact jM
      have jL:Hid _:=hw4.Qn A I3 false;have qJ:Hid _:=G1.out.setCell (p:=⟨bo,n,none⟩) A.ho (.bool false);have g1:=hw4.c1;obtain⟨g2,g3⟩:=hw4.ro n I3;clear hw4 I3 Dp yU G1;generalize ((ai G n).foldl (bf (ai G) f) ((s.hit n).enter n))=t at *;generalize t.op.getD n false=ob at *;go_wp2_with fail
      go_end0
      refine⟨rfl,?_,qJ.out⟩;rw[HF.out];exact jL.out
structure Kept (p q:Nat) (w w':Θ):Prop where
 os:w'.os=w.os
 tape:w'.tape=w.tape
 output:w'.output=w.output
 size:w.heap.size≤w'.heap.size
 block:∀k,k<w.heap.size→k≠p→k≠q→w'.heap[k]?=w.heap[k]?
theorem Kept.refl (p q:Nat)(w:Θ):Kept p q w w:=⟨rfl,rfl,rfl,zac _,λ_ _ _ _=>rfl⟩
def aJ (G:List Nd)(x:Nat):Int:=match G[x]? with|some y=>y.kind|none=>0
def jD (G:List Nd)(x:Nat):List UInt8:=match G[x]? with|some y=>eU y|none=>[]
theorem ld (G:List Nd)(x:Nat)(h:x<G.length):aJ G x=G[x].kind:=by unfold aJ;rw[zat h]
theorem I4 (G:List Nd)(x:Nat)(h:x<G.length):jD G x=eU G[x]:=by unfold jD;rw[zat h]
theorem oX (G:List Nd)(x:Nat)(h:x<G.length)(k:Nat)(hk:k<G[x].subs.length):(ai G x).getD k 0=(G[x].subs.getD k 0).toNat:=by
 rw[iX G x h];simp[π,List.getElem?_eq_getElem hk]
theorem yV (G:List Nd)(y:Nat)(hy:y<G.length)(hb:aQ G[y]=true)(hk:aJ G y=1):(ai G y).length=2:=by
 rw[iX G y hy,zby];rw[ld G y hy]at hk;unfold aQ at hb;rw[zaa (by omega),zab hk]at hb;simp at hb;exact hb.1
theorem Ga (h:t.long=false)(ho:t.out.length≤400)(a:Nat):need (t.put a)<need t:=by
 have:need (t.put a)=need (t.add (35::(θ t.next++[61]))):=rfl;rw[this];exact sY h ho (by simp)
structure dm (w:Θ) (B p bl bL n:Nat) (nv:Λ) (t:TS) (v:Λ):Prop where
 hB:B≤p
 blk:∃q,(q=.pointer none∨q=.pointer (some ⟨p,4,none⟩))∧
  w.heap[p]?=some (.cells #[nv,.slice (some ⟨bL,0,none⟩) n n,.slice (some ⟨bl,0,none⟩) n n,Γ Δ t.next,q,v,.bool t.long] 118 (0,0))
 own:w.ownsRow B 5 1 v (ζ t.out).length (ζ t.out)
 rl:lx w bl t.cE
 nb:v.ownBlock≠some bl
 ol:t.out.length≤400
 bl:bl<w.heap.size
structure bA (w w':Θ) (p bl:Nat) (v v':Λ):Prop where
 os:w'.os=w.os
 tape:w'.tape=w.tape
 output:w'.output=w.output
 size:w.heap.size≤w'.heap.size
 block:∀k,k<w.heap.size→k≠p→k≠bl→some k≠v.ownBlock→w'.heap[k]?=w.heap[k]?
 buf:v'.ownBlock=v.ownBlock∨∃k,v'.ownBlock=some k∧w.heap.size≤k
theorem bA.refl (w:Θ)(p bl:Nat)(v:Λ):bA w w p bl v v:=⟨rfl,rfl,rfl,zac _,λ_ _ _ _ _=>rfl,Or.inl rfl⟩
theorem bA.trans {w'':Θ}{p:Nat}{v'':Λ}(h:bA w w' p bl v v')(k:bA w' w'' p bl v' v''):bA w w'' p bl v v'':=by
 refine⟨k.os.trans h.os,k.tape.trans h.tape,k.output.trans h.output,zag h.size k.size,λi hi hb hl hv=>?_,?_⟩
 ·have hne:some i≠v'.ownBlock:=by
   rcases h.buf with e|⟨g,e,hg⟩
   ·rw[e];exact hv
   ·rw[e];intro x;simp only[zaE]at x;omega
  exact(k.block i (zaI hi h.size) hb hl hne).trans (h.block i hi hb hl hv)
 ·rcases k.buf with e|⟨g,e,hg⟩
  ·rw[e];exact h.buf
  ·exact Or.inr ⟨g,e,zag h.size hg⟩
theorem bA.aG {p:Nat}(h:Ω w.heap.size w w'):bA w w' p bl v v:=⟨h.os,h.tape,h.output,h.size,λk hk _ _ _=>h.block k hk,Or.inl rfl⟩
theorem bA.abN {p:Nat}(h:iu w w' p v v'):bA w w' p bl v v':=⟨h.os,h.tape,h.output,h.size,λk hk hp _ hv=>h.block k hk hp hv,h.buf⟩
theorem bA.set {p:Nat}{x:Addr}(hx:x.block=p∨x.block=bl)(u:Λ):bA w (w.setCell x u) p bl v v:=
 ⟨rfl,rfl,rfl,by simp[Θ.setCell],λk _ h1 h2 _=>zax _ _ _ _ (by rcases hx with h|h<;>omega),Or.inl rfl⟩
theorem bA.below {p:Nat}(h:bA w w' p bl v v')(hB:B≤w.heap.size)(hp:B≤p)(hl:B≤bl)(hv:∀k,v.ownBlock=some k→B≤k):Ω B w w':=
 ⟨h.os,h.tape,h.output,h.size,λk hk=>h.block k (by omega) (by omega) (by omega) (λe=>by have:=hv k e.symm;omega)⟩
theorem lx.of_block (h:lx w b l)(e:w'.heap[b]?=w.heap[b]?):lx w' b l:=λi hi=>by
 rw[Θ.cell?_of_block (w:=w) (w':=w') (a:=⟨b,i,none⟩) e,Θ.frozen?_of_block (w:=w) (w':=w') (a:=⟨b,i,none⟩) e];exact h i hi
theorem dm.Qr {p:Nat}(h:dm w B p bl bL n nv t v):∀k,v.ownBlock=some k→B≤k:=λk hk=>(h.own.lt k hk).1
theorem wT:118≠5:=by decide
theorem dm.bld {p:Nat}(h:dm w B p bl bL n nv t v):∃q,(q=.pointer none∨q=.pointer (some ⟨p,4,none⟩))∧fu w 118 4 B p #[nv,.slice (some ⟨bL,0,none⟩) n n,.slice (some ⟨bl,0,none⟩) n n,Γ Δ t.next,q,v,.bool t.long] v (ζ t.out):=by
 obtain⟨q,hq,hb⟩:=h.blk;exact⟨q,hq,h.hB,hb,by rcases hq with rfl|rfl<;>simp,rfl,h.own⟩
theorem dm.mark {p:Nat}(h:dm w B p bl bL n nv t v)(hne:p≠bl):dm (w.setCell ⟨p,6,none⟩ (.bool true)) B p bl bL n nv { t with long:=true } v:=by
 obtain⟨q,hq,hb⟩:=h.blk;have hn:=Lib.ownBlock_ne h.own hb wT;refine⟨h.hB,⟨q,hq,?_⟩,?_,?_,h.nb,h.ol,?_⟩
 ·have:=heap_setCell_same w p 6 _ _ (.bool true) hb;exact this
 ·exact h.own.kept (row:=some p) ⟨rfl,rfl,rfl,by simp[Θ.setCell],λk _ hk=>zax _ _ _ _ (λe=>hk (by simp[e]))⟩ (Or.inr hn)
 ·exact h.rl.of_block (zax _ _ _ _ (λe=>hne e.symm))
 ·have:=h.bl;simpa[Θ.setCell]using this
theorem dm.wrote {p:Nat}{s:List UInt8}{q:Λ}(h:dm w B p bl bL n nv t v)(hne:p≠bl)(hl:t.long=false)(hs:t.out.length+s.length≤400)
 (h1:fu w' 118 4 B p ((kR 4 p #[nv,.slice (some ⟨bL,0,none⟩) n n,.slice (some ⟨bl,0,none⟩) n n,Γ Δ t.next,q,v,.bool t.long]).setIfInBounds (4+1) v') v' (ζ t.out++Lib.strCells ⟨⟨s⟩⟩))
 (h2:iu w w' p v v'):dm w' B p bl bL n nv (t.add s) v'∧bA w w' p bl v v':=by
 rw[k8 hl hs];have e1:ζ (t.out++s)=ζ t.out++Lib.strCells ⟨⟨s⟩⟩:=by rw[Lib.byteCells_append];rfl
 refine⟨⟨h.hB,⟨_,Or.inr rfl,h1.blk⟩,?_,?_,?_,?_,zaI h.bl h2.size⟩,bA.abN h2⟩
 ·show Θ.ownsRow _ _ _ _ _ (ζ (t.out++s)).length (ζ (t.out++s));rw[e1];exact h1.own
 ·exact h.rl.of_block (h2.block bl h.bl (λe=>hne e.symm) (λe=>h.nb e.symm))
 ·rcases h2.buf with e|⟨k,e,hk⟩
  ·rw[e];exact h.nb
  ·rw[e];intro x;simp only[zaE]at x;have:=h.bl;omega
 ·show(t.out++s).length≤400;rw[zaR];exact hs
theorem fJ {p:Nat}(h:dm w B p bl bL n nv t v)(hne:p≠bl)(Uj:B≤w.heap.size)(s:List UInt8):Ξ prog 99 #[.pointer (some ⟨p,0,none⟩),.string ⟨⟨s⟩⟩] w λe w'=>e=.returned (.tuple #[])∧∃v',dm w' B p bl bL n nv (t.add s) v'∧bA w w' p bl v v':=by
 obtain⟨q,hq,I5⟩:=h.bld;have HBL:Hid _:=I5;have HW:Hid (dm w B p bl bL n nv t v):=h;have I3:=h.ol;have e0:(ζ t.out).length=t.out.length:=Lib.byteCells_length _;have c6:w.cell? ⟨p,6,none⟩=some (.bool t.long):=I5.cell 6;have f6:w.frozen? ⟨p,6,none⟩=false:=I5.frozen 6;clear I5 h hq;by_cases hov:400<t.out.length+s.length
 ·have HM:Hid _:=HW.out.mark hne;have HA:Hid (t.add s={ t with long:=true }):=by
   show _=_;cases hl:t.long
   ·rw[kZ hl hov]
   ·rw[dW hl,←hl]
  go_enter func99,ntmps99;go_wp2_with (go_at_call 153;refine(rp HBL.out).mono ?_);rintro e w1 ⟨rfl,rfl⟩;rw[e0];go_wp2_with fail
  go_end0
  exact⟨rfl,v,by rw[HA.out];exact HM.out,bA.set (Or.inl rfl) _⟩
 ·cases hl:t.long
  ·rw[hl]at c6;go_enter func99,ntmps99;go_wp2_with (go_at_call 153;refine(rp HBL.out).mono ?_);rintro e w1 ⟨rfl,rfl⟩;rw[e0];go_wp2_with (go_at_call 154;refine(nP Fj wT HBL.out ⟨⟨s⟩⟩ (by show _+s.length≤_;omega) Uj).mono ?_);rintro e w2 ⟨rfl,v',h1,h2⟩;have HR:Hid _:=HW.out.wrote hne hl (by omega) h1 h2;clear h1 h2;go_wp2_with fail
   go_end0
   exact⟨rfl,v',HR.out⟩
  ·rw[hl]at c6;have HA:Hid (t.add s=t):=dW hl s;go_enter func99,ntmps99;go_wp2_with (go_at_call 153;refine(rp HBL.out).mono ?_);rintro e w1 ⟨rfl,rfl⟩;rw[e0];go_wp2_with fail
   go_end0
   exact⟨rfl,v,by rw[HA.out];exact HW.out,bA.refl _ _ _ _⟩
def TS.lay (t:TS)(a:Nat):TS:={ t with cE:=t.cE.set a t.next,next:=t.next+1 }
theorem UK (t:TS)(a:Nat):(TS.lay t a).add (35::(θ t.next++[61]))=t.put a:=by
 cases hl:t.long
 ·by_cases h:400<t.out.length+(35::(θ t.next++[61])).length
  ·rw[kZ (t:=TS.lay t a) hl h];unfold TS.put;rw[kZ hl h];rfl
  ·rw[k8 (t:=TS.lay t a) hl (by show t.out.length+_≤400;omega)];unfold TS.put;rw[k8 hl (by omega)];rfl
 ·rw[dW (t:=TS.lay t a) hl];unfold TS.put;rw[dW hl];rfl
theorem dm.lay {p:Nat}(h:dm w B p bl bL n nv t v)(hne:p≠bl){a:Nat}(ha:a<t.cE.length):dm ((w.setCell ⟨bl,a,none⟩ (Γ Δ t.next)).setCell ⟨p,3,none⟩ (Γ Δ (t.next+1))) B p bl bL n nv (TS.lay t a) v:=by
 obtain⟨q,hq,hb⟩:=h.blk;have hn:=Lib.ownBlock_ne h.own hb wT;have hb1:(w.setCell ⟨bl,a,none⟩ (Γ Δ t.next)).heap[p]?=some (.cells #[nv,.slice (some ⟨bL,0,none⟩) n n,.slice (some ⟨bl,0,none⟩) n n,Γ Δ t.next,q,v,.bool t.long] 118 (0,0)):=
  (zax _ _ _ _ hne).trans hb
 have o1:=h.own.kept (w':=w.setCell ⟨bl,a,none⟩ (Γ Δ t.next)) (row:=some bl) ⟨rfl,rfl,rfl,by simp[Θ.setCell],λk _ hk=>zax _ _ _ _ (λe=>hk (by simp[e]))⟩ (Or.inr h.nb);refine⟨h.hB,⟨q,hq,?_⟩,?_,?_,h.nb,h.ol,?_⟩
 ·have:=heap_setCell_same (w.setCell ⟨bl,a,none⟩ (Γ Δ t.next)) p 3 _ _ (Γ Δ (t.next+1)) hb1;exact this
 ·exact o1.kept (row:=some p) ⟨rfl,rfl,rfl,by simp[Θ.setCell],λk _ hk=>zax _ _ _ _ (λe=>hk (by simp[e]))⟩ (Or.inr hn)
 ·exact(h.rl.set a ha t.next).of_block (zax _ _ _ _ (λe=>hne e.symm))
 ·have:=h.bl;simpa[Θ.setCell]using this
def abO (B:Nat)(w:Θ):Prop:=∀w',Ω B w w'→Pow w'
theorem dm.drew {p:Nat}(h:dm w B p bl bL n nv t v):dm w.drew B p bl bL n nv t v:=⟨h.hB,h.blk,h.own,h.rl,h.nb,h.ol,h.bl⟩
theorem dm.lt {w:Θ}{B p bl bL n:Nat}{nv:Λ}{t:TS}{v:Λ}(h:dm w B p bl bL n nv t v):p<w.heap.size:=by
 obtain⟨q,hq,hb⟩:=h.blk;exact(zaj.1 hb).1
theorem dm.below {p:Nat}(h:dm w B p bl bL n nv t v)(hb:Ω w.heap.size w w'):dm w' B p bl bL n nv t v:=by
 obtain⟨q,hq,hk⟩:=h.blk;refine⟨h.hB,⟨q,hq,(hb.block p h.lt).trans hk⟩,?_,h.rl.of_block (hb.block bl h.bl),h.nb,h.ol,zaI h.bl hb.size⟩;exact h.own.kept (row:=none) ⟨hb.os,hb.tape,hb.output,hb.size,λk hk _=>hb.block k hk⟩ (by cases v.ownBlock<;>simp)
theorem UL {p:Nat}(h:dm w B p bl bL n nv t v)(hne:p≠bl)(Uj:B≤w.heap.size)(hn:t.cE.length=n)(qa:t.next≤401)(a:Nat)(ha:a<n)(hBl:B≤bl)(hp:abO B w):Ξ prog 101 #[.pointer (some ⟨p,0,none⟩),Γ Δ a] w λe w'=>e=.returned (.tuple #[])∧∃v',dm w' B p bl bL n nv (t.put a) v'∧bA w w' p bl v v':=by
 have HL:Hid _:=h.lay hne (a:=a) (by omega);have HKL:Hid (bA w ((w.setCell ⟨bl,a,none⟩ (Γ Δ t.next)).setCell ⟨p,3,none⟩ (Γ Δ (t.next+1))) p bl v v):=
  (bA.set (x:=⟨bl,a,none⟩) (Or.inr rfl) _).trans (bA.set (x:=⟨p,3,none⟩) (Or.inl rfl) _)
 obtain⟨q,hq,hb⟩:=h.blk;have c2:w.cell? ⟨p,2,none⟩=some (.slice (some ⟨bl,0,none⟩) n n):=zbw hb 2;have c3:w.cell? ⟨p,3,none⟩=some (Γ Δ t.next):=zbw hb 3;have f3:w.frozen? ⟨p,3,none⟩=false:=Lib.frozen_of_heap hb 3;obtain⟨ca,fa⟩:=h.rl a (by omega);have HP:Hid (abO B w):=hp;have HLW:Hid (dm w B p bl bL n nv t v):=h;have hlen:=s8 t.next (by omega) (by omega);have ks:=wS;clear hp hb hq h;go_enter func101,ntmps101;go_wp2_with fail;go_region;all_goals
  go_wp2_with (go_at_call 100;refine(oW t.next _ (by omega) (by omega) (HP.out _ (HKL.out.below Uj HLW.out.hB hBl HLW.out.Qr).drew)).mono ?_);rintro e w1 ⟨rfl,hb1⟩;have jb:Hid (dm w1 B p bl bL n nv (TS.lay t a) v):=HL.out.drew.below hb1;have BJ:Hid (bA w w1 p bl v v):=HKL.out.trans (bA.aG (((zad _ _).drew).trans hb1));clear hb1;go_wp2_with (go_at_call 99;refine(fJ jb.out hne (zag Uj BJ.out.size) (35::(θ t.next++[61]))).mono ?_);rintro e w2 ⟨rfl,v',h2,h3⟩;have H2:Hid (dm w2 B p bl bL n nv (t.put a) v'):=by rw[UK]at h2;exact h2
  have H3:Hid (bA w w2 p bl v v'):=BJ.out.trans h3;clear h2 h3;go_wp2_with fail
  go_end0
  exact⟨rfl,v',H2.out,H3.out⟩
structure Gb (G:List Nd) (b o:Nat) (W0:Θ) (p bl bL:Nat) (L:Nat→Bool) (Rc:Nat→Prop) (rk:Nat→Nat):Prop where
 hG:bK W0 b o G
 hk:∀x (h:x<G.length),aQ G[x]=true
 hs:∀x (h:x<G.length),eT G[x].subs G.length=true
 hn:G.length≤150
 hp:W0.heap.size≤p
 hl:W0.heap.size≤bl
 pl:p≠bl
 hL:∀i,i<G.length→W0.cell? ⟨bL,i,none⟩=some (.bool (L i))
 pw:Pow W0
 rc:∀x,Rc x→∀y∈ai G x,Rc y
 rr:∀x,Rc x→∀y∈ai G x,aJ G y=1→L y=false→rk y<rk x
def Gc (G:List Nd)(b o cap:Nat)(W0:Θ)(p bl bL:Nat)(L:Nat→Bool)(Rc:Nat→Prop)(f:Nat):Prop:=
 ∀(t:TS) (a:Int) (w:Θ) (v:Λ),t.Ok G.length L→0≤a→a<G.length→Rc a.toNat→need t≤f→Ω W0.heap.size W0 w→dm w W0.heap.size p bl bL G.length (.slice (some ⟨b,o,none⟩) G.length cap) t v→
  Ξ prog 62 #[.pointer (some ⟨p,0,none⟩),Γ Δ a] w λe w'=>e=.returned (.tuple #[])∧
   ∃v',dm w' W0.heap.size p bl bL G.length (.slice (some ⟨b,o,none⟩) G.length cap) (WF (aJ G) (ai G) (jD G) L f false t a.toNat) v'∧bA w w' p bl v v'
theorem oY (G:List Nd)(x:Nat)(h:x<G.length)(k:Nat)(hk:k<G[x].subs.length):(G[x].subs.getD k 0).toNat∈ai G x:=by
 rw[iX G x h];simp only[zbo];exact⟨G[x].subs.getD k 0,by simp[π,List.getElem?_eq_getElem hk],rfl⟩
theorem bA.box {p:Nat}{cs:Array Λ}{T:ξ}(h:bA (w.alloc (.cells cs T)) w' p bl v v')(hp:p<w.heap.size)(hl:bl<w.heap.size)(hv:∀k,v.ownBlock=some k→k<w.heap.size):∀i z,cs[i]?=some z→w'.cell? ⟨w.heap.size,i,none⟩=some z:=λi z hz=>by
 have:=h.block w.heap.size (by simp) (by omega) (by omega) (λe=>by have:=hv _ e.symm;omega);rw[zbw (this.trans (zav w _))];exact hz
theorem dm.Xx {p:Nat}(h:dm w B p bl bL n nv t v):∀k,v.ownBlock=some k→k<w.heap.size:=λk hk=>(h.own.lt k hk).2
theorem vq (G:List Nd)(b o cap:Nat)(W0:Θ)(p bl bL:Nat)(L:Nat→Bool)(Rc:Nat→Prop)(rk:Nat→Nat)(C:Gb G b o W0 p bl bL L Rc rk)(f:Nat)(IA:Hid (Gc G b o cap W0 p bl bL L Rc f))
 (n:Nat)(jM:n<G.length)(Qs:Rc n)(k2:G[n].kind=2)(t:TS)(w:Θ)(v:Λ)(ht:t.Ok G.length L)(hf:need (t.add [35,40])≤f)(hb:Ω W0.heap.size W0 w)
 (Zg:∀x,x<G.length→∀y∈ai G x,y<G.length)(Oq:∀x,x<G.length→aJ G x=1→(ai G x).length=2)
 (hw:dm w W0.heap.size p bl bL G.length (.slice (some ⟨b,o,none⟩) G.length cap) t v):
 Ξ prog 103 #[.pointer (some ⟨p,0,none⟩),dF G[n]] w λe w'=>e=.returned (.tuple #[])∧
  ∃v',dm w' W0.heap.size p bl bL G.length (.slice (some ⟨b,o,none⟩) G.length cap) ((fY (WF (aJ G) (ai G) (jD G) L f false) (ai G n) (ai G n).length (t.add [35,40])).add [41]) v'∧bA w w' p bl v v':=by
 have HC:Hid (Gb G b o W0 p bl bL L Rc rk):=C;have HB:Hid (Ω W0.heap.size W0 w):=hb;have HXI:Hid _:=(C.hG n jM).ints;have HXS:Hid _:=C.hs n jM;have Xy:Hid _:=C.hk n jM;have HSG:Hid (∀k,k<G[n].subs.length→(ai G n).getD k 0=(G[n].subs.getD k 0).toNat):=λk hk=>oX G n jM k hk;have HRC:Hid (∀k,k<G[n].subs.length→Rc (G[n].subs.getD k 0).toNat):=λk hk=>C.rc n Qs _ (oY G n jM k hk);have NT:Hid ((ai G n).length=G[n].subs.length):=by show _=_;rw[iX G n jM];simp
 generalize G[n]=x at *;have Xk:Hid (∀k,need (fY (WF (aJ G) (ai G) (jD G) L f false) (ai G n) k (t.add [35,40]))≤f):=λk=>zag (s6 (λt y=>gY f false t y) _ _ _) hf;have HOV:Hid (∀k,k≤x.subs.length→(fY (WF (aJ G) (ai G) (jD G) L f false) (ai G n) k (t.add [35,40])).Ok G.length L):=λk hk=>
  IY (λt y ht hy=>nS Zg Oq f false t y ht hy) (ai G n) (Zg n jM) k _ (by rw[NT.out];exact hk) (ht.add _)
 have hlen:x.subs.length≤20:=by have:=Xy.out;unfold aQ at this;rw[zaa (by omega),zaa (by omega),zab k2]at this;simp at this;exact this.1
 have HBX:Hid (dm (w.alloc (.cells #[Γ Δ x.kind,.string ⟨⟨x.text⟩⟩,Γ Δ x.n,Γ Δ x.d,.slice x.sa x.subs.length x.cap] 45)) W0.heap.size p bl bL G.length (.slice (some ⟨b,o,none⟩) G.length cap) t v):=hw.below aD;have AW:Hid _:=(⟨hw.lt,hw.bl,hw.Xx⟩:p<w.heap.size∧bl<w.heap.size∧∀k,v.ownBlock=some k→k<w.heap.size);have hsz:=hb.size;have hne:=C.pl;have G4:Hid (∀w' v',bA w w' p bl v v'→Ω W0.heap.size W0 w'):=λw' v' h=>hb.trans (h.below hsz C.hp C.hl hw.Qr);clear k2 C hb ht hf hw Zg Oq Qs;unfold dF;go_enter func103,ntmps103;go_wp2_with (go_at_call 99;refine(fJ HBX.out hne (by simp;omega) [35,40]).mono ?_);rintro e w1 ⟨rfl,v1,h1,h2⟩;have r4:=h2.box AW.out.1 AW.out.2.1 AW.out.2.2 4 _ rfl;have H1:Hid (dm w1 W0.heap.size p bl bL G.length (.slice (some ⟨b,o,none⟩) G.length cap) (t.add [35,40]) v1):=h1;have H2:Hid (bA w w1 p bl v v1):=(bA.aG aD).trans h2;clear h1 h2;rcases HXI.out with h|⟨sb,so,Nu,hc⟩
 ·have HE0:Hid (x.subs.length=0):=by show _=_;rw[h];rfl
  clear h HXI;go_wp2_with fail;go_loopw [11] (λi wr=>∃(k:Nat) (vk:Λ),k≤x.subs.length∧i=Γ Δ k∧Hid (dm wr W0.heap.size p bl bL G.length (.slice (some ⟨b,o,none⟩) G.length cap) (fY (WF (aJ G) (ai G) (jD G) L f false) (ai G n) k (t.add [35,40])) vk)∧Hid (bA w wr p bl v vk)) (λi _=>x.subs.length-(φ i).toNat)
  case atStart=>exact⟨0,v1,zaq _,rfl,H1.out,H2.out⟩
  case round=>
   obtain⟨k,vk,hk,rfl,yU,eF⟩:=hrel;have Zh:Hid (Ω W0.heap.size W0 wr):=G4.out _ _ eF.out;have Dr:W0.heap.size≤wr.heap.size:=Zh.out.size;by_cases hlt:k<x.subs.length
   ·exfalso;have:=HE0.out;omega
   ·have S3:k=x.subs.length:=by omega
    go_wp2_with (go_at_call 99;refine(fJ yU.out hne Dr [41]).mono ?_);rintro e w5 ⟨rfl,v5,I6,rK⟩;rw[S3,←NT.out]at I6;have vn:Hid _:=I6;have G2:Hid _:=eF.out.trans rK;clear I6 rK yU eF;go_wp2_with fail
    go_end0
    exact⟨rfl,v5,vn.out,G2.out⟩
 ·have HCE:Hid (∀w':Θ,Ω W0.heap.size W0 w'→∀k,k<x.subs.length→w'.cell? ⟨sb,so+k,none⟩=some (Γ Δ (x.subs.getD k 0))):=λw' hb' k hk=>cd hb' (hc k hk);clear hc HXI;rw[Nu]at r4;go_wp2_with fail;go_loopw [11] (λi wr=>∃(k:Nat) (vk:Λ),k≤x.subs.length∧i=Γ Δ k∧Hid (dm wr W0.heap.size p bl bL G.length (.slice (some ⟨b,o,none⟩) G.length cap) (fY (WF (aJ G) (ai G) (jD G) L f false) (ai G n) k (t.add [35,40])) vk)∧Hid (bA w wr p bl v vk)) (λi _=>x.subs.length-(φ i).toNat)
  case atStart=>exact⟨0,v1,zaq _,rfl,H1.out,H2.out⟩
  case round=>
   obtain⟨k,vk,hk,rfl,yU,eF⟩:=hrel;have Zh:Hid (Ω W0.heap.size W0 wr):=G4.out _ _ eF.out;have Dr:W0.heap.size≤wr.heap.size:=Zh.out.size;by_cases hlt:k<x.subs.length
   ·have hcell:=HCE.out _ Zh.out k hlt;have hv:=mC _ _ HXS.out k hlt;have HR:Hid _:=HRC.out k hlt;have HGK:Hid _:=HSG.out k hlt;have DU:Hid _:=HOV.out k hk;have HND:Hid _:=Xk.out k;by_cases G0:k=0
    ·have HST:Hid (fY (WF (aJ G) (ai G) (jD G) L f false) (ai G n) (k+1) (t.add [35,40])=WF (aJ G) (ai G) (jD G) L f false (fY (WF (aJ G) (ai G) (jD G) L f false) (ai G n) k (t.add [35,40])) (x.subs.getD k 0).toNat):=by
      show _=_;rw[←HGK.out];simp only[fY];rw[zab G0]
     generalize fY (WF (aJ G) (ai G) (jD G) L f false) (ai G n) k (t.add [35,40])=tk at *;generalize x.subs.getD k 0=sv at *;have hkz:(k:Int)≤0:=by omega
     have vo:Hid _:=G0;clear G0;go_wp2_with (go_at_call 62;refine(IA.out _ sv _ _ DU.out hv.1 hv.2 HR.out HND.out Zh.out yU.out).mono ?_);rintro e w4 ⟨rfl,v4,hw4,hk4⟩;rw[←HST.out]at hw4;have vh:Hid _:=hw4;have rJ:Hid _:=eF.out.trans hk4;clear hw4 hk4 yU eF hcell Zh;go_wp2_with fail;go_roundw
     case rel=>exact⟨k+1,v4,by omega,by go_num,vh,rJ⟩
     case measure=>simp[φ];omega
    ·have HST:Hid (fY (WF (aJ G) (ai G) (jD G) L f false) (ai G n) (k+1) (t.add [35,40])=WF (aJ G) (ai G) (jD G) L f false ((fY (WF (aJ G) (ai G) (jD G) L f false) (ai G n) k (t.add [35,40])).add [32]) (x.subs.getD k 0).toNat):=by
      show _=_;rw[←HGK.out];simp only[fY];rw[zaa G0]
     generalize fY (WF (aJ G) (ai G) (jD G) L f false) (ai G n) k (t.add [35,40])=tk at *;generalize x.subs.getD k 0=sv at *;have hkz:(0:Int)<(k:Int):=by omega
     have adY:Hid _:=DU.out.add [32];have adZ:Hid _:=zag (eP tk [32]) HND.out;go_wp2_with (go_at_call 99;refine(fJ yU.out hne Dr [32]).mono ?_);rintro e w3 ⟨rfl,v3,hw3,hk3⟩;have Aj:Hid _:=hw3;have nZ:Hid _:=eF.out.trans hk3;have iT:Hid (Ω W0.heap.size W0 w3):=G4.out _ _ nZ.out;clear hw3 hk3 yU eF hcell Zh;go_wp2_with (go_at_call 62;refine(IA.out _ sv _ _ adY.out hv.1 hv.2 HR.out adZ.out iT.out Aj.out).mono ?_);rintro e w4 ⟨rfl,v4,hw4,hk4⟩;rw[←HST.out]at hw4;have vh:Hid _:=hw4;have rJ:Hid _:=nZ.out.trans hk4;clear hw4 hk4;go_wp2_with fail;go_roundw
     case rel=>exact⟨k+1,v4,by omega,by go_num,vh,rJ⟩
     case measure=>simp[φ];omega
   ·have S3:k=x.subs.length:=by omega
    go_wp2_with (go_at_call 99;refine(fJ yU.out hne Dr [41]).mono ?_);rintro e w5 ⟨rfl,v5,I6,rK⟩;rw[S3,←NT.out]at I6;have vn:Hid _:=I6;have G2:Hid _:=eF.out.trans rK;clear I6 rK yU eF;go_wp2_with fail
    go_end0
    exact⟨rfl,v5,vn.out,G2.out⟩
theorem Qt (l:List Bool)(a:Nat):l.set a (l.getD a false)=l:=by
 apply List.ext_getElem?
 intro i;rw[List.getElem?_set];by_cases e:a=i
 ·subst e;rw[zab rfl];by_cases h:a<l.length
  ·rw[zab h,zat h];simp[π,List.getElem?_eq_getElem h]
  ·rw[zaa h,zcp (by omega)]
 ·rw[zaa e]
end Go.Proofs.YtlhimdjkkiflhaaGreatDoor
