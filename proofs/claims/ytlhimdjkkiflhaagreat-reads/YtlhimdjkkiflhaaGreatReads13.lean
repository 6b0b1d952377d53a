import Derived.Shelf.Strings.Builder1
import Derived.Shelf.Small.Strs
import Derived.Shelf.Strings.BuilderF
import Derived.Shelf.Strings.BuilderK
import Derived.Shelf.LaysM
import Derived.Shelf.Strconv.Clone
import Derived.Shelf.Strings.Search1
import Derived.Shelf.Strings.Search2
import Derived.Shelf.Strings.Cut
import Derived.Shelf.Strings.Shaped
import Derived.Shelf.Strings.Prefix
import Derived.Test.YtlhimdjkkiflhaaGreatProg
import Derived.Test.YtlhimdjkkiflhaaGreatRows
import Derived.WalkKit
import Derived.WalkSpells
import Derived.WalkLawsBesides
import Derived.Deep.QuietTactic
import Derived.BigQuiet
import Derived.Lib.ItoaMem
import Derived.Lib.AppendStr
import Derived.Lib.UnsafeStr
import Derived.Laws.Externs
import Derived.KernelRfl
import Derived.Test.YtlhimdjkkiflhaaGreatReads01
set_option maxHeartbeats 8000000
set_option maxRecDepth 100000
open Go.Value renaming int→Γ
open Go.IntKind renaming i64→Δ
open Go renaming World→Θ,Value→Λ,Calls→Φ,maxLen→Ω,TypeId→ζ
open Int renaming gcd→Ξ
open ByteArray renaming mk→η
namespace Go.Loop
def aD (c:Int):Bool:=decide (48≤c∧c≤57)
def eL (c:Int):Bool:=decide ((97≤c∧c≤122)∨(65≤c∧c≤90))
def Ha (c:Int):Bool:=decide (c=43∨c=45∨c=42∨c=47∨c=60∨c=62∨c=61∨c=63∨c=33∨c=46∨c=95)
def aX (c:Int):Bool:=eL c||aD c||Ha c
def hasB (l:List UInt8)(c:Int):Bool:=l.any λb=>decide ((b.toNat:Int)=c)
def au (p:Int→Bool):List UInt8→Nat
 |[]=>0
 |c::r=>if p (c.toNat:Int)then au p r+1 else 0
def bN:List UInt8→Bool
 |[]=>false
 |c::r=>if c.toNat=43∨c.toNat=45 then(match r with|[]=>false|d::_=>aD (d.toNat:Int))else aD (c.toNat:Int)
theorem Jf (l:List UInt8)(b:UInt8)(c:Int):hasB (l++[b]) c=(hasB l c||decide ((b.toNat:Int)=c)):=by simp[hasB]
theorem pN (c:UInt8)(r:List UInt8)(h1:¬(c.toNat:Int)=43)(h2:¬(c.toNat:Int)=45):bN (c::r)=aD (c.toNat:Int):=by
 simp only[bN];rw[zaa (by omega)]
theorem jm (c:UInt8)(h:(c.toNat:Int)=43∨(c.toNat:Int)=45):bN [c]=false:=by
 simp only[bN];rw[zac (by omega)]
theorem jo (c d:UInt8)(r:List UInt8)(h:(c.toNat:Int)=43∨(c.toNat:Int)=45):bN (c::d::r)=aD (d.toNat:Int):=by
 simp only[bN];rw[zac (by omega)]
theorem CU (p:Int→Bool)(l:List UInt8):decide (au p l=l.length)=l.all (λc=>p (c.toNat:Int)):=by
 induction l with
 |nil=>rfl
 |cons c r ih=>
  simp only[au,zaq,zas];by_cases h:p (c.toNat:Int)=true
  ·simp only[h,if_true,Bool.true_and,←ih];rw[zbh];simp
  ·simp[h]
def nameOf (n:Int):List UInt8:=
 if n=32 then[115,112,97,99,101]else if n=10 then[110,101,119,108,105,110,101]else if n=9 then[116,97,98]
 else if n=0 then[110,117,108]else if n=127 then[100,101,108,101,116,101]else if n=27 then[101,115,99,97,112,101]else[]
def hasName (n:Int):Bool:=decide (n=32∨n=10∨n=9∨n=0∨n=127∨n=27)
def cW (l:List UInt8):Int:=
 if l=[115,112,97,99,101]then 32 else if l=[110,101,119,108,105,110,101]then 10 else if l=[116,97,98]then 9
 else if l=[110,117,108]then 0 else if l=[100,101,108,101,116,101]then 127 else if l=[101,115,99,97,112,101]then 27 else -1
end Go.Loop
namespace Go.Proofs
open Go.Proofs.Tryz
open Go.Shelf
def Tryz.C1:Go.Shelf.Ren:=⟨λ|137=>108|217=>121|266=>128|n=>n,λ|9=>9|5=>5|3=>3|n=>n,λ|n=>n⟩
theorem Tryz.PW:Go.Proofs.Lays.n137 prog Tryz.C1:={
 mixed:=by kernel_rfl
 f137:=func108.trans (zal some (by kernel_rfl))
 f217:=func121.trans (zal some (by kernel_rfl))
 f266:=func128.trans (zal some (by kernel_rfl))
 t3:=underlying3
 a3:=Tryz.isAgg3
 z3:=Tryz.sizeOf3
 v3:=Tryz.zeroValue3
 t5:=underlying5
 a5:=Tryz.isAgg5
 z5:=Tryz.sizeOf5
 v5:=Tryz.zeroValue5
 t9:=underlying9
 a9:=Tryz.isAgg9
 z9:=Tryz.sizeOf9
 v9:=Tryz.zeroValue9 }
open Go.RowKit in
theorem Tryz.strings_IndexByte (s:ByteArray)(c:Int)(w:Θ):Φ prog 108 #[.string s,.int .u8 c] w λe w'=>e=.returned (Γ Δ (Lib.indexByte s.data.toList c.toNat.toUInt8))∧w'=w:=Any.strings_IndexByte Tryz.PW s c w
def Tryz.A8:Go.Shelf.Ren:=⟨λ|316=>82|n=>n,λ|9=>9|3=>3|4=>4|37=>162|0=>0|127=>184|5=>5|n=>n,λ|n=>n⟩
theorem Tryz.Mi:Go.Proofs.LaysM.n316 prog Tryz.A8:={
 mixed:=by kernel_rfl
 f316:=func82.trans (zal some (by kernel_rfl))
 t0:=underlying0
 a0:=Tryz.isAgg0
 z0:=Tryz.sizeOf0
 v0:=Tryz.zeroValue0
 t3:=underlying3
 a3:=Tryz.isAgg3
 z3:=Tryz.sizeOf3
 v3:=Tryz.zeroValue3
 t4:=underlying4
 a4:=Tryz.isAgg4
 z4:=Tryz.sizeOf4
 v4:=Tryz.zeroValue4
 t9:=underlying9
 a9:=Tryz.isAgg9
 z9:=Tryz.sizeOf9
 v9:=Tryz.zeroValue9
 t37:=underlying162
 a37:=Tryz.isAgg162
 z37:=Tryz.sizeOf162
 v37:=Tryz.zeroValue162
 t127:=underlying184
 a127:=Tryz.isAgg184
 z127:=Tryz.sizeOf184
 v127:=Tryz.zeroValue184
 t5:=underlying5
 a5:=Tryz.isAgg5
 z5:=Tryz.sizeOf5
 v5:=Tryz.zeroValue5
 i0:=by kernel_rfl
 i3:=by kernel_rfl
 i4:=by kernel_rfl
 i5:=by kernel_rfl
 i9:=by kernel_rfl
 i37:=by kernel_rfl
 i127:=by kernel_rfl }
open Go.RowKit in
theorem Tryz.stringslite_Clone (s:ByteArray)(w:Θ)(Tv:s.size≤281474976710656):Φ prog 82 #[.string s] w λe w'=>e=.returned (.string s)∧Below w.heap.size w w':=Any.stringslite_Clone Tryz.Mi s w Tv
def Tryz.C2:Go.Shelf.Ren:=⟨λ|219=>131|217=>121|225=>133|224=>134|267=>135|266=>128|314=>136|n=>n,λ|9=>9|3=>3|4=>4|5=>5|46=>110|146=>202|51=>85|n=>n,λ|1=>0|n=>n⟩
theorem Tryz.PX:Go.Proofs.Lays.n219 prog Tryz.C2:={
 mixed:=by kernel_rfl
 f217:=func121.trans (zal some (by kernel_rfl))
 f219:=func131.trans (zal some (by kernel_rfl))
 f224:=func134.trans (zal some (by kernel_rfl))
 f225:=func133.trans (zal some (by kernel_rfl))
 f266:=func128.trans (zal some (by kernel_rfl))
 f267:=func135.trans (zal some (by kernel_rfl))
 f314:=func136.trans (zal some (by kernel_rfl))
 t3:=underlying3
 a3:=Tryz.isAgg3
 z3:=Tryz.sizeOf3
 v3:=Tryz.zeroValue3
 t4:=underlying4
 a4:=Tryz.isAgg4
 z4:=Tryz.sizeOf4
 v4:=Tryz.zeroValue4
 t5:=underlying5
 a5:=Tryz.isAgg5
 z5:=Tryz.sizeOf5
 v5:=Tryz.zeroValue5
 t9:=underlying9
 a9:=Tryz.isAgg9
 z9:=Tryz.sizeOf9
 v9:=Tryz.zeroValue9
 t46:=underlying110
 a46:=Tryz.isAgg110
 z46:=Tryz.sizeOf110
 v46:=Tryz.zeroValue110
 t51:=underlying85
 a51:=Tryz.isAgg85
 z51:=Tryz.sizeOf85
 v51:=Tryz.zeroValue85
 t146:=underlying202
 a146:=Tryz.isAgg202
 z146:=Tryz.sizeOf202
 v146:=Tryz.zeroValue202
 g1:=by kernel_rfl }
open Go.RowKit Go.Lib in
theorem Tryz.stringslite_Index_one (s:ByteArray)(c:UInt8)(w:Θ):Φ prog 131 #[.string s,.string ⟨#[c]⟩] w λe w'=>e=.returned (Γ Δ (Lib.indexByte s.data.toList c))∧w'=w:=Any.stringslite_Index_one Tryz.PX s c w
def Tryz.FI:Go.Shelf.Ren:=⟨λ|99=>98|206=>116|n=>n,λ|9=>9|4=>4|3=>3|n=>n,λ|n=>n⟩
theorem Tryz.Tw:Go.Proofs.Lays.n99 prog Tryz.FI:={
 mixed:=by kernel_rfl
 f99:=func98.trans (zal some (by kernel_rfl))
 f206:=func116.trans (zal some (by kernel_rfl))
 t3:=underlying3
 a3:=Tryz.isAgg3
 z3:=Tryz.sizeOf3
 v3:=Tryz.zeroValue3
 t4:=underlying4
 a4:=Tryz.isAgg4
 z4:=Tryz.sizeOf4
 v4:=Tryz.zeroValue4
 t9:=underlying9
 a9:=Tryz.isAgg9
 z9:=Tryz.sizeOf9
 v9:=Tryz.zeroValue9 }
open Go.RowKit Go.Lib in
theorem Tryz.strings_HasPrefix (s p:ByteArray)(w:Θ):Φ prog 98 #[.string s,.string p] w λe w'=>e=.returned (.bool (Lib.hasPrefix s.data.toList p.data.toList))∧w'=w:=Any.strings_HasPrefix Tryz.Tw s p w
end Go.Proofs
namespace Go.Proofs.YtlhimdjkkiflhaaGreat
open Go.Proofs.Tryz
open Go.RowKit Go.Loop
theorem fD {k:IntKind}{a b:Int}(h:a=b):Ending.returned (.int k a)=.returned (.int k b):=by rw[h]
theorem bE {a b:Bool}(h:a=b):Ending.returned (.bool a)=.returned (.bool b):=by rw[h]
theorem dR (c:Int)(w:Θ):Φ prog 107 #[.int .u8 c] w λe w'=>e=.returned (.bool (aD c))∧w'=w:=by
 go_enter func107,ntmps107
 go_wp2
 all_goals
  go_ret;exact⟨bE (by simp[aD];try omega),rfl⟩
theorem cI (c:Int)(w:Θ):Φ prog 87 #[.int .u8 c] w λe w'=>e=.returned (.bool (aD c))∧w'=w:=by
 go_enter func87,ntmps87
 go_wp2
 all_goals
  go_ret;exact⟨bE (by simp[aD];try omega),rfl⟩
theorem iD (c:Int)(w:Θ):Φ prog 106 #[.int .u8 c] w λe w'=>e=.returned (.bool (eL c))∧w'=w:=by
 go_enter func106,ntmps106
 go_wp2
 all_goals
  go_ret;refine⟨bE ?_,rfl⟩;rw[zbh];simp[eL];omega
theorem gB (c:Int)(w:Θ):Φ prog 88 #[.int .u8 c] w λe w'=>e=.returned (.bool (eL c))∧w'=w:=by
 go_enter func88,ntmps88
 go_wp2
 all_goals
  go_ret;refine⟨bE ?_,rfl⟩;rw[zbh];simp[eL];omega
theorem Mj:∀n:Nat,n<256→Ha n=decide (0≤Lib.indexByte [43,45,42,47,60,62,61,63,33,46,95] n.toUInt8):=by decide +kernel
theorem iE (c:Int)(w:Θ)(h0:0≤c)(h1:c≤255):Φ prog 78 #[.int .u8 c] w λe w'=>e=.returned (.bool (aX c))∧w'=w:=by
 have hs:=Mj c.toNat (by omega);rw[Int.toNat_of_nonneg h0]at hs;cases hl:eL c
 ·cases hd:aD c
  ·go_enter func78,ntmps78;go_wp2_with (first|(go_at_call 106;refine(iD _ _).mono ?_;rw[hl];rintro e w' ⟨rfl,rfl⟩)|(go_at_call 107;refine(dR _ _).mono ?_;rw[hd];rintro e w' ⟨rfl,rfl⟩)|(go_at_call 108;refine(Tryz.strings_IndexByte _ _ _).mono ?_;rintro e w' ⟨rfl,rfl⟩));all_goals
    go_ret;refine⟨bE ?_,rfl⟩;simp[aX,hl,hd,hs]
  ·go_enter func78,ntmps78;go_wp2_with (first|(go_at_call 106;refine(iD _ _).mono ?_;rw[hl];rintro e w' ⟨rfl,rfl⟩)|(go_at_call 107;refine(dR _ _).mono ?_;rw[hd];rintro e w' ⟨rfl,rfl⟩)|(go_at_call 108;refine(Tryz.strings_IndexByte _ _ _).mono ?_;rintro e w' ⟨rfl,rfl⟩));all_goals
    go_ret;refine⟨bE ?_,rfl⟩;simp[aX,hl,hd]
 ·go_enter func78,ntmps78;go_wp2_with (first|(go_at_call 106;refine(iD _ _).mono ?_;rw[hl];rintro e w' ⟨rfl,rfl⟩)|(go_at_call 107;refine(dR _ _).mono ?_;rintro e w' ⟨rfl,rfl⟩));all_goals
   go_ret;refine⟨bE ?_,rfl⟩;simp[aX,hl]
theorem zH (s:ByteArray)(k:Nat)(h:k<s.size):s.data.toList.take (k+1)=s.data.toList.take k++[s[k]]:=by
 rw[List.take_succ_eq_append_getElem (by simpa using h)];rfl
theorem C3 (s:ByteArray)(k:Nat)(h:s.size≤k):s.data.toList.take k=s.data.toList:=List.take_of_length_le (by simpa using h)
theorem FJ (s:ByteArray)(c:Int)(w:Θ)(hs:s.size≤Ω):Φ prog 89 #[.string s,.int .u8 c] w λe w'=>e=.returned (.bool (hasB s.data.toList c))∧w'=w:=by
 unfold Ω at hs;go_enter func89,ntmps89
 go_wp2
 go_loop [5] (λi=>∃k:Nat,k≤s.size∧i=Γ Δ k∧Hid (hasB (s.data.toList.take k) c=false)) (λi=>s.size-(intOf i).toNat)
 case atStart=>exact⟨0,zap _,rfl,rfl⟩
 case round=>
  obtain⟨k,hk,rfl,hr⟩:=hrel;by_cases hlt:k<s.size
  ·have H:Hid (hasB (s.data.toList.take (k+1)) c=(hasB (s.data.toList.take k) c||decide ((s[k].toNat :Int)=c))):=by
    have:=Jf (s.data.toList.take k) s[k] c;rw[←zH s k hlt]at this;exact this
   have H2:Hid (hasB (s.data.toList.take (k+1)) c=true→hasB s.data.toList c=true):=by
    intro h;unfold hasB at *;rw[List.any_eq_true]at *;obtain⟨x,hx,hy⟩:=h;exact⟨x,List.mem_of_mem_take hx,hy⟩
   by_cases hc:(s[k].toNat :Int)=c
   ·have hcb:((s[k].toNat :Int)==c)=true:=by simpa using hc
    have HC:Hid ((s[k].toNat :Int)=c):=hc;clear hc
    go_wp2
    go_ret;refine⟨bE ?_,rfl⟩;symm;apply H2.out;rw[H.out,HC.out];simp
   ·have hcb:((s[k].toNat :Int)==c)=false:=by simpa using hc
    go_wp2
    go_round
    case rel=>exact⟨k+1,by omega,by go_num,by show _=false;rw[H.out,hr.out];simpa using hc⟩
    case measure=>simp[intOf];omega
  ·go_wp2
   go_ret;refine⟨bE ?_,rfl⟩;rw[←hr.out,C3 s k (by omega)]
theorem Js (c:Int):hasB [43,45,42,47,60,62,61,63,33,46,95] c=Ha c:=by
 unfold hasB Ha;rw[zbh];simp only[List.any_cons,List.any_nil,Bool.or_eq_true,zbj,Bool.or_false];simp only[UInt8.reduceToNat];omega
theorem lq (c:Int)(w:Θ):Φ prog 62 #[.int .u8 c] w λe w'=>e=.returned (.bool (aX c))∧w'=w:=by
 cases hd:aD c
 ·cases hl:eL c
  ·go_enter func62,ntmps62;go_wp2_with (first|(go_at_call 87;refine(cI _ _).mono ?_;rw[hd];rintro e w' ⟨rfl,rfl⟩)|(go_at_call 88;refine(gB _ _).mono ?_;rw[hl];rintro e w' ⟨rfl,rfl⟩)|(go_at_call 89;refine(FJ _ _ _ (by decide +kernel)).mono ?_;rintro e w' ⟨rfl,rfl⟩));go_ret;refine⟨bE ?_,rfl⟩;simp only[aX,hl,hd,Bool.false_or];exact Js c
  ·go_enter func62,ntmps62;go_wp2_with (first|(go_at_call 87;refine(cI _ _).mono ?_;rw[hd];rintro e w' ⟨rfl,rfl⟩)|(go_at_call 88;refine(gB _ _).mono ?_;rw[hl];rintro e w' ⟨rfl,rfl⟩));go_ret;refine⟨bE ?_,rfl⟩;simp[aX,hl]
 ·go_enter func62,ntmps62;go_wp2_with (first|(go_at_call 87;refine(cI _ _).mono ?_;rw[hd];rintro e w' ⟨rfl,rfl⟩)|(go_at_call 88;refine(gB _ _).mono ?_;rintro e w' ⟨rfl,rfl⟩));go_ret;refine⟨bE ?_,rfl⟩;simp[aX,hd]
theorem ry (c:UInt8)(r:List UInt8)(h:0<(η (Array.mk (c::r))).size):(η (Array.mk (c::r)))[0]'h=c:=rfl
theorem oU (c:UInt8)(r:List UInt8):(η (Array.mk (c::r))).extract 1 (r.length+1)=⟨⟨r⟩⟩:=by
 apply ByteArray.ext;simp
theorem rB (c d:UInt8)(r:List UInt8):(η (Array.mk (c::d::r))).extract 1 (r.length+1+1)=⟨⟨d::r⟩⟩:=oU c (d::r)
theorem jg (r:List UInt8):(η (Array.mk r)).toList=r:=by simp
section
attribute [local go_sem] ry oU rB jg
theorem tD (c:UInt8)(r:List UInt8)(w:Θ)(hs:(c::r).length≤Ω):Φ prog 110 #[.string ⟨⟨c::r⟩⟩] w λe w'=>e=.returned (.bool (bN (c::r)))∧w'=w:=by
 unfold Ω at hs;simp at hs;cases hp:((c.toNat:Int)==43)
 ·cases hm:((c.toNat:Int)==45)
  ·have H:Hid (bN (c::r)=aD (c.toNat:Int)):=by
    simp at hp hm;exact pN c r hp hm
   go_enter func110,ntmps110;go_wp2_with (go_at_call 107;refine(dR _ _).mono ?_;rintro e w' ⟨rfl,rfl⟩);go_ret;exact⟨bE H.out.symm,rfl⟩
  ·cases r with
   |nil=>
    have H:Hid (bN [c]=false):=by simp at hm;exact jm c (Or.inr hm)
    go_enter func110,ntmps110;go_wp2_with (go_at_call 107;refine(dR _ _).mono ?_;rintro e w' ⟨rfl,rfl⟩);go_ret;exact⟨bE H.out.symm,rfl⟩
   |cons d r=>
    have H:Hid (bN (c::d::r)=aD (d.toNat:Int)):=by
     simp at hm;exact jo c d r (Or.inr hm)
    simp at hs;go_enter func110,ntmps110;go_wp2_with (go_at_call 107;refine(dR _ _).mono ?_;rintro e w' ⟨rfl,rfl⟩);go_ret;exact⟨bE H.out.symm,rfl⟩
 ·cases r with
   |nil=>
    have H:Hid (bN [c]=false):=by simp at hp;exact jm c (Or.inl hp)
    go_enter func110,ntmps110;go_wp2_with (go_at_call 107;refine(dR _ _).mono ?_;rintro e w' ⟨rfl,rfl⟩);go_ret;exact⟨bE H.out.symm,rfl⟩
   |cons d r=>
    have H:Hid (bN (c::d::r)=aD (d.toNat:Int)):=by
     simp at hp;exact jo c d r (Or.inl hp)
    simp at hs;go_enter func110,ntmps110;go_wp2_with (go_at_call 107;refine(dR _ _).mono ?_;rintro e w' ⟨rfl,rfl⟩);go_ret;exact⟨bE H.out.symm,rfl⟩
theorem iF (l:List UInt8)(w:Θ)(hs:l.length≤Ω):Φ prog 90 #[.string ⟨⟨l⟩⟩] w λe w'=>e=.returned (.bool (bN l))∧w'=w:=by
 unfold Ω at hs;cases l with
 |nil=>
  go_enter func90,ntmps90;go_wp2_with (go_at_call 87;refine(cI _ _).mono ?_;rintro e w' ⟨rfl,rfl⟩);go_ret;exact⟨rfl,rfl⟩
 |cons c r=>
 simp at hs;cases hp:((c.toNat:Int)==43)
 ·cases hm:((c.toNat:Int)==45)
  ·have H:Hid (bN (c::r)=aD (c.toNat:Int)):=by
    simp at hp hm;exact pN c r hp hm
   go_enter func90,ntmps90;go_wp2_with (go_at_call 87;refine(cI _ _).mono ?_;rintro e w' ⟨rfl,rfl⟩);go_ret;exact⟨bE H.out.symm,rfl⟩
  ·cases r with
   |nil=>
    have H:Hid (bN [c]=false):=by simp at hm;exact jm c (Or.inr hm)
    go_enter func90,ntmps90;go_wp2_with (go_at_call 87;refine(cI _ _).mono ?_;rintro e w' ⟨rfl,rfl⟩);go_ret;exact⟨bE H.out.symm,rfl⟩
   |cons d r=>
    have H:Hid (bN (c::d::r)=aD (d.toNat:Int)):=by
     simp at hm;exact jo c d r (Or.inr hm)
    simp at hs;go_enter func90,ntmps90;go_wp2_with (go_at_call 87;refine(cI _ _).mono ?_;rintro e w' ⟨rfl,rfl⟩);go_ret;exact⟨bE H.out.symm,rfl⟩
 ·cases r with
   |nil=>
    have H:Hid (bN [c]=false):=by simp at hp;exact jm c (Or.inl hp)
    go_enter func90,ntmps90;go_wp2_with (go_at_call 87;refine(cI _ _).mono ?_;rintro e w' ⟨rfl,rfl⟩);go_ret;exact⟨bE H.out.symm,rfl⟩
   |cons d r=>
    have H:Hid (bN (c::d::r)=aD (d.toNat:Int)):=by
     simp at hp;exact jo c d r (Or.inl hp)
    simp at hs;go_enter func90,ntmps90;go_wp2_with (go_at_call 87;refine(cI _ _).mono ?_;rintro e w' ⟨rfl,rfl⟩);go_ret;exact⟨bE H.out.symm,rfl⟩
end
theorem ez (s:ByteArray)(C4:Int)(w:Θ)(hs:s.size≤Ω)(h0:0≤C4)(h1:C4≤s.size):Φ prog 109 #[.string s,Γ Δ C4,.func (.func 78) #[] #[]] w λe w'=>e=.returned (Γ Δ (C4+au aX (s.data.toList.drop C4.toNat)))∧w'=w:=by
 unfold Ω at hs;obtain⟨a,rfl⟩:=zbu h0;rw[zbn];go_enter func109,ntmps109;go_wp2_with fail;go_loop [1] (λi=>∃k:Nat,a≤k∧k≤s.size∧i=Γ Δ k∧Hid ((a:Int)+au aX (s.data.toList.drop a)=(k:Int)+au aX (s.data.toList.drop k))) (λi=>s.size-(intOf i).toNat)
 case atStart=>exact⟨a,zab _,by omega,rfl,rfl⟩
 case round=>
  obtain⟨k,Jt,hk,rfl,hr⟩:=hrel;by_cases hlt:k<s.size
  ·have hd:Hid (s.data.toList.drop k=s[k]::s.data.toList.drop (k+1)):=by show _=_;rw[zbZ (by simpa using hlt)];rfl
   cases hp:aX (s[k].toNat :Int)
   ·have H:Hid (au aX (s.data.toList.drop k)=0):=by show _=_;rw[hd.out];simp[au,hp]
    go_wp2_with fail;refine(iE _ _ (by omega) (by have:=s[k].toNat_lt;omega)).mono ?_;rw[hp];rintro e w' ⟨rfl,rfl⟩;go_wp2_with fail;go_ret;refine⟨fD ?_,rfl⟩;rw[hr.out,H.out];simp
   ·have H:Hid (au aX (s.data.toList.drop k)=au aX (s.data.toList.drop (k+1))+1):=by show _=_;rw[hd.out];simp[au,hp]
    go_wp2_with fail;refine(iE _ _ (by omega) (by have:=s[k].toNat_lt;omega)).mono ?_;rw[hp];rintro e w' ⟨rfl,rfl⟩;go_wp2_with fail
    go_round
    case rel=>exact⟨k+1,by omega,by omega,by go_num,by show _=_;rw[hr.out,H.out];omega⟩
    case measure=>simp[intOf];omega
  ·have H:Hid (au aX (s.data.toList.drop k)=0):=by show _=_;rw[zaW (by simp;omega)];rfl
   go_wp2_with fail;go_ret;refine⟨fD ?_,rfl⟩;rw[hr.out,H.out];simp
theorem C5 (a b:Int):Ξ b (a.tmod b)=Ξ a b:=by
 have h:(a.tmod b)=a-b*(a.tdiv b):=by have:=Int.mul_tdiv_add_tmod a b;omega
 rw[h,Int.gcd_sub_mul_left_right,Int.gcd_comm]
theorem Hg (a b:Int)(hb:b≠0):(a.tmod b).natAbs <b.natAbs:=by
 rw[Int.natAbs_tmod];exact Nat.mod_lt _ (by omega)
theorem Mk (t:Int)(b:Int)(h:t.natAbs<b.natAbs)(hb1: -4611686018427387904≤b)(hb2:b≤4611686018427387904): -4611686018427387904≤t∧t≤4611686018427387904:=by omega
theorem rC (a:Int):((Ξ a 0:Nat):Int)=max a (-a):=by
 rw[Int.gcd_zero_right];omega
theorem C6 (n d:Int)(w:Θ)(h1: -4611686018427387904≤n)(h2:n≤4611686018427387904)(h3: -4611686018427387904≤d)(h4:d≤4611686018427387904):Φ prog 132 #[Γ Δ n,Γ Δ d] w λe w'=>e=.returned (Γ Δ (Ξ n d))∧∃m,w'=w.drewN m:=by
 go_enter func132,ntmps132
 go_wp2
 go_loopw [0,1] (λx y wr=>∃a b:Int,x=Γ Δ a∧y=Γ Δ b∧-4611686018427387904≤a∧a≤4611686018427387904∧-4611686018427387904≤b∧b≤4611686018427387904∧Hid (Ξ a b=Ξ n d)∧∃m,wr=w.drewN m) (λ_ y _=>(intOf y).natAbs)
 case atStart=>exact⟨n,d,rfl,rfl,h1,h2,h3,h4,rfl,0,rfl⟩
 case round=>
  obtain⟨a,b,rfl,rfl,ha1,ha2,hb1,hb2,hg,m,rfl⟩:=hrel;by_cases hb:b=0
  ·subst hb
   go_wp2
   go_ret;exact⟨fD (by rw[←hg.out,rC]),_,rfl⟩
  ·have Ow:(b != 0)=true:=by simpa using hb
   have HT:Hid ((a.tmod b).natAbs <b.natAbs):=Hg a b hb;obtain⟨t1,t2⟩:=Mk _ _ HT.out hb1 hb2
   go_wp2
   go_quiet (fail)
   go_wp2
   go_roundw
   case rel=>exact⟨b,a.tmod b,rfl,rfl,hb1,hb2,t1,t2,(C5 a b).trans hg.out,_,Θ.drewN_drewN _ _ _⟩
   case measure=>exact HT.out
theorem FK (n d:Int)(w:Θ)(h1: -4611686018427387904≤n)(h2:n≤4611686018427387904)(h3:1≤d)(h4:d≤4611686018427387904):Φ prog 130 #[Γ Δ n,Γ Δ d] w λe w'=>e=.returned (.tuple #[Γ Δ (n.tdiv (Ξ n d)),Γ Δ (d/(Ξ n d))])∧∃m,w'=w.drewN m:=by
 have hg:1≤((Ξ n d:Nat):Int):=by
  have:0<Ξ n d:=Int.gcd_pos_of_ne_zero_right _ (by omega);omega
 go_enter func130,ntmps130;go_wp2_with (go_at_call 132;refine(C6 _ _ _ (by omega) (by omega) (by omega) (by omega)).mono ?_;rintro e w' ⟨rfl,m,rfl⟩)
 go_quiet (fail)
 go_wp2
 go_ret2;exact⟨rfl,_,Θ.drewN_drewN _ _ _⟩
theorem PY (n g:Int)(h1: -4611686018427387904≤n)(h2:n≤4611686018427387904)(_hg:1≤g): -4611686018427387904≤n.tdiv g∧n.tdiv g≤4611686018427387904:=by
 have:(n.tdiv g).natAbs≤n.natAbs:=by rw[Int.natAbs_tdiv];exact Nat.div_le_self _ _
 omega
theorem Tx (n g:Int)(h1:1≤n)(h2:n≤4611686018427387904)(hg:1≤g):0≤n/g∧n/g≤4611686018427387904:=by
 have h3:=Int.ediv_le_self (a:=n) g (by omega);have h4:=Int.ediv_nonneg (a:=n) (b:=g) (by omega) (by omega);omega
theorem uO (n d:Int)(w:Θ)(h1: -4611686018427387904≤n)(h2:n≤4611686018427387904)(h3:1≤d)(h4:d≤4611686018427387904):Φ prog 125 #[Γ Δ n,Γ Δ d] w λe w'=>e=.returned (.tuple #[Γ Δ (n.tdiv (Ξ n d)),Γ Δ (d/(Ξ n d))])∧∃m,w'=w.drewN m:=by
 have hg:1≤((Ξ n d:Nat):Int):=by
  have:0<Ξ n d:=Int.gcd_pos_of_ne_zero_right _ (by omega);omega
 obtain⟨t1,t2⟩:=PY n _ h1 h2 hg;obtain⟨t3,t4⟩:=Tx d _ h3 h4 hg;go_enter func125,ntmps125;go_wp2_with (go_at_call 130;refine(FK _ _ _ (by omega) (by omega) (by omega) (by omega)).mono ?_;rintro e w' ⟨rfl,m,rfl⟩);generalize n.tdiv (Ξ n d)=u at *;generalize d/(Ξ n d)=v at *
 go_wp2
 go_ret2;exact⟨rfl,_,rfl⟩
theorem yA (n d:Int)(w:Θ)(h1: -4611686018427387904≤n)(h2:n≤4611686018427387904)(h3:1≤d)(h4:d≤4611686018427387904):Φ prog 30 #[Γ Δ n,Γ Δ d] w λe w'=>e=.returned (.tuple #[Γ Δ (n.tdiv (Ξ n d)),Γ Δ (d/(Ξ n d))])∧∃m,w'=w.drewN m:=by
 have hg:1≤((Ξ n d:Nat):Int):=by
  have:0<Ξ n d:=Int.gcd_pos_of_ne_zero_right _ (by omega);omega
 go_enter func30,ntmps30
 go_wp2
 go_loop [6,7] (λx y=>∃a b:Int,x=Γ Δ a∧y=Γ Δ b∧-4611686018427387904≤a∧a≤4611686018427387904∧-4611686018427387904≤b∧b≤4611686018427387904∧Hid (Ξ a b=Ξ n d)) (λ_ y=>(intOf y).natAbs)
 case atStart=>exact⟨n,d,rfl,rfl,h1,h2,by omega,h4,rfl⟩
 case round=>
  obtain⟨a,b,rfl,rfl,ha1,ha2,hb1,hb2,vn⟩:=hrel;by_cases hb:b=0
  ·subst hb;have HM:Hid (((Ξ n d:Nat):Int)=max a (-a)):=by show _=_;rw[←vn.out,rC]
   by_cases ha:a<0
   ·obtain⟨g,rfl⟩:∃g,a=-g:=⟨-a,by omega⟩;have HA:Hid (((Ξ n d:Nat):Int)=g):=by show _=_;rw[HM.out];omega
    have hg1:1≤g:=by rw[←HA.out];exact hg
    go_wp2
    go_quiet (fail)
    go_wp2
    go_ret2;refine⟨?_,_,rfl⟩;rw[HA.out];rfl
   ·have HA:Hid (((Ξ n d:Nat):Int)=a):=by show _=_;rw[HM.out];omega
    have ha1:1≤a:=by rw[←HA.out];exact hg
    go_wp2
    go_quiet (fail)
    go_wp2
    go_ret2;refine⟨?_,_,rfl⟩;rw[HA.out];rfl
  ·have Ow:(b != 0)=true:=by simpa using hb
   have HT:Hid ((a.tmod b).natAbs <b.natAbs):=Hg a b hb;obtain⟨t1,t2⟩:=Mk _ _ HT.out hb1 hb2
   go_wp2
   go_round
   case rel=>exact⟨b,a.tmod b,rfl,rfl,hb1,hb2,t1,t2,(C5 a b).trans vn.out⟩
   case measure=>exact HT.out
theorem A9 (l:List UInt8)(k:Nat)(h:k<(η (Array.mk l)).size):(η (Array.mk l))[k]'h=l[k]'h:=rfl
section
attribute [local go_sem] ry A9 oU rB jg
theorem qi (n:Int)(w:Θ):Φ prog 127 #[Γ Δ n] w λe w'=>e=.returned (.tuple #[.string ⟨⟨nameOf n⟩⟩,.bool (hasName n)])∧w'=w:=by
 go_enter func127,ntmps127;go_wp2_with fail;all_goals
  go_ret2;refine⟨?_,rfl⟩;simp_all [nameOf,hasName]
theorem pQ (n:Int)(w:Θ):Φ prog 119 #[Γ Δ n] w λe w'=>e=.returned (.bool (decide (33≤n∧n≤126)))∧w'=w:=by
 go_enter func119,ntmps119;go_wp2_with fail;all_goals
  go_ret;exact⟨bE (by simp;try omega),rfl⟩
theorem C7 (l:List UInt8)(w:Θ):Φ prog 112 #[.string ⟨⟨l⟩⟩] w λe w'=>e=.returned (Γ Δ (cW l))∧w'=w:=by
 go_enter func112,ntmps112;go_wp2_with fail;all_goals
  go_ret;refine⟨fD ?_,rfl⟩;simp_all [cW]
end
structure P0 (T:ζ) (cells off:Nat):Prop where
 lies:liesAt prog prog.depth T (cells/prog.cellsOf T) off 172 1=true
 lt:off<cells
theorem Mq:P0 172 2 0:=⟨by kernel_rfl,by omega⟩
theorem uu:(prog.info? 172).map (·.size)=some 2:=by kernel_rfl
theorem infoByte:(prog.info? 5).map (λi=>(i.zero,i.size,i.bytes))=some (some (.int .u8 0),1,1):=by kernel_rfl
structure iW (w:Θ) (T:ζ) (off B b:Nat) (cs:Array Λ) (v:Λ) (bs:List Λ):Prop where
 hB:B≤b
 blk:w.heap[b]?=some (.cells cs T (0,0))
 c0:cs[off]?=some (.pointer none)∨cs[off]?=some (.pointer (some ⟨b,off,none⟩))
 c1:cs[off+1]?=some v
 own:w.ownsRow B 5 1 v bs.length bs
structure jE (w w':Θ) (b:Nat) (v v':Λ):Prop where
 os:w'.os=w.os
 tape:w'.tape=w.tape
 output:w'.output=w.output
 size:w.heap.size≤w'.heap.size
 block:∀k,k<w.heap.size→k≠b→some k≠v.ownBlock→w'.heap[k]?=w.heap[k]?
 buf:v'.ownBlock=v.ownBlock∨∃k,v'.ownBlock=some k∧w.heap.size≤k
theorem jE.refl (w:Θ)(b:Nat)(v:Λ):jE w w b v v:=⟨rfl,rfl,rfl,zab _,λ_ _ _ _=>rfl,Or.inl rfl⟩
theorem jE.trans {w w' w'':Θ}{b:Nat}{v v' Yl:Λ}(h:jE w w' b v v')(k:jE w' w'' b v' Yl):jE w w'' b v Yl:=by
 refine⟨k.os.trans h.os,k.tape.trans h.tape,k.output.trans h.output,zaj h.size k.size,λi hi hb hv=>?_,?_⟩
 ·have hne:some i≠v'.ownBlock:=by
   rcases h.buf with e|⟨g,e,hg⟩
   ·rw[e];exact hv
   ·rw[e];intro x;simp only[zaG]at x;omega
  exact(k.block i (zaH hi h.size) hb hne).trans (h.block i hi hb hv)
 ·rcases k.buf with e|⟨g,e,hg⟩
  ·rw[e];exact h.buf
  ·exact Or.inr ⟨g,e,zaj h.size hg⟩
theorem jE.below {w w':Θ}{B b:Nat}{v v':Λ}(h:jE w w' b v v')(hB:B≤w.heap.size)(hb:B≤b)(hv:∀k,v.ownBlock=some k→B≤k):Below B w w':=
 ⟨h.os,h.tape,h.output,h.size,λk hk=>h.block k (by omega) (by omega) (λe=>by have:=hv k e.symm;omega)⟩
theorem iW.cell {w:Θ}{T:ζ}{off B b:Nat}{cs:Array Λ}{v:Λ}{bs:List Λ}(h:iW w T off B b cs v bs)(j:Nat):w.cell? ⟨b,j,none⟩=cs[j]?:=Lib.cell_of_heap h.blk j
theorem iW.frozen {w:Θ}{T:ζ}{off B b:Nat}{cs:Array Λ}{v:Λ}{bs:List Λ}(h:iW w T off B b cs v bs)(j:Nat):w.frozen? ⟨b,j,none⟩=false:=Lib.frozen_of_heap h.blk j
theorem iW.lt {w:Θ}{T:ζ}{off B b:Nat}{cs:Array Λ}{v:Λ}{bs:List Λ}(h:iW w T off B b cs v bs):b<w.heap.size:=(zag.1 h.blk).1
theorem xl (b off:Nat)(w:Θ)(h0:w.cell? ⟨b,off,none⟩=some (.pointer (some ⟨b,off,none⟩))):Φ prog 117 #[.pointer (some ⟨b,off,none⟩)] w λe w'=>e=.returned (.tuple #[])∧w'=w:=by
 obtain⟨j,hj,_⟩:=zav.1 uu;go_enter func117,ntmps117
 go_wp2
 rw[Lib.run_neq_ptr_same w _ underlying170 hj]
 go_wp2
 go_end0
 exact⟨rfl,rfl⟩
theorem uP (T:ζ)(cells b off:Nat)(X:P0 T cells off)(w:Θ)(h0:w.cell? ⟨b,off,none⟩=some (.pointer none))(Dh:w.shape? b=some (T,cells))(EP:w.frozen? ⟨b,off,none⟩=false):Φ prog 117 #[.pointer (some ⟨b,off,none⟩)] w λe w'=>e=.returned (.tuple #[])∧w'=w.setCell ⟨b,off,none⟩ (.pointer (some ⟨b,off,none⟩)):=by
 obtain⟨j,hj,hjs⟩:=zav.1 uu;go_enter func117,ntmps117
 go_wp2
 rw[Lib.run_to_unsafe w ⟨b,off,none⟩ underlying170 underlying104 hj (by rw[hjs];decide) Dh X.lt];simp only[Result.andThen];rw[Oper.upon_value]
 go_wp2
 rw[run_callFunc_extern func126 (by kernel_rfl) (by kernel_rfl) (by kernel_rfl) (e:=Extern.AbiNoEscape.same) (by kernel_rfl)];rw[Lib.run_noEscape];simp only[Result.andThen];rw[Oper.upon_value]
 go_wp2
 rw[Lib.run_from_unsafe w ⟨b,off,none⟩ underlying104 underlying170 hj Dh X.lies];simp only[Result.andThen];rw[Oper.upon_value]
 go_wp2
 go_end0
 exact⟨rfl,rfl⟩
def pT (off b:Nat)(cs:Array Λ):Array Λ:=cs.setIfInBounds off (.pointer (some ⟨b,off,none⟩))
theorem FO {off b:Nat}{cs:Array Λ}(h:cs[off]?=some (.pointer (some ⟨b,off,none⟩))):pT off b cs=cs:=by
 apply Array.ext_getElem?
 intro i;unfold pT;rw[zct];split
 ·next e=>subst e;obtain⟨hlt,_⟩:=zag.1 h;rw[zac hlt,h]
 ·rfl
theorem yD {w:Θ}{T:ζ}{off B b:Nat}{cs:Array Λ}{v:Λ}{bs:List Λ}(X:P0 T cs.size off)(hT:T≠5)(h:iW w T off B b cs v bs):Φ prog 117 #[.pointer (some ⟨b,off,none⟩)] w λe w'=>e=.returned (.tuple #[])∧iW w' T off B b (pT off b cs) v bs∧(pT off b cs)[off]?=some (.pointer (some ⟨b,off,none⟩))∧jE w w' b v v:=by
 have hlt:=X.lt;rcases h.c0 with h0|h0
 ·refine(uP T cs.size b off X w ((h.cell off).trans h0) (by simp[Θ.shape?,h.blk]) (h.frozen off)).mono ?_;rintro e w' ⟨rfl,rfl⟩;have hn:=Lib.ownBlock_ne h.own h.blk hT;have hu:(pT off b cs)[off]?=some (.pointer (some ⟨b,off,none⟩)):=by simp[pT,hlt]
  refine⟨rfl,⟨h.hB,?_,Or.inr hu,?_,?_⟩,hu,⟨rfl,rfl,rfl,by simp[Θ.setCell],λk _ hk _=>zay _ _ _ _ hk,Or.inl rfl⟩⟩
  ·have:=heap_setCell_same w b off cs T (.pointer (some ⟨b,off,none⟩)) h.blk;exact this
  ·unfold pT;rw[zct,zaa (by omega)];exact h.c1
  ·exact h.own.kept (row:=some b) ⟨rfl,rfl,rfl,by simp[Θ.setCell],λk _ hk=>zay _ _ _ _ (λe=>hk (by simp[e]))⟩ (Or.inr hn)
 ·refine(xl b off w ((h.cell off).trans h0)).mono ?_;rintro e w' ⟨rfl,rfl⟩;rw[FO h0];exact⟨rfl,h,h0,jE.refl _ _ _⟩
section
variable {P:Program}
end
theorem iW.put {w w2:Θ}{T:ζ}{off B b:Nat}{cs:Array Λ}{v v':Λ}{bs bs':List Λ}(h:iW w T off B b cs v bs)(hT:T≠5)(hg:w.grownBy w2 v.ownBlock)
 (hown:w2.ownsRow B 5 1 v' bs'.length bs')(cG:v'.ownBlock=v.ownBlock∨∃k,v'.ownBlock=some k∧w.heap.size≤k):
 iW (w2.setCell ⟨b,off+1,none⟩ v') T off B b (cs.setIfInBounds (off+1) v') v' bs'∧jE w (w2.setCell ⟨b,off+1,none⟩ v') b v v':=by
 have hn:=Lib.ownBlock_ne h.own h.blk hT;have hlt:=h.lt;have hb2:w2.heap[b]?=some (.cells cs T (0,0)):=(hg.block b hlt (λe=>hn e.symm)).trans h.blk;have Ov:=Lib.ownBlock_ne hown hb2 hT;obtain⟨sG,_⟩:=zag.1 h.c1;refine⟨⟨h.hB,heap_setCell_same w2 b (off+1) cs T v' hb2,?_,?_,?_⟩,⟨hg.os,hg.tape,hg.output,?_,λk hk hkb Vi=>?_,cG⟩⟩
 ·rw[zct,zaa (by omega)];exact h.c0
 ·simp[sG]
 ·exact hown.kept (row:=some b) ⟨rfl,rfl,rfl,by simp[Θ.setCell],λk _ hk=>zay _ _ _ _ (λe=>hk (by simp[e]))⟩ (Or.inr Ov)
 ·have:=hg.size;simpa[Θ.setCell]using this
 ·rw[zay _ _ _ _ hkb];exact hg.block k hk Vi
section
variable {P:Program}
theorem xm (w:Θ)(base:Nat)(t ty e:ζ)(i:TypeInfo)(z:Λ)(ht:P.underlying t=some (.slice e))(hi:P.info? e=some i)(hz:i.zero=some z)
 (hsize:i.size=1)(hby:i.bytes=1)(hzs:z.cells.size=1)
 (v:Λ)(n:Nat)(xs:List Λ)(hown:w.ownsRow base e 1 v n xs)
 (a:Addr)(m c:Nat)(news:List Λ)(hm:m≠0)(hl:news.length=m*1)(hnews:∀j u,news[j]?=some u→w.cell? (a.add j)=some u)(h1:∀u∈news,u.oneCell'=true)
 (h63:n+m≤Ω)(hbytes:(n+m)*1≤140737488355328)(hbase:base≤w.heap.size):
 ∃v' w',(Builtin.append_ #[t,t] ty #[v,.slice (some a) m c]).run P w=.ok v' w'∧w'.ownsRow base e 1 v' (n+m) (xs++news)∧w.grownBy w' v.ownBlock∧
  (v'.ownBlock=v.ownBlock∨∃k,v'.ownBlock=some k∧w.heap.size≤k):=by
 obtain⟨v',w',hr,h2,h3,h4⟩:=run_append_own (P:=P) w base t ty e i z 1 1 ht hi hz hsize hby hzs (by decide) v n xs hown a m c news hl hnews h1 h63 hbytes hbase;refine⟨v',w',hr,h2,h3,?_⟩;have Mr:n+m≤9223372036854775807:=by simp only[Ω]at h63;omega
 rcases hown.2 with⟨rfl,rfl⟩|⟨g,cap,cur,rfl,hbg,hg,hnc,hcm,hcs,iX⟩
 ·have ug:=run_append_nil (P:=P) w t ty e i z ht hi hz a m c news (by rw[hsize];exact hl) hnews (by omega) (by omega) (by rw[hby];omega);rw[ug]at hr;injection hr with a b;rw[←a];exact Or.inr ⟨_,rfl,zab _⟩
 ·by_cases hroom:n+m≤cap
  ·have ug:=run_append_room (P:=P) w t ty e i ht hi g n cap cur hg a m c news (by rw[hsize];exact hl) hnews h1 hroom (by rw[hsize];omega);rw[ug]at hr;injection hr with a b;rw[←a];exact Or.inl rfl
  ·have holds:∀j u,xs[j]?=some u→w.cell? ((⟨g,0,none⟩:Addr).add j)=some u:=hown.cells (g:=g) rfl;have ug:=run_append_grow (P:=P) w t ty e i z ht hi hz ⟨g,0,none⟩ n cap xs (by rw[hsize];exact hown.1) holds a m c news (by rw[hsize];exact hl) hnews (by omega) (by omega) (by rw[hby];exact growslice_fits (by omega) hbytes);rw[ug]at hr;injection hr with a b;rw[←a];exact Or.inr ⟨_,rfl,zab _⟩
theorem rH {w:Θ}{ops:Array Oper}{rest:List Oper}{o:Oper}{a:Act}{Q:Exit→Act→Θ→Prop}(hgd:o.guard=none)(sl x:Operand)(t:ζ)
 (ho:o.op=.call { callee:= .builtin .append,args:=#[sl,x],argTypes:=#[t,t] })
 (base:Nat)(e:ζ)(i:TypeInfo)(z:Λ)(ht:P.underlying t=some (.slice e))(hi:P.info? e=some i)(hz:i.zero=some z)
 (hsize:i.size=1)(hby:i.bytes=1)(hzs:z.cells.size=1)
 (v:Λ)(n:Nat)(xs:List Λ)(hs:a.eval sl=v)(hown:w.ownsRow base e 1 v n xs)
 (ad:Addr)(m c:Nat)(news:List Λ)(hx:a.eval x=.slice (some ad) m c)(hm:m≠0)(hl:news.length=m*1)(hnews:∀j u,news[j]?=some u→w.cell? (ad.add j)=some u)(h1:∀u∈news,u.oneCell'=true)
 (h63:n+m≤Ω)(hbytes:(n+m)*1≤140737488355328)(hbase:base≤w.heap.size)
 (h:∀v' w',w'.ownsRow base e 1 v' (n+m) (xs++news)→w.grownBy w' v.ownBlock→(v'.ownBlock=v.ownBlock∨∃k,v'.ownBlock=some k∧w.heap.size≤k)→wpList P ops Q rest (a.put o.dst v') w'):wpList P ops Q (o::rest) a w:=by
 refine wpList_plain hgd λK hK=>?_;obtain⟨v',w',hr,h2,h3,h4⟩:=xm (P:=P) w base t o.type e i z ht hi hz hsize hby hzs v n xs hown ad m c news hm hl hnews h1 h63 hbytes hbase;unfold Oper.wp execOp;simp only[ho,resolve,invoke,builtin,zbb,zbf,zbc,zbR,zaC,zbv,hs,hx,hr];exact hK _ _ (h v' w' h2 h3 h4)
end
theorem iW.alloc {w:Θ}{T:ζ}{off B b:Nat}{cs:Array Λ}{v:Λ}{bs:List Λ}(h:iW w T off B b cs v bs)(o:Obj):iW (w.alloc o) T off B b cs v bs:=
 ⟨h.hB,(zaK w o b h.lt).trans h.blk,h.c0,h.c1,h.own.alloc o⟩
theorem jE.aF {w w':Θ}{b:Nat}{v:Λ}(h:Below w.heap.size w w'):jE w w' b v v:=⟨h.os,h.tape,h.output,h.size,λk hk _ _=>h.block k hk,Or.inl rfl⟩
theorem yE {w:Θ}{T:ζ}{off B b:Nat}{cs:Array Λ}{v:Λ}{bs:List Λ}(X:P0 T cs.size off)(hT:T≠5)(h:iW w T off B b cs v bs)(c:Int)(hlen:bs.length+1≤140737488355328)(hBw:B≤w.heap.size):Φ prog 102 #[.pointer (some ⟨b,off,none⟩),.int .u8 c] w λe w'=>e=.returned .nilIface∧∃v',iW w' T off B b ((pT off b cs).setIfInBounds (off+1) v') v' (bs++[.int .u8 c])∧jE w w' b v v':=by
 obtain⟨i0,hi,hz0,hz1,hz2⟩:=info_parts infoByte;go_enter func102,ntmps102;go_wp2_with (go_at_call 117;refine(yD X hT h).mono ?_);rintro e w1 ⟨rfl,h1,hc0,FD⟩;have c0:w1.cell? ⟨b,off,none⟩=some (.pointer (some ⟨b,off,none⟩)):=(h1.cell off).trans hc0;have c1:w1.cell? ⟨b,off+1,none⟩=some v:=(h1.cell (off+1)).trans h1.c1;have hs1:=FD.size;go_wp2_with (at_builtin;refine rH rfl _ _ 162 rfl B 5 i0 (.int .u8 0) underlying162 hi hz0 hz1 hz2 rfl _ _ _ rfl (h1.alloc _).own ⟨w1.heap.size,0,none⟩ 1 1 [.int .u8 c] rfl (by decide) rfl ?c1 ?c2 ?c3 ?c4 ?c5 ?_)
 case c1=>
  intro j u hj
  match j,hj with
  |0,hj=>simp at hj;subst hj;simp[Addr.add]
 case c2=>intro u hu;simp at hu;subst hu;rfl
 case c3=>unfold Ω;omega
 case c4=>omega
 case c5=>simp;omega
 intro v' w2 hown' hgrow cG;have Ym:=h1.alloc (.cells #[.int .u8 c] 5);obtain⟨hA,hTo⟩:=Ym.put hT hgrow (bs':=bs++[.int .u8 c]) (by simpa using hown') (by simpa using cG);have hn:=Lib.ownBlock_ne Ym.own Ym.blk hT;have hb2:w2.heap[b]?=some (.cells (pT off b cs) T (0,0)):=(hgrow.block b Ym.lt (λe=>hn e.symm)).trans Ym.blk;have d0:w2.cell? ⟨b,off,none⟩=some (.pointer (some ⟨b,off,none⟩)):=(Lib.cell_of_heap hb2 _).trans hc0;have d1:w2.cell? ⟨b,off+1,none⟩=some v:=(Lib.cell_of_heap hb2 _).trans h1.c1;have f1:w2.frozen? ⟨b,off+1,none⟩=false:=Lib.frozen_of_heap hb2 _;obtain⟨ao,n',cap,rfl⟩:∃ao n' cap,v'=.slice ao n' cap:=by
  rcases hown'.2 with⟨hv,_⟩|⟨g,cap,cur,hv,_⟩
  ·exact⟨_,_,_,hv⟩
  ·exact⟨_,_,_,hv⟩
 go_wp2
 go_ret;exact⟨rfl,_,hA,(FD.trans (jE.aF ((zad _ _).alloc (zab _) _))).trans hTo⟩
theorem yF {w:Θ}{T:ζ}{off B b:Nat}{cs:Array Λ}{v:Λ}{l:List UInt8}(h:iW w T off B b cs v (Lib.byteCells l))(h0:l≠[]):Φ prog 100 #[.pointer (some ⟨b,off,none⟩)] w λe w'=>e=.returned (.string ⟨l.toArray⟩)∧jE w w' b v v:=by
 have hl0:l.length≠0:=by simpa using h0
 have hown:=h.own;rw[Lib.byteCells_length]at hown;have hc1:=h.c1;have hbk:=h.blk;clear h;obtain⟨g,cap,cur,rfl,hbg,hg,hnc,hcm,hcs,iX⟩:∃g cap cur,v=.slice (some ⟨g,0,none⟩) l.length cap∧B≤g∧w.heap[g]?=some (.cells cur 5 (0,0))∧l.length≤cap∧cap≤Ω∧cur.size=cap*1∧cur.toList.take (l.length*1)=Lib.byteCells l:=by
  rcases hown.2 with⟨_,hz⟩|⟨g,cap,cur,hv,r⟩
  ·exact absurd hz hl0
  ·exact⟨g,cap,cur,hv,r⟩
 have c1:w.drew.cell? ⟨b,off+1,none⟩=some (.slice (some ⟨g,0,none⟩) l.length cap):=by
  have:w.drew.heap[b]?=some (.cells cs T (0,0)):=hbk;rw[Lib.cell_of_heap this];exact hc1
 have hSD:(Builtin.unsafeSliceData_ #[162] 184 #[.slice (some ⟨g,0,none⟩) l.length cap]).run prog w.drew=.ok (.pointer (some ⟨g,0,none⟩)) w.drew:=
  Lib.run_unsafeSliceData_row _ _ _ _ _ _ (by omega)
 have hUS:(Builtin.unsafeString_ #[184,3] 9 #[.pointer (some ⟨g,0,none⟩),Γ Δ l.length]).run prog w.drew=.ok (.string ⟨l.toArray⟩) (w.drew.freeze ⟨g,0,none⟩ l.length):=by
  refine Lib.run_unsafeString_row w.drew 184 3 9 5 underlying184 (by kernel_rfl) g cur.size (by have vn:w.drew.heap[g]?=some (.cells cur 5 (0,0)):=hg;simp[Θ.shape?,vn]) l h0 (by omega) (by unfold Ω at hcm;omega) ?_;intro j x hx;have:=hown.cells (g:=g) rfl j (.int .u8 x.toNat) (by simp[Lib.byteCells,hx]);exact this
 have hF:Hid (jE w (w.drew.freeze ⟨g,0,none⟩ l.length) b (.slice (some ⟨g,0,none⟩) l.length cap) (.slice (some ⟨g,0,none⟩) l.length cap)):=by
  unfold Θ.freeze;split
  ·exact⟨rfl,rfl,rfl,zab _,λ_ _ _ _=>rfl,Or.inl rfl⟩
  ·refine⟨rfl,rfl,rfl,by simp,λk hk hkb Vi=>?_,Or.inl rfl⟩;simp only[Array.getElem?_modify];rw[zaa (λe=>Vi (by simp[Λ.ownBlock,←e]))];rfl
 clear hown hbk hc1 hg iX;go_enter func100,ntmps100
 go_wp2
 go_region;all_goals (go_wp2;go_ret;exact⟨rfl,hF.out⟩)
end Go.Proofs.YtlhimdjkkiflhaaGreat
