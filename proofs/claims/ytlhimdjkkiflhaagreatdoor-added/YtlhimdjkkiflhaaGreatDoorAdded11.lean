/-
  Added: whatever the whole numbers and the sign: sums, differences and products of up to twelve of them, taken into a range, are what they are; and a quotient times what it was divided by is what was divided. Its conditions: those of the form alone; the tables of strconv and of math/bits hold what the program's text lays.
-/
import Derived.Conc.LeavingOf
import Derived.Deep.DeepHandedRow
import Derived.Lib.LaidTab
import Derived.ChangeShapes
import Derived.WideShapes
import Derived.OpenShut
import Derived.SevenTiedAt
import Derived.Test.YtlhimdjkkiflhaaGreatDoorCards
import Derived.Test.YtlhimdjkkiflhaaGreatDoorTie
import Derived.RowKit
import Derived.ChangeSlices
import Derived.Deep.Slices
import Derived.ProofKit
import Derived.SizedLaws
import Derived.Test.YtlhimdjkkiflhaaGreatDoorAdded10
set_option maxHeartbeats 8000000
set_option maxRecDepth 100000
open Go renaming undef→Γ,Value→Θ,World→Λ,TypeId→η,Frame→θ,execOp→ι
open Go.Lib renaming decDigits→Δ
open Go.Act renaming eval→Ξ,put→Ω
open Option renaming getD→Φ
open Go.Departure renaming mixedOrders→ζ
namespace Go.Ren
open Go.Proofs.Tryz
open Go Go.Conc Go.ConcX Go.RowKit Go.Proofs Go.Loop Go.Proofs.YtlhimdjkkiflhaaGreatDoor
def T8 (op wt:Int)(got:List UInt8)(er:Int)(z5 z6 z7 z8 z9 Tz TA TB z21 z22 z23 z24 z25 z26 TC z28 TD TE z31 z33 TF TG TH z37 TJ TK z40 TL z44 TM z46 TN TP TQ TR z53 TT TU TV TW TX z59 TY TZ T1 T2 z64 T3 T4 z67 T5 T6 z70 T7 z72 T9 Ua z75 z76 Ub Uc Ud z80 Ue Uf Ug Uh z85 Ui z87 Uj Uk Ul z91 Um z93 Un Uo Up Uq Ur Us A2 A3 A4 A5 A6 z105 A7 z107 A8 z109 A9 Ba Bb Bc Be Bf z116 z117 Bg z119 Bh Bi Bj Bl z124 Bn Bo:Θ):Act:=⟨#[Γ,.int .i64 op,Γ,Γ,.bool false,z5,z6,z7,z8,z9,Tz,TA,.int .i64 wt,TB,.string ⟨⟨got⟩⟩,.int .i64 er,Γ,Γ,Γ,Γ,Γ,z21,z22,z23,z24,z25,z26,TC,z28,TD,TE,z31,Γ,z33,TF,TG,TH,z37,TJ,TK,z40,Γ,TL,Γ,z44,TM,z46,TN,TP,Γ,TQ,Γ,TR,z53,TT,TU,TV,TW,TX,z59,TY,TZ,T1,T2,z64,T3,T4,z67,T5,T6,z70,T7,z72,T9,Ua,z75,z76,Ub,Uc,Ud,z80,Ue,Uf,Ug,Uh,z85,Ui,z87,Uj,Uk,Ul,z91,Um,z93,Un,Uo,Up,Uq,Ur,Us,A2,A3,A4,A5,A6,z105,A7,z107,A8,z109,A9,Ba,Bb,Bc,Be,Bf,z116,z117,Bg,z119,Bh,Bi,Bj,Bl,z124,Bn,Bo,Γ,Γ,Γ,Γ,Γ,Γ,Γ,Γ,Γ,Γ,Γ,Γ,Γ,Γ,Γ,Γ,Γ,Γ,Γ,Γ,Γ,Γ,Γ,Γ,Γ,Γ,Γ,Γ,Γ,Γ,Γ,Γ,Γ,Γ,Γ,Γ,Γ,Γ,Γ,Γ,Γ,Γ,Γ,Γ,Γ,Γ,Γ,Γ],[]⟩
def U8 (na nb:Nat)(z1 z5 z6 z7 z8 z9 Tz TA z12 TB z14 z15 z16 z21 z22 z23 z24 z25 z26 TC z28 TD TE z31 z33 TF TG TH z37 TJ TK z40 TL z44 TM z46 TN TP TQ TR z53 TT TU TV TW TX z59 TY TZ T1 T2 z64 T3 T4 z67 T5 T6 z70 T7 z72 T9 Ua z75 z76 Ub Uc Ud z80 Ue Uf Ug Uh z85 Ui z87 Uj Uk Ul z91 Um z93 Un Uo Up Uq Ur Us A2 A3 A4 A5 A6 z105 A7 z107 A8 z109 A9 Ba Bb Bc Be Bf z116 z117 Bg z119 Bh Bi Bj Bl z124 Bn Bo Ut z130 z131 Uu Uv Uw Ux Uy Uz z138 z139 UA z141 UB z143 UC z145 z146 UD z148 UE UF UG z152:Θ):Act:=⟨#[Γ,z1,Γ,Γ,.bool false,z5,z6,z7,z8,z9,Tz,TA,z12,TB,z14,z15,z16,.int .i64 (na:Nat),.string ⟨⟨Δ nb⟩⟩,Γ,Γ,z21,z22,z23,z24,z25,z26,TC,z28,TD,TE,z31,Γ,z33,TF,TG,TH,z37,TJ,TK,z40,Γ,TL,Γ,z44,TM,z46,TN,TP,Γ,TQ,Γ,TR,z53,TT,TU,TV,TW,TX,z59,TY,TZ,T1,T2,z64,T3,T4,z67,T5,T6,z70,T7,z72,T9,Ua,z75,z76,Ub,Uc,Ud,z80,Ue,Uf,Ug,Uh,z85,Ui,z87,Uj,Uk,Ul,z91,Um,z93,Un,Uo,Up,Uq,Ur,Us,A2,A3,A4,A5,A6,z105,A7,z107,A8,z109,A9,Ba,Bb,Bc,Be,Bf,z116,z117,Bg,z119,Bh,Bi,Bj,Bl,z124,Bn,Bo,Γ,Γ,Ut,z130,z131,Uu,Uv,Uw,Ux,Uy,Uz,z138,z139,UA,z141,UB,z143,UC,z145,z146,UD,z148,UE,UF,UG,z152,Γ,Γ,Γ,Γ,Γ,Γ,Γ,Γ,Γ,Γ,Γ,Γ,Γ,Γ,Γ,Γ,Γ,Γ,Γ,Γ,Γ,Γ],[]⟩
section
variable {Ψ:aV}{w:Λ}
theorem aI.adm {X y9 y10 y11 y13 y22 y23 y24 y25 y26 y27 y28 y29 y30 y31 y33 y34 y35 y36 y37 y38 y39 y40 y42 y44 y45 y46 y47 y48 y50 y52 y53 y54 y55 y56 y57 y58 y59 y60 y61 y62 y63 y64 y65 y66 y67 y68 y69 y70 y71 y72 y73 y74 y75 y76 y77 y78 y79 y80 y81 y82 y83 y84 y85 y86 y87 y88 y89 y90 y91 y92 y93 y94 y95 y96 y97 y98 y99 Th Ti Tj Tk Tl Tn Tq Tr Ts Tt Tu Tv Tx Ty jh jm ji jq jk:Θ}{a8:Option Addr}{k n cA:Nat}{op wt er:Int}{ls got:List UInt8}{w1:Λ}(hk:k<3)(hn:n≤12)(hls:ls.length≤300)(nR:kI (ls++[41])=some (got,er))(hvq:VQ (aG ((ls++[41]).length + 1) (ls++[41]) 0) 30)(her:k=1→n=0→er=10)(hp:YtlhimdjkkiflhaaGreatDoor.Pow w)(hb:ak w w1)
 (F3:k=1→n=0→∀w' a todo,a.defers=[]→a.tmps.getD 4 Γ=.bool true→ak w w'→MN prog Sz Ψ (base 8) (qL X jh jm ji jq jk) a todo w')
 (h:¬(k=1∧n=0)→∀w' z5 z6 z7 z8 z9 Tz TA TB z21 z22 z23 z24 z25 z26 TC z28 TD TE z31 z33 TF TG TH z37 TJ TK z40 TL z44 TM z46 TN TP TQ TR z53 TT TU TV TW TX z59 TY TZ T1 T2 z64 T3 T4 z67 T5 T6 z70 T7 z72 T9 Ua z75 z76 Ub Uc Ud z80 Ue Uf Ug Uh z85 Ui z87 Uj Uk Ul z91 Um z93 Un Uo Up Uq Ur Us A2 A3 A4 A5 A6 z105 A7 z107 A8 z109 A9 Ba Bb Bc Be Bf z116 z117 Bg z119 Bh Bi Bj Bl z124 Bn Bo,ak w w'→aI prog Sz Ψ (base 8) (qL X jh jm ji jq jk) (T8 op wt got er z5 z6 z7 z8 z9 Tz TA TB z21 z22 z23 z24 z25 z26 TC z28 TD TE z31 z33 TF TG TH z37 TJ TK z40 TL z44 TM z46 TN TP TQ TR z53 TT TU TV TW TX z59 TY TZ T1 T2 z64 T3 T4 z67 T5 T6 z70 T7 z72 T9 Ua z75 z76 Ub Uc Ud z80 Ue Uf Ug Uh z85 Ui z87 Uj Uk Ul z91 Um z93 Un Uo Up Uq Ur Us A2 A3 A4 A5 A6 z105 A7 z107 A8 z109 A9 Ba Bb Bc Be Bf z116 z117 Bg z119 Bh Bi Bj Bl z124 Bn Bo) [.code (qA f8 12)] w'):
 aI prog Sz Ψ (base 8) (qL X jh jm ji jq jk) (M8 op k ls a8 n cA wt y9 y10 y11 y13 y22 y23 y24 y25 y26 y27 y28 y29 y30 y31 y33 y34 y35 y36 y37 y38 y39 y40 y42 y44 y45 y46 y47 y48 y50 y52 y53 y54 y55 y56 y57 y58 y59 y60 y61 y62 y63 y64 y65 y66 y67 y68 y69 y70 y71 y72 y73 y74 y75 y76 y77 y78 y79 y80 y81 y82 y83 y84 y85 y86 y87 y88 y89 y90 y91 y92 y93 y94 y95 y96 y97 y98 y99 Th Ti Tj Tk Tl Tn Tq Tr Ts Tt Tu Tv Tx Ty) [.code (qA f8 10)] w1:=by
 have mixed:prog.follows ζ=true:=by kernel_rfl
 have HH:Hid _:=h;have HT:Hid _:=F3;have je:Hid (ak w w1):=hb;clear h F3 hb;unfold M8;rw[adh];refine aI.seq ?_;refine aI.region ?_;rw[MT,show List.range 8=[0,1,2,3,4,5,6,7] from rfl];refine aI.MO cj uK.1 uK.4 (by decide) (by kernel_rfl) (by kernel_rfl) (.string ⟨⟨ls⟩⟩) (λw' _=>by simp[ι,uK.2,Ξ]) uK.3 rfl ?_;refine aI.MO cj uL.1 uL.4 (by decide) (by kernel_rfl) (by kernel_rfl) (.string ⟨⟨ls++[41]⟩⟩) (λw' _=>oL (p:=ls) (q:=[41]) uL.2 (by simp[Ξ,Ω]) rfl (by simp;omega) w') uL.3 rfl ?_;refine aI.YY (s:=ls++[41]) (by simp;omega) nR hvq (Pow.Ic hp je.out) uM.1 uM.4 (by decide) uM.2 rfl (by simp[Ξ,Ω]) uM.3 rfl λw2 hb2=>?_;have iu:Hid (ak w w2):=je.out.trans hb2;clear je hb2 nR hvq hp;refine aI.ops cj rfl ⟨_,wD⟩ rfl XG (by kernel_rfl) 3 ((oA f8 10).toList.drop 3) (by rw[zax,zbM,MT];rfl) (λj=>by rw[zbs,zbq]) λn9 d'=>?_;have jl:Hid (ak w (w2.re n9 d')):=ak.heap iu.out rfl;clear iu;generalize w2.re n9 d'=w3 at *;generalize en:([.code (qA f8 11)]:List Item)=kq;dsimp only[oA,pA,qA,Ren.fh,Ren.bD,Ren.aZ,f8,Φ];simp only[zbh,zba];go_wp2_with fail;subst en;show aI _ _ _ _ _ _ _ _;rw[ac9];refine aI.seq ?_;refine aI.code cj (by kernel_rfl) (by kernel_rfl) rfl ⟨_,wD⟩ rfl λτ d=>?_;have oB:Hid (ak w (w3.re τ d)):=ak.heap jl.out rfl;clear jl;generalize w3.re τ d=w4 at *;generalize en:([.code (qA f8 12)]:List Item)=kq;dsimp only[pA,qA,Ren.bD,Ren.aZ,f8,Φ];by_cases h1:k=1
 ·subst h1;by_cases h0:n=0
  ·subst h0;obtain rfl:=her rfl rfl;go_wp2_with fail;show ∀todo,MN _ _ _ _ _ _ _ _;intro todo;exact HT.out (by simp) (by simp) _ _ todo rfl (by simp) (ak.heap oB.out rfl)
  ·have Py:((n:Int)==0)=false:=by rw[zai];omega
   clear her;go_wp2_with fail;subst en;show aI _ _ _ _ _ _ _ _;exact HH.out (λhx=>h0 hx.2) _ _ _ _ _ _ _ _ _ _ _ _ _ _ _ _ _ _ _ _ _ _ _ _ _ _ _ _ _ _ _ _ _ _ _ _ _ _ _ _ _ _ _ _ _ _ _ _ _ _ _ _ _ _ _ _ _ _ _ _ _ _ _ _ _ _ _ _ _ _ _ _ _ _ _ _ _ _ _ _ _ _ _ _ _ _ _ _ _ _ _ _ _ _ _ _ _ _ _ _ _ _ _ _ _ _ _ _ _ _ oB.out
 ·have wR:((k:Int)==1)=false:=by rw[zai];omega
  clear her;go_wp2_with fail;subst en;show aI _ _ _ _ _ _ _ _;exact HH.out (λhx=>h1 hx.1) _ _ _ _ _ _ _ _ _ _ _ _ _ _ _ _ _ _ _ _ _ _ _ _ _ _ _ _ _ _ _ _ _ _ _ _ _ _ _ _ _ _ _ _ _ _ _ _ _ _ _ _ _ _ _ _ _ _ _ _ _ _ _ _ _ _ _ _ _ _ _ _ _ _ _ _ _ _ _ _ _ _ _ _ _ _ _ _ _ _ _ _ _ _ _ _ _ _ _ _ _ _ _ _ _ _ _ _ _ _ oB.out
end
section
variable {Ψ:aV}{w:Λ}
theorem aI.adn {X z5 z6 z7 z8 z9 Tz TA TB z21 z22 z23 z24 z25 z26 TC z28 TD TE z31 z33 TF TG TH z37 TJ TK z40 TL z44 TM z46 TN TP TQ TR z53 TT TU TV TW TX z59 TY TZ T1 T2 z64 T3 T4 z67 T5 T6 z70 T7 z72 T9 Ua z75 z76 Ub Uc Ud z80 Ue Uf Ug Uh z85 Ui z87 Uj Uk Ul z91 Um z93 Un Uo Up Uq Ur Us A2 A3 A4 A5 A6 z105 A7 z107 A8 z109 A9 Ba Bb Bc Be Bf z116 z117 Bg z119 Bh Bi Bj Bl z124 Bn Bo jh jm ji jq jk:Θ}{op wt:Int}{na nb:Nat}{w3:Λ}(UZ: -1000000≤wt)(hw2:wt≤1000000)(hna:na≤900)(af1:1≤na)(XS:nb≤900)(af2:1≤nb)(Zy: -9223372036854775808≤op)(ho2:op≤9223372036854775807)
 (hpa:∀w,Calls prog 17 #[.int .i64 op,.int .i64 900] w λe w'=>e=.returned (.int .i64 ((na:Int)-1))∧w'=w)(hpb:∀w,Calls prog 17 #[.int .i64 (op.tdiv 7),.int .i64 900] w λe w'=>e=.returned (.int .i64 ((nb:Int)-1))∧w'=w)(hb:ak w w3)
 (h:∀w' z1 z5 z6 z7 z8 z9 Tz TA z12 TB z14 z15 z16 z21 z22 z23 z24 z25 z26 TC z28 TD TE z31 z33 TF TG TH z37 TJ TK z40 TL z44 TM z46 TN TP TQ TR z53 TT TU TV TW TX z59 TY TZ T1 T2 z64 T3 T4 z67 T5 T6 z70 T7 z72 T9 Ua z75 z76 Ub Uc Ud z80 Ue Uf Ug Uh z85 Ui z87 Uj Uk Ul z91 Um z93 Un Uo Up Uq Ur Us A2 A3 A4 A5 A6 z105 A7 z107 A8 z109 A9 Ba Bb Bc Be Bf z116 z117 Bg z119 Bh Bi Bj Bl z124 Bn Bo Ut z130 z131 Uu Uv Uw Ux Uy Uz z138 z139 UA z141 UB z143 UC z145 z146 UD z148 UE UF UG z152,ak w w'→aI prog Sz Ψ (base 8) (qL X jh jm ji jq jk) (U8 na nb z1 z5 z6 z7 z8 z9 Tz TA z12 TB z14 z15 z16 z21 z22 z23 z24 z25 z26 TC z28 TD TE z31 z33 TF TG TH z37 TJ TK z40 TL z44 TM z46 TN TP TQ TR z53 TT TU TV TW TX z59 TY TZ T1 T2 z64 T3 T4 z67 T5 T6 z70 T7 z72 T9 Ua z75 z76 Ub Uc Ud z80 Ue Uf Ug Uh z85 Ui z87 Uj Uk Ul z91 Um z93 Un Uo Up Uq Ur Us A2 A3 A4 A5 A6 z105 A7 z107 A8 z109 A9 Ba Bb Bc Be Bf z116 z117 Bg z119 Bh Bi Bj Bl z124 Bn Bo Ut z130 z131 Uu Uv Uw Ux Uy Uz z138 z139 UA z141 UB z143 UC z145 z146 UD z148 UE UF UG z152) [.code (qA f8 17)] w'):
 aI prog Sz Ψ (base 8) (qL X jh jm ji jq jk) (T8 op wt (Lib.itoa wt) 0 z5 z6 z7 z8 z9 Tz TA TB z21 z22 z23 z24 z25 z26 TC z28 TD TE z31 z33 TF TG TH z37 TJ TK z40 TL z44 TM z46 TN TP TQ TR z53 TT TU TV TW TX z59 TY TZ T1 T2 z64 T3 T4 z67 T5 T6 z70 T7 z72 T9 Ua z75 z76 Ub Uc Ud z80 Ue Uf Ug Uh z85 Ui z87 Uj Uk Ul z91 Um z93 Un Uo Up Uq Ur Us A2 A3 A4 A5 A6 z105 A7 z107 A8 z109 A9 Ba Bb Bc Be Bf z116 z117 Bg z119 Bh Bi Bj Bl z124 Bn Bo) [.code (qA f8 12)] w3:=by
 have mixed:prog.follows ζ=true:=by kernel_rfl
 have ks:=xZ;have HH:Hid _:=h;have HPA:Hid _:=hpa;have HPB:Hid _:=hpb;have jl:Hid (ak w w3):=hb;clear h hb hpa hpb;unfold T8;obtain⟨u,hu⟩:∃u:Nat,u=wt.natAbs:=⟨_,rfl⟩;have hlen:=gT u (by omega);have HD:Hid (∀(u:Nat) (w:Λ),u≤1000000000→Calls prog 21 #[.int .i64 (u:Nat)] w λe w'=>e=.returned (.string ⟨⟨Δ u⟩⟩)∧Below w.heap.size w w'):=lU;by_cases OC:wt<0
 case' pos=>
  obtain rfl:wt=-(u:Int):=by omega
  have HI:Lib.itoa (-(u:Int))=45::Δ u:=Lib.itoa_neg u (by omega);have aba:max (-(u:Int)) (u:Int)=u:=by omega
 case' neg=>
  obtain rfl:wt=(u:Int):=by omega
  have HI:Lib.itoa (u:Int)=Δ u:=Lib.itoa_nonneg u;have aba:max (u:Int) (-(u:Int))=u:=by omega
 all_goals
  rw[HI];clear HI hu;rw[ada];refine aI.seq ?_;refine aI.code cj (by kernel_rfl) (by kernel_rfl) rfl ⟨_,wD⟩ rfl λτ d=>?_;have oB:Hid (ak w (w3.re τ d)):=ak.heap jl.out rfl;clear jl;generalize w3.re τ d=w4 at *;generalize en:([.code (qA f8 13)]:List Item)=kq;dsimp only[pA,qA,Ren.bD,Ren.aZ,f8,Φ];go_wp2_with fail;refine zae (HD.out u _ (by omega)) ?_;rintro e w4n ⟨rfl,hb4⟩;have ado:Hid (ak w w4n):=gp oB.out hb4;clear oB hb4;go_wp2_with fail;subst en;show aI _ _ _ _ _ _ _ _;rw[adb];refine aI.seq ?_;refine aI.code cj (by kernel_rfl) (by kernel_rfl) rfl ⟨_,wD⟩ rfl λτ d=>?_;have sU:Hid (ak w (w4n.re τ d)):=ak.heap ado.out rfl;clear ado;generalize w4n.re τ d=w5 at *;generalize en:([.code (qA f8 14)]:List Item)=kq;dsimp only[pA,qA,Ren.bD,Ren.aZ,f8,Φ];go_wp2_with fail;subst en;show aI _ _ _ _ _ _ _ _;rw[ade];refine aI.seq ?_;refine aI.code cj (by kernel_rfl) (by kernel_rfl) rfl ⟨_,wD⟩ rfl λτ d=>?_;have nV:Hid (ak w (w5.re τ d)):=ak.heap sU.out rfl;clear sU;generalize w5.re τ d=w6 at *;generalize en:([.code (qA f8 15)]:List Item)=kq;dsimp only[pA,qA,Ren.bD,Ren.aZ,f8,Φ];go_wp2_with fail;subst en;show aI _ _ _ _ _ _ _ _;rw[adf];refine aI.seq ?_;refine aI.code cj (by kernel_rfl) (by kernel_rfl) rfl ⟨_,wD⟩ rfl λτ d=>?_;have sA:Hid (ak w (w6.re τ d)):=ak.heap nV.out rfl;clear nV;generalize w6.re τ d=w7 at *;generalize en:([.code (qA f8 16)]:List Item)=kq;dsimp only[pA,qA,Ren.bD,Ren.aZ,f8,Φ];go_wp2_with fail;refine zae (HPA.out _) ?_;rintro e w' ⟨rfl,hw⟩;rw[hw];clear hw HPA;have ea:1+((na:Int)-1)=(na:Nat):=by omega
  go_wp2_with fail;subst en;show aI _ _ _ _ _ _ _ _;rw[adg];refine aI.seq ?_;refine aI.code cj (by kernel_rfl) (by kernel_rfl) rfl ⟨_,wD⟩ rfl λτ d=>?_;have Si:Hid (ak w (w7.re τ d)):=ak.heap sA.out rfl;clear sA;generalize w7.re τ d=w8 at *;generalize en:([.code (qA f8 17)]:List Item)=kq;dsimp only[pA,qA,Ren.bD,Ren.aZ,f8,Φ];go_wp2_with fail;refine zae (HPB.out _) ?_;rintro e w' ⟨rfl,hw⟩;rw[hw];clear hw HPB;have eb:1+((nb:Int)-1)=(nb:Nat):=by omega
  go_wp2_with fail;refine zae (HD.out nb _ (by omega)) ?_;rintro e w8n ⟨rfl,Hi⟩;have afs:Hid (ak w w8n):=gp Si.out Hi;clear Si Hi;go_wp2_with fail;subst en;show aI _ _ _ _ _ _ _ _;exact HH.out _ _ _ _ _ _ _ _ _ _ _ _ _ _ _ _ _ _ _ _ _ _ _ _ _ _ _ _ _ _ _ _ _ _ _ _ _ _ _ _ _ _ _ _ _ _ _ _ _ _ _ _ _ _ _ _ _ _ _ _ _ _ _ _ _ _ _ _ _ _ _ _ _ _ _ _ _ _ _ _ _ _ _ _ _ _ _ _ _ _ _ _ _ _ _ _ _ _ _ _ _ _ _ _ _ _ _ _ _ _ _ _ _ _ _ _ _ _ _ _ _ _ _ _ _ _ _ _ _ _ _ _ _ _ _ _ _ _ _ afs.out
end
section
variable {Ψ:aV}{w:Λ}
theorem aI.adp {X z1 z5 z6 z7 z8 z9 Tz TA z12 TB z14 z15 z16 z21 z22 z23 z24 z25 z26 TC z28 TD TE z31 z33 TF TG TH z37 TJ TK z40 TL z44 TM z46 TN TP TQ TR z53 TT TU TV TW TX z59 TY TZ T1 T2 z64 T3 T4 z67 T5 T6 z70 T7 z72 T9 Ua z75 z76 Ub Uc Ud z80 Ue Uf Ug Uh z85 Ui z87 Uj Uk Ul z91 Um z93 Un Uo Up Uq Ur Us A2 A3 A4 A5 A6 z105 A7 z107 A8 z109 A9 Ba Bb Bc Be Bf z116 z117 Bg z119 Bh Bi Bj Bl z124 Bn Bo Ut z130 z131 Uu Uv Uw Ux Uy Uz z138 z139 UA z141 UB z143 UC z145 z146 UD z148 UE UF UG z152 jh jm ji jq jk:Θ}{na nb:Nat}{w8:Λ}(hna:na≤900)(XS:nb≤900)(nR:kI (cM na nb)=some (Lib.itoa na,0))(hp:YtlhimdjkkiflhaaGreatDoor.Pow w)(hb:ak w w8)
 (h:∀w' a todo,a.defers=[]→a.tmps.getD 4 Γ=.bool true→ak w w'→MN prog Sz Ψ (base 8) (qL X jh jm ji jq jk) a todo w'):
 aI prog Sz Ψ (base 8) (qL X jh jm ji jq jk) (U8 na nb z1 z5 z6 z7 z8 z9 Tz TA z12 TB z14 z15 z16 z21 z22 z23 z24 z25 z26 TC z28 TD TE z31 z33 TF TG TH z37 TJ TK z40 TL z44 TM z46 TN TP TQ TR z53 TT TU TV TW TX z59 TY TZ T1 T2 z64 T3 T4 z67 T5 T6 z70 T7 z72 T9 Ua z75 z76 Ub Uc Ud z80 Ue Uf Ug Uh z85 Ui z87 Uj Uk Ul z91 Um z93 Un Uo Up Uq Ur Us A2 A3 A4 A5 A6 z105 A7 z107 A8 z109 A9 Ba Bb Bc Be Bf z116 z117 Bg z119 Bh Bi Bj Bl z124 Bn Bo Ut z130 z131 Uu Uv Uw Ux Uy Uz z138 z139 UA z141 UB z143 UC z145 z146 UD z148 UE UF UG z152) [.code (qA f8 17)] w8:=by
 have mixed:prog.follows ζ=true:=by kernel_rfl
 have HH:Hid _:=h;have hla:=gT na (by omega);have Og:=gT nb (by omega);have eT:[40,42,32,40,47,32]++Δ na++[32]++Δ nb++[41,32]++Δ nb++[41]=cM na nb:=by simp[cM,aN,Lib.itoa_nonneg]
 have hql:(cM na nb).length≤400:=by rw[←eT];simp;omega
 rw[Lib.itoa_nonneg]at nR;clear h;unfold U8;rw[adi];refine aI.seq ?_;refine aI.region ?_;rw[MU,show List.range 16=[0,1,2,3,4,5,6,7,8,9,10,11,12,13,14,15] from rfl];refine aI.MO cj uN.1 uN.4 (by decide) (by kernel_rfl) (by kernel_rfl) (.int .i64 (na:Nat)) (λw' _=>by simp[ι,uN.2,Ξ]) uN.3 rfl ?_;refine aI.acT cj F21 uO.1 uO.4 (by decide) uO.2 ae9 afa (by simp[gG]) (by simp[eA,qL]) (args:=#[.int .i64 (na:Nat)]) (by simp[Ξ,Ω]) (λρ v hv=>by simp at hv;subst hv;simp[rv]) uO.3 rfl λτ dd=>(lU na _ (by omega)).mono λe w9 mi=>?_;obtain⟨rfl,hb9⟩:=mi;have HB9:Hid (ak w w9):=gp (w6:=w8.re τ dd) (ak.heap hb rfl) hb9;clear hb hb9;refine⟨_,rfl,?_⟩;refine aI.MO cj uP.1 uP.4 (by decide) (by kernel_rfl) (by kernel_rfl) (.string ⟨⟨[40,42,32,40,47,32]++Δ na⟩⟩) (λw' _=>oL (p:=[40,42,32,40,47,32]) (q:=Δ na) uP.2 rfl (by simp[Ξ,Ω]) (by simp;omega) w') uP.3 rfl ?_;refine aI.MO cj uQ.1 uQ.4 (by decide) (by kernel_rfl) (by kernel_rfl) (.string ⟨⟨[40,42,32,40,47,32]++Δ na++[32]⟩⟩) (λw' _=>oL (p:=[40,42,32,40,47,32]++Δ na) (q:=[32]) uQ.2 (by simp[Ξ,Ω]) rfl (by simp;omega) w') uQ.3 rfl ?_;refine aI.MO cj uR.1 uR.4 (by decide) (by kernel_rfl) (by kernel_rfl) (.string ⟨⟨Δ nb⟩⟩) (λw' _=>by simp[ι,uR.2,Ξ,Ω]) uR.3 rfl ?_;refine aI.MO cj uS.1 uS.4 (by decide) (by kernel_rfl) (by kernel_rfl) (.string ⟨⟨[40,42,32,40,47,32]++Δ na++[32]++Δ nb⟩⟩) (λw' _=>oL (p:=[40,42,32,40,47,32]++Δ na++[32]) (q:=Δ nb) uS.2 (by simp[Ξ,Ω]) (by simp[Ξ,Ω]) (by simp;omega) w') uS.3 rfl ?_;refine aI.MO cj uT.1 uT.4 (by decide) (by kernel_rfl) (by kernel_rfl) (.string ⟨⟨[40,42,32,40,47,32]++Δ na++[32]++Δ nb++[41,32]⟩⟩) (λw' _=>oL (p:=[40,42,32,40,47,32]++Δ na++[32]++Δ nb) (q:=[41,32]) uT.2 (by simp[Ξ,Ω]) rfl (by simp;omega) w') uT.3 rfl ?_;refine aI.MO cj uU.1 uU.4 (by decide) (by kernel_rfl) (by kernel_rfl) (.string ⟨⟨Δ nb⟩⟩) (λw' _=>by simp[ι,uU.2,Ξ,Ω]) uU.3 rfl ?_;refine aI.MO cj uV.1 uV.4 (by decide) (by kernel_rfl) (by kernel_rfl) (.string ⟨⟨[40,42,32,40,47,32]++Δ na++[32]++Δ nb++[41,32]++Δ nb⟩⟩) (λw' _=>oL (p:=[40,42,32,40,47,32]++Δ na++[32]++Δ nb++[41,32]) (q:=Δ nb) uV.2 (by simp[Ξ,Ω]) (by simp[Ξ,Ω]) (by simp;omega) w') uV.3 rfl ?_;refine aI.MO cj uW.1 uW.4 (by decide) (by kernel_rfl) (by kernel_rfl) (.string ⟨⟨[40,42,32,40,47,32]++Δ na++[32]++Δ nb++[41,32]++Δ nb++[41]⟩⟩) (λw' _=>oL (p:=[40,42,32,40,47,32]++Δ na++[32]++Δ nb++[41,32]++Δ nb) (q:=[41]) uW.2 (by simp[Ξ,Ω]) rfl (by simp;omega) w') uW.3 rfl ?_;rw[eT];refine aI.YY (s:=cM na nb) hql nR (Ey (Lu na nb hna XS)) (Pow.Ic hp HB9.out) rq.1 rq.4 (by decide) rq.2 rfl (by simp[Ξ,Ω]) rq.3 rfl λw2 hb2=>?_;have iu:Hid (ak w w2):=HB9.out.trans hb2;clear HB9 hb2 nR hp eT hql;refine aI.ops cj rfl ⟨_,wD⟩ rfl XH (by kernel_rfl) 11 ((oA f8 17).toList.drop 11) (by rw[zax,zbM,MU];rfl) (λj=>by rw[zbs,zbq]) λn9 d'=>?_;have jl:Hid (ak w (w2.re n9 d')):=ak.heap iu.out rfl;clear iu;generalize w2.re n9 d'=w3 at *;generalize en:([.code (qA f8 18)]:List Item)=kq;dsimp only[oA,pA,qA,Ren.fh,Ren.bD,Ren.aZ,f8,Φ];simp only[zbh,zba];go_wp2_with fail;subst en;show aI _ _ _ _ _ _ _ _;refine aI.code cj (by kernel_rfl) (by kernel_rfl) rfl ⟨_,wD⟩ rfl λτ d=>?_;have oB:Hid (ak w (w3.re τ d)):=ak.heap jl.out rfl;clear jl;generalize w3.re τ d=w4 at *;dsimp only[qA,Ren.aZ,f8,Φ];go_wp2_with fail;refine zae (lU na _ (by omega)) ?_;rintro e w5 ⟨rfl,mF⟩;have sU:Hid (ak w w5):=gp oB.out mF;clear oB mF;go_wp2_with fail;show ∀todo,MN _ _ _ _ _ _ _ _;intro todo;exact HH.out _ _ todo rfl (by simp) (ak.heap sU.out rfl)
end
theorem Pt {w w':Λ}(h:YtlhimdjkkiflhaaGreatDoor.Pow w)(e:w'.heap[1]?=w.heap[1]?):YtlhimdjkkiflhaaGreatDoor.Pow w':=by
 have g:prog.globalNamed "internal/strconv.uint64pow10" =some 1:=by kernel_rfl
 unfold YtlhimdjkkiflhaaGreatDoor.Pow Lib.TabIs Λ.var? at h ⊢;rw[g]at h ⊢;simp only[zbS]at h ⊢;rw[e];exact h
theorem UH (a:Act)(ρ:Rn)(i:Nat):(a.rn ρ).tmps.getD i Γ=rv ρ (a.tmps.getD i Γ):=by
 simp only[Act.rn,zby,zaE];cases a.tmps[i]?<;>simp[di]
theorem adq {W:Λ}{lo n0:Nat}{r0:Rn}{Post:Θ→Λ→Prop}{b o:Nat}{v:Θ}(hb:prog.globals.size≤W.heap.size)(hc:W.cell? ⟨b,o,none⟩=some v){ro:Nat→Prop}{nh:∀b,ro b→b<W.heap.size∧∀r,lo≤r→r<n0→b≠r0 r}(hro:4≤b→ro b):∀w',ak (Qy prog Sz W) w'→OX Sz (J0 prog W lo n0 r0 ro nh Post) w' ⟨b,o,none⟩ v:=by
 intro w' hB;by_cases h4:4≤b
 ·exact .inl ⟨hro h4,hc⟩
 ·have hlt:b<prog.globals.size:=by rw[NA];omega
  refine .inr ⟨zaw _,by show b<4;omega,?_⟩;have e:w'.heap[b]?=W.heap[b]?:=by
   rw[hB.2 b (by rw[zh];exact hlt),pV hb (by show 0≤b;omega) hlt]
  rw[←hc];unfold Λ.cell?
  rw[e]
theorem aI.added {Ψ:aV}{w:Λ}{sa:Option Addr}{len cap:Nat}{zs:List Int}{op:Int}(hlen:zs.length=len)(hz:∀j,j<len→-9223372036854775808≤zs.getD j 0∧zs.getD j 0≤9223372036854775807)
 (hcell:∀j,j<len→∃b o,sa=some ⟨b,o,none⟩∧∀w',ak w w'→OX Sz Ψ w' ⟨b,o+j,none⟩ (.int .i64 (zs.getD j 0)))(n1: -9223372036854775808≤op)(n2:op≤9223372036854775807)(hp:YtlhimdjkkiflhaaGreatDoor.Pow w)
 (h:∀w' jh jm ji jq jk a todo,a.defers=[]→a.tmps.getD 4 Γ=.bool true→ak w w'→MN prog Sz Ψ (base 8) (qL (.slice sa len cap) jh jm ji jq jk) a todo w'):
 aI prog Sz Ψ (base 8) (qL (.slice sa len cap) Γ Γ Γ Γ Γ) (E8 Γ op) [.code (.seq (pA f8 0) (.seq (.region 1 (oA f8 1) false) (qA f8 2)))] w:=by
 have pk:∀(c:Int) (m:Nat),0<m→∃q:Nat,q<m∧iX c m=q:=λc m hm=>⟨(iX c m).toNat,by have:=kj (c:=c) (n:=m);have:=qy (c:=c) (n:=m) (by omega);omega,by have:=kj (c:=c) (n:=m);omega⟩;obtain⟨k,hk,ek⟩:=pk op 3 (by omega);obtain⟨qa,hqa,ea⟩:=pk op 900 (by omega);obtain⟨qb,hqb,eb⟩:=pk (op.tdiv 7) 900 (by omega);have hd7: -9223372036854775808≤op.tdiv 7∧op.tdiv 7≤9223372036854775807:=by
  by_cases h0:0≤op
  ·rw[Int.tdiv_eq_ediv_of_nonneg h0];omega
  ·obtain⟨u,rfl⟩:∃u:Nat,op=-(u:Int):=⟨op.natAbs,by omega⟩;rw[Int.neg_tdiv,Int.tdiv_eq_ediv_of_nonneg (by omega)];omega
 have hl:(bZ k zs).length≤12:=by rw[A1];omega
 have kV:=Dl k zs;have hb1:∀x∈bZ k zs,-1000≤x∧x≤1000:=λx hx=>⟨(kV x hx).1,(kV x hx).2.1⟩;have hb3:k=2→∀x∈bZ k zs,-3≤x∧x≤3:=λe x hx=>(kV x hx).2.2 e;obtain⟨w1,w2⟩:=MS k hk (bZ k zs) hl hb1 hb3;have hnl:=(jK (bZ k zs) λx hx=>by have:=hb1 x hx;omega).2;have key:∀(w4:Λ) (k22 k23 k24 k25 k26 k27 k28 k29 k30:Θ),ak w w4→aI prog Sz Ψ (base 8) (qL (.slice sa len cap) Γ Γ Γ Γ Γ) (L8 op k (40::gU k::aN ((bZ k zs).take 0)) (.slice none 0 0) 0 Γ Γ k22 k23 k24 k25 k26 k27 k28 k29 k30 Γ Γ Γ Γ Γ Γ Γ Γ Γ Γ Γ Γ Γ Γ Γ Γ Γ Γ Γ Γ Γ Γ Γ Γ Γ Γ Γ Γ Γ Γ Γ Γ Γ Γ Γ) [.code (BX f8),.inLoop (BX f8),.inBlock 0,.code (qA f8 7)] w4:=λw4 k22 k23 k24 k25 k26 k27 k28 k29 k30 hb4=>
  aI.afp hlen hz hcell (λw5 vv _ _ _ _ _ _ _ _ _ _ _ _ _ _ _ _ _ _ _ _ _ _ _ _ _ _ _ _ _ _ _ _ _ _ _ _ _ _ _ _ _ _ _ _ _ _ jh jm ji jq jk hrow mF=>
   aI.afr hk hl kV hrow mF λw6 a8 cA _ _ _ _ _ _ _ _ _ _ _ _ _ _ _ _ _ _ _ _ _ _ _ _ _ _ _ _ _ _ _ _ _ _ _ _ _ _ _ _ _ _ _ _ _ _ _ _ _ _ _ _ _ _ _ _ _ _ _ _ _ _ _ _ _ _ _ _ _ _ _ _ _ _ _ _ _ _ _ _ _ _ _ _ _ _ _ _ _ _ _ nz=>by
    have Ct:∃got er,kI ((40::gU k::aN (bZ k zs))++[41])=some (got,er)∧(k=1→(bZ k zs).length=0→er=10)∧(¬(k=1∧(bZ k zs).length=0)→got=Lib.itoa (kt k (bZ k zs))∧er=0):=by
     by_cases hc:k=1∧(bZ k zs).length=0
     ·obtain⟨rfl,h0⟩:=hc;rw[List.length_eq_zero_iff.1 h0];exact⟨[],10,Ta,λ_ _=>rfl,λhx=>absurd ⟨rfl,rfl⟩ hx⟩
     ·exact⟨_,_,S9 k hk (bZ k zs) hl hb1 hb3 (λe e2=>hc ⟨e,by rw[e2];rfl⟩),λe e2=>absurd ⟨e,e2⟩ hc,λ_=>⟨rfl,rfl⟩⟩
    obtain⟨got,er,nR,hc1,hc2⟩:=Ct;refine aI.adm hk hl (by simp;omega) nR (Ey (add_plain (Ja k hk).1 (bZ k zs) λx hx=>by have:=hb1 x hx;omega)) hc1 hp nz (λ_ _ w' a todo=>h w' jh jm ji jq jk a todo) λhx w7 _ _ _ _ _ _ _ _ _ _ _ _ _ _ _ _ _ _ _ _ _ _ _ _ _ _ _ _ _ _ _ _ _ _ _ _ _ _ _ _ _ _ _ _ _ _ _ _ _ _ _ _ _ _ _ _ _ _ _ _ _ _ _ _ _ _ _ _ _ _ _ _ _ _ _ _ _ _ _ _ _ _ _ _ _ _ _ _ _ _ _ _ _ _ _ _ _ _ _ _ _ _ _ _ _ _ _ _ _ xY=>?_;obtain⟨rfl,rfl⟩:=hc2 hx;refine aI.adn (na:=qa+1) (nb:=qb+1) w1 w2 (by omega) (by omega) (by omega) (by omega) n1 n2 (λw=>by rw[show((qa+1:Nat):Int)-1=(qa:Nat) by omega,←ea];exact qz _ _ w n1 n2 (by omega) (by omega)) (λw=>by rw[show((qb+1:Nat):Int)-1=(qb:Nat) by omega,←eb];exact qz _ _ w hd7.1 hd7.2 (by omega) (by omega)) xY λw8 _ _ _ _ _ _ _ _ _ _ _ _ _ _ _ _ _ _ _ _ _ _ _ _ _ _ _ _ _ _ _ _ _ _ _ _ _ _ _ _ _ _ _ _ _ _ _ _ _ _ _ _ _ _ _ _ _ _ _ _ _ _ _ _ _ _ _ _ _ _ _ _ _ _ _ _ _ _ _ _ _ _ _ _ _ _ _ _ _ _ _ _ _ _ _ _ _ _ _ _ _ _ _ _ _ _ _ _ _ _ _ _ _ _ _ _ _ _ _ _ _ _ _ _ _ _ _ _ _ _ _ _ _ _ _ _ _ _ Hi=>?_;exact aI.adp (by omega) (by omega) (Ps (qa+1) (qb+1) (by omega) (by omega) (by omega) (by omega)) hp Hi λw' a todo=>h w' jh jm ji jq jk a todo) 12 0 Γ Γ k22 k23 k24 k25 k26 k27 k28 k29 k30 Γ Γ Γ Γ Γ Γ Γ Γ Γ Γ Γ Γ Γ Γ Γ Γ Γ Γ Γ Γ Γ Γ Γ Γ Γ Γ Γ Γ Γ Γ Γ Γ Γ Γ Γ _ _ _ _ _ _ w4 rfl (zaw _) (zbO _ _ _ _) hb4
 have mixed:prog.follows ζ=true:=by kernel_rfl
 have HK:Hid _:=key;clear key h hcell hz kV hb1 hb3;refine aI.afm hk (λw=>by rw[←ek];exact qz _ _ w n1 n2 (by omega) (by omega)) hp λw2 k22 k23 k24 k25 k26 k27 k28 k29 k30 hb2=>?_;rw[afi];refine aI.seq ?_;rw[afd];refine aI.seq ?_;refine aI.code cj (by kernel_rfl) (by kernel_rfl) rfl ⟨_,wD⟩ rfl λτ d=>?_;have oB:Hid (ak w (w2.re τ d)):=ak.heap hb2 rfl;generalize w2.re τ d=w4 at *;generalize en:([.code (.block 0 (.loop (BX f8))),.code (qA f8 7)]:List Item)=kq;dsimp only[l8i,pA,qA,Ren.bD,Ren.aZ,f8,Φ];go_wp2_with fail;subst en;show aI _ _ _ _ _ _ _ _;refine aI.block ?_;refine aI.loop ?_;exact HK.out _ _ _ _ _ _ _ _ _ _ oB.out
theorem UI (ρ:Rn)(op:Int):∀v∈(E8 Γ op).tmps,rv ρ v=v:=by
 intro v hv;rw[←t175 Γ op]at hv;rcases Array.mem_append.1 hv with h|h
 ·simp only[zbR,zav,zbz,or_false]at h;rcases h with rfl|rfl
  ·exact di
  ·simp[rv]
 ·rw[(Array.mem_replicate.1 h).2];exact di
theorem Lx {W:Λ}{sa:Option Addr}{len cap:Nat}{zs:List Int}{op:Int}{Post:Θ→Λ→Prop}(hb:prog.globals.size≤W.heap.size)(hl:∀r o,r<4→W.heap[r]?=some o→mP o∧∀ρ:Rn,ro ρ o=o)(hp:YtlhimdjkkiflhaaGreatDoor.Pow W)
 (_hmax:len≤9223372036854775807)(hlen:zs.length=len)(hz:∀j,j<len→-9223372036854775808≤zs.getD j 0∧zs.getD j 0≤9223372036854775807)(hcell:∀j,j<len→∃b o,sa=some ⟨b,o,none⟩∧W.cell? ⟨b,o+j,none⟩=some (.int .i64 (zs.getD j 0)))(n1: -9223372036854775808≤op)(n2:op≤9223372036854775807)
 (adr:∀W':Λ,W'.tape=W.tape→W'.os=W.os→W'.output=W.output→W.heap.size≤W'.heap.size→(∀b,b<W.heap.size→W'.heap[b]?=W.heap[b]?)→Post (.bool true) W'):
 ∃N last o w' t',runNT prog (N+1) (solo (G (θ.enter prog 8 #[.slice sa len cap,.int .i64 op] .normal) []) W) #[]=(.ended o w',t')∧runN prog N (solo (G (θ.enter prog 8 #[.slice sa len cap,.int .i64 op] .normal) []) W)=.next last∧step prog last=.ended o w'∧Conc.Good prog Post last o w' t':=by
 have VR:gH prog Sz (cN jW prog.globals.size W.heap.size) (Qy prog Sz W) W:=VS (by rw[NA];decide) (by rw[NA];decide) hb λr o _ h2 ho=>hl r o (by rw[NA]at h2;exact h2) ho;have hP0:YtlhimdjkkiflhaaGreatDoor.Pow (Qy prog Sz W):=Pt hp (pV hb (by decide) (by rw[NA];decide));have nh:∀b,(∃o,sa=some ⟨b,o,none⟩∧4≤b∧0<len)→b<W.heap.size∧∀r,Sz.d≤r→r<(Qy prog Sz W).heap.size→b≠cN jW prog.globals.size W.heap.size r:=by
  rintro b ⟨o,Fw,h4,h0⟩;obtain⟨b',o',ads,hc⟩:=hcell 0 h0;have e:b'=b:=by
   rw[Fw]at ads;cases ads;rfl
  subst e;refine⟨Λ.block_lt_of_cell? _ _ hc,λr _ hr=>?_⟩;rw[zh]at hr;rw[aJ hr];rw[NA]at hr;show b'≠r;omega
 have ha:rI prog Sz (Qy prog Sz W).heap.size (E8 Γ op):=λv hv=>UI _ op v hv;have Zp:θ.enter prog 8 #[.slice sa len cap,.int .i64 op] .normal=(base 8).at (dX (qL (.slice sa len cap) Γ Γ Γ Γ Γ) ((E8 Γ op).rn (cN jW prog.globals.size W.heap.size))) [.code (.seq (pA f8 0) (.seq (.region 1 (oA f8 1) false) (qA f8 2)))]:=by
  rw[aa5]
  congr 1
  have e:(E8 Γ op).rn (cN jW prog.globals.size W.heap.size)=E8 Γ op:=by
   unfold Act.rn;rw[ba.2 (UI _ op)]
  rw[e];simp[dX,qL,Ω,E8]
 refine F6 (Post:=Post) (ro:=λb=>∃o,sa=some ⟨b,o,none⟩∧4≤b∧0<len) (nh:=nh) VR Zp ha ?_;refine aI.added hlen hz (λj hj=>?_) n1 n2 hP0 λw' jh jm ji jq jk a todo hd h4 hB=>?_
 ·obtain⟨b,o,Fw,hc⟩:=hcell j hj;exact⟨b,o,Fw,adq hb hc λh4=>⟨o,Fw,h4,by omega⟩⟩
 ·exact MN.last (v:= .bool true) rfl hd wD ac8 (λρ W'=>(results_tmp ae8 _ _ _).trans (by rw[DY 4 _ _ (eO (by rfl)),UH,h4];simp[rv])) (λρ W'=>by simp[results,go_sem]) λW' ρ hO hS mA=>adr W' hO.tape hO.os hO.output hO.size λb hb'=>VP VR hO hS mA (λr hr=>hB.2 r hr) hb'
end Go.Ren
namespace Go.Ren
open Go Go.Conc
variable {H:Type}{enc:η×Θ→H}
theorem Bp {a:Assume}{C:Checked}{os:Os}{f:FuncId}{fn:Func}{s:ChangeSpec}{conds:List PathCond}{apart fresh handsOn again:Bool}{laid:List (String×DataW Unit)}
 (own:ownKnob C.prog.godebug=none)(started:os.Started)(hfn:C.prog.funcs[f]?=some fn)
 (witness:∃(w:Λ) (tape:Tape) (i:Input),w.os=os∧(w.forCall tape i).Shaped C.prog∧i.vars=[]∧Input.okWide C.prog (w.forCall tape i) .any w.heap.size f i∧
   (OpenSpec.ofChange s).preRow enc C.prog fn conds apart laid (w.forCall tape i).memory i.args∧a.holds C.prog (lone (θ.enter C.prog f i.args .normal) [] (w.forCall tape i)))
 (runs:∀(W:Λ) (base:Nat) (args:Array Θ) (ds gs:List (DataW H)) (before:List MemPlace),
   (∀(j:Nat) t v,fn.params[j]?=some t→args[j]?=some v→Θ.okWide C.prog W .any base t v)→
   DataW.Whole enc C.prog fn.params.toList s.vars apart W args.toList ds gs before→
   (DataW.weightsEach C.prog (fn.params.toList++(OpenSpec.ofChange s).bare.plain.varTypes C.prog) (ds++gs)).all (·≤reachBytes)=true→
   laidMetH C.prog laid W→
   W.ShapedOpen C.prog→
   ∃M last o w' t',runNT C.prog (M+1) (solo (G (θ.enter C.prog f args .normal) []) W) #[]=(.ended o w',t')∧runN C.prog M (solo (G (θ.enter C.prog f args .normal) []) W)=.next last∧
    step C.prog last=.ended o w'∧Conc.Good C.prog (λv W'=>s.post enc C.prog fn apart fresh handsOn again W args v W') last o w' t'):
 ReturnsInLeavingWide a C os f .any ((OpenSpec.ofChange s).preRow enc C.prog fn conds apart laid) (s.post enc C.prog fn apart fresh handsOn again):=by
 refine returnsInLeavingWide_of_good own started witness ?_;intro w tape i _ PM _ cg aft afu;obtain⟨_,_,_,fn',Za,_,_,_,_,hval⟩:=cg;have e:fn'=fn:=zaF (Za.symm.trans hfn);subst e;obtain⟨⟨hp,hl⟩,hz⟩:=aft;obtain⟨ds,gs,before,hw,hc,hk⟩:=OpenSpec.pre_parts hp;have hw':=DataW.Whole.of_heap (w':=w.forCall tape i) (by rfl) hw;obtain⟨M,last,o,w',t',h1,h2,h3,h4⟩:=runs (w.forCall tape i) w.heap.size i.args ds gs before hval hw' (hz.weights hw) (hl.of_heap (by rfl)) PM;exact⟨M,last,o,w',t',h1,h2,h3,h4.mono λv hp=>ChangeSpec.post_blind hp⟩
theorem Pu (Lk:Looks){p:Pinned}{s:OpenSpec}{c:OpenClaim}(kinds:List LaidKind)(tests:Bool)(har:Bool×String)(lk:Bool)
 (hc:c.holds p s)(hw:c.wfByText s=true)(afv:c.laidByTextAt Lk p kinds tests)
 (hst:c.start=.entering)(XS:c.noBlocks=false∧c.again=false)(hm:p.checked.prog.mainIs=some (har.1,har.2.toList))(hn:(!har.1&&har.2.isEmpty&&!lk)=false)
 (hl:∀f fn,p.checked.prog.funcNamed c.func=some f→p.checked.prog.funcs[f]?=some fn→lk=p.checked.prog.looks []∧∀(j:Nat) t,fn.params[j]?=some t→p.checked.prog.wantsStandIn t=false)
 (hg:true=c.goesBy p.checked.prog):
 Claim7.holds p (.plain s) { stood:={ row:=c,standIns:=[],harness:=har,looks:=lk },kinds:=[],alts:=[],goes:=true,laidByText:=true,laidKinds:=kinds,laidTests:=tests,laidLooks:=Lk }:=by
 have h6:∀r:OpenClaim,Claim7.isSixth { stood:={ row:=r,standIns:=[],harness:=har,looks:=lk },kinds:=[] }=false:=λr=>by simpa[Claim7.isSixth]using hn
 exact⟨Claim7.tied_new_at Lk kinds tests (Claim7.new_of_sixth hc har lk hst XS hm (h6 c) hl) hw,λD hD=>by(cases hD),afv,(λh=>by cases h),hg⟩
end Go.Ren
namespace Go.Proofs.YtlhimdjkkiflhaaGreatDoor
open Go.Proofs.Tryz
open Go.ChangeShapes Go.WideShapes Go.ChangeAt Go.RowKit Go.Loop Go.Ren
theorem adt:prog.globalNamed "internal/strconv.uint64pow10" =some 1:=by kernel_rfl
theorem g32:prog.globalNamed "math/bits.deBruijn32tab" =some 2:=by kernel_rfl
theorem g64:prog.globalNamed "math/bits.deBruijn64tab" =some 3:=by kernel_rfl
theorem UJ:(prog.globals[1]?).map (·.type)=some 300:=by kernel_rfl
theorem XI:(prog.globals[2]?).map (·.type)=some 306:=by kernel_rfl
theorem XJ:(prog.globals[3]?).map (·.type)=some 307:=by kernel_rfl
theorem UK:prog.cellsOf 300=20:=by kernel_rfl
theorem XK:prog.cellsOf 306=32:=by kernel_rfl
theorem XL:prog.cellsOf 307=64:=by kernel_rfl
theorem UL:prog.cellsOf 137=1:=by kernel_rfl
theorem MV:prog.cellsOf 5=1:=by kernel_rfl
theorem own:ownKnob prog.godebug=none:=by kernel_rfl
def MW:List Int:=[0,1,28,2,29,14,24,3,30,22,20,15,25,17,4,8,31,27,13,23,21,19,16,7,26,12,18,6,11,5,10,9]
def Je:List Int:=[0,1,56,2,57,49,28,3,61,58,42,50,38,29,17,4,62,47,59,36,45,43,51,22,53,39,33,30,24,18,12,5,63,55,48,27,60,41,37,16,46,35,44,21,52,32,23,11,54,26,40,15,34,20,31,10,25,14,19,9,13,8,7,6]
theorem Ff {W:Λ}(h:laidMetH prog Rows.addedRow.laid W):Pow W∧W.var? prog "math/bits.deBruijn32tab" =some (MW.map (Θ.int .u8)).toArray∧W.var? prog "math/bits.deBruijn64tab" =some (Je.map (Θ.int .u8)).toArray:=by
 have h':laidMet prog Rows.addedRow.laid W:=h;obtain⟨ps,hl,_,_⟩:=h';obtain⟨g1,t1,cs1,afF,p1,q1,hg1,oo,adu,Fo,hl2,_⟩:=hl;obtain⟨g2,t2,cs2,afG,p2,q2,hg2,Wb,adv,hd2,hl3,_⟩:=hl2;obtain⟨g',t',cs,fuel,p,q,uZ,ht',afw,hd,_,_⟩:=hl3;obtain rfl:=zaF (adt.symm.trans uZ);obtain rfl:=zaF (UJ.symm.trans ht');obtain rfl:=zaF (g32.symm.trans hg1);obtain rfl:=zaF (XI.symm.trans oo);obtain rfl:=zaF (g64.symm.trans hg2);obtain rfl:=zaF (XJ.symm.trans Wb);refine⟨?_,?_,?_⟩
 ·show Lib.TabIs _ _ _ _ _;unfold Lib.TabIs;rw[afw,←Lib.cells_of_tab (k:= .u64) (zs:=Lib.pow10Tab) underlying300 underlying137 UL UK hd]
 ·rw[adu,←Lib.cells_of_tab (k:= .u8) (zs:=MW) underlying306 underlying5 MV XK Fo]
 ·rw[adv,←Lib.cells_of_tab (k:= .u8) (zs:=Je) underlying307 underlying5 MV XL hd2]
theorem Bq {W:Λ}{name:String}{g:Nat}{k:IntKind}{zs:List Int}{o:Obj}(hg:prog.globalNamed name=some g)(h:W.var? prog name=some (zs.map (Θ.int k)).toArray)(ho:W.heap[g]?=some o):mP o∧∀ρ:Rn,ro ρ o=o:=by
 unfold Λ.var? at h;rw[hg]at h;simp only[zbS,ho]at h;cases o with
 |cells c t f=>
  simp only[zaG]at h;subst h;refine⟨trivial,λρ=>?_⟩;show Obj.cells (Array.map (rv ρ) _) t f=_;rw[ba.2 λx hx=>?_];obtain⟨z,_,rfl⟩:=zbc.1 (zbR.1 hx);simp[rv]
 |_=>cases h
theorem UM {P:Program}{w:Λ}{r:Reach}{b:Nat}{t:η}{v:Θ}{k:IntKind}(ht:P.underlying t=some (.int k))(h:Cell.ok P w r b t v):∃n,v=.int k n:=by
 unfold Cell.ok at h;rw[ht]at h;cases v<;>first|exact h.elim|skip
 obtain⟨rfl,_⟩:=h;exact⟨_,rfl⟩
theorem ct3:prog.cellTypes prog.depth 3=some [3]:=by kernel_rfl
theorem afx:((begin prog (λ_ _=>0) default).world.heap[0]?).bind Obj.row? =some (#[.int .i64 0],3):=by kernel_rfl
theorem bd3:prog.buildable 3=true:=by kernel_rfl
theorem Pv {W:Λ}(h:W.ShapedOpen prog){o:Obj}(ho:W.heap[0]?=some o):mP o∧∀ρ:Rn,ro ρ o=o:=by
 obtain⟨cs,h1,_,h2⟩:=h.1 0 _ _ (by rw[NA];decide) afx;obtain⟨ts,h3,_,h4⟩:=h2 bd3;rw[ct3]at h3;cases h3;rw[h1]at ho;cases ho;refine⟨trivial,λρ=>?_⟩;show Obj.cells (cs.map (rv ρ)) 3 _=_;rw[ba.2 λx hx=>?_];obtain⟨i,hi⟩:=Array.mem_iff_getElem?.1 hx;obtain⟨u,hu,hc⟩:=h4 i x hi;have hu3:u=3:=by
  have:([3]:List η)[i%1]?=some u:=hu;rw[Nat.mod_one]at this;simpa using this.symm
 subst hu3;obtain⟨n,rfl⟩:=UM underlying3 hc;simp[rv]
theorem Jf {W:Λ}(PM:W.ShapedOpen prog)(hp:Pow W)(h32:W.var? prog "math/bits.deBruijn32tab" =some (MW.map (Θ.int .u8)).toArray)(XM:W.var? prog "math/bits.deBruijn64tab" =some (Je.map (Θ.int .u8)).toArray)(r:Nat)(o:Obj)(h4:r<4)(ho:W.heap[r]?=some o):mP o∧∀ρ:Rn,ro ρ o=o:=by
 have hr:r=0∨r=1∨r=2∨r=3:=by omega
 rcases hr with rfl|rfl|rfl|rfl
 ·exact Pv PM ho
 ·exact Bq adt hp ho
 ·exact Bq g32 h32 ho
 ·exact Bq g64 XM ho
theorem Jg {W:Λ}(XM:W.var? prog "math/bits.deBruijn64tab" =some (Je.map (Θ.int .u8)).toArray):prog.globals.size≤W.heap.size:=by
 rw[NA];rcases zay 3 W.heap.size with h|h
 ·exact h
 ·unfold Λ.var? at XM;rw[g64]at XM;simp only[zbS,zbQ h]at XM;cases XM
def putCells (cs:Array Θ):Obj→Obj
 |.cells _ t frozen=> .cells cs t frozen
 |o=>o
def abb (P:Program)(os:Os):Λ:={ Λ.holding P os ⟨#[],#[],[]⟩with heap:=(((Λ.holding P os ⟨#[],#[],[]⟩).heap.modify 1 (putCells (Lib.pow10Tab.map (Θ.int .u64)).toArray)).modify 2 (putCells (MW.map (Θ.int .u8)).toArray)).modify 3 (putCells (Je.map (Θ.int .u8)).toArray) }
theorem Pw (os:Os):laidMet prog Rows.addedRow.laid ((abb prog os).forCall (λ_ _=>0) ⟨#[],#[.slice none 0 0,.int .i64 0],[]⟩).memory:=
 laidMet_of_run' 8 (by kernel_rfl) (by kernel_rfl)
theorem Jh (os:Os){H:Type}(enc:η×Θ→H):∃places,DataW.whole enc prog ((abb prog os).forCall (λ_ _=>0) ⟨#[],#[.slice none 0 0,.int .i64 0],[]⟩).memory f8.params.toList Rows.addedSpec.vars false #[Θ.slice none 0 0,.int .i64 0].toList 8=some ([.nil,.lit (.int .i64 0)],[],places):=
 ⟨[],by kernel_rfl⟩
theorem wf_i64 {n:Int}(h:(Lit.int .i64 n).wf=true): -9223372036854775808≤n∧n≤9223372036854775807:=by
 have e:IntKind.i64.min=-9223372036854775808:=rfl;have h':=h;simp only[Lit.wf]at h';simpa[e]using h'
theorem laidOut:laidOutB prog=true:=by kernel_rfl
theorem UN:prog.cellsOf 3=1:=by kernel_rfl
theorem UO {H:Type}{enc:η×Θ→H}{W:Λ}{base:Nat}{v:Θ}{d:DataW H}{ps:List MemPlace}(hv:Θ.okWide prog W .any base 43 v)(h:DataW.Trod enc prog W 0 (λ_=>true) true 43 v d ps):∃(sa:Option Addr) (len cap:Nat) (zs:List Int),v=.slice sa len cap∧len≤9223372036854775807∧zs.length=len∧(∀j,j<len→-9223372036854775808≤zs.getD j 0∧zs.getD j 0≤9223372036854775807)∧∀j,j<len→∃b o,sa=some ⟨b,o,none⟩∧W.cell? ⟨b,o+j,none⟩=some (.int .i64 (zs.getD j 0)):=by
 obtain⟨fuel,hf⟩:=h;obtain⟨a0,l0,c0,rfl⟩:=okWide_slice underlying43 hv;rcases open_ints underlying43 underlying3 UN hf with⟨hcs,_⟩|⟨a,len,cap,zs,hcs,_,hl,hm,hzl,_,hc,hwf⟩
 ·simp only[Θ.cells,zcj,Θ.slice.injEq,zaA]at hcs;obtain⟨rfl,rfl,rfl⟩:=hcs;exact⟨none,0,0,[],rfl,by omega,rfl,λj hj=>by omega,λj hj=>by omega⟩
 ·simp only[Θ.cells,zcj,Θ.slice.injEq,zaA]at hcs;obtain⟨rfl,rfl,rfl⟩:=hcs;simp only[if_true]at hzl;obtain⟨b,o,sp⟩:=a;have hsp:sp=none:=by
   simp only[Θ.okWide,Cell.okWide,Cell.ok,underlying43]at hv;exact hv.2.2.2.1
  subst hsp;have WV:maxLen≤9223372036854775807:=by unfold maxLen;omega
  have P4:∀j,j<l0→(zs.take l0).getD j 0=zs.getD j 0:=λj hj=>by
   simp only[zbX,List.getElem?_take,zac hj]
  refine⟨some ⟨b,o,none⟩,l0,c0,zs.take l0,rfl,by omega,by rw[List.length_take];omega,λj hj=>?_,λj hj=>⟨b,o,rfl,?_⟩⟩
  ·rw[P4 j hj];refine wf_i64 (hwf _ ?_);rw[zbX,zaq (by omega)];exact zbd _
  ·rw[P4 j hj];have:=hc j (by omega);rw[Addr.add_mid]at this;exact this
theorem Fg (os:Os)(started:os.Started)(H:Type)(enc:η×Θ→H):ReturnsInLeavingWide {} Tryz.checked os 8 .any ((OpenSpec.ofChange Rows.addedSpec).preRow enc prog f8 Rows.addedRow.domain false Rows.addedRow.laid) (Rows.addedSpec.post enc prog f8 false true false false):=by
 obtain⟨places,hx⟩:=Jh os enc;refine Bp (C:=Tryz.checked) own started func8
  (witness_row_at (enc:=enc) (C:=Tryz.checked) false (abb prog os) #[.slice none 0 0,.int .i64 0] rfl (by kernel_rfl) (by kernel_rfl) (by kernel_rfl)
    (OpenSpec.preRow_of_cond 8 hx (by kernel_rfl) (λk hk=>by cases hk) (by kernel_rfl) (Pw os))) ?_
 intro W base args ds gs before hval hW _ hL PM;have hval:∀(j:Nat) t v,f8.params[j]?=some t→args[j]?=some v→Θ.okWide prog W .any base t v:=hval;have hW':=hW;obtain⟨p,q,hA0,hV,rfl,P6,hnd⟩:=hW;have hA:DataW.TrodAll enc prog W 0 (λ_=>true) true f8.params.toList args.toList ds p:=hA0;rw[params8]at hA hval;obtain⟨v0,v1,d0,d1,p0,p1,rfl,rfl,rfl,h0,h1⟩:=trodAll_two hA;obtain⟨rfl,rfl⟩:=trodVars_none hV;have h0k:=h0;have hv0:=hval 0 43 v0 rfl rfl;obtain⟨n,rfl,rfl,rfl,w1⟩:=open_int underlying3 (hval 1 3 v1 rfl rfl) h1;simp only[List.append_nil]at hW';have hlt:∀x∈p0,x.block<W.heap.size:=λx hx=>by simpa using hW'.lt x (by simp[hx])
 obtain⟨n1,n2⟩:=wf_i64 w1;obtain⟨hp,h32,XM⟩:=Ff hL;have hgs:prog.globals.size≤W.heap.size:=Jg XM;obtain⟨sa,len,cap,zs,rfl,aba,hlen,hz,hcell⟩:=UO hv0 h0;refine Lx hgs (Jf PM hp h32 XM) hp aba hlen hz hcell n1 n2 λW' ht ho hu hsz hold=>?_;have hb:Below W.heap.size W W':=⟨ho,ht,hu,hsz,hold⟩;have pU:DataW.TrodAll enc prog W' 0 (λb=>decide (b<W.heap.size)) true [43,3] [.slice sa len cap,.int .i64 n] [d0,.lit (.int .i64 n)] p0:=by
  have:=trodAll_mk2 (Below.trod laidOut (by kernel_rfl) (of_decide_eq_true (by kernel_rfl)) h0k hb hlt) (shut_int underlying3 w1);rwa[List.append_nil]at this
 exact⟨_,_,_,[],p0,[],hW',trodAll_mk1 (shut_bool underlying4 _),pU,rfl,hb.frame _,λh=>by cases h⟩
theorem LA:Rows.AddedSaid:=
 OpenClaim.holds_of_wide_leaving 8 f8 rfl rfl rfl rfl rfl rfl rfl ⟨rfl,rfl,rfl,rfl,rfl⟩ rfl rfl rfl rfl rfl (by kernel_rfl) func8 (by kernel_rfl)
  (of_decide_eq_true (by kernel_rfl)) (by unfold Func.isWrapper;first|(rw[zac (by decide +kernel)];kernel_rfl)|(rw[zaa (by decide +kernel)];exact⟨rfl,rfl⟩))
  (λos started H enc _=>by rw[OpenClaim.pre_eq_preRow];exact Fg os started H enc)
theorem Ji (f:FuncId)(fn:Func)(hf:Tryz.pinned.checked.prog.funcNamed Rows.addedRow.func=some f)(hfn:Tryz.pinned.checked.prog.funcs[f]?=some fn):true=Tryz.pinned.checked.prog.looks []∧∀(j:Nat) t,fn.params[j]?=some t→Tryz.pinned.checked.prog.wantsStandIn t=false:=by
 obtain rfl:f=8:=zaF ((show prog.funcNamed Rows.addedRow.func=some 8 by kernel_rfl).symm.trans hf) |>.symm
 obtain rfl:fn=f8:=(zaF (func8.symm.trans hfn)).symm;refine⟨by kernel_rfl,λj t ht=>?_⟩;rw[params8]at ht;have hm:t∈[43,3]:=by simpa using zbI ht
 have hall:([43,3].all λu=>!prog.wantsStandIn u)=true:=by kernel_rfl
 exact(show prog.wantsStandIn t=false by simpa using zaI.1 hall t hm)
theorem added_card:Rows.AddedCardSaid:=
 Pu .later _ _ _ _ LA (by kernel_rfl) added_row_tie rfl ⟨rfl,rfl⟩ (by kernel_rfl) rfl Ji (by kernel_rfl)
end Go.Proofs.YtlhimdjkkiflhaaGreatDoor
#print axioms Go.Proofs.YtlhimdjkkiflhaaGreatDoor.added_card
