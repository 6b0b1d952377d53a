import Derived.Test.YtlhimdjkkiflhaaGreatReads14
set_option maxHeartbeats 8000000
set_option maxRecDepth 100000
open Go renaming maxLen→Γ,World→Θ,Calls→Λ
open Go.RowKit renaming Below→Δ
namespace Go.Proofs.YtlhimdjkkiflhaaGreat
open Go.Proofs.Tryz
open Go.RowKit Go.Loop
def gD (neg:Bool)(a b:List UInt8):Option (Int×Int×Int):=
 if bV a&&bV b then
  (if 1000000<aA a∨1000000<aA b then some (0,0,7)
   else if aA b=0 then some (0,0,3)
   else some ((if neg then -aA a else aA a).tdiv (Int.gcd (if neg then -aA a else aA a) (aA b)),aA b/(Int.gcd (if neg then -aA a else aA a) (aA b)),0))
 else none
theorem yB {neg:Bool}{l:List UInt8}(h:eE l=none):numberOf neg l=gD neg l [49]:=by
 unfold numberOf gD;rw[h];rfl
theorem Bb {neg:Bool}{l a b:List UInt8}(h:eE l=some (a,b)):numberOf neg l=gD neg a b:=by
 unfold numberOf gD;rw[h];rfl
def FM:Option (Int×Int×Int)→Tok
 |none=>⟨0,0,0,[],0,0,0⟩
 |some (n,d,f)=>⟨13,0,0,[],n,d,f⟩
theorem xh {l:List UInt8}(h:bV l=true):l.all (λc=>aD (c.toNat:Int))=true:=by
 unfold bV at h;rw[zai]at h;exact h.2
theorem Mn {neg:Bool}{a b:List UInt8}(h:bV a=false):gD neg a b=none:=by unfold gD;rw[h];rfl
theorem Mo {neg:Bool}{a b:List UInt8}(h:bV b=false):gD neg a b=none:=by unfold gD;rw[h];simp
theorem acY {neg:Bool}{a b:List UInt8}(h1:bV a=true)(h2:bV b=true)(h:1000000<aA a∨1000000<aA b):gD neg a b=some (0,0,7):=by unfold gD;rw[h1,h2,zbO,zac rfl,zac h]
theorem acZ {neg:Bool}{a b:List UInt8}(h1:bV a=true)(h2:bV b=true)(h:¬(1000000<aA a∨1000000<aA b))(h3:aA b=0):gD neg a b=some (0,0,3):=by unfold gD;rw[h1,h2,zbO,zac rfl,zaa h,zac h3]
theorem ac0 {neg:Bool}{a b:List UInt8}{m d:Int}(h1:bV a=true)(h2:bV b=true)(h:¬(1000000<aA a∨1000000<aA b))(h3:¬aA b=0)(hm:(if neg then -aA a else aA a)=m)(hd:aA b=d):gD neg a b=some (m.tdiv (Int.gcd m d),d/(Int.gcd m d),0):=by subst hm hd;unfold gD;rw[h1,h2,zbO,zac rfl,zaa h,zaa h3]
theorem xi {l:List UInt8}(h:bV l=true):0≤aA l∧aA l≤1000001:=tG l 0 (by omega) (by omega) (xh h)
theorem Mp {c:UInt8}{n:Nat}(h:c.toNat=n)(m:Int)(hm:(n:Int)=m):((c.toNat:Int)==m)=true:=by rw[h,hm];simp
theorem Hk {c:UInt8}{n:Nat}(h:¬c.toNat=n)(m:Int)(hm:(n:Int)=m):((c.toNat:Int)==m)=false:=by rw[zao];omega
section
attribute [local go_sem] ry A9 oU rB jg
theorem De (neg dv:Bool)(c:UInt8)(r:List UInt8)(R a b0 b:ByteArray)(w:Θ)(hs:r.length+1≤1000000)
 (hsg:(neg=true∧c.toNat=45∧R=⟨⟨r⟩⟩)∨(neg=false∧c.toNat=43∧R=⟨⟨r⟩⟩)∨(neg=false∧(¬c.toNat=45∧¬c.toNat=43)∧R=⟨⟨c::r⟩⟩))
 (hcut:∀w,Λ prog 122 #[.string R,.string ⟨#[47]⟩] w λe w'=>e=.returned (.tuple #[.string a,.string b0,.bool dv])∧∃n,w'=w.drewN n)
 (hb:(dv=true∧b0=b)∨(dv=false∧(⟨#[49]⟩:ByteArray)=b))(has:a.size≤1000000)(G0:b.size≤1000000):
 Λ prog 111 #[.string ⟨⟨c::r⟩⟩] w λe w'=>e=.returned (.tuple #[bC (FM (gD neg a.data.toList b.data.toList)),.bool (gD neg a.data.toList b.data.toList).isSome])∧Δ w.heap.size w w':=by
 have hsz:(ByteArray.mk (Array.mk (c::r))).size=r.length+1:=rfl;have Le:(ByteArray.mk (Array.mk r)).size=r.length:=rfl;obtain⟨m,hm⟩:∃m,(if neg then -aA a.data.toList else aA a.data.toList)=m:=⟨_,rfl⟩;have N1:Hid (_→gD neg a.data.toList b.data.toList=_):=Mn;have N2:Hid (_→gD neg a.data.toList b.data.toList=_):=Mo;have N7:Hid (_→_→_→gD neg a.data.toList b.data.toList=_):=acY;have N3:Hid (_→_→_→_→gD neg a.data.toList b.data.toList=_):=acZ;have N0:Hid (_→_→_→_→gD neg a.data.toList b.data.toList=_):=λh1 h2 h3 h4=>ac0 h1 h2 h3 h4 hm rfl;have HC:Hid _:=hcut;clear hcut;rcases hsg with⟨rfl,hc,rfl⟩|⟨rfl,hc,rfl⟩|⟨rfl,hc,rfl⟩
 case' inl=>have q1:=Mp hc 45 rfl
 case' inr.inl=>
  have q1:((c.toNat:Int)==45)=false:=by rw[zao];omega
  have q2:=Mp hc 43 rfl
 case' inr.inr=>
  have q1:=Hk hc.1 45 rfl;have q2:=Hk hc.2 43 rfl
 all_goals
  clear hc;simp only[if_true,if_false,zaN]at hm;subst hm;rcases hb with⟨rfl,hB⟩|⟨rfl,hB⟩
  all_goals
   have HB:Hid _:=hB;clear hB;cases d1:bV a.data.toList
   ·have H:Hid _:=N1.out d1;clear N1 N2 N7 N3 N0;go_enter func111,ntmps111;go_wp2_with fail;refine(HC.out _).mono ?_;rintro e w' ⟨rfl,n,rfl⟩;go_wp2_with fail;rw[HB.out];refine(dt _ _ has).mono ?_;rw[show bV a.data.toList=_ from d1];rintro e w' ⟨rfl,rfl⟩;go_wp2_with fail;refine zak (v:= .tuple #[bC ⟨0,0,0,[],0,0,0⟩,.bool false]) (by simp[results,results111,bC,go_sem]) rfl ⟨?_,?_⟩
    ·rw[H.out];rfl
    ·(repeat (first|with_reducible refine zaA ?_ (by simp) _|with_reducible refine zbg ?_ _|with_reducible refine zaB ?_ (by simp) _));with_reducible exact zad _ _
   obtain⟨d2v,d2⟩:∃v,bV b.data.toList=v:=⟨_,rfl⟩;cases d2v
   ·have H:Hid _:=N2.out d2;clear N1 N2 N7 N3 N0;go_enter func111,ntmps111;go_wp2_with fail;refine(HC.out _).mono ?_;rintro e w' ⟨rfl,n,rfl⟩;go_wp2_with fail;rw[HB.out];refine(dt _ _ has).mono ?_;rw[show bV a.data.toList=_ from d1];rintro e w' ⟨rfl,rfl⟩;go_wp2_with fail;refine(dt _ _ G0).mono ?_;rw[show bV b.data.toList=_ from d2];rintro e w' ⟨rfl,rfl⟩;go_wp2_with fail;refine zak (v:= .tuple #[bC ⟨0,0,0,[],0,0,0⟩,.bool false]) (by simp[results,results111,bC,go_sem]) rfl ⟨?_,?_⟩
    ·rw[H.out];rfl
    ·(repeat (first|with_reducible refine zaA ?_ (by simp) _|with_reducible refine zbg ?_ _|with_reducible refine zaB ?_ (by simp) _));with_reducible exact zad _ _
   obtain⟨n1,n2⟩:=xi d1;obtain⟨m1,m2⟩:=xi d2;have D1:Hid _:=xh d1;have D2:Hid _:=xh d2;by_cases h7:1000000<aA a.data.toList∨1000000<aA b.data.toList
   ·have H:Hid _:=N7.out d1 d2 h7;have hf:Hid (_=(7:Int)):=(zac h7:(if 1000000<aA a.data.toList∨1000000<aA b.data.toList then(7:Int)else if aA b.data.toList=0 then 3 else 0)=7);clear h7 N1 N2 N7 N3 N0;go_enter func111,ntmps111;go_wp2_with fail;refine(HC.out _).mono ?_;rintro e w' ⟨rfl,n,rfl⟩;go_wp2_with fail;rw[HB.out];refine(dt _ _ has).mono ?_;rw[show bV a.data.toList=_ from d1];rintro e w' ⟨rfl,rfl⟩;go_wp2_with fail;refine(dt _ _ G0).mono ?_;rw[show bV b.data.toList=_ from d2];rintro e w' ⟨rfl,rfl⟩;go_wp2_with fail;refine(fc _ _ has D1.out).mono ?_;rintro e w' ⟨rfl,rfl⟩;go_wp2_with fail;refine(fc _ _ G0 D2.out).mono ?_;rintro e w' ⟨rfl,rfl⟩;go_wp2_with fail;refine(jV _ _ _).mono ?_;rw[hf.out];rintro e w' ⟨rfl,rfl⟩;go_wp2_with fail;refine zak (v:= .tuple #[bC ⟨13,0,0,[],0,0,7⟩,.bool true]) (by simp[results,results111,bC,go_sem]) rfl ⟨?_,?_⟩
    ·rw[H.out];rfl
    ·(repeat (first|with_reducible refine zaA ?_ (by simp) _|with_reducible refine zbg ?_ _|with_reducible refine zaB ?_ (by simp) _));with_reducible exact zad _ _
   by_cases h3:aA b.data.toList=0
   ·have H:Hid _:=N3.out d1 d2 h7 h3;have hf:Hid ((if 1000000<aA a.data.toList∨1000000<aA b.data.toList then(7:Int)else if aA b.data.toList=0 then 3 else 0)=3):=by show _=_;rw[zaa h7,zac h3]
    clear h7 h3 N1 N2 N7 N3 N0;go_enter func111,ntmps111;go_wp2_with fail;refine(HC.out _).mono ?_;rintro e w' ⟨rfl,n,rfl⟩;go_wp2_with fail;rw[HB.out];refine(dt _ _ has).mono ?_;rw[show bV a.data.toList=_ from d1];rintro e w' ⟨rfl,rfl⟩;go_wp2_with fail;refine(dt _ _ G0).mono ?_;rw[show bV b.data.toList=_ from d2];rintro e w' ⟨rfl,rfl⟩;go_wp2_with fail;refine(fc _ _ has D1.out).mono ?_;rintro e w' ⟨rfl,rfl⟩;go_wp2_with fail;refine(fc _ _ G0 D2.out).mono ?_;rintro e w' ⟨rfl,rfl⟩;go_wp2_with fail;refine(jV _ _ _).mono ?_;rw[hf.out];rintro e w' ⟨rfl,rfl⟩;go_wp2_with fail;refine zak (v:= .tuple #[bC ⟨13,0,0,[],0,0,3⟩,.bool true]) (by simp[results,results111,bC,go_sem]) rfl ⟨?_,?_⟩
    ·rw[H.out];rfl
    ·(repeat (first|with_reducible refine zaA ?_ (by simp) _|with_reducible refine zbg ?_ _|with_reducible refine zaB ?_ (by simp) _));with_reducible exact zad _ _
   have H:Hid _:=N0.out d1 d2 h7 h3;have hf:Hid ((if 1000000<aA a.data.toList∨1000000<aA b.data.toList then(7:Int)else if aA b.data.toList=0 then 3 else 0)=0):=by show _=_;rw[zaa h7,zaa h3]
   have t1:aA a.data.toList≤1000000:=by omega
   have t2:1≤aA b.data.toList:=by omega
   have t3:aA b.data.toList≤1000000:=by omega
   clear h7 h3 N1 N2 N7 N3 N0;go_enter func111,ntmps111;go_wp2_with fail;refine(HC.out _).mono ?_;rintro e w' ⟨rfl,n,rfl⟩;go_wp2_with fail;rw[HB.out];refine(dt _ _ has).mono ?_;rw[show bV a.data.toList=_ from d1];rintro e w' ⟨rfl,rfl⟩;go_wp2_with fail;refine(dt _ _ G0).mono ?_;rw[show bV b.data.toList=_ from d2];rintro e w' ⟨rfl,rfl⟩;go_wp2_with fail;refine(fc _ _ has D1.out).mono ?_;rintro e w' ⟨rfl,rfl⟩;go_wp2_with fail;refine(fc _ _ G0 D2.out).mono ?_;rintro e w' ⟨rfl,rfl⟩;go_wp2_with fail;refine(jV _ _ _).mono ?_;rw[hf.out];rintro e w' ⟨rfl,rfl⟩;go_wp2_with fail;refine(uO _ _ _ (by omega) (by omega) (by omega) (by omega)).mono ?_;rintro e w' ⟨rfl,m,rfl⟩;go_wp2_with fail;refine zak (by simp[results,results111,go_sem];rfl) rfl ⟨?_,?_⟩
   ·rw[H.out];first|rfl|simp[FM,bC]
   ·(repeat (first|with_reducible refine zaA ?_ (by simp) _|with_reducible refine zbg ?_ _|with_reducible refine zaB ?_ (by simp) _));with_reducible exact zad _ _
end
theorem rG (s:ByteArray)(a b:Nat):(s.extract a b).data.toList=(s.data.toList.drop a).take (b-a):=by
 simp
theorem lx (s:ByteArray)(a b n:Nat)(h:s.size≤n):(s.extract a b).size≤n:=by
 rw[←bF,rG,List.length_take,zan,bF];omega
theorem yC (c:UInt8)(r:List UInt8)(w:Θ)(hs:r.length+1≤1000000):Λ prog 111 #[.string ⟨⟨c::r⟩⟩] w λe w'=>e=.returned (.tuple #[bC (FM (fC (c::r))),.bool (fC (c::r)).isSome])∧Δ w.heap.size w w':=by
 have key:∀(l:List UInt8) (k:Nat),k<l.length→((⟨⟨l⟩⟩:ByteArray).extract 0 k).data.toList=l.take k∧((⟨⟨l⟩⟩:ByteArray).extract (k+1) (⟨⟨l⟩⟩:ByteArray).size).data.toList=l.drop (k+1):=λl k hk=>by
  refine⟨by rw[rG];simp,?_⟩;rw[rG];show(l.drop (k+1)).take (l.length-(k+1))=_;rw[List.take_of_length_le];rw[zan];exact zab _
 have go:∀(neg:Bool) (l:List UInt8),l.length≤1000000→fC (c::r)=numberOf neg l→((neg=true∧c.toNat=45∧(⟨⟨l⟩⟩:ByteArray)=⟨⟨r⟩⟩)∨(neg=false∧c.toNat=43∧(⟨⟨l⟩⟩:ByteArray)=⟨⟨r⟩⟩)∨(neg=false∧(¬c.toNat=45∧¬c.toNat=43)∧(⟨⟨l⟩⟩:ByteArray)=⟨⟨c::r⟩⟩))→Λ prog 111 #[.string ⟨⟨c::r⟩⟩] w λe w'=>e=.returned (.tuple #[bC (FM (fC (c::r))),.bool (fC (c::r)).isSome])∧Δ w.heap.size w w':=λneg l hl e hsg=>by
  rw[e];rcases zJ l with⟨h1,h2⟩|⟨k,h1,h2,h3⟩
  ·rw[yB h2];exact De neg false c r ⟨⟨l⟩⟩ ⟨⟨l⟩⟩ ⟨#[]⟩ ⟨#[49]⟩ w hs hsg (λw=>Mm _ w h1) (.inr ⟨rfl,rfl⟩) hl (by decide)
  ·rw[Bb h3,←(key l k h2).1,←(key l k h2).2];exact De neg true c r ⟨⟨l⟩⟩ _ _ _ w hs hsg (λw=>PZ _ k w h1 h2 hl) (.inl ⟨rfl,rfl⟩) (lx _ _ _ _ hl) (lx _ _ _ _ hl)
 by_cases FN:c.toNat=45
 ·exact go true r (by omega) (by show(if c.toNat=45 then _ else _)=_;rw[zac FN]) (.inl ⟨rfl,FN,rfl⟩)
 by_cases KF:c.toNat=43
 ·exact go false r (by omega) (by show(if c.toNat=45 then _ else _)=_;rw[zaa FN,zac KF]) (.inr (.inl ⟨rfl,KF,rfl⟩))
 ·exact go false (c::r) (by simp;omega) (by show(if c.toNat=45 then _ else _)=_;rw[zaa FN,zaa KF]) (.inr (.inr ⟨rfl,⟨FN,KF⟩,rfl⟩))
theorem Df (x:ByteArray)(w:Θ)(hs:x.size≤1000000)(hne:x.data.toList≠[]):Λ prog 111 #[.string x] w λe w'=>e=.returned (.tuple #[bC (FM (fC x.data.toList)),.bool (fC x.data.toList).isSome])∧Δ w.heap.size w w':=by
 obtain⟨⟨l⟩⟩:=x;cases l with
 |nil=>exact absurd rfl hne
 |cons c r=>exact yC c r w (by have:(c::r).length≤1000000:=hs;simpa using this)
theorem tH (x:ByteArray)(w:Θ)(hs:x.size≤1000000)(hne:x.data.toList≠[]):Λ prog 110 #[.string x] w λe w'=>e=.returned (.bool (bN x.data.toList))∧w'=w:=by
 obtain⟨⟨l⟩⟩:=x;cases l with
 |nil=>exact absurd rfl hne
 |cons c r=>exact tD c r w (by have:(c::r).length≤1000000:=hs;unfold Γ;omega)
theorem nW (s:ByteArray)(a b:Nat):(s.extract a b).data.toList=cq s.data.toList a b:=rG s a b
theorem Ty (s:ByteArray)(a b:Nat):(s.extract a b).toList=cq s.data.toList a b:=by rw[oW,nW]
theorem cZ {W w1:Θ}(hb:Δ W.heap.size W w1){b:Nat}{x0 x1 x2 x3 x4 x5 x6:Value}{e:TypeId}(h:W.heap[b]?=some (.cells #[x0,x1,x2,x3,x4,x5,x6] e)):(w1.cell? ⟨b,0,none⟩=some x0∧w1.cell? ⟨b,1,none⟩=some x1∧w1.cell? ⟨b,2,none⟩=some x2∧w1.cell? ⟨b,3,none⟩=some x3∧w1.cell? ⟨b,4,none⟩=some x4∧w1.cell? ⟨b,5,none⟩=some x5∧w1.cell? ⟨b,6,none⟩=some x6)∧(w1.frozen? ⟨b,0,none⟩=false∧w1.frozen? ⟨b,1,none⟩=false∧w1.frozen? ⟨b,2,none⟩=false∧w1.frozen? ⟨b,3,none⟩=false∧w1.frozen? ⟨b,4,none⟩=false∧w1.frozen? ⟨b,5,none⟩=false∧w1.frozen? ⟨b,6,none⟩=false):=by
 have hlt:b<W.heap.size:=(zag.1 h).1;have h1:w1.heap[b]?=some (.cells #[x0,x1,x2,x3,x4,x5,x6] e):=(hb.block b hlt).trans h;refine⟨⟨?_,?_,?_,?_,?_,?_,?_⟩,?_,?_,?_,?_,?_,?_,?_⟩<;>simp[Θ.cell?,Θ.frozen?,h1]
theorem fL {w w1:Θ}(h0:Δ w.heap.size w w1)(v0 v1 v2 v3 v4 v5 v6:Value):Δ w.heap.size w (((((((w1.setCell ⟨w.heap.size,0,none⟩ v0).setCell ⟨w.heap.size,1,none⟩ v1).setCell ⟨w.heap.size,2,none⟩ v2).setCell ⟨w.heap.size,3,none⟩ v3).setCell ⟨w.heap.size,4,none⟩ v4).setCell ⟨w.heap.size,5,none⟩ v5).setCell ⟨w.heap.size,6,none⟩ v6):=
 ((((((h0.setCell (zab _) _).setCell (zab _) _).setCell (zab _) _).setCell (zab _) _).setCell (zab _) _).setCell (zab _) _).setCell (zab _) _
theorem pR (s:ByteArray)(a:Nat)(w:Θ)(hs:s.size≤1000000)(ha:a<s.size):Λ prog 105 #[.string s,.int .i64 a] w λe w'=>e=.returned (bC (dA s.data.toList a))∧Δ w.heap.size w w':=by
 have hle:=jq aX (s.data.toList.drop (a+1));rw[zan,bF]at hle;have hT:Hid (dA s.data.toList a=if cq s.data.toList (a+1) (a+1+au aX (s.data.toList.drop (a+1)))=[116]∨cq s.data.toList (a+1) (a+1+au aX (s.data.toList.drop (a+1)))=[116,114,117,101]then { aQ 12 a (a+1+au aX (s.data.toList.drop (a+1)))with n:=1 } else if cq s.data.toList (a+1) (a+1+au aX (s.data.toList.drop (a+1)))=[102]∨cq s.data.toList (a+1) (a+1+au aX (s.data.toList.drop (a+1)))=[102,97,108,115,101]then aQ 12 a (a+1+au aX (s.data.toList.drop (a+1)))else bG a):=rfl;generalize hk:au aX (s.data.toList.drop (a+1))=k at *;have HK:Hid _:=hk;clear hk;have hc:∀x:List UInt8,((s.extract (a+1) (a+1+k)).toList==x)=decide (cq s.data.toList (a+1) (a+1+k)=x):=λx=>by rw[Ty,zbh];simp
 have q1:=hc [116];have q2:=hc [116,114,117,101];have q3:=hc [102];have q4:=hc [102,97,108,115,101];clear hc;generalize cq s.data.toList (a+1) (a+1+k)=W at *;by_cases c1:W=[116]
 ·have e:Hid (dA s.data.toList a={ aQ 12 a (a+1+k)with n:=1 }):=by show _=_;rw[hT.out,zac (.inl c1)]
  rw[zcb c1]at q1;clear q2 q3 q4 c1;clear hT;go_enter func105,ntmps105;go_wp2_with (go_at_call 109;refine(ez _ _ _ (by unfold Γ;omega) (by omega) (by omega)).mono ?_;rintro e w' ⟨rfl,rfl⟩;rw[show((a:Int)+1).toNat=a+1 by omega,HK.out]);refine zak (v:=bC { aQ 12 a (a+1+k)with n:=1 }) (by simp[results,results105,bC,aQ,go_sem]) rfl ⟨by rw[e.out],?_⟩
  (repeat (first|with_reducible refine zaA ?_ (by simp) _|with_reducible refine zbg ?_ _|with_reducible refine zaB ?_ (by simp) _));with_reducible exact zad _ _
 by_cases c2:W=[116,114,117,101]
 ·have e:Hid (dA s.data.toList a={ aQ 12 a (a+1+k)with n:=1 }):=by show _=_;rw[hT.out,zac (.inr c2)]
  rw[zbr c1]at q1;rw[zcb c2]at q2;clear q3 q4 c1 c2;clear hT;go_enter func105,ntmps105;go_wp2_with (go_at_call 109;refine(ez _ _ _ (by unfold Γ;omega) (by omega) (by omega)).mono ?_;rintro e w' ⟨rfl,rfl⟩;rw[show((a:Int)+1).toNat=a+1 by omega,HK.out]);refine zak (v:=bC { aQ 12 a (a+1+k)with n:=1 }) (by simp[results,results105,bC,aQ,go_sem]) rfl ⟨by rw[e.out],?_⟩
  (repeat (first|with_reducible refine zaA ?_ (by simp) _|with_reducible refine zbg ?_ _|with_reducible refine zaB ?_ (by simp) _));with_reducible exact zad _ _
 by_cases c3:W=[102]
 ·have e:Hid (dA s.data.toList a=aQ 12 a (a+1+k)):=by show _=_;rw[hT.out,zaa (by simp[c1,c2]),zac (.inl c3)]
  rw[zbr c1]at q1;rw[zbr c2]at q2;rw[zcb c3]at q3;clear q4 c1 c2 c3;clear hT;go_enter func105,ntmps105;go_wp2_with (go_at_call 109;refine(ez _ _ _ (by unfold Γ;omega) (by omega) (by omega)).mono ?_;rintro e w' ⟨rfl,rfl⟩;rw[show((a:Int)+1).toNat=a+1 by omega,HK.out]);refine zak (v:=bC (aQ 12 a (a+1+k))) (by simp[results,results105,bC,aQ,go_sem]) rfl ⟨by rw[e.out],?_⟩
  (repeat (first|with_reducible refine zaA ?_ (by simp) _|with_reducible refine zbg ?_ _|with_reducible refine zaB ?_ (by simp) _));with_reducible exact zad _ _
 by_cases c4:W=[102,97,108,115,101]
 ·have e:Hid (dA s.data.toList a=aQ 12 a (a+1+k)):=by show _=_;rw[hT.out,zaa (by simp[c1,c2]),zac (.inr c4)]
  rw[zbr c1]at q1;rw[zbr c2]at q2;rw[zbr c3]at q3;rw[zcb c4]at q4;clear c1 c2 c3 c4;clear hT;go_enter func105,ntmps105;go_wp2_with (go_at_call 109;refine(ez _ _ _ (by unfold Γ;omega) (by omega) (by omega)).mono ?_;rintro e w' ⟨rfl,rfl⟩;rw[show((a:Int)+1).toNat=a+1 by omega,HK.out]);refine zak (v:=bC (aQ 12 a (a+1+k))) (by simp[results,results105,bC,aQ,go_sem]) rfl ⟨by rw[e.out],?_⟩
  (repeat (first|with_reducible refine zaA ?_ (by simp) _|with_reducible refine zbg ?_ _|with_reducible refine zaB ?_ (by simp) _));with_reducible exact zad _ _
 ·have e:Hid (dA s.data.toList a=bG a):=by show _=_;rw[hT.out,zaa (by simp[c1,c2]),zaa (by simp[c3,c4])]
  rw[zbr c1]at q1;rw[zbr c2]at q2;rw[zbr c3]at q3;rw[zbr c4]at q4;clear hT c1 c2 c3 c4;go_enter func105,ntmps105;go_wp2_with (go_at_call 109;refine(ez _ _ _ (by unfold Γ;omega) (by omega) (by omega)).mono ?_;rintro e w' ⟨rfl,rfl⟩;rw[show((a:Int)+1).toNat=a+1 by omega,HK.out]);refine(jh _ _).mono ?_;rintro e1 w1 ⟨rfl,hb⟩;obtain⟨⟨x0,x1,x2,x3,x4,x5,x6⟩,f0,f1,f2,f3,f4,f5,f6⟩:=cZ (b:=w.heap.size) hb ((zaK _ _ _ (by simp)).trans (zau w _));have HB:Hid (Δ w.heap.size w w1):=((((zad _ w).alloc (zab _) _).alloc (by simp) _).trans (hb.mono (by simp;omega)));clear hb;unfold bC;go_wp2_with fail;exact zak (v:=bC (bG a)) (by simp[results,results105,bC,aQ,bG,go_sem, *]) rfl ⟨by rw[e.out],fL HB.out _ _ _ _ _ _ _⟩
theorem Tz (s:ByteArray)(a b:Nat):s.extract a b=⟨⟨cq s.data.toList a b⟩⟩:=by
 have h:=nW s a b;generalize s.extract a b=x at *;obtain⟨⟨l⟩⟩:=x;rw[←h]
theorem Bc (s:ByteArray)(a:Nat)(w:Θ)(hs:s.size≤1000000)(ha:a<s.size)(hw:aX (s[a].toNat :Int)=true):Λ prog 79 #[.string s,.int .i64 a] w λe w'=>e=.returned (bC (jA s.data.toList a))∧Δ w.heap.size w w':=by
 have hle:=jq aX (s.data.toList.drop a);rw[zan,bF]at hle;have jT:0<au aX (s.data.toList.drop a):=by rw[drop_cons s a ha];unfold au;rw[zac hw];omega
 have hT:Hid (jA s.data.toList a=if cq s.data.toList a (a+au aX (s.data.toList.drop a))=[46]then aQ 7 a (a+au aX (s.data.toList.drop a))else if !bN (cq s.data.toList a (a+au aX (s.data.toList.drop a)))then { aQ 14 a (a+au aX (s.data.toList.drop a))with text:=cq s.data.toList a (a+au aX (s.data.toList.drop a)) } else match fC (cq s.data.toList a (a+au aX (s.data.toList.drop a)))with|none=>bG a|some (n,d,f)=>{ aQ 13 a (a+au aX (s.data.toList.drop a))with n:=n,d:=d,fault:=f }):=rfl;clear hw;generalize hk:au aX (s.data.toList.drop a)=k at *;have HK:Hid _:=hk;clear hk;have hx:=Tz s a (a+k);have hlen:(cq s.data.toList a (a+k)).length=k:=by unfold cq;rw[List.length_take,zan,bF];omega
 have hsz:(s.extract a (a+k)).size≤1000000:=lx _ _ _ _ hs;generalize hW:cq s.data.toList a (a+k)=W at *;have hne:W≠[]:=by intro h;rw[h]at hlen;simp at hlen;omega
 clear hW hlen;have hd:(s.extract a (a+k)).data.toList=W:=by rw[hx]
 have ht:(s.extract a (a+k)).toList=W:=by rw[oW,hd]
 have HXW:Hid _:=hx;clear hx;by_cases c1:W=[46]
 ·have e:Hid (jA s.data.toList a=aQ 7 a (a+k)):=by show _=_;rw[hT.out,zac c1]
  have q1:((s.extract a (a+k)).toList==[46])=true:=by rw[ht,c1];rfl
  clear hT c1 hd ht;go_enter func79,ntmps79;go_wp2_with (go_at_call 109;refine(ez _ _ _ (by unfold Γ;omega) (by omega) (by omega)).mono ?_;rintro e w' ⟨rfl,rfl⟩;rw[show((a:Int)).toNat=a by omega,HK.out]);refine zak (v:=bC (aQ 7 a (a+k))) (by simp[results,results79,bC,aQ,go_sem]) rfl ⟨by rw[e.out],?_⟩
  (repeat (first|with_reducible refine zaA ?_ (by simp) _|with_reducible refine zbg ?_ _|with_reducible refine zaB ?_ (by simp) _));with_reducible exact zad _ _
 have q1:((s.extract a (a+k)).toList==[46])=false:=by rw[ht,zao];exact c1
 have Bd:Hid ((s.extract a (a+k)).data.toList≠[]):=by rw[hd];exact hne
 cases hm:bN W
 ·have e:Hid (jA s.data.toList a={ aQ 14 a (a+k)with text:=W }):=by show _=_;rw[hT.out,zaa c1,hm];rfl
  have C9:Hid (bN (s.extract a (a+k)).data.toList=false):=by rw[hd];exact hm
  have hv:Hid (s.extract a (a+k)=⟨⟨W⟩⟩):=HXW.out;clear hT c1 hd ht hm;go_enter func79,ntmps79;go_wp2_with (go_at_call 109;refine(ez _ _ _ (by unfold Γ;omega) (by omega) (by omega)).mono ?_;rintro e w' ⟨rfl,rfl⟩;rw[show((a:Int)).toNat=a by omega,HK.out]);refine(tH _ _ hsz Bd.out).mono ?_;rw[C9.out];rintro e w' ⟨rfl,rfl⟩;go_wp2_with fail;rw[hv.out];refine zak (v:=bC { aQ 14 a (a+k)with text:=W }) (by simp[results,results79,bC,aQ,go_sem]) rfl ⟨by rw[e.out],?_⟩
  (repeat (first|with_reducible refine zaA ?_ (by simp) _|with_reducible refine zbg ?_ _|with_reducible refine zaB ?_ (by simp) _));with_reducible exact zad _ _
 ·have C9:Hid (bN (s.extract a (a+k)).data.toList=true):=by rw[hd];exact hm
  have df:Hid (fC (s.extract a (a+k)).data.toList=fC W):=by show _=_;rw[hd]
  cases hn:fC W with
  |none=>
   have e:Hid (jA s.data.toList a=bG a):=by show _=_;rw[hT.out,zaa c1,hm,hn];rfl
   clear hT c1 hd ht hm;go_enter func79,ntmps79;go_wp2_with (go_at_call 109;refine(ez _ _ _ (by unfold Γ;omega) (by omega) (by omega)).mono ?_;rintro e w' ⟨rfl,rfl⟩;rw[show((a:Int)).toNat=a by omega,HK.out]);refine(tH _ _ hsz Bd.out).mono ?_;rw[C9.out];rintro e w' ⟨rfl,rfl⟩;go_wp2_with fail;refine(Df _ _ hsz Bd.out).mono ?_;rw[df.out,hn];rintro e w1 ⟨rfl,hb⟩;obtain⟨⟨x0,x1,x2,x3,x4,x5,x6⟩,f0,f1,f2,f3,f4,f5,f6⟩:=cZ (b:=w.heap.size) hb (zau w _);have hb1:Δ w.heap.size w w1:=((zad _ w).alloc (zab _) _).trans (hb.mono (by simp));have hs1:w.heap.size<w1.heap.size:=by have:=hb.size;simp at this;omega
   have Tt:¬w.heap.size=w1.heap.size:=by omega
   have Ov:¬w1.heap.size=w.heap.size:=by omega
   have HB:Hid (Δ w.heap.size w w1):=hb1;have oX:Hid _:=(hb.block w.heap.size (by simp)).trans (zau w _);clear hb hb1;unfold bC FM;go_wp2_with fail;refine(jh _ _).mono ?_;rintro e w2 ⟨rfl,hb2⟩;clear x0 x1 x2 x3 x4 x5 x6 f0 f1 f2 f3 f4 f5 f6;obtain⟨⟨x0,x1,x2,x3,x4,x5,x6⟩,f0,f1,f2,f3,f4,f5,f6⟩:=cZ (b:=w.heap.size) hb2 ((zaK _ _ _ hs1).trans oX.out);have pS:Hid (Δ w.heap.size w w2):=(HB.out.alloc (by omega) _).trans (hb2.mono (by simp;omega));clear hb2;unfold bC;go_wp2_with fail;exact zak (v:=bC (bG a)) (by simp[results,results79,bC,aQ,bG,go_sem, *]) rfl ⟨by rw[e.out],fL pS.out _ _ _ _ _ _ _⟩
  |some p=>
   obtain⟨n,d,f⟩:=p;have e:Hid (jA s.data.toList a={ aQ 13 a (a+k)with n:=n,d:=d,fault:=f }):=by show _=_;rw[hT.out,zaa c1,hm,hn];rfl
   clear hT c1 hd ht hm;go_enter func79,ntmps79;go_wp2_with (go_at_call 109;refine(ez _ _ _ (by unfold Γ;omega) (by omega) (by omega)).mono ?_;rintro e w' ⟨rfl,rfl⟩;rw[show((a:Int)).toNat=a by omega,HK.out]);refine(tH _ _ hsz Bd.out).mono ?_;rw[C9.out];rintro e w' ⟨rfl,rfl⟩;go_wp2_with fail;refine(Df _ _ hsz Bd.out).mono ?_;rw[df.out,hn];rintro e w1 ⟨rfl,hb⟩;obtain⟨⟨x0,x1,x2,x3,x4,x5,x6⟩,f0,f1,f2,f3,f4,f5,f6⟩:=cZ (b:=w.heap.size) hb (zau w _);have hb1:Δ w.heap.size w w1:=((zad _ w).alloc (zab _) _).trans (hb.mono (by simp));have hs1:w.heap.size<w1.heap.size:=by have:=hb.size;simp at this;omega
   have Tt:¬w.heap.size=w1.heap.size:=by omega
   have Ov:¬w1.heap.size=w.heap.size:=by omega
   have HB:Hid (Δ w.heap.size w w1):=hb1;have oX:Hid _:=(hb.block w.heap.size (by simp)).trans (zau w _);clear hb hb1;unfold bC FM;go_wp2_with fail;refine zak (v:=bC { aQ 13 a (a+k)with n:=n,d:=d,fault:=f }) (by simp[results,results79,bC,aQ,go_sem, *]) rfl ⟨by rw[e.out],?_⟩
   (repeat (first|with_reducible refine zaA ?_ (by first|(simp;done)|(simp;omega)) _|with_reducible refine zbg ?_ _|with_reducible refine zaB ?_ (by first|omega|(simp;done)|(simp;omega)) _));with_reducible exact HB.out
theorem Dg (p:Int→Bool):∀l:List UInt8,(l.take (au p l)).all (λc=>p (c.toNat:Int))=true
 |[]=>rfl
 |c::r=>by
  unfold au;by_cases h:p (c.toNat:Int)=true
  ·rw[zac h,zcn,zaq,h,Bool.true_and];exact Dg p r
  ·rw[zaa h];rfl
def xj:Tok:=⟨0,0,0,[],0,0,0⟩
theorem lH (s:ByteArray)(a:Nat)(w:Θ)(hs:s.size≤1000000)(ha:a<s.size):Λ prog 104 #[.string s,.int .i64 a] w λe w'=>e=.returned (.tuple #[bC ((dQ s.data.toList a).getD xj),.bool (dQ s.data.toList a).isSome])∧Δ w.heap.size w w':=by
 have hle:=jq aD (s.data.toList.drop (a+1));rw[zan,bF]at hle;have hall:Hid ((s.extract (a+1) (a+1+au aD (s.data.toList.drop (a+1)))).data.toList.all (λc=>aD (c.toNat:Int))=true):=by
  show _=_;rw[nW];unfold cq;rw[show a+1+au aD (s.data.toList.drop (a+1))-(a+1)=au aD (s.data.toList.drop (a+1)) by omega];exact Dg _ _
 have hT:Hid (dQ s.data.toList a=if au aD (s.data.toList.drop (a+1))=0∨3<au aD (s.data.toList.drop (a+1))then none else match s.data.toList.drop (a+1+au aD (s.data.toList.drop (a+1)))with|[]=>none|c::_=>if c.toNat=61 then some { aQ 10 a (a+1+au aD (s.data.toList.drop (a+1))+1)with n:=aA (cq s.data.toList (a+1) (a+1+au aD (s.data.toList.drop (a+1)))) } else if c.toNat=35 then some { aQ 11 a (a+1+au aD (s.data.toList.drop (a+1))+1)with n:=aA (cq s.data.toList (a+1) (a+1+au aD (s.data.toList.drop (a+1)))) } else none):=rfl;generalize hk:au aD (s.data.toList.drop (a+1))=k at *;have HK:Hid _:=hk;clear hk;have Hf:Hid ((s.extract (a+1) (a+1+k)).data.toList=cq s.data.toList (a+1) (a+1+k)):=nW _ _ _;have hsz:(s.extract (a+1) (a+1+k)).size≤1000000:=lx _ _ _ _ hs;by_cases h0:k=0
 ·have e:Hid (dQ s.data.toList a=none):=by show _=_;rw[hT.out,zac (.inl h0)]
  have q1:(((a:Int)+1+(k:Int))==(a:Int)+1)=true:=by rw[zbs];omega
  clear hT;go_enter func104,ntmps104;go_wp2_with (go_at_call 109;refine(eZ _ _ _ (by unfold Γ;omega) (by omega) (by omega)).mono ?_;rintro e w' ⟨rfl,rfl⟩;rw[show((a:Int)+1).toNat=a+1 by omega,HK.out]);refine zak (v:= .tuple #[bC xj,.bool false]) (by simp[results,results104,bC,xj,go_sem]) rfl ⟨by rw[e.out];rfl,?_⟩
  (repeat (first|with_reducible refine zaA ?_ (by simp) _|with_reducible refine zaB ?_ (by simp) _));with_reducible exact zad _ _
 have q1:(((a:Int)+1+(k:Int))==(a:Int)+1)=false:=by rw[zao];omega
 by_cases h3:3<k
 ·have e:Hid (dQ s.data.toList a=none):=by show _=_;rw[hT.out,zac (.inr h3)]
  clear hT;go_enter func104,ntmps104;go_wp2_with (go_at_call 109;refine(eZ _ _ _ (by unfold Γ;omega) (by omega) (by omega)).mono ?_;rintro e w' ⟨rfl,rfl⟩;rw[show((a:Int)+1).toNat=a+1 by omega,HK.out]);refine zak (v:= .tuple #[bC xj,.bool false]) (by simp[results,results104,bC,xj,go_sem]) rfl ⟨by rw[e.out];rfl,?_⟩
  (repeat (first|with_reducible refine zaA ?_ (by simp) _|with_reducible refine zaB ?_ (by simp) _));with_reducible exact zad _ _
 have hn:¬(k=0∨3<k):=by omega
 by_cases hE:a+1+k=s.size
 ·have e:Hid (dQ s.data.toList a=none):=by show _=_;rw[hT.out,zaa hn,show s.data.toList.drop (a+1+k)=[] from zaW (by rw[bF];omega)]
  have q2:(((a:Int)+1+(k:Int))==(s.size:Int))=true:=by rw[zbs];omega
  clear hT hn;go_enter func104,ntmps104;go_wp2_with (go_at_call 109;refine(eZ _ _ _ (by unfold Γ;omega) (by omega) (by omega)).mono ?_;rintro e w' ⟨rfl,rfl⟩;rw[show((a:Int)+1).toNat=a+1 by omega,HK.out]);refine zak (v:= .tuple #[bC xj,.bool false]) (by simp[results,results104,bC,xj,go_sem]) rfl ⟨by rw[e.out];rfl,?_⟩
  (repeat (first|with_reducible refine zaA ?_ (by simp) _|with_reducible refine zaB ?_ (by simp) _));with_reducible exact zad _ _
 have q2:(((a:Int)+1+(k:Int))==(s.size:Int))=false:=by rw[zao];omega
 have hlt:a+1+k<s.size:=by omega
 have LP:1≤k:=by omega
 have hk3:k≤3:=by omega
 have hd:=drop_cons s (a+1+k) hlt;clear h0 h3 hE;by_cases h61:(s[a+1+k].toNat :Int)=61
 ·have e:Hid (dQ s.data.toList a=some { aQ 10 a (a+1+k+1)with n:=aA (cq s.data.toList (a+1) (a+1+k)) }):=by show _=_;rw[hT.out,zaa hn,hd];exact zac (by omega)
  clear hT hd hn;go_enter func104,ntmps104;go_wp2_with (go_at_call 109;refine(eZ _ _ _ (by unfold Γ;omega) (by omega) (by omega)).mono ?_;rintro e w' ⟨rfl,rfl⟩;rw[show((a:Int)+1).toNat=a+1 by omega,HK.out]);refine(fc _ _ hsz hall.out).mono ?_;rw[Hf.out];rintro e w' ⟨rfl,rfl⟩;go_wp2_with fail;refine zak (v:= .tuple #[bC { aQ 10 a (a+1+k+1)with n:=aA (cq s.data.toList (a+1) (a+1+k)) },.bool true]) (by simp[results,results104,bC,aQ,go_sem]) rfl ⟨by rw[e.out];rfl,?_⟩
  (repeat (first|with_reducible refine zaA ?_ (by simp) _|with_reducible refine zaB ?_ (by simp) _));with_reducible exact zad _ _
 by_cases Yk:(s[a+1+k].toNat :Int)=35
 ·have e:Hid (dQ s.data.toList a=some { aQ 11 a (a+1+k+1)with n:=aA (cq s.data.toList (a+1) (a+1+k)) }):=by show _=_;rw[hT.out,zaa hn,hd];exact(zaa (by omega)).trans (zac (by omega))
  clear hT hd hn;go_enter func104,ntmps104;go_wp2_with (go_at_call 109;refine(eZ _ _ _ (by unfold Γ;omega) (by omega) (by omega)).mono ?_;rintro e w' ⟨rfl,rfl⟩;rw[show((a:Int)+1).toNat=a+1 by omega,HK.out]);refine(fc _ _ hsz hall.out).mono ?_;rw[Hf.out];rintro e w' ⟨rfl,rfl⟩;go_wp2_with fail;refine zak (v:= .tuple #[bC { aQ 11 a (a+1+k+1)with n:=aA (cq s.data.toList (a+1) (a+1+k)) },.bool true]) (by simp[results,results104,bC,aQ,go_sem]) rfl ⟨by rw[e.out];rfl,?_⟩
  (repeat (first|with_reducible refine zaA ?_ (by simp) _|with_reducible refine zaB ?_ (by simp) _));with_reducible exact zad _ _
 ·have e:Hid (dQ s.data.toList a=none):=by show _=_;rw[hT.out,zaa hn,hd];exact(zaa (by omega)).trans (zaa (by omega))
  clear hT hd hn;go_enter func104,ntmps104;go_wp2_with (go_at_call 109;refine(eZ _ _ _ (by unfold Γ;omega) (by omega) (by omega)).mono ?_;rintro e w' ⟨rfl,rfl⟩;rw[show((a:Int)+1).toNat=a+1 by omega,HK.out]);refine(fc _ _ hsz hall.out).mono ?_;rw[Hf.out];rintro e w' ⟨rfl,rfl⟩;go_wp2_with fail;refine zak (v:= .tuple #[bC xj,.bool false]) (by simp[results,results104,bC,xj,go_sem]) rfl ⟨by rw[e.out];rfl,?_⟩
  (repeat (first|with_reducible refine zaA ?_ (by simp) _|with_reducible refine zaB ?_ (by simp) _));with_reducible exact zad _ _
theorem yG {w:Θ}{b:Nat}(hb:w.heap[b]?=some (.cells #[.pointer none,.slice none 0 0] 172 (0,0))):Λ prog 100 #[.pointer (some ⟨b,0,none⟩)] w λe w'=>e=.returned (.string ⟨#[]⟩)∧w'=w.drew:=by
 have c1:w.drew.cell? ⟨b,1,none⟩=some (.slice none 0 0):=by
  have:w.drew.heap[b]?=some (.cells #[.pointer none,.slice none 0 0] 172 (0,0)):=hb;simp[Θ.cell?,this]
 have hSD:(Builtin.unsafeSliceData_ #[162] 184 #[.slice none 0 0]).run prog w.drew=.ok (.pointer none) w.drew:=Lib.run_unsafeSliceData_nil _ _ _ _ _;have hUS:(Builtin.unsafeString_ #[184,3] 9 #[.pointer none,.int .i64 0]).run prog w.drew=.ok (.string ⟨#[]⟩) w.drew:=
  Lib.run_unsafeString_none _ _ _ _ _
 clear hb;go_enter func100,ntmps100
 go_wp2
 go_region;all_goals (go_wp2;go_ret;exact⟨rfl,rfl⟩)
def KG (W w:Θ)(N:Nat)(l:List UInt8):Prop:=N=W.heap.size∧∃cs v,cs.size=2∧iW w 172 0 N N cs v (Lib.byteCells l)∧Δ N W w∧(l=[]→cs=#[.pointer none,.slice none 0 0])
theorem KG.start (W:Θ):KG W (W.alloc (.cells #[.pointer none,.slice none 0 0] 172)) W.heap.size []:=
 ⟨rfl,_,_,rfl,⟨zab _,zau W _,Or.inl rfl,rfl,zcm _ _ _ _⟩,(zad _ _).alloc (zab _) _,λ_=>rfl⟩
theorem KG.zK {W w:Θ}{N:Nat}{l:List UInt8}(h:KG W w N l)(c:UInt8)(hl:l.length≤2000000):Λ prog 102 #[.pointer (some ⟨N,0,none⟩),.int .u8 c.toNat] w λe w'=>e=.returned .nilIface∧KG W w' N (l++[c]):=by
 obtain⟨rfl,cs,v,hs,hb,hw,_⟩:=h;have hsz:=hw.size;refine(yE (hs▸Mq) (by decide) hb c.toNat (by rw[Lib.byteCells_length];omega) hsz).mono ?_;rintro e w' ⟨rfl,v',h1,h2⟩;refine⟨rfl,rfl,_,v',?_,by rw[Lib.byteCells_append];exact h1,hw.trans (h2.below hsz (zab _) λk hk=>(hb.own.lt k hk).1),λh=>by simp at h⟩;simp[pT,hs]
theorem KG.string {W w:Θ}{N:Nat}{l:List UInt8}(h:KG W w N l):Λ prog 100 #[.pointer (some ⟨N,0,none⟩)] w λe w'=>e=.returned (.string ⟨⟨l⟩⟩)∧Δ W.heap.size W w':=by
 obtain⟨rfl,cs,v,hs,hb,hw,h0⟩:=h;by_cases hl:l=[]
 ·subst hl;have hblk:=hb.blk;rw[h0 rfl]at hblk;refine(yG hblk).mono ?_;rintro e w' ⟨rfl,rfl⟩;exact⟨rfl,hw.drew⟩
 ·refine(yF hb hl).mono ?_;rintro e w' ⟨rfl,h2⟩;exact⟨rfl,hw.trans (h2.below hw.size (zab _) λk hk=>(hb.own.lt k hk).1)⟩
theorem KG.below {W w:Θ}{N:Nat}{l:List UInt8}(h:KG W w N l):Δ W.heap.size W w:=by
 obtain⟨rfl,_,_,_,_,hw,_⟩:=h;exact hw
theorem TA {k:Nat}{o:List UInt8}{c:UInt8}{r:List UInt8}(h:c=34):bU k o (c::r)=.ok (k+1) o:=by
 cases r<;>simp[bU,h]
theorem TB {k:Nat}{o:List UInt8}:bU k o [92]=.fin:=rfl
theorem TC {k:Nat}{o:List UInt8}{x:UInt8}{r:List UInt8}(h:wV x=none):bU k o (92::x::r)=.bad:=by
 rw[bU,zaa (by decide),zac rfl,h]
theorem TD {k:Nat}{o:List UInt8}{x b:UInt8}{r:List UInt8}(h:wV x=some b):bU k o (92::x::r)=bU (k+2) (o++[b]) r:=by
 rw[bU,zaa (by decide),zac rfl,h]
theorem P1 {k:Nat}{o:List UInt8}{c:UInt8}{r:List UInt8}(h1:¬c=34)(h2:¬c=92):bU k o (c::r)=bU (k+1) (o++[c]) r:=by
 cases r with
 |nil=>simp[bU,h1]
 |cons e r=>rw[bU,zaa h1,zaa h2]
def T0:Obj:= .cells #[.int .i64 0,.int .i64 0,.int .i64 0,.string ⟨#[]⟩,.int .i64 0,.int .i64 0,.int .i64 0] 76
theorem Hl {c:UInt8}{n:Nat}(hn:n<256):(c.toNat:Int)=(n:Int)↔c=n.toUInt8:=by
 rw[←UInt8.toNat_inj];simp[Nat.mod_eq_of_lt hn];omega
theorem Be (s:ByteArray)(a:Nat)(w:Θ)(hs:s.size≤1000000)(ha:a<s.size):Λ prog 76 #[.string s,.int .i64 a] w λe w'=>e=.returned (bC (j0 s.data.toList a))∧Δ w.heap.size w w':=by
 have hT:Hid (j0 s.data.toList a=match bU (a+1) [] (s.data.toList.drop (a+1))with|.fin=>nQ s.data.toList|.bad=>bG a|.ok e b=>{ aQ 8 a e with text:=b }):=rfl;have H0:Hid (KG (w.alloc T0) ((w.alloc T0).alloc (.cells #[.pointer none,.slice none 0 0] 172)) (w.heap.size+1) []):=by
  have:=KG.start (w.alloc T0);rw[show(w.alloc T0).heap.size=w.heap.size+1 by simp]at this;exact this
 have hblk:Hid ((w.alloc T0).heap[w.heap.size]?=some T0):=zau w _;have hw0:Hid (Δ w.heap.size w (w.alloc T0)):=(zad _ w).alloc (zab _) _;go_enter func76,ntmps76;go_wp2_with fail;go_loopw [6] (λi wr=>∃(k:Nat) (o:List UInt8),a+1≤k∧k≤s.size∧i=.int .i64 k∧o.length≤k∧Hid (KG (w.alloc T0) wr (w.heap.size+1) o)∧Hid (bU (a+1) [] (s.data.toList.drop (a+1))=bU k o (s.data.toList.drop k))) (λi _=>s.size-(intOf i).toNat)
 case atStart=>exact⟨a+1,[],zab _,by omega,by go_num,by simp,H0.out,rfl⟩
 case round=>
  obtain⟨k,o,Jt,hk,rfl,KE,H2,hr⟩:=hrel;by_cases hlt:k<s.size
  ·have hd:Hid _:=drop_cons s k hlt;by_cases KH:(s[k].toNat :Int)=34
   ·have he:Hid (j0 s.data.toList a={ aQ 8 a (k+1)with text:=o }):=by
     show _=_;rw[hT.out,hr.out,hd.out,TA ((Hl (by decide:34<256)).1 KH)]
    go_wp2_with fail;refine(H2.out.string).mono ?_;rintro e w1 ⟨rfl,hb⟩;obtain⟨⟨x0,x1,x2,x3,x4,x5,x6⟩,f0,f1,f2,f3,f4,f5,f6⟩:=cZ (b:=w.heap.size) hb hblk.out;have HB:Hid (Δ w.heap.size w w1):=hw0.out.trans (hb.mono (by simp));clear hb;go_wp2_with fail;exact zak (v:=bC { aQ 8 a (k+1)with text:=o }) (by simp[results,results76,bC,aQ,go_sem, *]) rfl ⟨by rw[he.out],fL HB.out _ _ _ _ _ _ _⟩
   by_cases Ms:(s[k].toNat :Int)=92
   ·have TF:Hid (s[k]=92):=(Hl (by decide:92<256)).1 Ms;by_cases P2:k+1<s.size
    ·have Ez:Hid _:=drop_cons s (k+1) P2;cases hes:wV s[k+1]with
     |none=>
      have he:Hid (j0 s.data.toList a=bG a):=by
       show _=_;rw[hT.out,hr.out,hd.out,TF.out,Ez.out,TC hes]
      have TG:Hid _:=hes;go_wp2_with fail;refine(ur _ _).mono ?_;rw[TG.out];rintro e w' ⟨rfl,rfl⟩;go_wp2_with fail;refine(jh _ _).mono ?_;rintro e w1 ⟨rfl,hb1⟩;have hb:=H2.out.below.trans (hb1.mono H2.out.below.size);obtain⟨⟨x0,x1,x2,x3,x4,x5,x6⟩,f0,f1,f2,f3,f4,f5,f6⟩:=cZ (b:=w.heap.size) hb hblk.out;have HB:Hid (Δ w.heap.size w w1):=hw0.out.trans (hb.mono (by simp));clear hb hb1;unfold bC;go_wp2_with fail;exact zak (v:=bC (bG a)) (by simp[results,results76,bC,aQ,bG,go_sem, *]) rfl ⟨by rw[he.out],fL HB.out _ _ _ _ _ _ _⟩
     |some b=>
      have B2:Hid (bU (a+1) [] (s.data.toList.drop (a+1))=bU (k+2) (o++[b]) (s.data.toList.drop (k+2))):=by
       show _=_;rw[hr.out,hd.out,TF.out,Ez.out,TD hes]
      have TG:Hid _:=hes;go_wp2_with fail;refine(ur _ _).mono ?_;rw[TG.out];rintro e w' ⟨rfl,rfl⟩;go_wp2_with fail;refine(H2.out.zK b (by omega)).mono ?_;rintro e w2 ⟨rfl,h2⟩;have H3:Hid _:=h2;clear h2 H2;go_wp2_with fail;go_roundw
      case rel=>exact⟨k+2,o++[b],by omega,by omega,by go_num,by simp;omega,H3.out,B2.out⟩
      case measure=>simp[intOf];omega
    ·have LP:k+1=s.size:=by omega
     have he:Hid (j0 s.data.toList a=nQ s.data.toList):=by
      show _=_;rw[hT.out,hr.out,hd.out,TF.out,show s.data.toList.drop (k+1)=[] from zaW (by rw[bF];omega),TB]
     have q:(((k:Int)+1)==(s.size:Int))=true:=by rw[zbs];omega
     go_wp2_with fail;refine(tF _ _).mono ?_;rintro e w1 ⟨rfl,hb1⟩;have hb:=H2.out.below.trans (hb1.mono H2.out.below.size);obtain⟨⟨x0,x1,x2,x3,x4,x5,x6⟩,f0,f1,f2,f3,f4,f5,f6⟩:=cZ (b:=w.heap.size) hb hblk.out;have HB:Hid (Δ w.heap.size w w1):=hw0.out.trans (hb.mono (by simp));clear hb hb1;unfold bC;go_wp2_with fail;exact zak (v:=bC (nQ s.data.toList)) (by simp[results,results76,bC,aQ,nQ,go_sem, *]) rfl ⟨by rw[he.out],fL HB.out _ _ _ _ _ _ _⟩
   ·have B2:Hid (bU (a+1) [] (s.data.toList.drop (a+1))=bU (k+1) (o++[s[k]]) (s.data.toList.drop (k+1))):=by
     show _=_;rw[hr.out,hd.out,P1 (λe=>KH ((Hl (by decide:34<256)).2 e)) (λe=>Ms ((Hl (by decide:92<256)).2 e))]
    have q1:((s[k].toNat :Int)==34)=false:=by rw[zao];exact KH
    have q2:((s[k].toNat :Int)==92)=false:=by rw[zao];exact Ms
    go_wp2_with fail;refine(H2.out.zK s[k] (by omega)).mono ?_;rintro e w2 ⟨rfl,h2⟩;have H3:Hid _:=h2;clear h2 H2;go_wp2_with fail;go_roundw
    case rel=>exact⟨k+1,o++[s[k]],by omega,by omega,by go_num,by simp;omega,H3.out,B2.out⟩
    case measure=>simp[intOf];omega
  ·have he:Hid (j0 s.data.toList a=nQ s.data.toList):=by
    show _=_;rw[hT.out,hr.out,show s.data.toList.drop k=[] from zaW (by rw[bF];omega)];rfl
   go_wp2_with fail;refine(tF _ _).mono ?_;rintro e w1 ⟨rfl,hb1⟩;have hb:=H2.out.below.trans (hb1.mono H2.out.below.size);obtain⟨⟨x0,x1,x2,x3,x4,x5,x6⟩,f0,f1,f2,f3,f4,f5,f6⟩:=cZ (b:=w.heap.size) hb hblk.out;have HB:Hid (Δ w.heap.size w w1):=hw0.out.trans (hb.mono (by simp));clear hb hb1;unfold bC;go_wp2_with fail;exact zak (v:=bC (nQ s.data.toList)) (by simp[results,results76,bC,aQ,nQ,go_sem, *]) rfl ⟨by rw[he.out],fL HB.out _ _ _ _ _ _ _⟩
theorem Bf (s:ByteArray)(a:Nat)(w:Θ)(hs:s.size≤1000000)(ha:a+2≤s.size):Λ prog 103 #[.string s,.int .i64 a] w λe w'=>e=.returned (bC (jz s.data.toList a))∧Δ w.heap.size w w':=by
 have hle:=jq eL (s.data.toList.drop (a+2));rw[zan,bF]at hle;have hT:Hid (jz s.data.toList a=if 1<au eL (s.data.toList.drop (a+2))then(match pO (cq s.data.toList (a+2) (a+2+au eL (s.data.toList.drop (a+2))))with|none=>bG a|some k=>{ aQ 9 a (a+2+au eL (s.data.toList.drop (a+2)))with n:=k })else match s.data.toList.drop (a+2)with|[]=>bG a|c::_=>if 33≤c.toNat∧c.toNat≤126 then { aQ 9 a (a+3)with n:=(c.toNat:Int) } else bG a):=rfl;generalize hk:au eL (s.data.toList.drop (a+2))=k at *;have HK:Hid _:=hk;clear hk;by_cases h1:1<k
 ·have Hf:Hid ((s.extract (a+2) (a+2+k)).data.toList=cq s.data.toList (a+2) (a+2+k)):=nW _ _ _;cases hc:pO (cq s.data.toList (a+2) (a+2+k))with
  |none=>
   have e:Hid (jz s.data.toList a=bG a):=by show _=_;rw[hT.out,zac h1,hc]
   clear hT;go_enter func103,ntmps103;go_wp2_with (go_at_call 109;refine(gC _ _ _ (by unfold Γ;omega) (by omega) (by omega)).mono ?_;rintro e w' ⟨rfl,rfl⟩;rw[show((a:Int)+2).toNat=a+2 by omega,HK.out]);refine(xg _ _).mono ?_;rw[Hf.out,hc];rintro e w' ⟨rfl,rfl⟩;go_wp2_with fail;refine(jh _ _).mono ?_;rintro e w1 ⟨rfl,hb⟩;obtain⟨⟨x0,x1,x2,x3,x4,x5,x6⟩,f0,f1,f2,f3,f4,f5,f6⟩:=cZ (b:=w.heap.size) hb (zau w _);have HB:Hid (Δ w.heap.size w w1):=((zad _ w).alloc (zab _) _).trans (hb.mono (by simp));clear hb;unfold bC;go_wp2_with fail;exact zak (v:=bC (bG a)) (by simp[results,results103,bC,aQ,bG,go_sem, *]) rfl ⟨by rw[e.out],fL HB.out _ _ _ _ _ _ _⟩
  |some n=>
   have e:Hid (jz s.data.toList a={ aQ 9 a (a+2+k)with n:=n }):=by show _=_;rw[hT.out,zac h1,hc]
   clear hT;go_enter func103,ntmps103;go_wp2_with (go_at_call 109;refine(gC _ _ _ (by unfold Γ;omega) (by omega) (by omega)).mono ?_;rintro e w' ⟨rfl,rfl⟩;rw[show((a:Int)+2).toNat=a+2 by omega,HK.out]);refine(xg _ _).mono ?_;rw[Hf.out,hc];rintro e w' ⟨rfl,rfl⟩;go_wp2_with fail;refine zak (v:=bC { aQ 9 a (a+2+k)with n:=n }) (by simp[results,results103,bC,aQ,go_sem]) rfl ⟨by rw[e.out],?_⟩
   (repeat (first|with_reducible refine zaA ?_ (by simp) _|with_reducible refine zaB ?_ (by simp) _));with_reducible exact zad _ _
 by_cases hlt:a+2<s.size
 ·have hd:=drop_cons s (a+2) hlt;have hwr:wrap64 (s[a+2].toNat :Int)=(s[a+2].toNat :Int):=by have:=s[a+2].toNat_lt;unfold wrap64;omega
  by_cases hp:33≤(s[a+2].toNat :Int)∧(s[a+2].toNat :Int)≤126
  ·have e:Hid (jz s.data.toList a={ aQ 9 a (a+3)with n:=(s[a+2].toNat :Int) }):=by show _=_;rw[hT.out,zaa h1,hd];exact zac ⟨by omega,by omega⟩
   have vt:Hid (decide (33≤(s[a+2].toNat :Int)∧(s[a+2].toNat :Int)≤126)=true):=zcb hp;clear hT hd hp;go_enter func103,ntmps103;go_wp2_with (go_at_call 109;refine(gC _ _ _ (by unfold Γ;omega) (by omega) (by omega)).mono ?_;rintro e w' ⟨rfl,rfl⟩;rw[show((a:Int)+2).toNat=a+2 by omega,HK.out]);refine(pQ _ _).mono ?_;rw[vt.out];rintro e w' ⟨rfl,rfl⟩;go_wp2_with fail;refine zak (v:=bC { aQ 9 a (a+3)with n:=(s[a+2].toNat :Int) }) (by simp[results,results103,bC,aQ,go_sem];try omega) rfl ⟨by rw[e.out],?_⟩
   (repeat (first|with_reducible refine zaA ?_ (by simp) _|with_reducible refine zaB ?_ (by simp) _));with_reducible exact zad _ _
  ·have e:Hid (jz s.data.toList a=bG a):=by show _=_;rw[hT.out,zaa h1,hd];exact zaa (by omega)
   have vt:Hid (decide (33≤(s[a+2].toNat :Int)∧(s[a+2].toNat :Int)≤126)=false):=zbr hp;clear hT hd hp;go_enter func103,ntmps103;go_wp2_with (go_at_call 109;refine(gC _ _ _ (by unfold Γ;omega) (by omega) (by omega)).mono ?_;rintro e w' ⟨rfl,rfl⟩;rw[show((a:Int)+2).toNat=a+2 by omega,HK.out]);refine(pQ _ _).mono ?_;rw[vt.out];rintro e w' ⟨rfl,rfl⟩;go_wp2_with fail;refine(jh _ _).mono ?_;rintro e w1 ⟨rfl,hb⟩;obtain⟨⟨x0,x1,x2,x3,x4,x5,x6⟩,f0,f1,f2,f3,f4,f5,f6⟩:=cZ (b:=w.heap.size) hb (zau w _);have HB:Hid (Δ w.heap.size w w1):=((zad _ w).alloc (zab _) _).trans (hb.mono (by simp));clear hb;unfold bC;go_wp2_with fail;exact zak (v:=bC (bG a)) (by simp[results,results103,bC,aQ,bG,go_sem, *]) rfl ⟨by rw[e.out],fL HB.out _ _ _ _ _ _ _⟩
 ·have hd:s.data.toList.drop (a+2)=[]:=zaW (by rw[bF];omega);have e:Hid (jz s.data.toList a=bG a):=by show _=_;rw[hT.out,zaa h1,hd]
  clear hT hd;go_enter func103,ntmps103;go_wp2_with (go_at_call 109;refine(gC _ _ _ (by unfold Γ;omega) (by omega) (by omega)).mono ?_;rintro e w' ⟨rfl,rfl⟩;rw[show((a:Int)+2).toNat=a+2 by omega,HK.out]);refine(jh _ _).mono ?_;rintro e w1 ⟨rfl,hb⟩;obtain⟨⟨x0,x1,x2,x3,x4,x5,x6⟩,f0,f1,f2,f3,f4,f5,f6⟩:=cZ (b:=w.heap.size) hb (zau w _);have HB:Hid (Δ w.heap.size w w1):=((zad _ w).alloc (zab _) _).trans (hb.mono (by simp));clear hb;unfold bC;go_wp2_with fail;exact zak (v:=bC (bG a)) (by simp[results,results103,bC,aQ,bG,go_sem, *]) rfl ⟨by rw[e.out],fL HB.out _ _ _ _ _ _ _⟩
end Go.Proofs.YtlhimdjkkiflhaaGreat
