import Derived.Test.YtlhimdjkkiflhaaGreatReads13
set_option maxHeartbeats 8000000
set_option maxRecDepth 100000
open Go.Value renaming int→Γ
open Go.IntKind renaming i64→Δ
open Go.Lib renaming hasPrefix→Θ,indexByte→Λ
open Go renaming World→Ξ,Calls→Φ,maxLen→η
open Go.RowKit renaming intOf→Ω
open List renaming length→ζ
namespace Go.Loop
structure Tok where
 kind:Nat
 from_:Nat
 jZ:Nat
 text:List UInt8
 n:Int
 d:Int
 fault:Int
deriving DecidableEq
def aQ (k a e:Nat):Tok:=⟨k,a,e,[],0,0,0⟩
def bG (a:Nat):Tok:=aQ 1 a a
def nQ (s:List UInt8):Tok:=aQ 0 s.length s.length
def Tok.lastB (t:Tok):Bool:=decide (t.kind=0∨t.kind=1)
def fY (c:UInt8):Bool:=decide (c.toNat=32∨c.toNat=9∨c.toNat=10)
def cU:List UInt8→Nat
 |[]=>0
 |c::r=>if c=10 then 0 else cU r+1
def bf:Nat→List UInt8→Nat×Bool
 |o,c::d::r=>
  if c=35∧d=124 then((bf (o+1) r).1+2,(bf (o+1) r).2)
  else if c=124∧d=35 then(if o≤1 then(2,true)else((bf (o-1) r).1+2,(bf (o-1) r).2))
  else((bf o (d::r)).1+1,(bf o (d::r)).2)
 |_,[_]=>(1,false)
 |_,[]=>(0,false)
def gK:List UInt8→Bool
 |c::d::_=>decide (c=35∧d=124)
 |_=>false
def cV:Nat→Bool→List UInt8→Nat×Bool
 |0,b,_=>(0,b)
 |_+1,b,[]=>(0,b)
 |n+1,b,c::r=>
  if fY c then((cV n b r).1+1,(cV n b r).2)
  else if c.toNat=59 then((cV n b (r.drop (cU r))).1+(cU r+1),(cV n b (r.drop (cU r))).2)
  else if gK (c::r)then((cV n (bf 0 (c::r)).2 ((c::r).drop (bf 0 (c::r)).1)).1+(bf 0 (c::r)).1,(cV n (bf 0 (c::r)).2 ((c::r).drop (bf 0 (c::r)).1)).2)
  else(0,b)
def mW (s:List UInt8)(a:Nat):Nat:=a+(cV (s.drop a).length true (s.drop a)).1
def wV (c:UInt8):Option UInt8:=if c=92∨c=34 then some c else if c=110 then some 10 else if c=116 then some 9 else none
inductive Hb where
 |fin
 |bad
 |ok (e:Nat) (b:List UInt8)
def bU:Nat→List UInt8→List UInt8→Hb
 |_,_,[]=> .fin
 |i,acc,[c]=>if c=34 then .ok (i+1) acc else .fin
 |i,acc,c::e::r=>if c=34 then .ok (i+1) acc else if c=92 then(match wV e with|none=> .bad |some b=>bU (i+2) (acc++[b]) r)else bU (i+1) (acc++[c]) (e::r)
def j0 (s:List UInt8)(a:Nat):Tok:=
 match bU (a+1) [] (s.drop (a+1))with
 |.fin=>nQ s
 |.bad=>bG a
 |.ok e b=>{ aQ 8 a e with text:=b }
def pO (l:List UInt8):Option Int:=if 0≤cW l then some (cW l)else none
def cq (s:List UInt8)(a b:Nat):List UInt8:=(s.drop a).take (b-a)
def jz (s:List UInt8)(a:Nat):Tok:=
 if 1<au eL (s.drop (a+2))then
  (match pO (cq s (a+2) (a+2+au eL (s.drop (a+2))))with
   |none=>bG a
   |some k=>{ aQ 9 a (a+2+au eL (s.drop (a+2)))with n:=k })
 else match s.drop (a+2)with
  |[]=>bG a
  |c::_=>if 33≤c.toNat∧c.toNat≤126 then { aQ 9 a (a+3)with n:=(c.toNat:Int) } else bG a
def cf (n:Int)(l:List UInt8):Int:=l.foldl (λn c=>min (n*10+((c.toNat:Int)-48)) 1000001) n
def aA (l:List UInt8):Int:=cf 0 l
def dQ (s:List UInt8)(a:Nat):Option Tok:=
 let k:=au aD (s.drop (a+1))
 if k=0∨3<k then none
 else match s.drop (a+1+k)with
  |[]=>none
  |c::_=>if c.toNat=61 then some { aQ 10 a (a+1+k+1)with n:=aA (cq s (a+1) (a+1+k)) } else if c.toNat=35 then some { aQ 11 a (a+1+k+1)with n:=aA (cq s (a+1) (a+1+k)) } else none
def dA (s:List UInt8)(a:Nat):Tok:=
 let e:=a+1+au aX (s.drop (a+1));let w:=cq s (a+1) e
 if w=[116]∨w=[116,114,117,101]then { aQ 12 a e with n:=1 } else if w=[102]∨w=[102,97,108,115,101]then aQ 12 a e else bG a
def fK (s:List UInt8)(a:Nat):Tok:=
 match s.drop (a+1)with
 |[]=>(dQ s a).getD (dA s a)
 |c::_=>if c.toNat=40 then aQ 5 a (a+2)else if c.toNat=59 then aQ 6 a (a+2)else if c.toNat=92 then jz s a else(dQ s a).getD (dA s a)
def eE:List UInt8→Option (List UInt8×List UInt8)
 |[]=>none
 |c::r=>if c.toNat=47 then some ([],r)else(eE r).map λp=>(c::p.1,p.2)
def bV (l:List UInt8):Bool:=!l.isEmpty&&l.all λc=>aD (c.toNat:Int)
def numberOf (neg:Bool)(l:List UInt8):Option (Int×Int×Int):=
 let p:=(eE l).getD (l,[49])
 if bV p.1&&bV p.2 then
  (let n:=aA p.1
   let d:=aA p.2
   if 1000000<n∨1000000<d then some (0,0,7)
   else if d=0 then some (0,0,3)
   else let m:=if neg then -n else n
    some (m.tdiv (Int.gcd m d),d/(Int.gcd m d),0))
 else none
def fC:List UInt8→Option (Int×Int×Int)
 |[]=>none
 |c::r=>if c.toNat=45 then numberOf true r else if c.toNat=43 then numberOf false r else numberOf false (c::r)
def jA (s:List UInt8)(a:Nat):Tok:=
 let e:=a+au aX (s.drop a);let w:=cq s a e
 if w=[46]then aQ 7 a e
 else if !bN w then { aQ 14 a e with text:=w }
 else match fC w with
  |none=>bG a
  |some (n,d,f)=>{ aQ 13 a e with n:=n,d:=d,fault:=f }
def pP (s:List UInt8)(a:Nat):Tok:=
 match s.drop a with
 |[]=>nQ s
 |c::_=>
  if c.toNat=40 then aQ 2 a (a+1)else if c.toNat=41 then aQ 3 a (a+1)else if c.toNat=39 then aQ 4 a (a+1)
  else if c.toNat=34 then j0 s a else if c.toNat=35 then fK s a else if aX (c.toNat:Int)then jA s a else bG a
def aO (s:List UInt8)(a:Nat):Tok:=pP s (mW s a)
def aH:Nat→List UInt8→Nat→List Tok
 |0,_,_=>[]
 |n+1,s,a=>if(aO s a).lastB then[aO s a]else aO s a::aH n s (aO s a).jZ
theorem rp:∀l:List UInt8,cU l≤l.length
 |[]=>zab _
 |c::r=>by
  have:=rp r;unfold cU;split<;>simp<;>omega
theorem wW (o:Nat)(l:List UInt8):(bf o l).1≤l.length:=by
 fun_induction bf o l<;>simp_all<;>omega
theorem Jg (o:Nat)(l:List UInt8)(h:gK l=true):2≤(bf o l).1:=by
 match l,h with
 |c::d::r,h=>
  simp only[gK,zbj]at h;unfold bf;simp[h]
theorem nS:∀(n:Nat) (b:Bool) (l:List UInt8),(cV n b l).1≤l.length
 |0,b,l=>by simp[cV]
 |n+1,b,[]=>by simp[cV]
 |n+1,b,c::r=>by
  have h1:=nS n b r;have h2:=nS n b (r.drop (cU r));have h3:=nS n (bf 0 (c::r)).2 ((c::r).drop (bf 0 (c::r)).1);have h4:=rp r;have h5:=wW 0 (c::r);unfold cV;split
  ·simp;omega
  ·split
   ·simp at h2 ⊢;omega
   ·split
    ·simp only[zan]at h3 ⊢;omega
    ·simp
theorem CV {s:List UInt8}{a:Nat}(h:a≤s.length):a≤mW s a∧mW s a≤s.length:=by
 have:=nS (s.drop a).length true (s.drop a);unfold mW;simp only[zan]at this ⊢;omega
theorem jq (p:Int→Bool):∀l:List UInt8,au p l≤l.length
 |[]=>zab _
 |c::r=>by
  have:=jq p r;unfold au;split<;>simp<;>omega
theorem wY:∀(i:Nat) (acc l:List UInt8) (e:Nat) (b:List UInt8),bU i acc l=.ok e b→i<e∧e≤i+l.length
 |i,acc,[],e,b,h=>by simp[bU]at h
 |i,acc,[c],e,b,h=>by
  unfold bU at h;split at h
  ·simp only[Hb.ok.injEq]at h;obtain⟨rfl,_⟩:=h;simp
  ·simp at h
 |i,acc,c::x::r,e,b,h=>by
  unfold bU at h;split at h
  ·simp only[Hb.ok.injEq]at h;obtain⟨rfl,_⟩:=h;simp
  ·split at h
   ·split at h
    ·simp at h
    ·have:=wY _ _ _ _ _ h;simp at this ⊢;omega
   ·have:=wY _ _ _ _ _ h;simp at this ⊢;omega
def wZ (s:List UInt8)(a:Nat)(t:Tok):Prop:=t.from_≤s.length∧t.jZ≤s.length∧(t.lastB=false→a<t.jZ∧a≤t.from_)
theorem gO {s:List UInt8}{a b:Nat}(h:b≤s.length):wZ s a (bG b):=⟨h,h,λe=>by simp[bG,aQ,Tok.lastB]at e⟩
theorem CW {s:List UInt8}{a:Nat}:wZ s a (nQ s):=⟨zab _,zab _,λe=>by simp[nQ,aQ,Tok.lastB]at e⟩
theorem eY {s:List UInt8}{a:Nat}{t:Tok}(h1:t.from_=a)(h2:a<t.jZ)(h3:t.jZ≤s.length):wZ s a t:=⟨by omega,h3,λ_=>⟨h2,by omega⟩⟩
theorem Fp {s:List UInt8}{a:Nat}(h:a<s.length):wZ s a (dA s a):=by
 have:=jq aX (s.drop (a+1));simp only[zan]at this;unfold dA;simp only;split
 ·exact eY rfl (by simp[aQ];omega) (by simp[aQ];omega)
 ·split
  ·exact eY rfl (by simp[aQ];omega) (by simp[aQ];omega)
  ·exact gO (by omega)
theorem Fq {s:List UInt8}{a:Nat}(h:a<s.length):wZ s a ((dQ s a).getD (dA s a)):=by
 have:=jq aD (s.drop (a+1));simp only[zan]at this;have ht:=Fp h;unfold dQ;simp only;split
 ·exact ht
 ·split
  ·exact ht
  ·rename_i hd;have hl:a+1+au aD (s.drop (a+1))<s.length:=by
    have h2:=zal ζ hd;simp only[zan,zas]at h2;omega
   split
   ·exact eY rfl (by simp[aQ];omega) (by simp[aQ];omega)
   ·split
    ·exact eY rfl (by simp[aQ];omega) (by simp[aQ];omega)
    ·exact ht
theorem Jh {s:List UInt8}{a:Nat}(h:a+1<s.length):wZ s a (jz s a):=by
 have:=jq eL (s.drop (a+2));simp only[zan]at this;unfold jz;split
 ·split
  ·exact gO (by omega)
  ·exact eY rfl (by simp[aQ];omega) (by simp[aQ];omega)
 ·split
  ·exact gO (by omega)
  ·rename_i hd;have h2:=zal ζ hd;simp only[zan,zas]at h2;split
   ·exact eY rfl (by simp[aQ]) (by simp[aQ];omega)
   ·exact gO (by omega)
theorem Ji {s:List UInt8}{a:Nat}(h:a<s.length):wZ s a (fK s a):=by
 have hl:=Fq h;unfold fK;split
 ·exact hl
 ·rename_i hd;have h2:=zal ζ hd;simp only[zan,zas]at h2;split
  ·exact eY rfl (by simp[aQ]) (by simp[aQ];omega)
  ·split
   ·exact eY rfl (by simp[aQ]) (by simp[aQ];omega)
   ·split
    ·exact Jh (by omega)
    ·exact hl
theorem Jj {s:List UInt8}{a:Nat}(h:a<s.length):wZ s a (j0 s a):=by
 unfold j0;split
 ·exact CW
 ·exact gO (by omega)
 ·rename_i e b he;have:=wY _ _ _ _ _ he;simp only[zan]at this;exact eY rfl (by simp[aQ];omega) (by simp[aQ];omega)
theorem Jk {s:List UInt8}{a:Nat}(h:a<s.length)(hp:0<au aX (s.drop a)):wZ s a (jA s a):=by
 have:=jq aX (s.drop a);simp only[zan]at this;unfold jA;simp only;split
 ·exact eY rfl (by simp[aQ];omega) (by simp[aQ];omega)
 ·split
  ·exact eY rfl (by simp[aQ];omega) (by simp[aQ];omega)
  ·split
   ·exact gO (by omega)
   ·exact eY rfl (by simp[aQ];omega) (by simp[aQ];omega)
theorem PE {s:List UInt8}{a:Nat}:wZ s a (pP s a):=by
 unfold pP;split
 ·exact CW
 ·rename_i c r hd;have h2:=zal ζ hd;simp only[zan,zas]at h2;have hlt:a<s.length:=by omega
  split
  ·exact eY rfl (by simp[aQ]) (by simp[aQ];omega)
  ·split
   ·exact eY rfl (by simp[aQ]) (by simp[aQ];omega)
   ·split
    ·exact eY rfl (by simp[aQ]) (by simp[aQ];omega)
    ·split
     ·exact Jj hlt
     ·split
      ·exact Ji hlt
      ·split
       ·rename_i hw;exact Jk hlt (by rw[hd];simp[au,hw])
       ·exact gO (by omega)
theorem tA {s:List UInt8}{a:Nat}(h:a≤s.length):wZ s a (aO s a):=by
 have h1:=CV h;obtain⟨f1,f2,f3⟩:=PE (s:=s) (a:=mW s a);exact⟨f1,f2,λe=>by have:=f3 e;unfold aO at *;omega⟩
end Go.Loop
namespace Go.Proofs.YtlhimdjkkiflhaaGreat
open Go.Proofs.Tryz
open Go.RowKit Go.Loop
theorem lu (c:Int)(w:Ξ):Φ prog 96 #[.int .u8 c] w λe w'=>e=.returned (.bool (decide (c=32∨c=9∨c=10)))∧w'=w:=by
 go_enter func96,ntmps96
 go_wp2
 all_goals
  go_ret;refine⟨bE ?_,rfl⟩;rw[zbh];simp;try omega
theorem bF (s:ByteArray):s.data.toList.length=s.size:=rfl
theorem nU (s:ByteArray)(k:Nat):(s.extract k s.size).data.toList=s.data.toList.drop k:=by
 rw[ByteArray.data_extract,Array.toList_extract];simp only[List.extract];rw[List.take_of_length_le];rw[zan,bF];exact zab _
theorem C8:∀l:List UInt8,(0≤Λ l 10→Λ l 10=(cU l:Int))∧(Λ l 10<0→cU l=l.length)
 |[]=>by simp[Λ,cU]
 |c::r=>by
  have ih:=C8 r;have hg:=Lib.indexByte_ge r 10;unfold Λ cU;by_cases hc:c=10
  ·subst hc;simp
  ·have hc':(c==10)=false:=by simpa using hc
   rw[hc',zaa hc];simp only[zaN,if_false];by_cases hm:Λ r 10=-1
   ·simp only[hm,BEq.rfl,if_true];refine⟨by omega,λ_=>?_⟩;rw[ih.2 (by omega)];simp
   ·have C9:(Λ r 10==-1)=false:=by simpa using hm
    rw[C9];simp only[zaN,if_false];refine⟨λ_=>?_,λh=>by omega⟩;rw[ih.1 (by omega)];simp
theorem Da (s:ByteArray)(a:Nat)(w:Ξ)(hs:s.size≤1000000)(ha:a≤s.size):Φ prog 97 #[.string s,Γ Δ a] w λe w'=>e=.returned (Γ Δ ((a:Int)+cU (s.data.toList.drop a)))∧w'=w:=by
 have h:=C8 (s.data.toList.drop a);have hg:=Lib.indexByte_ge (s.data.toList.drop a) 10;have hle:=rp (s.data.toList.drop a);have hlen:(s.data.toList.drop a).length=s.size-a:=by rw[zan,bF]
 generalize hi:Λ (s.data.toList.drop a) 10=i at *;have HI:Hid (Λ (s.data.toList.drop a) 10=i):=hi;clear hi;go_enter func97,ntmps97;go_wp2_with fail;refine(Tryz.strings_IndexByte _ _ _).mono ?_;rintro e w' ⟨rfl,rfl⟩;have hq:Λ (s.extract a s.size).data.toList (Int.toNat 10).toUInt8=i:=by rw[nU];exact HI.out
 rw[hq];by_cases h0:0≤i
 ·have:=h.1 h0;go_wp2_with fail;go_ret;exact⟨fD (by omega),rfl⟩
 ·have:=h.2 (by omega);go_wp2_with fail;go_ret;exact⟨fD (by omega),rfl⟩
theorem eZ (s:ByteArray)(C4:Int)(w:Ξ)(hs:s.size≤η)(h0:0≤C4)(h1:C4≤s.size):Φ prog 109 #[.string s,Γ Δ C4,.func (.func 107) #[] #[]] w λe w'=>e=.returned (Γ Δ (C4+au aD (s.data.toList.drop C4.toNat)))∧w'=w:=by
 unfold η at hs;obtain⟨a,rfl⟩:=zbu h0;rw[zbn];go_enter func109,ntmps109;go_wp2_with fail;go_loop [1] (λi=>∃k:Nat,a≤k∧k≤s.size∧i=Γ Δ k∧Hid ((a:Int)+au aD (s.data.toList.drop a)=(k:Int)+au aD (s.data.toList.drop k))) (λi=>s.size-(Ω i).toNat)
 case atStart=>exact⟨a,zab _,by omega,rfl,rfl⟩
 case round=>
  obtain⟨k,Jt,hk,rfl,hr⟩:=hrel;by_cases hlt:k<s.size
  ·have hd:Hid (s.data.toList.drop k=s[k]::s.data.toList.drop (k+1)):=by show _=_;rw[zbZ (by simpa using hlt)];rfl
   cases hp:aD (s[k].toNat :Int)
   ·have H:Hid (au aD (s.data.toList.drop k)=0):=by show _=_;rw[hd.out];simp[au,hp]
    go_wp2_with fail;refine(dR _ _).mono ?_;rw[hp];rintro e w' ⟨rfl,rfl⟩;go_wp2_with fail;go_ret;refine⟨fD ?_,rfl⟩;rw[hr.out,H.out];simp
   ·have H:Hid (au aD (s.data.toList.drop k)=au aD (s.data.toList.drop (k+1))+1):=by show _=_;rw[hd.out];simp[au,hp]
    go_wp2_with fail;refine(dR _ _).mono ?_;rw[hp];rintro e w' ⟨rfl,rfl⟩;go_wp2_with fail
    go_round
    case rel=>exact⟨k+1,by omega,by omega,by go_num,by show _=_;rw[hr.out,H.out];omega⟩
    case measure=>simp[Ω];omega
  ·have H:Hid (au aD (s.data.toList.drop k)=0):=by show _=_;rw[zaW (by simp;omega)];rfl
   go_wp2_with fail;go_ret;refine⟨fD ?_,rfl⟩;rw[hr.out,H.out];simp
theorem gC (s:ByteArray)(C4:Int)(w:Ξ)(hs:s.size≤η)(h0:0≤C4)(h1:C4≤s.size):Φ prog 109 #[.string s,Γ Δ C4,.func (.func 106) #[] #[]] w λe w'=>e=.returned (Γ Δ (C4+au eL (s.data.toList.drop C4.toNat)))∧w'=w:=by
 unfold η at hs;obtain⟨a,rfl⟩:=zbu h0;rw[zbn];go_enter func109,ntmps109;go_wp2_with fail;go_loop [1] (λi=>∃k:Nat,a≤k∧k≤s.size∧i=Γ Δ k∧Hid ((a:Int)+au eL (s.data.toList.drop a)=(k:Int)+au eL (s.data.toList.drop k))) (λi=>s.size-(Ω i).toNat)
 case atStart=>exact⟨a,zab _,by omega,rfl,rfl⟩
 case round=>
  obtain⟨k,Jt,hk,rfl,hr⟩:=hrel;by_cases hlt:k<s.size
  ·have hd:Hid (s.data.toList.drop k=s[k]::s.data.toList.drop (k+1)):=by show _=_;rw[zbZ (by simpa using hlt)];rfl
   cases hp:eL (s[k].toNat :Int)
   ·have H:Hid (au eL (s.data.toList.drop k)=0):=by show _=_;rw[hd.out];simp[au,hp]
    go_wp2_with fail;refine(iD _ _).mono ?_;rw[hp];rintro e w' ⟨rfl,rfl⟩;go_wp2_with fail;go_ret;refine⟨fD ?_,rfl⟩;rw[hr.out,H.out];simp
   ·have H:Hid (au eL (s.data.toList.drop k)=au eL (s.data.toList.drop (k+1))+1):=by show _=_;rw[hd.out];simp[au,hp]
    go_wp2_with fail;refine(iD _ _).mono ?_;rw[hp];rintro e w' ⟨rfl,rfl⟩;go_wp2_with fail
    go_round
    case rel=>exact⟨k+1,by omega,by omega,by go_num,by show _=_;rw[hr.out,H.out];omega⟩
    case measure=>simp[Ω];omega
  ·have H:Hid (au eL (s.data.toList.drop k)=0):=by show _=_;rw[zaW (by simp;omega)];rfl
   go_wp2_with fail;go_ret;refine⟨fD ?_,rfl⟩;rw[hr.out,H.out];simp
theorem Ju (x y c d:UInt8)(r:List UInt8):Θ (c::d::r) [x,y]=decide (c=x∧d=y):=by
 simp only[Θ,List.isPrefixOf];rw[zbh];simp;exact⟨λh=>⟨h.1.symm,h.2.symm⟩,λh=>⟨h.1.symm,h.2.symm⟩⟩
theorem rD (x y c:UInt8):Θ [c] [x,y]=false:=by simp[Θ,List.isPrefixOf]
theorem rE (x y:UInt8):Θ [] [x,y]=false:=by simp[Θ,List.isPrefixOf]
theorem iG {l:List UInt8}{x y:UInt8}(h:Θ l [x,y]=true):2≤l.length:=by
 match l,h with
 |c::d::r,_=>simp
 |[c],h=>rw[rD]at h;cases h
 |[],h=>rw[rE]at h;cases h
theorem nV:∀l:List UInt8,gK l=Θ l [35,124]
 |[]=>by rw[rE];rfl
 |[c]=>by rw[rD];rfl
 |c::d::r=>by rw[Ju];rfl
theorem oV {o:Nat}:∀{l:List UInt8},Θ l [35,124]=true→bf o l=((bf (o+1) (l.drop 2)).1+2,(bf (o+1) (l.drop 2)).2)
 |[],h=>by rw[rE]at h;cases h
 |[c],h=>by rw[rD]at h;cases h
 |c::d::r,h=>by
  rw[Ju,zbj]at h;rw[bf,zac h];rfl
theorem qj {o:Nat}:∀{l:List UInt8},Θ l [35,124]=false→Θ l [124,35]=true→bf o l=if o≤1 then(2,true)else((bf (o-1) (l.drop 2)).1+2,(bf (o-1) (l.drop 2)).2)
 |[],_,h=>by rw[rE]at h;cases h
 |[c],_,h=>by rw[rD]at h;cases h
 |c::d::r,h1,h=>by
  rw[Ju,zcr]at h1;rw[Ju,zbj]at h;rw[bf,zaa h1,zac h];rfl
theorem tE {o:Nat}:∀{l:List UInt8},Θ l [35,124]=false→Θ l [124,35]=false→l≠[]→bf o l=((bf o (l.drop 1)).1+1,(bf o (l.drop 1)).2)
 |[],_,_,h=>absurd rfl h
 |[c],_,_,_=>by simp[bf]
 |c::d::r,h1,h,_=>by
  rw[Ju,zcr]at h1 h;rw[bf,zaa h1,zaa h];rfl
theorem xf (s:ByteArray)(a:Nat)(w:Ξ)(hs:s.size≤1000000)(hh:gK (s.data.toList.drop a)=true):Φ prog 99 #[.string s,Γ Δ a] w λe w'=>e=.returned (.tuple #[Γ Δ ((a:Int)+(bf 0 (s.data.toList.drop a)).1),.bool (bf 0 (s.data.toList.drop a)).2])∧w'=w:=by
 have VA:Hid (Θ (s.data.toList.drop a) [35,124]=true):=by rw[←nV];exact hh
 have ha:a+2≤s.size:=by have:=iG VA.out;rw[zan,bF]at this;omega
 clear hh;go_enter func99,ntmps99;go_wp2_with fail;go_loop [1,6] (λi d=>∃k o:Nat,a≤k∧k≤s.size∧o≤k∧((k=a∧o=0)∨1≤o)∧i=Γ Δ k∧d=Γ Δ o∧Hid ((a:Int)+(bf 0 (s.data.toList.drop a)).1=(k:Int)+(bf o (s.data.toList.drop k)).1∧(bf 0 (s.data.toList.drop a)).2=(bf o (s.data.toList.drop k)).2)) (λi _=>s.size-(Ω i).toNat)
 case atStart=>exact⟨a,0,zab _,by omega,by omega,.inl ⟨rfl,rfl⟩,rfl,rfl,rfl,rfl⟩
 case round=>
  obtain⟨k,o,Jt,hk,bM,ho,rfl,rfl,hr⟩:=hrel;by_cases hlt:k<s.size
  ·have hne:Hid (s.data.toList.drop k≠[]):=by
    intro h;have:=zal ζ h;rw[zan,bF]at this;simp at this;omega
   cases AH:Θ (s.data.toList.drop k) [35,124]
   ·have Yh:Hid (Θ (s.data.toList.drop k) [35,124]=false):=AH;have Vp:1≤o:=by
     rcases ho with⟨rfl,rfl⟩|h
     ·rw[VA.out]at AH;cases AH
     ·exact h
    cases Yi:Θ (s.data.toList.drop k) [124,35]
    ·have H:Hid _:=tE (o:=o) AH Yi hne.out;go_wp2_with fail;refine(Tryz.strings_HasPrefix _ _ _).mono ?_;rintro e w' ⟨rfl,rfl⟩;rw[nU,Yh.out];go_wp2_with fail;refine(Tryz.strings_HasPrefix _ _ _).mono ?_;rintro e w' ⟨rfl,rfl⟩;rw[nU,show Θ (s.data.toList.drop k) [124,35]=false from Yi];go_wp2_with fail
     go_round
     case rel=>exact⟨k+1,o,by omega,by omega,by omega,.inr Vp,by go_num,rfl,by
      have h1:=hr.out;rw[H.out,zbe]at h1;exact⟨by rw[h1.1];simp;omega,h1.2⟩⟩
     case measure=>simp[Ω];omega
    ·have hl2:=iG Yi;rw[zan,bF]at hl2;have H:Hid _:=qj (o:=o) AH Yi;go_wp2_with fail;refine(Tryz.strings_HasPrefix _ _ _).mono ?_;rintro e w' ⟨rfl,rfl⟩;rw[nU,Yh.out];go_wp2_with fail;refine(Tryz.strings_HasPrefix _ _ _).mono ?_;rintro e w' ⟨rfl,rfl⟩;rw[nU,show Θ (s.data.toList.drop k) [124,35]=true from Yi];by_cases Vy:o=1
     ·subst Vy;go_wp2_with fail;go_ret2;have h1:=hr.out;rw[H.out]at h1;refine⟨?_,rfl⟩;rw[h1.1,h1.2];simp
     ·go_wp2_with fail
      go_round
      case rel=>exact⟨k+2,o-1,by omega,by omega,by omega,.inr (by omega),by go_num,by go_num,by
       have h1:=hr.out;rw[H.out,zaa (by omega),zbe]at h1;exact⟨by rw[h1.1];simp;omega,h1.2⟩⟩
      case measure=>simp[Ω];omega
   ·have hl2:=iG AH;rw[zan,bF]at hl2;have H:Hid _:=oV (o:=o) AH;go_wp2_with fail;refine(Tryz.strings_HasPrefix _ _ _).mono ?_;rintro e w' ⟨rfl,rfl⟩;rw[nU,show Θ (s.data.toList.drop k) [35,124]=true from AH];go_wp2_with fail
    go_round
    case rel=>exact⟨k+2,o+1,by omega,by omega,by omega,.inr (by omega),by go_num,by go_num,by
     have h1:=hr.out;rw[H.out,zbe]at h1;exact⟨by rw[h1.1];simp;omega,h1.2⟩⟩
    case measure=>simp[Ω];omega
  ·have kX:k=s.size:=by omega
   have hd:s.data.toList.drop k=[]:=by rw[kX,←bF];exact zcg
   have h1:=hr.out;rw[hd]at h1;have H:Hid _:=h1;clear h1 hd;go_wp2_with fail;go_ret2;refine⟨?_,rfl⟩;rw[H.out.1,H.out.2];simp[bf];try omega
theorem rF {n:Nat}{b:Bool}:cV n b []=(0,b):=by cases n<;>rfl
theorem ql {o:Nat}{l:List UInt8}(h:gK l=true):0<(bf o l).1:=by have:=Jg o l h;omega
theorem l5:∀(n m:Nat) (b:Bool) (l:List UInt8),l.length≤n→l.length≤m→cV n b l=cV m b l
 |0,m,b,l,h,_=>by
  have:l=[]:=zch (by omega);subst this;rw[rF,rF]
 |n+1,0,b,l,_,h=>by
  have:l=[]:=zch (by omega);subst this;rw[rF,rF]
 |n+1,m+1,b,[],_,_=>rfl
 |n+1,m+1,b,c::r,h1,h2=>by
  simp only[zas]at h1 h2;have e1:=l5 n m b r (by omega) (by omega);have e2:=l5 n m b (r.drop (cU r)) (by rw[zan];omega) (by rw[zan];omega);rw[cV,cV,e1,e2];by_cases hh:gK (c::r)=true
  ·have hp:=ql (o:=0) hh;have e3:=l5 n m (bf 0 (c::r)).2 ((c::r).drop (bf 0 (c::r)).1) (by rw[zan,zas];omega) (by rw[zan,zas];omega);rw[e3]
  ·simp only[zaa hh]
def sF (b:Bool)(l:List UInt8):Nat×Bool:=cV l.length b l
theorem FL {b:Bool}:sF b []=(0,b):=rfl
theorem Db {b:Bool}{c:UInt8}{r:List UInt8}(h:fY c=true):sF b (c::r)=((sF b r).1+1,(sF b r).2):=by
 unfold sF;rw[zas,cV,zac h]
theorem Hh {b:Bool}{c:UInt8}{r:List UInt8}(h:fY c=false)(h2:c.toNat=59):sF b (c::r)=((sF b (r.drop (cU r))).1+(cU r+1),(sF b (r.drop (cU r))).2):=by
 unfold sF;rw[zas,cV,zaa (by rw[h];simp),zac h2];have e:=l5 r.length (r.drop (cU r)).length b (r.drop (cU r)) (by rw[zan];omega) (zab _);rw[e]
theorem Hi {b:Bool}{c:UInt8}{r:List UInt8}(h:fY c=false)(h2:c.toNat≠59)(h3:gK (c::r)=true):sF b (c::r)=((sF (bf 0 (c::r)).2 ((c::r).drop (bf 0 (c::r)).1)).1+(bf 0 (c::r)).1,(sF (bf 0 (c::r)).2 ((c::r).drop (bf 0 (c::r)).1)).2):=by
 unfold sF;rw[zas,cV,zaa (by rw[h];simp),zaa h2,zac h3];have hp:=ql (o:=0) h3;have e:=l5 r.length ((c::r).drop (bf 0 (c::r)).1).length (bf 0 (c::r)).2 ((c::r).drop (bf 0 (c::r)).1) (by rw[zan,zas];omega) (zab _);rw[e]
theorem Hj {b:Bool}{c:UInt8}{r:List UInt8}(h:fY c=false)(h2:c.toNat≠59)(h3:gK (c::r)=false):sF b (c::r)=(0,b):=by
 unfold sF;rw[zas,cV,zaa (by rw[h];simp),zaa h2,zaa (by rw[h3];simp)]
theorem zI (c:UInt8):decide ((c.toNat:Int)=32∨(c.toNat:Int)=9∨(c.toNat:Int)=10)=fY c:=by
 unfold fY;rw[zbh];simp;omega
theorem drop_cons (s:ByteArray)(k:Nat)(h:k<s.size):s.data.toList.drop k=s[k]::s.data.toList.drop (k+1):=by rw[zbZ (by simpa using h)];rfl
theorem jD (s:ByteArray)(a:Nat)(w:Ξ)(hs:s.size≤1000000)(ha:a≤s.size):Φ prog 74 #[.string s,Γ Δ a] w λe w'=>e=.returned (.tuple #[Γ Δ ((a:Int)+(sF true (s.data.toList.drop a)).1),.bool (sF true (s.data.toList.drop a)).2])∧w'=w:=by
 go_enter func74,ntmps74;go_wp2_with fail;go_loop [1,6] (λi d=>∃(k:Nat) (b:Bool),a≤k∧k≤s.size∧i=Γ Δ k∧d=.bool b∧Hid ((a:Int)+(sF true (s.data.toList.drop a)).1=(k:Int)+(sF b (s.data.toList.drop k)).1∧(sF true (s.data.toList.drop a)).2=(sF b (s.data.toList.drop k)).2)) (λi _=>s.size-(Ω i).toNat)
 case atStart=>exact⟨a,true,zab _,by omega,rfl,rfl,rfl,rfl⟩
 case round=>
  obtain⟨k,b,Jt,hk,rfl,rfl,hr⟩:=hrel;by_cases hlt:k<s.size
  ·have hd:Hid _:=drop_cons s k hlt;have hbl:=zI s[k];cases hb:fY s[k]
   ·rw[hb]at hbl;by_cases vq:(s[k].toNat :Int)=59
    ·have H:Hid _:=Hh (b:=b) (r:=s.data.toList.drop (k+1)) hb (by omega);have hle:=rp (s.data.toList.drop (k+1));rw[zan,bF]at hle;have Yj:Hid (cU (s.data.toList.drop k)=cU (s.data.toList.drop (k+1))+1):=by
      show _=_;rw[hd.out,cU,zaa (by intro e;rw[e]at vq;exact absurd vq (by decide))]
     generalize hm:cU (s.data.toList.drop (k+1))=m at *;go_wp2_with fail;refine(lu _ _).mono ?_;rw[show decide ((59:Int)=32∨(59:Int)=9∨(59:Int)=10)=false from by decide];rintro e w' ⟨rfl,rfl⟩;go_wp2_with fail;refine(Da _ _ _ hs (by omega)).mono ?_;rw[Yj.out];rintro e w' ⟨rfl,rfl⟩;go_wp2_with fail
     go_round
     case rel=>exact⟨k+(m+1),b,by omega,by omega,by go_num,rfl,by
      have h1:=hr.out;rw[hd.out,H.out,zbe]at h1;rw[show k+1+m=k+(m+1) by omega]at h1;exact⟨by rw[h1.1];simp;omega,h1.2⟩⟩
     case measure=>simp[Ω];omega
    ·cases hh:gK (s.data.toList.drop k)
     ·have H:Hid _:=Hj (b:=b) (r:=s.data.toList.drop (k+1)) hb (by omega) (by rw[←hd.out];exact hh);have hp:Hid (Θ (s.data.toList.drop k) [35,124]=false):=by rw[←nV];exact hh
      go_wp2_with fail;refine(lu _ _).mono ?_;rw[hbl];rintro e w' ⟨rfl,rfl⟩;go_wp2_with fail;refine(Tryz.strings_HasPrefix _ _ _).mono ?_;rintro e w' ⟨rfl,rfl⟩;rw[nU,hp.out];go_wp2_with fail;go_ret2;have h1:=hr.out;rw[hd.out,H.out]at h1;refine⟨?_,rfl⟩;rw[h1.1,h1.2];simp
     ·have H:Hid _:=Hi (b:=b) (r:=s.data.toList.drop (k+1)) hb (by omega) (by rw[←hd.out];exact hh);have hp:Hid (Θ (s.data.toList.drop k) [35,124]=true):=by rw[←nV];exact hh
      have VA:Hid (gK (s.data.toList.drop k)=true):=hh;have jT:=ql (o:=0) hh;have hle:=wW 0 (s.data.toList.drop k);rw[zan,bF]at hle;have HH:Hid _:=H.out;rw[←hd.out]at HH;clear H;generalize hm:bf 0 (s.data.toList.drop k)=cm at *;have C9:Hid _:=hm;clear hm;go_wp2_with fail;refine(lu _ _).mono ?_;rw[hbl];rintro e w' ⟨rfl,rfl⟩;go_wp2_with fail;refine(Tryz.strings_HasPrefix _ _ _).mono ?_;rintro e w' ⟨rfl,rfl⟩;rw[nU,hp.out];go_wp2_with fail;refine(xf _ _ _ hs VA.out).mono ?_;rw[C9.out];rintro e w' ⟨rfl,rfl⟩;go_wp2_with fail
      go_round
      case rel=>exact⟨k+cm.1,cm.2,by omega,by omega,by go_num,rfl,by
       have h1:=hr.out;rw[HH.out,zbe]at h1;exact⟨by rw[h1.1];simp;omega,h1.2⟩⟩
      case measure=>simp[Ω];omega
   ·have H:Hid _:=Db (b:=b) (r:=s.data.toList.drop (k+1)) hb;rw[hb]at hbl;go_wp2_with fail;refine(lu _ _).mono ?_;rw[hbl];rintro e w' ⟨rfl,rfl⟩;go_wp2_with fail
    go_round
    case rel=>exact⟨k+1,b,by omega,by omega,by go_num,rfl,by
     have h1:=hr.out;rw[hd.out,H.out]at h1;exact⟨by rw[h1.1];simp;omega,h1.2⟩⟩
    case measure=>simp[Ω];omega
  ·have kX:k=s.size:=by omega
   have hd:s.data.toList.drop k=[]:=by rw[kX,←bF];exact zcg
   have h1:=hr.out;rw[hd,FL]at h1;have H:Hid _:=h1;clear h1 hd;go_wp2_with fail;go_ret2;refine⟨?_,rfl⟩;rw[H.out.1,H.out.2];simp;try omega
def bC (t:Tok):Value:= .agg #[Γ Δ t.kind,Γ Δ t.from_,Γ Δ t.jZ,.string ⟨⟨t.text⟩⟩,Γ Δ t.n,Γ Δ t.d,Γ Δ t.fault]
theorem jh (a:Nat)(w:Ξ):Φ prog 80 #[Γ Δ a] w λe w'=>e=.returned (bC (bG a))∧Below w.heap.size w w':=by
 go_enter func80,ntmps80;go_wp2_with fail;exact zak (v:=bC (bG a)) (by simp[results,results80,bC,bG,aQ,go_sem]) rfl ⟨rfl,(zad _ _).alloc (zab _) _⟩
theorem tF (s:ByteArray)(w:Ξ):Φ prog 75 #[.string s] w λe w'=>e=.returned (bC (nQ s.data.toList))∧Below w.heap.size w w':=by
 go_enter func75,ntmps75;go_wp2_with fail;exact zak (v:=bC (nQ s.data.toList)) (by simp[results,results75,bC,nQ,aQ,go_sem];try rfl) rfl ⟨rfl,(zad _ _).alloc (zab _) _⟩
theorem Ml (t:Tok)(w:Ξ):Φ prog 48 #[bC t] w λe _=>e=.returned (.bool t.lastB):=by
 unfold bC;go_enter func48,ntmps48
 go_wp2
 all_goals
  go_ret;refine bE ?_;unfold Tok.lastB;rw[zbh];simp;try omega
theorem ur (c:UInt8)(w:Ξ):Φ prog 101 #[.int .u8 (c.toNat:Int)] w λe w'=>e=.returned (.tuple #[.int .u8 (((wV c).getD 0).toNat :Int),.bool (wV c).isSome])∧w'=w:=by
 have key:∀c:UInt8,((c.toNat:Int)=92↔c=92)∧((c.toNat:Int)=34↔c=34)∧((c.toNat:Int)=110↔c=110)∧((c.toNat:Int)=116↔c=116):=by
  intro c;have h:∀n:Nat,n<256→(c.toNat=n↔c=n.toUInt8):=λn hn=>by
   rw[←UInt8.toNat_inj];simp[Nat.mod_eq_of_lt hn]
  have h1:=h 92 (by omega);have h2:=h 34 (by omega);have h3:=h 110 (by omega);have h4:=h 116 (by omega);exact⟨by rw[show(92:UInt8)=Nat.toUInt8 92 from rfl,←h1];omega,by rw[show(34:UInt8)=Nat.toUInt8 34 from rfl,←h2];omega,by rw[show(110:UInt8)=Nat.toUInt8 110 from rfl,←h3];omega,by rw[show(116:UInt8)=Nat.toUInt8 116 from rfl,←h4];omega⟩
 obtain⟨k1,k2,k3,k4⟩:=key c;clear key;by_cases h1:c=92
 ·subst h1;go_enter func101,ntmps101;go_wp2_with fail;go_ret2;exact⟨rfl,rfl⟩
 by_cases h2:c=34
 ·subst h2;go_enter func101,ntmps101;go_wp2_with fail;go_ret2;exact⟨rfl,rfl⟩
 by_cases h3:c=110
 ·subst h3;go_enter func101,ntmps101;go_wp2_with fail;go_ret2;exact⟨rfl,rfl⟩
 by_cases h4:c=116
 ·subst h4;go_enter func101,ntmps101;go_wp2_with fail;go_ret2;exact⟨rfl,rfl⟩
 have e:wV c=none:=by unfold wV;rw[zaa (by simp[h1,h2]),zaa h3,zaa h4]
 rw[e];have q1:((c.toNat:Int)==92)=false:=by rw[zao];exact λh=>h1 (k1.1 h)
 have q2:((c.toNat:Int)==34)=false:=by rw[zao];exact λh=>h2 (k2.1 h)
 have q3:((c.toNat:Int)==110)=false:=by rw[zao];exact λh=>h3 (k3.1 h)
 have q4:((c.toNat:Int)==116)=false:=by rw[zao];exact λh=>h4 (k4.1 h)
 clear k1 k2 k3 k4 h1 h2 h3 h4 e;go_enter func101,ntmps101;go_wp2_with fail;go_ret2;exact⟨rfl,rfl⟩
theorem oW (x:ByteArray):x.toList=x.data.toList:=by cases x with|mk d=>cases d with|mk l=>exact jg l
theorem Jv (l:List UInt8)(k:Nat):hasName (k:Int)=true→nameOf (k:Int)=l→cW l=k:=by
 intro h1 h2;unfold hasName at h1;simp at h1;unfold nameOf at h2;rcases h1 with h|h|h|h|h|h<;>(rw[h]at h2 ⊢;simp at h2;subst h2;decide)
theorem Jw (l:List UInt8)(h:0≤cW l):hasName (cW l)=true∧nameOf (cW l)=l∧cW l<128:=by
 unfold cW at h ⊢;repeat' split
 all_goals first
  |(simp_all;done)
  |(subst_vars;decide)
theorem xg (s:ByteArray)(w:Ξ):Φ prog 118 #[.string s] w λe w'=>e=.returned (.tuple #[Γ Δ ((pO s.data.toList).getD 0),.bool (pO s.data.toList).isSome])∧w'=w:=by
 have hc:Hid (∀k:Nat,hasName (k:Int)=true→nameOf (k:Int)=s.data.toList→pO s.data.toList=some (k:Int)):=λk h1 h2=>by
  have:=Jv _ k h1 h2;unfold pO;rw[this,zac (by omega)]
 have hn:Hid (0≤cW s.data.toList→hasName (cW s.data.toList)=true∧nameOf (cW s.data.toList)=s.data.toList∧cW s.data.toList<128):=Jw _;go_enter func118,ntmps118;go_wp2_with fail;go_loop [7] (λi=>∃k:Nat,k≤128∧i=Γ Δ k∧Hid (∀j:Nat,j<k→¬(hasName (j:Int)=true∧nameOf (j:Int)=s.data.toList))) (λi=>128-(Ω i).toNat)
 case atStart=>exact⟨0,by omega,rfl,λj hj=>by omega⟩
 case round=>
  obtain⟨k,hk,rfl,hr⟩:=hrel;by_cases hlt:k<128
  ·cases hb:hasName (k:Int)
   ·go_wp2_with fail;refine(qi _ _).mono ?_;rw[hb];rintro e w' ⟨rfl,rfl⟩;go_wp2_with fail
    go_round
    case rel=>exact⟨k+1,by omega,by go_num,λj hj h=>by
     by_cases e:j=k
     ·subst e;rw[hb]at h;cases h.1
     ·exact hr.out j (by omega) h⟩
    case measure=>simp[Ω];omega
   ·by_cases he:nameOf (k:Int)=s.data.toList
    ·have hq:=hc.out k hb he;have WU:(nameOf (k:Int)==s.toList)=true:=by rw[oW,he,zbs]
     go_wp2_with fail;refine(qi _ _).mono ?_;rw[hb];rintro e w' ⟨rfl,rfl⟩;go_wp2_with fail;go_ret2;refine⟨?_,rfl⟩;rw[hq];rfl
    ·have WU:(nameOf (k:Int)==s.toList)=false:=by
      rw[oW,zao];exact he
     go_wp2_with fail;refine(qi _ _).mono ?_;rw[hb];rintro e w' ⟨rfl,rfl⟩;go_wp2_with fail
     go_round
     case rel=>exact⟨k+1,by omega,by go_num,λj hj h=>by
      by_cases e:j=k
      ·subst e;exact he h.2
      ·exact hr.out j (by omega) h⟩
     case measure=>simp[Ω];omega
  ·have hq:pO s.data.toList=none:=by
    unfold pO;rw[zaa];intro h;obtain⟨h1,h2,h3⟩:=hn.out h;obtain⟨m,hm⟩:=zbu h;rw[hm]at h1 h2 h3;exact hr.out m (by omega) ⟨h1,h2⟩
   have hq':Hid _:=hq;clear hq;go_wp2_with fail;go_ret2;refine⟨?_,rfl⟩;rw[hq'.out];rfl
theorem jV (n d:Int)(w:Ξ):Φ prog 124 #[Γ Δ n,Γ Δ d] w λe w'=>e=.returned (Γ Δ (if 1000000<n∨1000000<d then 7 else if d=0 then 3 else 0))∧w'=w:=by
 go_enter func124,ntmps124
 go_wp2
 all_goals
  go_ret;refine⟨fD ?_,rfl⟩;simp_all;try omega
theorem Dc (l:List UInt8)(c:UInt8)(n:Int):cf n (l++[c])=min (cf n l*10+((c.toNat:Int)-48)) 1000001:=by
 simp[cf]
theorem tG:∀(l:List UInt8) (n:Int),0≤n→n≤1000001→l.all (λc=>aD (c.toNat:Int))=true→0≤cf n l∧cf n l≤1000001
 |[],n,h1,h2,_=>⟨h1,h2⟩
 |c::r,n,h1,h2,h3=>by
  simp only[zaq,zai]at h3;have hd:48≤(c.toNat:Int):=by have:=h3.1;unfold aD at this;simp at this;omega
  show 0≤cf (min (n*10+((c.toNat:Int)-48)) 1000001) r∧cf (min (n*10+((c.toNat:Int)-48)) 1000001) r≤1000001;exact tG r _ (by omega) (by omega) h3.2
theorem fc (s:ByteArray)(w:Ξ)(hs:s.size≤1000000)(hd:s.data.toList.all (λc=>aD (c.toNat:Int))=true):Φ prog 120 #[.string s] w λe w'=>e=.returned (Γ Δ (aA s.data.toList))∧w'=w:=by
 have Jx:Hid (∀k (h:k<s.size),48≤(s[k].toNat :Int)∧(s[k].toNat :Int)≤57):=λk h=>by
  rw[zbz]at hd;have:=hd s[k] (by exact zci (l:=s.data.toList) (n:=k) h);unfold aD at this;simpa using this
 have qW:Hid (∀k,0≤aA (s.data.toList.take k)∧aA (s.data.toList.take k)≤1000001):=λk=>tG _ 0 (by omega) (by omega) (by
  rw[zbz]at hd ⊢;exact λx hx=>hd x (List.mem_of_mem_take hx))
 clear hd;go_enter func120,ntmps120;go_wp2_with fail;go_loop [7,3] (λi n=>∃k:Nat,k≤s.size∧i=Γ Δ k∧n=Γ Δ (aA (s.data.toList.take k))) (λi _=>s.size-(Ω i).toNat)
 case atStart=>exact⟨0,by omega,rfl,rfl⟩
 case round=>
  obtain⟨k,hk,rfl,rfl⟩:=hrel;by_cases hlt:k<s.size
  ·obtain⟨d1,d2⟩:=Jx.out k hlt;obtain⟨b1,b2⟩:=qW.out k;have hst:Hid (aA (s.data.toList.take (k+1))=min (aA (s.data.toList.take k)*10+((s[k].toNat :Int)-48)) 1000001):=by
    show _=_;rw[zH s k hlt];exact Dc _ _ 0
   generalize aA (s.data.toList.take k)=m at *;generalize hx:(s[k].toNat :Int)=x at *;go_wp2_with fail
   go_round
   case rel=>exact⟨k+1,by omega,by go_num,by rw[hst.out];try (congr 1;omega)⟩
   case measure=>simp[Ω];omega
  ·have hf:Hid (s.data.toList.take k=s.data.toList):=C3 s k (by omega);go_wp2_with fail;go_ret;refine⟨fD ?_,rfl⟩;rw[hf.out]
theorem zJ:∀l:List UInt8,(Λ l 47=-1∧eE l=none)∨∃k:Nat,Λ l 47=(k:Int)∧k<l.length∧eE l=some (l.take k,l.drop (k+1))
 |[]=> .inl ⟨rfl,rfl⟩
 |c::r=>by
  unfold Λ eE;by_cases hc:c=47
  ·subst hc;exact .inr ⟨0,by simp,by simp,by simp⟩
  ·have hc':(c==47)=false:=by simpa using hc
   have hn:¬c.toNat=47:=λh=>hc (by rw[←UInt8.toNat_inj];exact h);rw[hc',zaa hn];simp only[zaN,if_false];rcases zJ r with⟨h1,h2⟩|⟨k,h1,h2,h3⟩
   ·left;rw[h1,h2];simp
   ·right;refine⟨k+1,?_,by simp;omega,?_⟩
    ·rw[h1];have:((k:Int)==-1)=false:=by rw[zao];omega
     rw[this];simp
    ·rw[h3];simp
theorem Ba (s:ByteArray)(w:Ξ)(h:Λ s.data.toList 47=-1):Φ prog 129 #[.string s,.string ⟨#[47]⟩] w λe w'=>e=.returned (.tuple #[.string s,.string ⟨#[]⟩,.bool false])∧∃n,w'=w.drewN n:=by
 go_enter func129,ntmps129;go_wp2_with (go_at_call 131;refine(Tryz.stringslite_Index_one _ _ _).mono ?_;rintro e w' ⟨rfl,rfl⟩;rw[h])
 go_ret3
 exact⟨rfl,0,rfl⟩
theorem Dd (s:ByteArray)(k:Nat)(w:Ξ)(h:Λ s.data.toList 47=(k:Int))(hk:k<s.size)(hs:s.size≤1000000):Φ prog 129 #[.string s,.string ⟨#[47]⟩] w λe w'=>e=.returned (.tuple #[.string (s.extract 0 k),.string (s.extract (k+1) s.size),.bool true])∧∃n,w'=w.drewN n:=by
 have c1:(0:Int)≤↑k:=by omega
 have c2:(↑k:Int)≤↑s.size:=by omega
 have c3:(0:Int)≤↑k+1:=by omega
 have c4:(↑k+1:Int)≤↑s.size:=by omega
 have mixed:prog.follows Departure.mixedOrders=true:=by kernel_rfl
 go_enter func129,ntmps129;go_wp2_with (go_at_call 131;refine(Tryz.stringslite_Index_one _ _ _).mono ?_;rintro e w' ⟨rfl,rfl⟩;rw[h])
 go_region_o
 go_wp2
 go_ret3
 exact⟨rfl,1,rfl⟩
theorem Mm (s:ByteArray)(w:Ξ)(h:Λ s.data.toList 47=-1):Φ prog 122 #[.string s,.string ⟨#[47]⟩] w λe w'=>e=.returned (.tuple #[.string s,.string ⟨#[]⟩,.bool false])∧∃n,w'=w.drewN n:=by
 go_enter func122,ntmps122;go_wp2_with (go_at_call 129;refine(Ba _ _ h).mono ?_;rintro e w' ⟨rfl,n,rfl⟩)
 go_ret3
 exact⟨rfl,n,rfl⟩
theorem PZ (s:ByteArray)(k:Nat)(w:Ξ)(h:Λ s.data.toList 47=(k:Int))(hk:k<s.size)(hs:s.size≤1000000):Φ prog 122 #[.string s,.string ⟨#[47]⟩] w λe w'=>e=.returned (.tuple #[.string (s.extract 0 k),.string (s.extract (k+1) s.size),.bool true])∧∃n,w'=w.drewN n:=by
 go_enter func122,ntmps122;go_wp2_with (go_at_call 129;refine(Dd _ _ _ h hk hs).mono ?_;rintro e w' ⟨rfl,n,rfl⟩)
 go_ret3
 exact⟨rfl,n,rfl⟩
theorem dt (s:ByteArray)(w:Ξ)(hs:s.size≤1000000):Φ prog 123 #[.string s] w λe w'=>e=.returned (.bool (bV s.data.toList))∧w'=w:=by
 have hr:Hid (decide (au aD s.data.toList=s.data.toList.length)=s.data.toList.all (λc=>aD (c.toNat:Int))):=CU aD _;have hle:=jq aD s.data.toList;rw[bF]at hle;by_cases h0:s.data.toList=[]
 ·have I0:s.toList=[]:=by rw[oW,h0]
  have VB:(s.toList==[])=true:=by rw[I0];rfl
  have hf:Hid (bV s.data.toList=false):=by show _=_;rw[h0];rfl
  clear h0;go_enter func123,ntmps123;go_wp2_with fail;all_goals
   go_ret;exact⟨bE hf.out.symm,rfl⟩
 ·have I0:¬s.toList=[]:=by rw[oW];exact h0
  have VB:(s.toList==[])=false:=by rw[zao];exact I0
  have hf:Hid (bV s.data.toList=decide ((au aD s.data.toList:Int)=s.size)):=by
   show _=_;unfold bV;rw[←hr.out,bF];have:s.data.toList.isEmpty=false:=by simpa using h0
   rw[this,zbh];simp;omega
  clear h0 hr;go_enter func123,ntmps123;go_wp2_with (go_at_call 109;refine(eZ _ _ _ (by unfold η;omega) (by omega) (by omega)).mono ?_;rintro e w' ⟨rfl,rfl⟩;simp only[Int.toNat_zero,zbJ,Int.zero_add]);all_goals
   go_ret;refine⟨bE ?_,rfl⟩;rw[hf.out];try (rw[zbh];simp)
end Go.Proofs.YtlhimdjkkiflhaaGreat
