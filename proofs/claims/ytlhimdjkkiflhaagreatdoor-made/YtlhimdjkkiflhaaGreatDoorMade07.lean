import Derived.Test.YtlhimdjkkiflhaaGreatDoorMade05
set_option maxHeartbeats 8000000
set_option maxRecDepth 100000
open Go.Value renaming int→Γ
open Go.IntKind renaming i64→Δ
open Go.Lib renaming hasPrefix→Θ,indexByte→Λ
open Go renaming World→Ξ,maxLen→Ω,Calls→ζ
open Go.RowKit renaming Below→Φ,intOf→η
open List renaming length→θ
namespace Go.Loop
variable {s:List UInt8}
structure Tok where
 kind:Nat
 from_:Nat
 gw:Nat
 text:List UInt8
 n:Int
 d:Int
 fault:Int
deriving DecidableEq
def aH (k a e:Nat):Tok:=⟨k,a,e,[],0,0,0⟩
def bt (a:Nat):Tok:=aH 1 a a
def nW (s:List UInt8):Tok:=aH 0 s.length s.length
def Tok.lastB (t:Tok):Bool:=decide (t.kind=0∨t.kind=1)
def gH (c:UInt8):Bool:=decide (c.toNat=32∨c.toNat=9∨c.toNat=10)
def dP:List UInt8→Nat
 |[]=>0
 |c::r=>if c=10 then 0 else dP r+1
def bI:Nat→List UInt8→Nat×Bool
 |o,c::d::r=>
  if c=35∧d=124 then((bI (o+1) r).1+2,(bI (o+1) r).2)
  else if c=124∧d=35 then(if o≤1 then(2,true)else((bI (o-1) r).1+2,(bI (o-1) r).2))
  else((bI o (d::r)).1+1,(bI o (d::r)).2)
 |_,[_]=>(1,false)
 |_,[]=>(0,false)
def cN:List UInt8→Bool
 |c::d::_=>decide (c=35∧d=124)
 |_=>false
def dB:Nat→Bool→List UInt8→Nat×Bool
 |0,b,_=>(0,b)
 |_+1,b,[]=>(0,b)
 |n+1,b,c::r=>
  if gH c then((dB n b r).1+1,(dB n b r).2)
  else if c.toNat=59 then((dB n b (r.drop (dP r))).1+(dP r+1),(dB n b (r.drop (dP r))).2)
  else if cN (c::r)then((dB n (bI 0 (c::r)).2 ((c::r).drop (bI 0 (c::r)).1)).1+(bI 0 (c::r)).1,(dB n (bI 0 (c::r)).2 ((c::r).drop (bI 0 (c::r)).1)).2)
  else(0,b)
def jg (s:List UInt8)(a:Nat):Nat:=a+(dB (s.drop a).length true (s.drop a)).1
def AB (c:UInt8):Option UInt8:=if c=92∨c=34 then some c else if c=110 then some 10 else if c=116 then some 9 else none
inductive Pe where
 |fin
 |bad
 |ok (e:Nat) (b:List UInt8)
def dD:Nat→List UInt8→List UInt8→Pe
 |_,_,[]=> .fin
 |i,acc,[c]=>if c=34 then .ok (i+1) acc else .fin
 |i,acc,c::e::r=>if c=34 then .ok (i+1) acc else if c=92 then(match AB e with|none=> .bad |some b=>dD (i+2) (acc++[b]) r)else dD (i+1) (acc++[c]) (e::r)
def jh (s:List UInt8)(a:Nat):Tok:=
 match dD (a+1) [] (s.drop (a+1))with
 |.fin=>nW s
 |.bad=>bt a
 |.ok e b=>{ aH 8 a e with text:=b }
def nN (l:List UInt8):Option Int:=if 0≤gG l then some (gG l)else none
def dL (s:List UInt8)(a b:Nat):List UInt8:=(s.drop a).take (b-a)
def fM (s:List UInt8)(a:Nat):Tok:=
 if 1<aT fA (s.drop (a+2))then
  (match nN (dL s (a+2) (a+2+aT fA (s.drop (a+2))))with
   |none=>bt a
   |some k=>{ aH 9 a (a+2+aT fA (s.drop (a+2)))with n:=k })
 else match s.drop (a+2)with
  |[]=>bt a
  |c::_=>if 33≤c.toNat∧c.toNat≤126 then { aH 9 a (a+3)with n:=(c.toNat:Int) } else bt a
def dT (n:Int)(l:List UInt8):Int:=l.foldl (λn c=>min (n*10+((c.toNat:Int)-48)) 1000001) n
def aK (l:List UInt8):Int:=dT 0 l
def bZ (s:List UInt8)(a:Nat):Option Tok:=
 let k:=aT cF (s.drop (a+1))
 if k=0∨3<k then none
 else match s.drop (a+1+k)with
  |[]=>none
  |c::_=>if c.toNat=61 then some { aH 10 a (a+1+k+1)with n:=aK (dL s (a+1) (a+1+k)) } else if c.toNat=35 then some { aH 11 a (a+1+k+1)with n:=aK (dL s (a+1) (a+1+k)) } else none
def bW (s:List UInt8)(a:Nat):Tok:=
 let e:=a+1+aT bq (s.drop (a+1));let w:=dL s (a+1) e
 if w=[116]∨w=[116,114,117,101]then { aH 12 a e with n:=1 } else if w=[102]∨w=[102,97,108,115,101]then aH 12 a e else bt a
def ed (s:List UInt8)(a:Nat):Tok:=
 match s.drop (a+1)with
 |[]=>(bZ s a).getD (bW s a)
 |c::_=>if c.toNat=40 then aH 5 a (a+2)else if c.toNat=59 then aH 6 a (a+2)else if c.toNat=92 then fM s a else(bZ s a).getD (bW s a)
def jV:List UInt8→Option (List UInt8×List UInt8)
 |[]=>none
 |c::r=>if c.toNat=47 then some ([],r)else(jV r).map λp=>(c::p.1,p.2)
def dE (l:List UInt8):Bool:=!l.isEmpty&&l.all λc=>cF (c.toNat:Int)
def numberOf (neg:Bool)(l:List UInt8):Option (Int×Int×Int):=
 let p:=(jV l).getD (l,[49])
 if dE p.1&&dE p.2 then
  (let n:=aK p.1
   let d:=aK p.2
   if 1000000<n∨1000000<d then some (0,0,7)
   else if d=0 then some (0,0,3)
   else let m:=if neg then -n else n
    some (m.tdiv (Int.gcd m d),d/(Int.gcd m d),0))
 else none
def dH:List UInt8→Option (Int×Int×Int)
 |[]=>none
 |c::r=>if c.toNat=45 then numberOf true r else if c.toNat=43 then numberOf false r else numberOf false (c::r)
def fN (s:List UInt8)(a:Nat):Tok:=
 let e:=a+aT bq (s.drop a);let w:=dL s a e
 if w=[46]then aH 7 a e
 else if !bX w then { aH 14 a e with text:=w }
 else match dH w with
  |none=>bt a
  |some (n,d,f)=>{ aH 13 a e with n:=n,d:=d,fault:=f }
def cM (s:List UInt8)(a:Nat):Tok:=
 match s.drop a with
 |[]=>nW s
 |c::_=>
  if c.toNat=40 then aH 2 a (a+1)else if c.toNat=41 then aH 3 a (a+1)else if c.toNat=39 then aH 4 a (a+1)
  else if c.toNat=34 then jh s a else if c.toNat=35 then ed s a else if bq (c.toNat:Int)then fN s a else bt a
def aR (s:List UInt8)(a:Nat):Tok:=cM s (jg s a)
def aw:Nat→List UInt8→Nat→List Tok
 |0,_,_=>[]
 |n+1,s,a=>if(aR s a).lastB then[aR s a]else aR s a::aw n s (aR s a).gw
theorem sG:∀l:List UInt8,dP l≤l.length
 |[]=>zac _
 |c::r=>by
  have:=sG r;unfold dP;split<;>simp<;>omega
theorem EU (o:Nat)(l:List UInt8):(bI o l).1≤l.length:=by
 fun_induction bI o l<;>simp_all<;>omega
theorem uj (o:Nat)(l:List UInt8)(h:cN l=true):2≤(bI o l).1:=by
 match l,h with
 |c::d::r,h=>
  simp only[cN,zaK]at h;unfold bI;simp[h]
theorem sH:∀(n:Nat) (b:Bool) (l:List UInt8),(dB n b l).1≤l.length
 |0,b,l=>by simp[dB]
 |n+1,b,[]=>by simp[dB]
 |n+1,b,c::r=>by
  have h1:=sH n b r;have h2:=sH n b (r.drop (dP r));have h3:=sH n (bI 0 (c::r)).2 ((c::r).drop (bI 0 (c::r)).1);have h4:=sG r;have h5:=EU 0 (c::r);unfold dB;split
  ·simp;omega
  ·split
   ·simp at h2 ⊢;omega
   ·split
    ·simp only[zau]at h3 ⊢;omega
    ·simp
theorem EW {a:Nat}(h:a≤s.length):a≤jg s a∧jg s a≤s.length:=by
 have:=sH (s.drop a).length true (s.drop a);unfold jg;simp only[zau]at this ⊢;omega
theorem jC (p:Int→Bool):∀l:List UInt8,aT p l≤l.length
 |[]=>zac _
 |c::r=>by
  have:=jC p r;unfold aT;split<;>simp<;>omega
theorem mn:∀(i:Nat) (acc l:List UInt8) (e:Nat) (b:List UInt8),dD i acc l=.ok e b→i<e∧e≤i+l.length
 |i,acc,[],e,b,h=>by simp[dD]at h
 |i,acc,[c],e,b,h=>by
  unfold dD at h;split at h
  ·simp only[Pe.ok.injEq]at h;obtain⟨rfl,_⟩:=h;simp
  ·simp at h
 |i,acc,c::x::r,e,b,h=>by
  unfold dD at h;split at h
  ·simp only[Pe.ok.injEq]at h;obtain⟨rfl,_⟩:=h;simp
  ·split at h
   ·split at h
    ·simp at h
    ·have:=mn _ _ _ _ _ h;simp at this ⊢;omega
   ·have:=mn _ _ _ _ _ h;simp at this ⊢;omega
def ye (s:List UInt8)(a:Nat)(t:Tok):Prop:=t.from_≤s.length∧t.gw≤s.length∧(t.lastB=false→a<t.gw∧a≤t.from_)
theorem ib {a b:Nat}(h:b≤s.length):ye s a (bt b):=⟨h,h,λe=>by simp[bt,aH,Tok.lastB]at e⟩
theorem EX {a:Nat}:ye s a (nW s):=⟨zac _,zac _,λe=>by simp[nW,aH,Tok.lastB]at e⟩
theorem fC {a:Nat}{t:Tok}(h1:t.from_=a)(h2:a<t.gw)(h3:t.gw≤s.length):ye s a t:=⟨by omega,h3,λ_=>⟨h2,by omega⟩⟩
theorem H9 {a:Nat}(h:a<s.length):ye s a (bW s a):=by
 have:=jC bq (s.drop (a+1));simp only[zau]at this;unfold bW;simp only;split
 ·exact fC rfl (by simp[aH];omega) (by simp[aH];omega)
 ·split
  ·exact fC rfl (by simp[aH];omega) (by simp[aH];omega)
  ·exact ib (by omega)
theorem Ia {a:Nat}(h:a<s.length):ye s a ((bZ s a).getD (bW s a)):=by
 have:=jC cF (s.drop (a+1));simp only[zau]at this;have ht:=H9 h;unfold bZ;simp only;split
 ·exact ht
 ·split
  ·exact ht
  ·rename_i hd;have hl:a+1+aT cF (s.drop (a+1))<s.length:=by
    have h2:=zak θ hd;simp only[zau,zar]at h2;omega
   split
   ·exact fC rfl (by simp[aH];omega) (by simp[aH];omega)
   ·split
    ·exact fC rfl (by simp[aH];omega) (by simp[aH];omega)
    ·exact ht
theorem Bv {a:Nat}(h:a+1<s.length):ye s a (fM s a):=by
 have:=jC fA (s.drop (a+2));simp only[zau]at this;unfold fM;split
 ·split
  ·exact ib (by omega)
  ·exact fC rfl (by simp[aH];omega) (by simp[aH];omega)
 ·split
  ·exact ib (by omega)
  ·rename_i hd;have h2:=zak θ hd;simp only[zau,zar]at h2;split
   ·exact fC rfl (by simp[aH]) (by simp[aH];omega)
   ·exact ib (by omega)
theorem LR {a:Nat}(h:a<s.length):ye s a (ed s a):=by
 have hl:=Ia h;unfold ed;split
 ·exact hl
 ·rename_i hd;have h2:=zak θ hd;simp only[zau,zar]at h2;split
  ·exact fC rfl (by simp[aH]) (by simp[aH];omega)
  ·split
   ·exact fC rfl (by simp[aH]) (by simp[aH];omega)
   ·split
    ·exact Bv (by omega)
    ·exact hl
theorem LS {a:Nat}(h:a<s.length):ye s a (jh s a):=by
 unfold jh;split
 ·exact EX
 ·exact ib (by omega)
 ·rename_i e b he;have:=mn _ _ _ _ _ he;simp only[zau]at this;exact fC rfl (by simp[aH];omega) (by simp[aH];omega)
theorem LU {a:Nat}(h:a<s.length)(hp:0<aT bq (s.drop a)):ye s a (fN s a):=by
 have:=jC bq (s.drop a);simp only[zau]at this;unfold fN;simp only;split
 ·exact fC rfl (by simp[aH];omega) (by simp[aH];omega)
 ·split
  ·exact fC rfl (by simp[aH];omega) (by simp[aH];omega)
  ·split
   ·exact ib (by omega)
   ·exact fC rfl (by simp[aH];omega) (by simp[aH];omega)
theorem CV {a:Nat}:ye s a (cM s a):=by
 unfold cM;split
 ·exact EX
 ·rename_i c r hd;have h2:=zak θ hd;simp only[zau,zar]at h2;have hlt:a<s.length:=by omega
  split
  ·exact fC rfl (by simp[aH]) (by simp[aH];omega)
  ·split
   ·exact fC rfl (by simp[aH]) (by simp[aH];omega)
   ·split
    ·exact fC rfl (by simp[aH]) (by simp[aH];omega)
    ·split
     ·exact LS hlt
     ·split
      ·exact LR hlt
      ·split
       ·rename_i hw;exact LU hlt (by rw[hd];simp[aT,hw])
       ·exact ib (by omega)
theorem ju {a:Nat}(h:a≤s.length):ye s a (aR s a):=by
 have h1:=EW h;obtain⟨f1,f2,f3⟩:=CV (s:=s) (a:=jg s a);exact⟨f1,f2,λe=>by have:=f3 e;unfold aR at *;omega⟩
end Go.Loop
namespace Go.Proofs.YtlhimdjkkiflhaaGreatDoor
open Go.Proofs.Tryz
open Go.RowKit Go.Loop
variable {l r:List UInt8}{x c:UInt8}{n N:Nat}{b neg:Bool}{W w:Ξ}
theorem lB (c:Int)(w:Ξ):ζ prog 73 #[.int .u8 c] w λe w'=>e=.returned (.bool (decide (c=32∨c=9∨c=10)))∧w'=w:=by
 go_enter func73,ntmps73
 go_wp2
 all_goals
  go_ret;refine⟨aI ?_,rfl⟩;rw[zaZ];simp;try omega
theorem bR (s:ByteArray):s.data.toList.length=s.size:=rfl
theorem oH (s:ByteArray)(k:Nat):(s.extract k s.size).data.toList=s.data.toList.drop k:=by
 rw[ByteArray.data_extract,Array.toList_extract];simp only[List.extract];rw[zbJ];rw[zau,bR];exact zac _
theorem Fe:∀l:List UInt8,(0≤Λ l 10→Λ l 10=(dP l:Int))∧(Λ l 10<0→dP l=l.length)
 |[]=>by simp[Λ,dP]
 |c::r=>by
  have ih:=Fe r;have hg:=Lib.indexByte_ge r 10;unfold Λ dP;by_cases hc:c=10
  ·subst hc;simp
  ·have hc':(c==10)=false:=by simpa using hc
   rw[hc',zaa hc];simp only[zaU,if_false];by_cases hm:Λ r 10=-1
   ·simp only[hm,BEq.rfl,if_true];refine⟨by omega,λ_=>?_⟩;rw[ih.2 (by omega)];simp
   ·have ND:(Λ r 10==-1)=false:=by simpa using hm
    rw[ND];simp only[zaU,if_false];refine⟨λ_=>?_,λh=>by omega⟩;rw[ih.1 (by omega)];simp
theorem Ff (s:ByteArray)(a:Nat)(w:Ξ)(hs:s.size≤1000000)(ha:a≤s.size):ζ prog 74 #[.string s,Γ Δ a] w λe w'=>e=.returned (Γ Δ ((a:Int)+dP (s.data.toList.drop a)))∧w'=w:=by
 have h:=Fe (s.data.toList.drop a);have hg:=Lib.indexByte_ge (s.data.toList.drop a) 10;have hle:=sG (s.data.toList.drop a);have hlen:(s.data.toList.drop a).length=s.size-a:=by rw[zau,bR]
 generalize hi:Λ (s.data.toList.drop a) 10=i at *;have HI:Hid (Λ (s.data.toList.drop a) 10=i):=hi;clear hi;go_enter func74,ntmps74;go_wp2_with fail;refine(Tryz.strings_IndexByte _ _ _).mono ?_;rintro e w' ⟨rfl,rfl⟩;have hq:Λ (s.extract a s.size).data.toList (Int.toNat 10).toUInt8=i:=by rw[oH];exact HI.out
 rw[hq];by_cases h0:0≤i
 ·have:=h.1 h0;go_wp2_with fail;go_ret;exact⟨iO (by omega),rfl⟩
 ·have:=h.2 (by omega);go_wp2_with fail;go_ret;exact⟨iO (by omega),rfl⟩
theorem fD (s:ByteArray)(E8:Int)(w:Ξ)(hs:s.size≤Ω)(h0:0≤E8)(h1:E8≤s.size):ζ prog 148 #[.string s,Γ Δ E8,.func (.func 186) #[] #[]] w λe w'=>e=.returned (Γ Δ (E8+aT cF (s.data.toList.drop E8.toNat)))∧w'=w:=by
 unfold Ω at hs;obtain⟨a,rfl⟩:=zbq h0;rw[zbn];go_enter func148,ntmps148;go_wp2_with fail;go_loop [1] (λi=>∃k:Nat,a≤k∧k≤s.size∧i=Γ Δ k∧Hid ((a:Int)+aT cF (s.data.toList.drop a)=(k:Int)+aT cF (s.data.toList.drop k))) (λi=>s.size-(η i).toNat)
 case atStart=>exact⟨a,zac _,by omega,rfl,rfl⟩
 case round=>
  obtain⟨k,G0,hk,rfl,hr⟩:=hrel;by_cases hlt:k<s.size
  ·have hd:Hid (s.data.toList.drop k=s[k]::s.data.toList.drop (k+1)):=by show _=_;rw[zcD (by simpa using hlt)];rfl
   cases hp:cF (s[k].toNat :Int)
   ·have H:Hid (aT cF (s.data.toList.drop k)=0):=by show _=_;rw[hd.out];simp[aT,hp]
    go_wp2_with fail;refine(ee _ _).mono ?_;rw[hp];rintro e w' ⟨rfl,rfl⟩;go_wp2_with fail;go_ret;refine⟨iO ?_,rfl⟩;rw[hr.out,H.out];simp
   ·have H:Hid (aT cF (s.data.toList.drop k)=aT cF (s.data.toList.drop (k+1))+1):=by show _=_;rw[hd.out];simp[aT,hp]
    go_wp2_with fail;refine(ee _ _).mono ?_;rw[hp];rintro e w' ⟨rfl,rfl⟩;go_wp2_with fail
    go_round
    case rel=>exact⟨k+1,by omega,by omega,by go_num,by show _=_;rw[hr.out,H.out];omega⟩
    case measure=>simp[η];omega
  ·have H:Hid (aT cF (s.data.toList.drop k)=0):=by show _=_;rw[zbS (by simp;omega)];rfl
   go_wp2_with fail;go_ret;refine⟨iO ?_,rfl⟩;rw[hr.out,H.out];simp
theorem gM (s:ByteArray)(E8:Int)(w:Ξ)(hs:s.size≤Ω)(h0:0≤E8)(h1:E8≤s.size):ζ prog 148 #[.string s,Γ Δ E8,.func (.func 187) #[] #[]] w λe w'=>e=.returned (Γ Δ (E8+aT fA (s.data.toList.drop E8.toNat)))∧w'=w:=by
 unfold Ω at hs;obtain⟨a,rfl⟩:=zbq h0;rw[zbn];go_enter func148,ntmps148;go_wp2_with fail;go_loop [1] (λi=>∃k:Nat,a≤k∧k≤s.size∧i=Γ Δ k∧Hid ((a:Int)+aT fA (s.data.toList.drop a)=(k:Int)+aT fA (s.data.toList.drop k))) (λi=>s.size-(η i).toNat)
 case atStart=>exact⟨a,zac _,by omega,rfl,rfl⟩
 case round=>
  obtain⟨k,G0,hk,rfl,hr⟩:=hrel;by_cases hlt:k<s.size
  ·have hd:Hid (s.data.toList.drop k=s[k]::s.data.toList.drop (k+1)):=by show _=_;rw[zcD (by simpa using hlt)];rfl
   cases hp:fA (s[k].toNat :Int)
   ·have H:Hid (aT fA (s.data.toList.drop k)=0):=by show _=_;rw[hd.out];simp[aT,hp]
    go_wp2_with fail;refine(iP _ _).mono ?_;rw[hp];rintro e w' ⟨rfl,rfl⟩;go_wp2_with fail;go_ret;refine⟨iO ?_,rfl⟩;rw[hr.out,H.out];simp
   ·have H:Hid (aT fA (s.data.toList.drop k)=aT fA (s.data.toList.drop (k+1))+1):=by show _=_;rw[hd.out];simp[aT,hp]
    go_wp2_with fail;refine(iP _ _).mono ?_;rw[hp];rintro e w' ⟨rfl,rfl⟩;go_wp2_with fail
    go_round
    case rel=>exact⟨k+1,by omega,by omega,by go_num,by show _=_;rw[hr.out,H.out];omega⟩
    case measure=>simp[η];omega
  ·have H:Hid (aT fA (s.data.toList.drop k)=0):=by show _=_;rw[zbS (by simp;omega)];rfl
   go_wp2_with fail;go_ret;refine⟨iO ?_,rfl⟩;rw[hr.out,H.out];simp
theorem PE (x y c d:UInt8)(r:List UInt8):Θ (c::d::r) [x,y]=decide (c=x∧d=y):=by
 simp only[Θ,List.isPrefixOf];rw[zaZ];simp;exact⟨λh=>⟨h.1.symm,h.2.symm⟩,λh=>⟨h.1.symm,h.2.symm⟩⟩
theorem sL (x y c:UInt8):Θ [c] [x,y]=false:=by simp[Θ,List.isPrefixOf]
theorem sM (x y:UInt8):Θ [] [x,y]=false:=by simp[Θ,List.isPrefixOf]
theorem yl {y:UInt8}(h:Θ l [x,y]=true):2≤l.length:=by
 match l,h with
 |c::d::r,_=>simp
 |[c],h=>rw[sL]at h;cases h
 |[],h=>rw[sM]at h;cases h
theorem oI:∀l:List UInt8,cN l=Θ l [35,124]
 |[]=>by rw[sM];rfl
 |[c]=>by rw[sL];rfl
 |c::d::r=>by rw[PE];rfl
theorem L6 {o:Nat}:∀{l:List UInt8},Θ l [35,124]=true→bI o l=((bI (o+1) (l.drop 2)).1+2,(bI (o+1) (l.drop 2)).2)
 |[],h=>by rw[sM]at h;cases h
 |[c],h=>by rw[sL]at h;cases h
 |c::d::r,h=>by
  rw[PE,zaK]at h;rw[bI,zab h];rfl
theorem Io {o:Nat}:∀{l:List UInt8},Θ l [35,124]=false→Θ l [124,35]=true→bI o l=if o≤1 then(2,true)else((bI (o-1) (l.drop 2)).1+2,(bI (o-1) (l.drop 2)).2)
 |[],_,h=>by rw[sM]at h;cases h
 |[c],_,h=>by rw[sL]at h;cases h
 |c::d::r,h1,h=>by
  rw[PE,zbW]at h1;rw[PE,zaK]at h;rw[bI,zaa h1,zab h];rfl
theorem L8 {o:Nat}:∀{l:List UInt8},Θ l [35,124]=false→Θ l [124,35]=false→l≠[]→bI o l=((bI o (l.drop 1)).1+1,(bI o (l.drop 1)).2)
 |[],_,_,h=>absurd rfl h
 |[c],_,_,_=>by simp[bI]
 |c::d::r,h1,h,_=>by
  rw[PE,zbW]at h1 h;rw[bI,zaa h1,zaa h];rfl
theorem ym (s:ByteArray)(a:Nat)(w:Ξ)(hs:s.size≤1000000)(hh:cN (s.data.toList.drop a)=true):ζ prog 76 #[.string s,Γ Δ a] w λe w'=>e=.returned (.tuple #[Γ Δ ((a:Int)+(bI 0 (s.data.toList.drop a)).1),.bool (bI 0 (s.data.toList.drop a)).2])∧w'=w:=by
 have NF:Hid (Θ (s.data.toList.drop a) [35,124]=true):=by rw[←oI];exact hh
 have ha:a+2≤s.size:=by have:=yl NF.out;rw[zau,bR]at this;omega
 clear hh;go_enter func76,ntmps76;go_wp2_with fail;go_loop [1,6] (λi d=>∃k o:Nat,a≤k∧k≤s.size∧o≤k∧((k=a∧o=0)∨1≤o)∧i=Γ Δ k∧d=Γ Δ o∧Hid ((a:Int)+(bI 0 (s.data.toList.drop a)).1=(k:Int)+(bI o (s.data.toList.drop k)).1∧(bI 0 (s.data.toList.drop a)).2=(bI o (s.data.toList.drop k)).2)) (λi _=>s.size-(η i).toNat)
 case atStart=>exact⟨a,0,zac _,by omega,by omega,.inl ⟨rfl,rfl⟩,rfl,rfl,rfl,rfl⟩
 case round=>
  obtain⟨k,o,G0,hk,cG,ho,rfl,rfl,hr⟩:=hrel;by_cases hlt:k<s.size
  ·have hne:Hid (s.data.toList.drop k≠[]):=by
    intro h;have:=zak θ h;rw[zau,bR]at this;simp at this;omega
   cases Ag:Θ (s.data.toList.drop k) [35,124]
   ·have aaX:Hid (Θ (s.data.toList.drop k) [35,124]=false):=Ag;have WO:1≤o:=by
     rcases ho with⟨rfl,rfl⟩|h
     ·rw[NF.out]at Ag;cases Ag
     ·exact h
    cases PF:Θ (s.data.toList.drop k) [124,35]
    ·have H:Hid _:=L8 (o:=o) Ag PF hne.out;go_wp2_with fail;refine(Tryz.strings_HasPrefix _ _ _).mono ?_;rintro e w' ⟨rfl,rfl⟩;rw[oH,aaX.out];go_wp2_with fail;refine(Tryz.strings_HasPrefix _ _ _).mono ?_;rintro e w' ⟨rfl,rfl⟩;rw[oH,show Θ (s.data.toList.drop k) [124,35]=false from PF];go_wp2_with fail
     go_round
     case rel=>exact⟨k+1,o,by omega,by omega,by omega,.inr WO,by go_num,rfl,by
      have h1:=hr.out;rw[H.out,zcn]at h1;exact⟨by rw[h1.1];simp;omega,h1.2⟩⟩
     case measure=>simp[η];omega
    ·have hl2:=yl PF;rw[zau,bR]at hl2;have H:Hid _:=Io (o:=o) Ag PF;go_wp2_with fail;refine(Tryz.strings_HasPrefix _ _ _).mono ?_;rintro e w' ⟨rfl,rfl⟩;rw[oH,aaX.out];go_wp2_with fail;refine(Tryz.strings_HasPrefix _ _ _).mono ?_;rintro e w' ⟨rfl,rfl⟩;rw[oH,show Θ (s.data.toList.drop k) [124,35]=true from PF];by_cases ho2:o=1
     ·subst ho2;go_wp2_with fail;go_ret2;have h1:=hr.out;rw[H.out]at h1;refine⟨?_,rfl⟩;rw[h1.1,h1.2];simp
     ·go_wp2_with fail
      go_round
      case rel=>exact⟨k+2,o-1,by omega,by omega,by omega,.inr (by omega),by go_num,by go_num,by
       have h1:=hr.out;rw[H.out,zaa (by omega),zcn]at h1;exact⟨by rw[h1.1];simp;omega,h1.2⟩⟩
      case measure=>simp[η];omega
   ·have hl2:=yl Ag;rw[zau,bR]at hl2;have H:Hid _:=L6 (o:=o) Ag;go_wp2_with fail;refine(Tryz.strings_HasPrefix _ _ _).mono ?_;rintro e w' ⟨rfl,rfl⟩;rw[oH,show Θ (s.data.toList.drop k) [35,124]=true from Ag];go_wp2_with fail
    go_round
    case rel=>exact⟨k+2,o+1,by omega,by omega,by omega,.inr (by omega),by go_num,by go_num,by
     have h1:=hr.out;rw[H.out,zcn]at h1;exact⟨by rw[h1.1];simp;omega,h1.2⟩⟩
    case measure=>simp[η];omega
  ·have eF:k=s.size:=by omega
   have hd:s.data.toList.drop k=[]:=by rw[eF,←bR];exact List.drop_length
   have h1:=hr.out;rw[hd]at h1;have H:Hid _:=h1;clear h1 hd;go_wp2_with fail;go_ret2;refine⟨?_,rfl⟩;rw[H.out.1,H.out.2];simp[bI];try omega
theorem sN:dB n b []=(0,b):=by cases n<;>rfl
theorem rj {o:Nat}(h:cN l=true):0<(bI o l).1:=by have:=uj o l h;omega
theorem jx:∀(n m:Nat) (b:Bool) (l:List UInt8),l.length≤n→l.length≤m→dB n b l=dB m b l
 |0,m,b,l,h,_=>by
  have:l=[]:=zcf (by omega);subst this;rw[sN,sN]
 |n+1,0,b,l,_,h=>by
  have:l=[]:=zcf (by omega);subst this;rw[sN,sN]
 |n+1,m+1,b,[],_,_=>rfl
 |n+1,m+1,b,c::r,h1,h2=>by
  simp only[zar]at h1 h2;have e1:=jx n m b r (by omega) (by omega);have e2:=jx n m b (r.drop (dP r)) (by rw[zau];omega) (by rw[zau];omega);rw[dB,dB,e1,e2];by_cases hh:cN (c::r)=true
  ·have hp:=rj (o:=0) hh;have e3:=jx n m (bI 0 (c::r)).2 ((c::r).drop (bI 0 (c::r)).1) (by rw[zau,zar];omega) (by rw[zau,zar];omega);rw[e3]
  ·simp only[zaa hh]
def u7 (b:Bool)(l:List UInt8):Nat×Bool:=dB l.length b l
theorem YB:u7 b []=(0,b):=rfl
theorem PG (h:gH c=true):u7 b (c::r)=((u7 b r).1+1,(u7 b r).2):=by
 unfold u7;rw[zar,dB,zab h]
theorem Ue (h:gH c=false)(h2:c.toNat=59):u7 b (c::r)=((u7 b (r.drop (dP r))).1+(dP r+1),(u7 b (r.drop (dP r))).2):=by
 unfold u7;rw[zar,dB,zaa (by rw[h];simp),zab h2];have e:=jx r.length (r.drop (dP r)).length b (r.drop (dP r)) (by rw[zau];omega) (zac _);rw[e]
theorem Uf (h:gH c=false)(h2:c.toNat≠59)(h3:cN (c::r)=true):u7 b (c::r)=((u7 (bI 0 (c::r)).2 ((c::r).drop (bI 0 (c::r)).1)).1+(bI 0 (c::r)).1,(u7 (bI 0 (c::r)).2 ((c::r).drop (bI 0 (c::r)).1)).2):=by
 unfold u7;rw[zar,dB,zaa (by rw[h];simp),zaa h2,zab h3];have hp:=rj (o:=0) h3;have e:=jx r.length ((c::r).drop (bI 0 (c::r)).1).length (bI 0 (c::r)).2 ((c::r).drop (bI 0 (c::r)).1) (by rw[zau,zar];omega) (zac _);rw[e]
theorem Ug (h:gH c=false)(h2:c.toNat≠59)(h3:cN (c::r)=false):u7 b (c::r)=(0,b):=by
 unfold u7;rw[zar,dB,zaa (by rw[h];simp),zaa h2,zaa (by rw[h3];simp)]
theorem L9 (c:UInt8):decide ((c.toNat:Int)=32∨(c.toNat:Int)=9∨(c.toNat:Int)=10)=gH c:=by
 unfold gH;rw[zaZ];simp;omega
theorem drop_cons (s:ByteArray)(k:Nat)(h:k<s.size):s.data.toList.drop k=s[k]::s.data.toList.drop (k+1):=by rw[zcD (by simpa using h)];rfl
theorem jK (s:ByteArray)(a:Nat)(w:Ξ)(hs:s.size≤1000000)(ha:a≤s.size):ζ prog 44 #[.string s,Γ Δ a] w λe w'=>e=.returned (.tuple #[Γ Δ ((a:Int)+(u7 true (s.data.toList.drop a)).1),.bool (u7 true (s.data.toList.drop a)).2])∧w'=w:=by
 go_enter func44,ntmps44;go_wp2_with fail;go_loop [1,6] (λi d=>∃(k:Nat) (b:Bool),a≤k∧k≤s.size∧i=Γ Δ k∧d=.bool b∧Hid ((a:Int)+(u7 true (s.data.toList.drop a)).1=(k:Int)+(u7 b (s.data.toList.drop k)).1∧(u7 true (s.data.toList.drop a)).2=(u7 b (s.data.toList.drop k)).2)) (λi _=>s.size-(η i).toNat)
 case atStart=>exact⟨a,true,zac _,by omega,rfl,rfl,rfl,rfl⟩
 case round=>
  obtain⟨k,b,G0,hk,rfl,rfl,hr⟩:=hrel;by_cases hlt:k<s.size
  ·have hd:Hid _:=drop_cons s k hlt;have hbl:=L9 s[k];cases hb:gH s[k]
   ·rw[hb]at hbl;by_cases Uh:(s[k].toNat :Int)=59
    ·have H:Hid _:=Ue (b:=b) (r:=s.data.toList.drop (k+1)) hb (by omega);have hle:=sG (s.data.toList.drop (k+1));rw[zau,bR]at hle;have aaY:Hid (dP (s.data.toList.drop k)=dP (s.data.toList.drop (k+1))+1):=by
      show _=_;rw[hd.out,dP,zaa (by intro e;rw[e]at Uh;exact absurd Uh (by decide))]
     generalize hm:dP (s.data.toList.drop (k+1))=m at *;go_wp2_with fail;refine(lB _ _).mono ?_;rw[show decide ((59:Int)=32∨(59:Int)=9∨(59:Int)=10)=false from by decide];rintro e w' ⟨rfl,rfl⟩;go_wp2_with fail;refine(Ff _ _ _ hs (by omega)).mono ?_;rw[aaY.out];rintro e w' ⟨rfl,rfl⟩;go_wp2_with fail
     go_round
     case rel=>exact⟨k+(m+1),b,by omega,by omega,by go_num,rfl,by
      have h1:=hr.out;rw[hd.out,H.out,zcn]at h1;rw[show k+1+m=k+(m+1) by omega]at h1;exact⟨by rw[h1.1];simp;omega,h1.2⟩⟩
     case measure=>simp[η];omega
    ·cases hh:cN (s.data.toList.drop k)
     ·have H:Hid _:=Ug (b:=b) (r:=s.data.toList.drop (k+1)) hb (by omega) (by rw[←hd.out];exact hh);have hp:Hid (Θ (s.data.toList.drop k) [35,124]=false):=by rw[←oI];exact hh
      go_wp2_with fail;refine(lB _ _).mono ?_;rw[hbl];rintro e w' ⟨rfl,rfl⟩;go_wp2_with fail;refine(Tryz.strings_HasPrefix _ _ _).mono ?_;rintro e w' ⟨rfl,rfl⟩;rw[oH,hp.out];go_wp2_with fail;go_ret2;have h1:=hr.out;rw[hd.out,H.out]at h1;refine⟨?_,rfl⟩;rw[h1.1,h1.2];simp
     ·have H:Hid _:=Uf (b:=b) (r:=s.data.toList.drop (k+1)) hb (by omega) (by rw[←hd.out];exact hh);have hp:Hid (Θ (s.data.toList.drop k) [35,124]=true):=by rw[←oI];exact hh
      have NF:Hid (cN (s.data.toList.drop k)=true):=hh;have jT:=rj (o:=0) hh;have hle:=EU 0 (s.data.toList.drop k);rw[zau,bR]at hle;have HH:Hid _:=H.out;rw[←hd.out]at HH;clear H;generalize hm:bI 0 (s.data.toList.drop k)=cm at *;have ND:Hid _:=hm;clear hm;go_wp2_with fail;refine(lB _ _).mono ?_;rw[hbl];rintro e w' ⟨rfl,rfl⟩;go_wp2_with fail;refine(Tryz.strings_HasPrefix _ _ _).mono ?_;rintro e w' ⟨rfl,rfl⟩;rw[oH,hp.out];go_wp2_with fail;refine(ym _ _ _ hs NF.out).mono ?_;rw[ND.out];rintro e w' ⟨rfl,rfl⟩;go_wp2_with fail
      go_round
      case rel=>exact⟨k+cm.1,cm.2,by omega,by omega,by go_num,rfl,by
       have h1:=hr.out;rw[HH.out,zcn]at h1;exact⟨by rw[h1.1];simp;omega,h1.2⟩⟩
      case measure=>simp[η];omega
   ·have H:Hid _:=PG (b:=b) (r:=s.data.toList.drop (k+1)) hb;rw[hb]at hbl;go_wp2_with fail;refine(lB _ _).mono ?_;rw[hbl];rintro e w' ⟨rfl,rfl⟩;go_wp2_with fail
    go_round
    case rel=>exact⟨k+1,b,by omega,by omega,by go_num,rfl,by
     have h1:=hr.out;rw[hd.out,H.out]at h1;exact⟨by rw[h1.1];simp;omega,h1.2⟩⟩
    case measure=>simp[η];omega
  ·have eF:k=s.size:=by omega
   have hd:s.data.toList.drop k=[]:=by rw[eF,←bR];exact List.drop_length
   have h1:=hr.out;rw[hd,YB]at h1;have H:Hid _:=h1;clear h1 hd;go_wp2_with fail;go_ret2;refine⟨?_,rfl⟩;rw[H.out.1,H.out.2];simp;try omega
def bP (t:Tok):Value:= .agg #[Γ Δ t.kind,Γ Δ t.from_,Γ Δ t.gw,.string ⟨⟨t.text⟩⟩,Γ Δ t.n,Γ Δ t.d,Γ Δ t.fault]
theorem jy (a:Nat)(w:Ξ):ζ prog 172 #[Γ Δ a] w λe w'=>e=.returned (bP (bt a))∧Φ w.heap.size w w':=by
 go_enter func172,ntmps172;go_wp2_with fail;exact zao (v:=bP (bt a)) (by simp[results,results172,bP,bt,aH,go_sem]) rfl ⟨rfl,(zad _ _).alloc (zac _) _⟩
theorem uo (s:ByteArray)(w:Ξ):ζ prog 168 #[.string s] w λe w'=>e=.returned (bP (nW s.data.toList))∧Φ w.heap.size w w':=by
 go_enter func168,ntmps168;go_wp2_with fail;exact zao (v:=bP (nW s.data.toList)) (by simp[results,results168,bP,nW,aH,go_sem];try rfl) rfl ⟨rfl,(zad _ _).alloc (zac _) _⟩
theorem PH (t:Tok)(w:Ξ):ζ prog 121 #[bP t] w λe _=>e=.returned (.bool t.lastB):=by
 unfold bP;go_enter func121,ntmps121
 go_wp2
 all_goals
  go_ret;refine aI ?_;unfold Tok.lastB;rw[zaZ];simp;try omega
theorem vd (c:UInt8)(w:Ξ):ζ prog 197 #[.int .u8 (c.toNat:Int)] w λe w'=>e=.returned (.tuple #[.int .u8 (((AB c).getD 0).toNat :Int),.bool (AB c).isSome])∧w'=w:=by
 have key:∀c:UInt8,((c.toNat:Int)=92↔c=92)∧((c.toNat:Int)=34↔c=34)∧((c.toNat:Int)=110↔c=110)∧((c.toNat:Int)=116↔c=116):=by
  intro c;have h:∀n:Nat,n<256→(c.toNat=n↔c=n.toUInt8):=λn hn=>by
   rw[←UInt8.toNat_inj];simp[Nat.mod_eq_of_lt hn]
  have h1:=h 92 (by omega);have h2:=h 34 (by omega);have h3:=h 110 (by omega);have h4:=h 116 (by omega);exact⟨by rw[show(92:UInt8)=Nat.toUInt8 92 from rfl,←h1];omega,by rw[show(34:UInt8)=Nat.toUInt8 34 from rfl,←h2];omega,by rw[show(110:UInt8)=Nat.toUInt8 110 from rfl,←h3];omega,by rw[show(116:UInt8)=Nat.toUInt8 116 from rfl,←h4];omega⟩
 obtain⟨k1,k2,k3,k4⟩:=key c;clear key;by_cases h1:c=92
 ·subst h1;go_enter func197,ntmps197;go_wp2_with fail;go_ret2;exact⟨rfl,rfl⟩
 by_cases h2:c=34
 ·subst h2;go_enter func197,ntmps197;go_wp2_with fail;go_ret2;exact⟨rfl,rfl⟩
 by_cases h3:c=110
 ·subst h3;go_enter func197,ntmps197;go_wp2_with fail;go_ret2;exact⟨rfl,rfl⟩
 by_cases h4:c=116
 ·subst h4;go_enter func197,ntmps197;go_wp2_with fail;go_ret2;exact⟨rfl,rfl⟩
 have e:AB c=none:=by unfold AB;rw[zaa (by simp[h1,h2]),zaa h3,zaa h4]
 rw[e];have q1:((c.toNat:Int)==92)=false:=by rw[zah];exact λh=>h1 (k1.1 h)
 have q2:((c.toNat:Int)==34)=false:=by rw[zah];exact λh=>h2 (k2.1 h)
 have q3:((c.toNat:Int)==110)=false:=by rw[zah];exact λh=>h3 (k3.1 h)
 have q4:((c.toNat:Int)==116)=false:=by rw[zah];exact λh=>h4 (k4.1 h)
 clear k1 k2 k3 k4 h1 h2 h3 h4 e;go_enter func197,ntmps197;go_wp2_with fail;go_ret2;exact⟨rfl,rfl⟩
theorem pL (x:ByteArray):x.toList=x.data.toList:=by cases x with|mk d=>cases d with|mk l=>exact mo l
theorem Ma (l:List UInt8)(k:Nat):hasName (k:Int)=true→nameOf (k:Int)=l→gG l=k:=by
 intro h1 h2;unfold hasName at h1;simp at h1;unfold nameOf at h2;rcases h1 with h|h|h|h|h|h<;>(rw[h]at h2 ⊢;simp at h2;subst h2;decide)
theorem Mb (l:List UInt8)(h:0≤gG l):hasName (gG l)=true∧nameOf (gG l)=l∧gG l<128:=by
 unfold gG at h ⊢;repeat' split
 all_goals first
  |(simp_all;done)
  |(subst_vars;decide)
theorem yn (s:ByteArray)(w:Ξ):ζ prog 223 #[.string s] w λe w'=>e=.returned (.tuple #[Γ Δ ((nN s.data.toList).getD 0),.bool (nN s.data.toList).isSome])∧w'=w:=by
 have hc:Hid (∀k:Nat,hasName (k:Int)=true→nameOf (k:Int)=s.data.toList→nN s.data.toList=some (k:Int)):=λk h1 h2=>by
  have:=Ma _ k h1 h2;unfold nN;rw[this,zab (by omega)]
 have hn:Hid (0≤gG s.data.toList→hasName (gG s.data.toList)=true∧nameOf (gG s.data.toList)=s.data.toList∧gG s.data.toList<128):=Mb _;go_enter func223,ntmps223;go_wp2_with fail;go_loop [7] (λi=>∃k:Nat,k≤128∧i=Γ Δ k∧Hid (∀j:Nat,j<k→¬(hasName (j:Int)=true∧nameOf (j:Int)=s.data.toList))) (λi=>128-(η i).toNat)
 case atStart=>exact⟨0,by omega,rfl,λj hj=>by omega⟩
 case round=>
  obtain⟨k,hk,rfl,hr⟩:=hrel;by_cases hlt:k<128
  ·cases hb:hasName (k:Int)
   ·go_wp2_with fail;refine(ic _ _).mono ?_;rw[hb];rintro e w' ⟨rfl,rfl⟩;go_wp2_with fail
    go_round
    case rel=>exact⟨k+1,by omega,by go_num,λj hj h=>by
     by_cases e:j=k
     ·subst e;rw[hb]at h;cases h.1
     ·exact hr.out j (by omega) h⟩
    case measure=>simp[η];omega
   ·by_cases he:nameOf (k:Int)=s.data.toList
    ·have hq:=hc.out k hb he;have TQ:(nameOf (k:Int)==s.toList)=true:=by rw[pL,he,zaJ]
     go_wp2_with fail;refine(ic _ _).mono ?_;rw[hb];rintro e w' ⟨rfl,rfl⟩;go_wp2_with fail;go_ret2;refine⟨?_,rfl⟩;rw[hq];rfl
    ·have TQ:(nameOf (k:Int)==s.toList)=false:=by
      rw[pL,zah];exact he
     go_wp2_with fail;refine(ic _ _).mono ?_;rw[hb];rintro e w' ⟨rfl,rfl⟩;go_wp2_with fail
     go_round
     case rel=>exact⟨k+1,by omega,by go_num,λj hj h=>by
      by_cases e:j=k
      ·subst e;exact he h.2
      ·exact hr.out j (by omega) h⟩
     case measure=>simp[η];omega
  ·have hq:nN s.data.toList=none:=by
    unfold nN;rw[zaa];intro h;obtain⟨h1,h2,h3⟩:=hn.out h;obtain⟨m,hm⟩:=zbq h;rw[hm]at h1 h2 h3;exact hr.out m (by omega) ⟨h1,h2⟩
   have hq':Hid _:=hq;clear hq;go_wp2_with fail;go_ret2;refine⟨?_,rfl⟩;rw[hq'.out];rfl
theorem jX (n d:Int)(w:Ξ):ζ prog 227 #[Γ Δ n,Γ Δ d] w λe w'=>e=.returned (Γ Δ (if 1000000<n∨1000000<d then 7 else if d=0 then 3 else 0))∧w'=w:=by
 go_enter func227,ntmps227
 go_wp2
 all_goals
  go_ret;refine⟨iO ?_,rfl⟩;simp_all;try omega
theorem lC (l:List UInt8)(c:UInt8)(n:Int):dT n (l++[c])=min (dT n l*10+((c.toNat:Int)-48)) 1000001:=by
 simp[dT]
theorem uq:∀(l:List UInt8) (n:Int),0≤n→n≤1000001→l.all (λc=>cF (c.toNat:Int))=true→0≤dT n l∧dT n l≤1000001
 |[],n,h1,h2,_=>⟨h1,h2⟩
 |c::r,n,h1,h2,h3=>by
  simp only[zap,zae]at h3;have hd:48≤(c.toNat:Int):=by have:=h3.1;unfold cF at this;simp at this;omega
  show 0≤dT (min (n*10+((c.toNat:Int)-48)) 1000001) r∧dT (min (n*10+((c.toNat:Int)-48)) 1000001) r≤1000001;exact uq r _ (by omega) (by omega) h3.2
theorem fE (s:ByteArray)(w:Ξ)(hs:s.size≤1000000)(hd:s.data.toList.all (λc=>cF (c.toNat:Int))=true):ζ prog 224 #[.string s] w λe w'=>e=.returned (Γ Δ (aK s.data.toList))∧w'=w:=by
 have hdg:Hid (∀k (h:k<s.size),48≤(s[k].toNat :Int)∧(s[k].toNat :Int)≤57):=λk h=>by
  rw[zaC]at hd;have:=hd s[k] (by exact zbx (l:=s.data.toList) (n:=k) h);unfold cF at this;simpa using this
 have vL:Hid (∀k,0≤aK (s.data.toList.take k)∧aK (s.data.toList.take k)≤1000001):=λk=>uq _ 0 (by omega) (by omega) (by
  rw[zaC]at hd ⊢;exact λx hx=>hd x (List.mem_of_mem_take hx))
 clear hd;go_enter func224,ntmps224;go_wp2_with fail;go_loop [7,3] (λi n=>∃k:Nat,k≤s.size∧i=Γ Δ k∧n=Γ Δ (aK (s.data.toList.take k))) (λi _=>s.size-(η i).toNat)
 case atStart=>exact⟨0,by omega,rfl,rfl⟩
 case round=>
  obtain⟨k,hk,rfl,rfl⟩:=hrel;by_cases hlt:k<s.size
  ·obtain⟨d1,d2⟩:=hdg.out k hlt;obtain⟨b1,b2⟩:=vL.out k;have hst:Hid (aK (s.data.toList.take (k+1))=min (aK (s.data.toList.take k)*10+((s[k].toNat :Int)-48)) 1000001):=by
    show _=_;rw[L5 s k hlt];exact lC _ _ 0
   generalize aK (s.data.toList.take k)=m at *;generalize hx:(s[k].toNat :Int)=x at *;go_wp2_with fail
   go_round
   case rel=>exact⟨k+1,by omega,by go_num,by rw[hst.out];try (congr 1;omega)⟩
   case measure=>simp[η];omega
  ·have hf:Hid (s.data.toList.take k=s.data.toList):=Pz s k (by omega);go_wp2_with fail;go_ret;refine⟨iO ?_,rfl⟩;rw[hf.out]
theorem BB:∀l:List UInt8,(Λ l 47=-1∧jV l=none)∨∃k:Nat,Λ l 47=(k:Int)∧k<l.length∧jV l=some (l.take k,l.drop (k+1))
 |[]=> .inl ⟨rfl,rfl⟩
 |c::r=>by
  unfold Λ jV;by_cases hc:c=47
  ·subst hc;exact .inr ⟨0,by simp,by simp,by simp⟩
  ·have hc':(c==47)=false:=by simpa using hc
   have hn:¬c.toNat=47:=λh=>hc (by rw[←UInt8.toNat_inj];exact h);rw[hc',zaa hn];simp only[zaU,if_false];rcases BB r with⟨h1,h2⟩|⟨k,h1,h2,h3⟩
   ·left;rw[h1,h2];simp
   ·right;refine⟨k+1,?_,by simp;omega,?_⟩
    ·rw[h1];have:((k:Int)==-1)=false:=by rw[zah];omega
     rw[this];simp
    ·rw[h3];simp
theorem C5 (s:ByteArray)(w:Ξ)(h:Λ s.data.toList 47=-1):ζ prog 243 #[.string s,.string ⟨#[47]⟩] w λe w'=>e=.returned (.tuple #[.string s,.string ⟨#[]⟩,.bool false])∧∃n,w'=w.drewN n:=by
 go_enter func243,ntmps243;go_wp2_with (go_at_call 247;refine(Tryz.stringslite_Index_one _ _ _).mono ?_;rintro e w' ⟨rfl,rfl⟩;rw[h])
 go_ret3
 exact⟨rfl,0,rfl⟩
theorem Fg (s:ByteArray)(k:Nat)(w:Ξ)(h:Λ s.data.toList 47=(k:Int))(hk:k<s.size)(hs:s.size≤1000000):ζ prog 243 #[.string s,.string ⟨#[47]⟩] w λe w'=>e=.returned (.tuple #[.string (s.extract 0 k),.string (s.extract (k+1) s.size),.bool true])∧∃n,w'=w.drewN n:=by
 have c1:(0:Int)≤↑k:=by omega
 have c2:(↑k:Int)≤↑s.size:=by omega
 have c3:(0:Int)≤↑k+1:=by omega
 have c4:(↑k+1:Int)≤↑s.size:=by omega
 have mixed:prog.follows Departure.mixedOrders=true:=by kernel_rfl
 go_enter func243,ntmps243;go_wp2_with (go_at_call 247;refine(Tryz.stringslite_Index_one _ _ _).mono ?_;rintro e w' ⟨rfl,rfl⟩;rw[h])
 go_region_o
 go_wp2
 go_ret3
 exact⟨rfl,1,rfl⟩
theorem PK (s:ByteArray)(w:Ξ)(h:Λ s.data.toList 47=-1):ζ prog 225 #[.string s,.string ⟨#[47]⟩] w λe w'=>e=.returned (.tuple #[.string s,.string ⟨#[]⟩,.bool false])∧∃n,w'=w.drewN n:=by
 go_enter func225,ntmps225;go_wp2_with (go_at_call 243;refine(C5 _ _ h).mono ?_;rintro e w' ⟨rfl,n,rfl⟩)
 go_ret3
 exact⟨rfl,n,rfl⟩
theorem Ui (s:ByteArray)(k:Nat)(w:Ξ)(h:Λ s.data.toList 47=(k:Int))(hk:k<s.size)(hs:s.size≤1000000):ζ prog 225 #[.string s,.string ⟨#[47]⟩] w λe w'=>e=.returned (.tuple #[.string (s.extract 0 k),.string (s.extract (k+1) s.size),.bool true])∧∃n,w'=w.drewN n:=by
 go_enter func225,ntmps225;go_wp2_with (go_at_call 243;refine(Fg _ _ _ h hk hs).mono ?_;rintro e w' ⟨rfl,n,rfl⟩)
 go_ret3
 exact⟨rfl,n,rfl⟩
theorem dI (s:ByteArray)(w:Ξ)(hs:s.size≤1000000):ζ prog 226 #[.string s] w λe w'=>e=.returned (.bool (dE s.data.toList))∧w'=w:=by
 have hr:Hid (decide (aT cF s.data.toList=s.data.toList.length)=s.data.toList.all (λc=>cF (c.toNat:Int))):=ET cF _;have hle:=jC cF s.data.toList;rw[bR]at hle;by_cases h0:s.data.toList=[]
 ·have Au:s.toList=[]:=by rw[pL,h0]
  have SQ:(s.toList==[])=true:=by rw[Au];rfl
  have hf:Hid (dE s.data.toList=false):=by show _=_;rw[h0];rfl
  clear h0;go_enter func226,ntmps226;go_wp2_with fail;all_goals
   go_ret;exact⟨aI hf.out.symm,rfl⟩
 ·have Au:¬s.toList=[]:=by rw[pL];exact h0
  have SQ:(s.toList==[])=false:=by rw[zah];exact Au
  have hf:Hid (dE s.data.toList=decide ((aT cF s.data.toList:Int)=s.size)):=by
   show _=_;unfold dE;rw[←hr.out,bR];have:s.data.toList.isEmpty=false:=by simpa using h0
   rw[this,zaZ];simp;omega
  clear h0 hr;go_enter func226,ntmps226;go_wp2_with (go_at_call 148;refine(fD _ _ _ (by unfold Ω;omega) (by omega) (by omega)).mono ?_;rintro e w' ⟨rfl,rfl⟩;simp only[Int.toNat_zero,zbu,Int.zero_add]);all_goals
   go_ret;refine⟨aI ?_,rfl⟩;rw[hf.out];try (rw[zaZ];simp)
def gN (neg:Bool)(a b:List UInt8):Option (Int×Int×Int):=
 if dE a&&dE b then
  (if 1000000<aK a∨1000000<aK b then some (0,0,7)
   else if aK b=0 then some (0,0,3)
   else some ((if neg then -aK a else aK a).tdiv (Int.gcd (if neg then -aK a else aK a) (aK b)),aK b/(Int.gcd (if neg then -aK a else aK a) (aK b)),0))
 else none
theorem AK (h:jV l=none):numberOf neg l=gN neg l [49]:=by
 unfold numberOf gN;rw[h];rfl
theorem C6 {a b:List UInt8}(h:jV l=some (a,b)):numberOf neg l=gN neg a b:=by
 unfold numberOf gN;rw[h];rfl
def Ip:Option (Int×Int×Int)→Tok
 |none=>⟨0,0,0,[],0,0,0⟩
 |some (n,d,f)=>⟨13,0,0,[],n,d,f⟩
theorem yq (h:dE l=true):l.all (λc=>cF (c.toNat:Int))=true:=by
 unfold dE at h;rw[zae]at h;exact h.2
theorem PL {a b:List UInt8}(h:dE a=false):gN neg a b=none:=by unfold gN;rw[h];rfl
theorem PM {a b:List UInt8}(h:dE b=false):gN neg a b=none:=by unfold gN;rw[h];simp
theorem adD {a b:List UInt8}(h1:dE a=true)(h2:dE b=true)(h:1000000<aK a∨1000000<aK b):gN neg a b=some (0,0,7):=by unfold gN;rw[h1,h2,zbZ,zab rfl,zab h]
theorem adE {a b:List UInt8}(h1:dE a=true)(h2:dE b=true)(h:¬(1000000<aK a∨1000000<aK b))(h3:aK b=0):gN neg a b=some (0,0,3):=by unfold gN;rw[h1,h2,zbZ,zab rfl,zaa h,zab h3]
theorem adF {a b:List UInt8}{m d:Int}(h1:dE a=true)(h2:dE b=true)(h:¬(1000000<aK a∨1000000<aK b))(h3:¬aK b=0)(hm:(if neg then -aK a else aK a)=m)(hd:aK b=d):gN neg a b=some (m.tdiv (Int.gcd m d),d/(Int.gcd m d),0):=by subst hm hd;unfold gN;rw[h1,h2,zbZ,zab rfl,zaa h,zaa h3]
theorem yu (h:dE l=true):0≤aK l∧aK l≤1000001:=uq l 0 (by omega) (by omega) (yq h)
theorem PN (h:c.toNat=n)(m:Int)(hm:(n:Int)=m):((c.toNat:Int)==m)=true:=by rw[h,hm];simp
theorem Kg (h:¬c.toNat=n)(m:Int)(hm:(n:Int)=m):((c.toNat:Int)==m)=false:=by rw[zah];omega
section
attribute [local go_sem] wK yj sJ wL mo
theorem Fh (neg dv:Bool)(c:UInt8)(r:List UInt8)(R a b0 b:ByteArray)(w:Ξ)(hs:r.length+1≤1000000)
 (hsg:(neg=true∧c.toNat=45∧R=⟨⟨r⟩⟩)∨(neg=false∧c.toNat=43∧R=⟨⟨r⟩⟩)∨(neg=false∧(¬c.toNat=45∧¬c.toNat=43)∧R=⟨⟨c::r⟩⟩))
 (hcut:∀w,ζ prog 225 #[.string R,.string ⟨#[47]⟩] w λe w'=>e=.returned (.tuple #[.string a,.string b0,.bool dv])∧∃n,w'=w.drewN n)
 (hb:(dv=true∧b0=b)∨(dv=false∧(⟨#[49]⟩:ByteArray)=b))(has:a.size≤1000000)(Ny:b.size≤1000000):
 ζ prog 201 #[.string ⟨⟨c::r⟩⟩] w λe w'=>e=.returned (.tuple #[bP (Ip (gN neg a.data.toList b.data.toList)),.bool (gN neg a.data.toList b.data.toList).isSome])∧Φ w.heap.size w w':=by
 have hsz:(ByteArray.mk (Array.mk (c::r))).size=r.length+1:=rfl;have aaj:(ByteArray.mk (Array.mk r)).size=r.length:=rfl;obtain⟨m,hm⟩:∃m,(if neg then -aK a.data.toList else aK a.data.toList)=m:=⟨_,rfl⟩;have N1:Hid (_→gN neg a.data.toList b.data.toList=_):=PL;have N2:Hid (_→gN neg a.data.toList b.data.toList=_):=PM;have N7:Hid (_→_→_→gN neg a.data.toList b.data.toList=_):=adD;have N3:Hid (_→_→_→_→gN neg a.data.toList b.data.toList=_):=adE;have N0:Hid (_→_→_→_→gN neg a.data.toList b.data.toList=_):=λh1 h2 h3 h4=>adF h1 h2 h3 h4 hm rfl;have HC:Hid _:=hcut;clear hcut;rcases hsg with⟨rfl,hc,rfl⟩|⟨rfl,hc,rfl⟩|⟨rfl,hc,rfl⟩
 case' inl=>have q1:=PN hc 45 rfl
 case' inr.inl=>
  have q1:((c.toNat:Int)==45)=false:=by rw[zah];omega
  have q2:=PN hc 43 rfl
 case' inr.inr=>
  have q1:=Kg hc.1 45 rfl;have q2:=Kg hc.2 43 rfl
 all_goals
  clear hc;simp only[if_true,if_false,zaU]at hm;subst hm;rcases hb with⟨rfl,hB⟩|⟨rfl,hB⟩
  all_goals
   have HB:Hid _:=hB;clear hB;cases d1:dE a.data.toList
   ·have H:Hid _:=N1.out d1;clear N1 N2 N7 N3 N0;go_enter func201,ntmps201;go_wp2_with fail;refine(HC.out _).mono ?_;rintro e w' ⟨rfl,n,rfl⟩;go_wp2_with fail;rw[HB.out];refine(dI _ _ has).mono ?_;rw[show dE a.data.toList=_ from d1];rintro e w' ⟨rfl,rfl⟩;go_wp2_with fail;refine zao (v:= .tuple #[bP ⟨0,0,0,[],0,0,0⟩,.bool false]) (by simp[results,results201,bP,go_sem]) rfl ⟨?_,?_⟩
    ·rw[H.out];rfl
    ·(repeat (first|with_reducible refine zaG ?_ (by simp) _|with_reducible refine zbf ?_ _|with_reducible refine zaH ?_ (by simp) _));with_reducible exact zad _ _
   obtain⟨d2v,d2⟩:∃v,dE b.data.toList=v:=⟨_,rfl⟩;cases d2v
   ·have H:Hid _:=N2.out d2;clear N1 N2 N7 N3 N0;go_enter func201,ntmps201;go_wp2_with fail;refine(HC.out _).mono ?_;rintro e w' ⟨rfl,n,rfl⟩;go_wp2_with fail;rw[HB.out];refine(dI _ _ has).mono ?_;rw[show dE a.data.toList=_ from d1];rintro e w' ⟨rfl,rfl⟩;go_wp2_with fail;refine(dI _ _ Ny).mono ?_;rw[show dE b.data.toList=_ from d2];rintro e w' ⟨rfl,rfl⟩;go_wp2_with fail;refine zao (v:= .tuple #[bP ⟨0,0,0,[],0,0,0⟩,.bool false]) (by simp[results,results201,bP,go_sem]) rfl ⟨?_,?_⟩
    ·rw[H.out];rfl
    ·(repeat (first|with_reducible refine zaG ?_ (by simp) _|with_reducible refine zbf ?_ _|with_reducible refine zaH ?_ (by simp) _));with_reducible exact zad _ _
   obtain⟨n1,n2⟩:=yu d1;obtain⟨m1,m2⟩:=yu d2;have D1:Hid _:=yq d1;have D2:Hid _:=yq d2;by_cases h7:1000000<aK a.data.toList∨1000000<aK b.data.toList
   ·have H:Hid _:=N7.out d1 d2 h7;have hf:Hid (_=(7:Int)):=(zab h7:(if 1000000<aK a.data.toList∨1000000<aK b.data.toList then(7:Int)else if aK b.data.toList=0 then 3 else 0)=7);clear h7 N1 N2 N7 N3 N0;go_enter func201,ntmps201;go_wp2_with fail;refine(HC.out _).mono ?_;rintro e w' ⟨rfl,n,rfl⟩;go_wp2_with fail;rw[HB.out];refine(dI _ _ has).mono ?_;rw[show dE a.data.toList=_ from d1];rintro e w' ⟨rfl,rfl⟩;go_wp2_with fail;refine(dI _ _ Ny).mono ?_;rw[show dE b.data.toList=_ from d2];rintro e w' ⟨rfl,rfl⟩;go_wp2_with fail;refine(fE _ _ has D1.out).mono ?_;rintro e w' ⟨rfl,rfl⟩;go_wp2_with fail;refine(fE _ _ Ny D2.out).mono ?_;rintro e w' ⟨rfl,rfl⟩;go_wp2_with fail;refine(jX _ _ _).mono ?_;rw[hf.out];rintro e w' ⟨rfl,rfl⟩;go_wp2_with fail;refine zao (v:= .tuple #[bP ⟨13,0,0,[],0,0,7⟩,.bool true]) (by simp[results,results201,bP,go_sem]) rfl ⟨?_,?_⟩
    ·rw[H.out];rfl
    ·(repeat (first|with_reducible refine zaG ?_ (by simp) _|with_reducible refine zbf ?_ _|with_reducible refine zaH ?_ (by simp) _));with_reducible exact zad _ _
   by_cases h3:aK b.data.toList=0
   ·have H:Hid _:=N3.out d1 d2 h7 h3;have hf:Hid ((if 1000000<aK a.data.toList∨1000000<aK b.data.toList then(7:Int)else if aK b.data.toList=0 then 3 else 0)=3):=by show _=_;rw[zaa h7,zab h3]
    clear h7 h3 N1 N2 N7 N3 N0;go_enter func201,ntmps201;go_wp2_with fail;refine(HC.out _).mono ?_;rintro e w' ⟨rfl,n,rfl⟩;go_wp2_with fail;rw[HB.out];refine(dI _ _ has).mono ?_;rw[show dE a.data.toList=_ from d1];rintro e w' ⟨rfl,rfl⟩;go_wp2_with fail;refine(dI _ _ Ny).mono ?_;rw[show dE b.data.toList=_ from d2];rintro e w' ⟨rfl,rfl⟩;go_wp2_with fail;refine(fE _ _ has D1.out).mono ?_;rintro e w' ⟨rfl,rfl⟩;go_wp2_with fail;refine(fE _ _ Ny D2.out).mono ?_;rintro e w' ⟨rfl,rfl⟩;go_wp2_with fail;refine(jX _ _ _).mono ?_;rw[hf.out];rintro e w' ⟨rfl,rfl⟩;go_wp2_with fail;refine zao (v:= .tuple #[bP ⟨13,0,0,[],0,0,3⟩,.bool true]) (by simp[results,results201,bP,go_sem]) rfl ⟨?_,?_⟩
    ·rw[H.out];rfl
    ·(repeat (first|with_reducible refine zaG ?_ (by simp) _|with_reducible refine zbf ?_ _|with_reducible refine zaH ?_ (by simp) _));with_reducible exact zad _ _
   have H:Hid _:=N0.out d1 d2 h7 h3;have hf:Hid ((if 1000000<aK a.data.toList∨1000000<aK b.data.toList then(7:Int)else if aK b.data.toList=0 then 3 else 0)=0):=by show _=_;rw[zaa h7,zaa h3]
   have t1:aK a.data.toList≤1000000:=by omega
   have t2:1≤aK b.data.toList:=by omega
   have t3:aK b.data.toList≤1000000:=by omega
   clear h7 h3 N1 N2 N7 N3 N0;go_enter func201,ntmps201;go_wp2_with fail;refine(HC.out _).mono ?_;rintro e w' ⟨rfl,n,rfl⟩;go_wp2_with fail;rw[HB.out];refine(dI _ _ has).mono ?_;rw[show dE a.data.toList=_ from d1];rintro e w' ⟨rfl,rfl⟩;go_wp2_with fail;refine(dI _ _ Ny).mono ?_;rw[show dE b.data.toList=_ from d2];rintro e w' ⟨rfl,rfl⟩;go_wp2_with fail;refine(fE _ _ has D1.out).mono ?_;rintro e w' ⟨rfl,rfl⟩;go_wp2_with fail;refine(fE _ _ Ny D2.out).mono ?_;rintro e w' ⟨rfl,rfl⟩;go_wp2_with fail;refine(jX _ _ _).mono ?_;rw[hf.out];rintro e w' ⟨rfl,rfl⟩;go_wp2_with fail;refine(nO _ _ _ (by omega) (by omega) (by omega) (by omega)).mono ?_;rintro e w' ⟨rfl,m,rfl⟩;go_wp2_with fail;refine zao (by simp[results,results201,go_sem];rfl) rfl ⟨?_,?_⟩
   ·rw[H.out];first|rfl|simp[Ip,bP]
   ·(repeat (first|with_reducible refine zaG ?_ (by simp) _|with_reducible refine zbf ?_ _|with_reducible refine zaH ?_ (by simp) _));with_reducible exact zad _ _
end
theorem sO (s:ByteArray)(a b:Nat):(s.extract a b).data.toList=(s.data.toList.drop a).take (b-a):=by
 simp
theorem lD (s:ByteArray)(a b n:Nat)(h:s.size≤n):(s.extract a b).size≤n:=by
 rw[←bR,sO,zcM,zau,bR];omega
theorem AL (c:UInt8)(r:List UInt8)(w:Ξ)(hs:r.length+1≤1000000):ζ prog 201 #[.string ⟨⟨c::r⟩⟩] w λe w'=>e=.returned (.tuple #[bP (Ip (dH (c::r))),.bool (dH (c::r)).isSome])∧Φ w.heap.size w w':=by
 have key:∀(l:List UInt8) (k:Nat),k<l.length→((⟨⟨l⟩⟩:ByteArray).extract 0 k).data.toList=l.take k∧((⟨⟨l⟩⟩:ByteArray).extract (k+1) (⟨⟨l⟩⟩:ByteArray).size).data.toList=l.drop (k+1):=λl k hk=>by
  refine⟨by rw[sO];simp,?_⟩;rw[sO];show(l.drop (k+1)).take (l.length-(k+1))=_;rw[zbJ];rw[zau];exact zac _
 have go:∀(neg:Bool) (l:List UInt8),l.length≤1000000→dH (c::r)=numberOf neg l→((neg=true∧c.toNat=45∧(⟨⟨l⟩⟩:ByteArray)=⟨⟨r⟩⟩)∨(neg=false∧c.toNat=43∧(⟨⟨l⟩⟩:ByteArray)=⟨⟨r⟩⟩)∨(neg=false∧(¬c.toNat=45∧¬c.toNat=43)∧(⟨⟨l⟩⟩:ByteArray)=⟨⟨c::r⟩⟩))→ζ prog 201 #[.string ⟨⟨c::r⟩⟩] w λe w'=>e=.returned (.tuple #[bP (Ip (dH (c::r))),.bool (dH (c::r)).isSome])∧Φ w.heap.size w w':=λneg l hl e hsg=>by
  rw[e];rcases BB l with⟨h1,h2⟩|⟨k,h1,h2,h3⟩
  ·rw[AK h2];exact Fh neg false c r ⟨⟨l⟩⟩ ⟨⟨l⟩⟩ ⟨#[]⟩ ⟨#[49]⟩ w hs hsg (λw=>PK _ w h1) (.inr ⟨rfl,rfl⟩) hl (by decide)
  ·rw[C6 h3,←(key l k h2).1,←(key l k h2).2];exact Fh neg true c r ⟨⟨l⟩⟩ _ _ _ w hs hsg (λw=>Ui _ k w h1 h2 hl) (.inl ⟨rfl,rfl⟩) (lD _ _ _ _ hl) (lD _ _ _ _ hl)
 by_cases h45:c.toNat=45
 ·exact go true r (by omega) (by show(if c.toNat=45 then _ else _)=_;rw[zab h45]) (.inl ⟨rfl,h45,rfl⟩)
 by_cases h43:c.toNat=43
 ·exact go false r (by omega) (by show(if c.toNat=45 then _ else _)=_;rw[zaa h45,zab h43]) (.inr (.inl ⟨rfl,h43,rfl⟩))
 ·exact go false (c::r) (by simp;omega) (by show(if c.toNat=45 then _ else _)=_;rw[zaa h45,zaa h43]) (.inr (.inr ⟨rfl,⟨h45,h43⟩,rfl⟩))
theorem Fi (x:ByteArray)(w:Ξ)(hs:x.size≤1000000)(hne:x.data.toList≠[]):ζ prog 201 #[.string x] w λe w'=>e=.returned (.tuple #[bP (Ip (dH x.data.toList)),.bool (dH x.data.toList).isSome])∧Φ w.heap.size w w':=by
 obtain⟨⟨l⟩⟩:=x;cases l with
 |nil=>exact absurd rfl hne
 |cons c r=>exact AL c r w (by have:(c::r).length≤1000000:=hs;simpa using this)
theorem ur (x:ByteArray)(w:Ξ)(hs:x.size≤1000000)(hne:x.data.toList≠[]):ζ prog 147 #[.string x] w λe w'=>e=.returned (.bool (bX x.data.toList))∧w'=w:=by
 obtain⟨⟨l⟩⟩:=x;cases l with
 |nil=>exact absurd rfl hne
 |cons c r=>exact jw c r w (by have:(c::r).length≤1000000:=hs;unfold Ω;omega)
theorem oJ (s:ByteArray)(a b:Nat):(s.extract a b).data.toList=dL s.data.toList a b:=sO s a b
theorem YC (s:ByteArray)(a b:Nat):(s.extract a b).toList=dL s.data.toList a b:=by rw[pL,oJ]
theorem dt {w1:Ξ}(hb:Φ W.heap.size W w1){b:Nat}{x0 x1 x2 x3 x4 x5 x6:Value}{e:TypeId}(h:W.heap[b]?=some (.cells #[x0,x1,x2,x3,x4,x5,x6] e)):(w1.cell? ⟨b,0,none⟩=some x0∧w1.cell? ⟨b,1,none⟩=some x1∧w1.cell? ⟨b,2,none⟩=some x2∧w1.cell? ⟨b,3,none⟩=some x3∧w1.cell? ⟨b,4,none⟩=some x4∧w1.cell? ⟨b,5,none⟩=some x5∧w1.cell? ⟨b,6,none⟩=some x6)∧(w1.frozen? ⟨b,0,none⟩=false∧w1.frozen? ⟨b,1,none⟩=false∧w1.frozen? ⟨b,2,none⟩=false∧w1.frozen? ⟨b,3,none⟩=false∧w1.frozen? ⟨b,4,none⟩=false∧w1.frozen? ⟨b,5,none⟩=false∧w1.frozen? ⟨b,6,none⟩=false):=by
 have hlt:b<W.heap.size:=(zaj.1 h).1;have h1:w1.heap[b]?=some (.cells #[x0,x1,x2,x3,x4,x5,x6] e):=(hb.block b hlt).trans h;refine⟨⟨?_,?_,?_,?_,?_,?_,?_⟩,?_,?_,?_,?_,?_,?_,?_⟩<;>simp[Ξ.cell?,Ξ.frozen?,h1]
theorem gh {w1:Ξ}(h0:Φ w.heap.size w w1)(v0 v1 v2 v3 v4 v5 v6:Value):Φ w.heap.size w (((((((w1.setCell ⟨w.heap.size,0,none⟩ v0).setCell ⟨w.heap.size,1,none⟩ v1).setCell ⟨w.heap.size,2,none⟩ v2).setCell ⟨w.heap.size,3,none⟩ v3).setCell ⟨w.heap.size,4,none⟩ v4).setCell ⟨w.heap.size,5,none⟩ v5).setCell ⟨w.heap.size,6,none⟩ v6):=
 ((((((h0.setCell (zac _) _).setCell (zac _) _).setCell (zac _) _).setCell (zac _) _).setCell (zac _) _).setCell (zac _) _).setCell (zac _) _
theorem qE (s:ByteArray)(a:Nat)(w:Ξ)(hs:s.size≤1000000)(ha:a<s.size):ζ prog 200 #[.string s,Γ Δ a] w λe w'=>e=.returned (bP (bW s.data.toList a))∧Φ w.heap.size w w':=by
 have hle:=jC bq (s.data.toList.drop (a+1));rw[zau,bR]at hle;have hT:Hid (bW s.data.toList a=if dL s.data.toList (a+1) (a+1+aT bq (s.data.toList.drop (a+1)))=[116]∨dL s.data.toList (a+1) (a+1+aT bq (s.data.toList.drop (a+1)))=[116,114,117,101]then { aH 12 a (a+1+aT bq (s.data.toList.drop (a+1)))with n:=1 } else if dL s.data.toList (a+1) (a+1+aT bq (s.data.toList.drop (a+1)))=[102]∨dL s.data.toList (a+1) (a+1+aT bq (s.data.toList.drop (a+1)))=[102,97,108,115,101]then aH 12 a (a+1+aT bq (s.data.toList.drop (a+1)))else bt a):=rfl;generalize hk:aT bq (s.data.toList.drop (a+1))=k at *;have HK:Hid _:=hk;clear hk;have hc:∀x:List UInt8,((s.extract (a+1) (a+1+k)).toList==x)=decide (dL s.data.toList (a+1) (a+1+k)=x):=λx=>by rw[YC,zaZ];simp
 have q1:=hc [116];have q2:=hc [116,114,117,101];have q3:=hc [102];have q4:=hc [102,97,108,115,101];clear hc;generalize dL s.data.toList (a+1) (a+1+k)=W at *;by_cases c1:W=[116]
 ·have e:Hid (bW s.data.toList a={ aH 12 a (a+1+k)with n:=1 }):=by show _=_;rw[hT.out,zab (.inl c1)]
  rw[zaY c1]at q1;clear q2 q3 q4 c1;clear hT;go_enter func200,ntmps200;go_wp2_with (go_at_call 148;refine(ei _ _ _ (by unfold Ω;omega) (by omega) (by omega)).mono ?_;rintro e w' ⟨rfl,rfl⟩;rw[show((a:Int)+1).toNat=a+1 by omega,HK.out]);refine zao (v:=bP { aH 12 a (a+1+k)with n:=1 }) (by simp[results,results200,bP,aH,go_sem]) rfl ⟨by rw[e.out],?_⟩
  (repeat (first|with_reducible refine zaG ?_ (by simp) _|with_reducible refine zbf ?_ _|with_reducible refine zaH ?_ (by simp) _));with_reducible exact zad _ _
 by_cases c2:W=[116,114,117,101]
 ·have e:Hid (bW s.data.toList a={ aH 12 a (a+1+k)with n:=1 }):=by show _=_;rw[hT.out,zab (.inr c2)]
  rw[zaS c1]at q1;rw[zaY c2]at q2;clear q3 q4 c1 c2;clear hT;go_enter func200,ntmps200;go_wp2_with (go_at_call 148;refine(ei _ _ _ (by unfold Ω;omega) (by omega) (by omega)).mono ?_;rintro e w' ⟨rfl,rfl⟩;rw[show((a:Int)+1).toNat=a+1 by omega,HK.out]);refine zao (v:=bP { aH 12 a (a+1+k)with n:=1 }) (by simp[results,results200,bP,aH,go_sem]) rfl ⟨by rw[e.out],?_⟩
  (repeat (first|with_reducible refine zaG ?_ (by simp) _|with_reducible refine zbf ?_ _|with_reducible refine zaH ?_ (by simp) _));with_reducible exact zad _ _
 by_cases c3:W=[102]
 ·have e:Hid (bW s.data.toList a=aH 12 a (a+1+k)):=by show _=_;rw[hT.out,zaa (by simp[c1,c2]),zab (.inl c3)]
  rw[zaS c1]at q1;rw[zaS c2]at q2;rw[zaY c3]at q3;clear q4 c1 c2 c3;clear hT;go_enter func200,ntmps200;go_wp2_with (go_at_call 148;refine(ei _ _ _ (by unfold Ω;omega) (by omega) (by omega)).mono ?_;rintro e w' ⟨rfl,rfl⟩;rw[show((a:Int)+1).toNat=a+1 by omega,HK.out]);refine zao (v:=bP (aH 12 a (a+1+k))) (by simp[results,results200,bP,aH,go_sem]) rfl ⟨by rw[e.out],?_⟩
  (repeat (first|with_reducible refine zaG ?_ (by simp) _|with_reducible refine zbf ?_ _|with_reducible refine zaH ?_ (by simp) _));with_reducible exact zad _ _
 by_cases c4:W=[102,97,108,115,101]
 ·have e:Hid (bW s.data.toList a=aH 12 a (a+1+k)):=by show _=_;rw[hT.out,zaa (by simp[c1,c2]),zab (.inr c4)]
  rw[zaS c1]at q1;rw[zaS c2]at q2;rw[zaS c3]at q3;rw[zaY c4]at q4;clear c1 c2 c3 c4;clear hT;go_enter func200,ntmps200;go_wp2_with (go_at_call 148;refine(ei _ _ _ (by unfold Ω;omega) (by omega) (by omega)).mono ?_;rintro e w' ⟨rfl,rfl⟩;rw[show((a:Int)+1).toNat=a+1 by omega,HK.out]);refine zao (v:=bP (aH 12 a (a+1+k))) (by simp[results,results200,bP,aH,go_sem]) rfl ⟨by rw[e.out],?_⟩
  (repeat (first|with_reducible refine zaG ?_ (by simp) _|with_reducible refine zbf ?_ _|with_reducible refine zaH ?_ (by simp) _));with_reducible exact zad _ _
 ·have e:Hid (bW s.data.toList a=bt a):=by show _=_;rw[hT.out,zaa (by simp[c1,c2]),zaa (by simp[c3,c4])]
  rw[zaS c1]at q1;rw[zaS c2]at q2;rw[zaS c3]at q3;rw[zaS c4]at q4;clear hT c1 c2 c3 c4;go_enter func200,ntmps200;go_wp2_with (go_at_call 148;refine(ei _ _ _ (by unfold Ω;omega) (by omega) (by omega)).mono ?_;rintro e w' ⟨rfl,rfl⟩;rw[show((a:Int)+1).toNat=a+1 by omega,HK.out]);refine(jy _ _).mono ?_;rintro e1 w1 ⟨rfl,hb⟩;obtain⟨⟨x0,x1,x2,x3,x4,x5,x6⟩,f0,f1,f2,f3,f4,f5,f6⟩:=dt (b:=w.heap.size) hb ((zaT _ _ _ (by simp)).trans (zav w _));have HB:Hid (Φ w.heap.size w w1):=((((zad _ w).alloc (zac _) _).alloc (by simp) _).trans (hb.mono (by simp;omega)));clear hb;unfold bP;go_wp2_with fail;exact zao (v:=bP (bt a)) (by simp[results,results200,bP,aH,bt,go_sem, *]) rfl ⟨by rw[e.out],gh HB.out _ _ _ _ _ _ _⟩
theorem YD (s:ByteArray)(a b:Nat):s.extract a b=⟨⟨dL s.data.toList a b⟩⟩:=by
 have h:=oJ s a b;generalize s.extract a b=x at *;obtain⟨⟨l⟩⟩:=x;rw[←h]
theorem C7 (s:ByteArray)(a:Nat)(w:Ξ)(hs:s.size≤1000000)(ha:a<s.size)(hw:bq (s[a].toNat :Int)=true):ζ prog 171 #[.string s,Γ Δ a] w λe w'=>e=.returned (bP (fN s.data.toList a))∧Φ w.heap.size w w':=by
 have hle:=jC bq (s.data.toList.drop a);rw[zau,bR]at hle;have jT:0<aT bq (s.data.toList.drop a):=by rw[drop_cons s a ha];unfold aT;rw[zab hw];omega
 have hT:Hid (fN s.data.toList a=if dL s.data.toList a (a+aT bq (s.data.toList.drop a))=[46]then aH 7 a (a+aT bq (s.data.toList.drop a))else if !bX (dL s.data.toList a (a+aT bq (s.data.toList.drop a)))then { aH 14 a (a+aT bq (s.data.toList.drop a))with text:=dL s.data.toList a (a+aT bq (s.data.toList.drop a)) } else match dH (dL s.data.toList a (a+aT bq (s.data.toList.drop a)))with|none=>bt a|some (n,d,f)=>{ aH 13 a (a+aT bq (s.data.toList.drop a))with n:=n,d:=d,fault:=f }):=rfl;clear hw;generalize hk:aT bq (s.data.toList.drop a)=k at *;have HK:Hid _:=hk;clear hk;have hx:=YD s a (a+k);have hlen:(dL s.data.toList a (a+k)).length=k:=by unfold dL;rw[zcM,zau,bR];omega
 have hsz:(s.extract a (a+k)).size≤1000000:=lD _ _ _ _ hs;generalize hW:dL s.data.toList a (a+k)=W at *;have hne:W≠[]:=by intro h;rw[h]at hlen;simp at hlen;omega
 clear hW hlen;have hd:(s.extract a (a+k)).data.toList=W:=by rw[hx]
 have ht:(s.extract a (a+k)).toList=W:=by rw[pL,hd]
 have HXW:Hid _:=hx;clear hx;by_cases c1:W=[46]
 ·have e:Hid (fN s.data.toList a=aH 7 a (a+k)):=by show _=_;rw[hT.out,zab c1]
  have q1:((s.extract a (a+k)).toList==[46])=true:=by rw[ht,c1];rfl
  clear hT c1 hd ht;go_enter func171,ntmps171;go_wp2_with (go_at_call 148;refine(ei _ _ _ (by unfold Ω;omega) (by omega) (by omega)).mono ?_;rintro e w' ⟨rfl,rfl⟩;rw[show((a:Int)).toNat=a by omega,HK.out]);refine zao (v:=bP (aH 7 a (a+k))) (by simp[results,results171,bP,aH,go_sem]) rfl ⟨by rw[e.out],?_⟩
  (repeat (first|with_reducible refine zaG ?_ (by simp) _|with_reducible refine zbf ?_ _|with_reducible refine zaH ?_ (by simp) _));with_reducible exact zad _ _
 have q1:((s.extract a (a+k)).toList==[46])=false:=by rw[ht,zah];exact c1
 have PO:Hid ((s.extract a (a+k)).data.toList≠[]):=by rw[hd];exact hne
 cases hm:bX W
 ·have e:Hid (fN s.data.toList a={ aH 14 a (a+k)with text:=W }):=by show _=_;rw[hT.out,zaa c1,hm];rfl
  have ND:Hid (bX (s.extract a (a+k)).data.toList=false):=by rw[hd];exact hm
  have hv:Hid (s.extract a (a+k)=⟨⟨W⟩⟩):=HXW.out;clear hT c1 hd ht hm;go_enter func171,ntmps171;go_wp2_with (go_at_call 148;refine(ei _ _ _ (by unfold Ω;omega) (by omega) (by omega)).mono ?_;rintro e w' ⟨rfl,rfl⟩;rw[show((a:Int)).toNat=a by omega,HK.out]);refine(ur _ _ hsz PO.out).mono ?_;rw[ND.out];rintro e w' ⟨rfl,rfl⟩;go_wp2_with fail;rw[hv.out];refine zao (v:=bP { aH 14 a (a+k)with text:=W }) (by simp[results,results171,bP,aH,go_sem]) rfl ⟨by rw[e.out],?_⟩
  (repeat (first|with_reducible refine zaG ?_ (by simp) _|with_reducible refine zbf ?_ _|with_reducible refine zaH ?_ (by simp) _));with_reducible exact zad _ _
 ·have ND:Hid (bX (s.extract a (a+k)).data.toList=true):=by rw[hd];exact hm
  have cO:Hid (dH (s.extract a (a+k)).data.toList=dH W):=by show _=_;rw[hd]
  cases hn:dH W with
  |none=>
   have e:Hid (fN s.data.toList a=bt a):=by show _=_;rw[hT.out,zaa c1,hm,hn];rfl
   clear hT c1 hd ht hm;go_enter func171,ntmps171;go_wp2_with (go_at_call 148;refine(ei _ _ _ (by unfold Ω;omega) (by omega) (by omega)).mono ?_;rintro e w' ⟨rfl,rfl⟩;rw[show((a:Int)).toNat=a by omega,HK.out]);refine(ur _ _ hsz PO.out).mono ?_;rw[ND.out];rintro e w' ⟨rfl,rfl⟩;go_wp2_with fail;refine(Fi _ _ hsz PO.out).mono ?_;rw[cO.out,hn];rintro e w1 ⟨rfl,hb⟩;obtain⟨⟨x0,x1,x2,x3,x4,x5,x6⟩,f0,f1,f2,f3,f4,f5,f6⟩:=dt (b:=w.heap.size) hb (zav w _);have hb1:Φ w.heap.size w w1:=((zad _ w).alloc (zac _) _).trans (hb.mono (by simp));have hs1:w.heap.size<w1.heap.size:=by have:=hb.size;simp at this;omega
   have Yw:¬w.heap.size=w1.heap.size:=by omega
   have wJ:¬w1.heap.size=w.heap.size:=by omega
   have HB:Hid (Φ w.heap.size w w1):=hb1;have pM:Hid _:=(hb.block w.heap.size (by simp)).trans (zav w _);clear hb hb1;unfold bP Ip;go_wp2_with fail;refine(jy _ _).mono ?_;rintro e w2 ⟨rfl,hb2⟩;clear x0 x1 x2 x3 x4 x5 x6 f0 f1 f2 f3 f4 f5 f6;obtain⟨⟨x0,x1,x2,x3,x4,x5,x6⟩,f0,f1,f2,f3,f4,f5,f6⟩:=dt (b:=w.heap.size) hb2 ((zaT _ _ _ hs1).trans pM.out);have iB:Hid (Φ w.heap.size w w2):=(HB.out.alloc (by omega) _).trans (hb2.mono (by simp;omega));clear hb2;unfold bP;go_wp2_with fail;exact zao (v:=bP (bt a)) (by simp[results,results171,bP,aH,bt,go_sem, *]) rfl ⟨by rw[e.out],gh iB.out _ _ _ _ _ _ _⟩
  |some p=>
   obtain⟨n,d,f⟩:=p;have e:Hid (fN s.data.toList a={ aH 13 a (a+k)with n:=n,d:=d,fault:=f }):=by show _=_;rw[hT.out,zaa c1,hm,hn];rfl
   clear hT c1 hd ht hm;go_enter func171,ntmps171;go_wp2_with (go_at_call 148;refine(ei _ _ _ (by unfold Ω;omega) (by omega) (by omega)).mono ?_;rintro e w' ⟨rfl,rfl⟩;rw[show((a:Int)).toNat=a by omega,HK.out]);refine(ur _ _ hsz PO.out).mono ?_;rw[ND.out];rintro e w' ⟨rfl,rfl⟩;go_wp2_with fail;refine(Fi _ _ hsz PO.out).mono ?_;rw[cO.out,hn];rintro e w1 ⟨rfl,hb⟩;obtain⟨⟨x0,x1,x2,x3,x4,x5,x6⟩,f0,f1,f2,f3,f4,f5,f6⟩:=dt (b:=w.heap.size) hb (zav w _);have hb1:Φ w.heap.size w w1:=((zad _ w).alloc (zac _) _).trans (hb.mono (by simp));have hs1:w.heap.size<w1.heap.size:=by have:=hb.size;simp at this;omega
   have Yw:¬w.heap.size=w1.heap.size:=by omega
   have wJ:¬w1.heap.size=w.heap.size:=by omega
   have HB:Hid (Φ w.heap.size w w1):=hb1;have pM:Hid _:=(hb.block w.heap.size (by simp)).trans (zav w _);clear hb hb1;unfold bP Ip;go_wp2_with fail;refine zao (v:=bP { aH 13 a (a+k)with n:=n,d:=d,fault:=f }) (by simp[results,results171,bP,aH,go_sem, *]) rfl ⟨by rw[e.out],?_⟩
   (repeat (first|with_reducible refine zaG ?_ (by first|(simp;done)|(simp;omega)) _|with_reducible refine zbf ?_ _|with_reducible refine zaH ?_ (by first|omega|(simp;done)|(simp;omega)) _));with_reducible exact HB.out
theorem oK (p:Int→Bool):∀l:List UInt8,(l.take (aT p l)).all (λc=>p (c.toNat:Int))=true
 |[]=>rfl
 |c::r=>by
  unfold aT;by_cases h:p (c.toNat:Int)=true
  ·rw[zab h,List.take_succ_cons,zap,h,zbI];exact oK p r
  ·rw[zaa h];rfl
def yw:Tok:=⟨0,0,0,[],0,0,0⟩
theorem lV (s:ByteArray)(a:Nat)(w:Ξ)(hs:s.size≤1000000)(ha:a<s.size):ζ prog 199 #[.string s,Γ Δ a] w λe w'=>e=.returned (.tuple #[bP ((bZ s.data.toList a).getD yw),.bool (bZ s.data.toList a).isSome])∧Φ w.heap.size w w':=by
 have hle:=jC cF (s.data.toList.drop (a+1));rw[zau,bR]at hle;have hall:Hid ((s.extract (a+1) (a+1+aT cF (s.data.toList.drop (a+1)))).data.toList.all (λc=>cF (c.toNat:Int))=true):=by
  show _=_;rw[oJ];unfold dL;rw[show a+1+aT cF (s.data.toList.drop (a+1))-(a+1)=aT cF (s.data.toList.drop (a+1)) by omega];exact oK _ _
 have hT:Hid (bZ s.data.toList a=if aT cF (s.data.toList.drop (a+1))=0∨3<aT cF (s.data.toList.drop (a+1))then none else match s.data.toList.drop (a+1+aT cF (s.data.toList.drop (a+1)))with|[]=>none|c::_=>if c.toNat=61 then some { aH 10 a (a+1+aT cF (s.data.toList.drop (a+1))+1)with n:=aK (dL s.data.toList (a+1) (a+1+aT cF (s.data.toList.drop (a+1)))) } else if c.toNat=35 then some { aH 11 a (a+1+aT cF (s.data.toList.drop (a+1))+1)with n:=aK (dL s.data.toList (a+1) (a+1+aT cF (s.data.toList.drop (a+1)))) } else none):=rfl;generalize hk:aT cF (s.data.toList.drop (a+1))=k at *;have HK:Hid _:=hk;clear hk;have Ps:Hid ((s.extract (a+1) (a+1+k)).data.toList=dL s.data.toList (a+1) (a+1+k)):=oJ _ _ _;have hsz:(s.extract (a+1) (a+1+k)).size≤1000000:=lD _ _ _ _ hs;by_cases h0:k=0
 ·have e:Hid (bZ s.data.toList a=none):=by show _=_;rw[hT.out,zab (.inl h0)]
  have q1:(((a:Int)+1+(k:Int))==(a:Int)+1)=true:=by rw[zaJ];omega
  clear hT;go_enter func199,ntmps199;go_wp2_with (go_at_call 148;refine(fD _ _ _ (by unfold Ω;omega) (by omega) (by omega)).mono ?_;rintro e w' ⟨rfl,rfl⟩;rw[show((a:Int)+1).toNat=a+1 by omega,HK.out]);refine zao (v:= .tuple #[bP yw,.bool false]) (by simp[results,results199,bP,yw,go_sem]) rfl ⟨by rw[e.out];rfl,?_⟩
  (repeat (first|with_reducible refine zaG ?_ (by simp) _|with_reducible refine zaH ?_ (by simp) _));with_reducible exact zad _ _
 have q1:(((a:Int)+1+(k:Int))==(a:Int)+1)=false:=by rw[zah];omega
 by_cases h3:3<k
 ·have e:Hid (bZ s.data.toList a=none):=by show _=_;rw[hT.out,zab (.inr h3)]
  clear hT;go_enter func199,ntmps199;go_wp2_with (go_at_call 148;refine(fD _ _ _ (by unfold Ω;omega) (by omega) (by omega)).mono ?_;rintro e w' ⟨rfl,rfl⟩;rw[show((a:Int)+1).toNat=a+1 by omega,HK.out]);refine zao (v:= .tuple #[bP yw,.bool false]) (by simp[results,results199,bP,yw,go_sem]) rfl ⟨by rw[e.out];rfl,?_⟩
  (repeat (first|with_reducible refine zaG ?_ (by simp) _|with_reducible refine zaH ?_ (by simp) _));with_reducible exact zad _ _
 have hn:¬(k=0∨3<k):=by omega
 by_cases hE:a+1+k=s.size
 ·have e:Hid (bZ s.data.toList a=none):=by show _=_;rw[hT.out,zaa hn,show s.data.toList.drop (a+1+k)=[] from zbS (by rw[bR];omega)]
  have q2:(((a:Int)+1+(k:Int))==(s.size:Int))=true:=by rw[zaJ];omega
  clear hT hn;go_enter func199,ntmps199;go_wp2_with (go_at_call 148;refine(fD _ _ _ (by unfold Ω;omega) (by omega) (by omega)).mono ?_;rintro e w' ⟨rfl,rfl⟩;rw[show((a:Int)+1).toNat=a+1 by omega,HK.out]);refine zao (v:= .tuple #[bP yw,.bool false]) (by simp[results,results199,bP,yw,go_sem]) rfl ⟨by rw[e.out];rfl,?_⟩
  (repeat (first|with_reducible refine zaG ?_ (by simp) _|with_reducible refine zaH ?_ (by simp) _));with_reducible exact zad _ _
 have q2:(((a:Int)+1+(k:Int))==(s.size:Int))=false:=by rw[zah];omega
 have hlt:a+1+k<s.size:=by omega
 have Yh:1≤k:=by omega
 have hk3:k≤3:=by omega
 have hd:=drop_cons s (a+1+k) hlt;clear h0 h3 hE;by_cases h61:(s[a+1+k].toNat :Int)=61
 ·have e:Hid (bZ s.data.toList a=some { aH 10 a (a+1+k+1)with n:=aK (dL s.data.toList (a+1) (a+1+k)) }):=by show _=_;rw[hT.out,zaa hn,hd];exact zab (by omega)
  clear hT hd hn;go_enter func199,ntmps199;go_wp2_with (go_at_call 148;refine(fD _ _ _ (by unfold Ω;omega) (by omega) (by omega)).mono ?_;rintro e w' ⟨rfl,rfl⟩;rw[show((a:Int)+1).toNat=a+1 by omega,HK.out]);refine(fE _ _ hsz hall.out).mono ?_;rw[Ps.out];rintro e w' ⟨rfl,rfl⟩;go_wp2_with fail;refine zao (v:= .tuple #[bP { aH 10 a (a+1+k+1)with n:=aK (dL s.data.toList (a+1) (a+1+k)) },.bool true]) (by simp[results,results199,bP,aH,go_sem]) rfl ⟨by rw[e.out];rfl,?_⟩
  (repeat (first|with_reducible refine zaG ?_ (by simp) _|with_reducible refine zaH ?_ (by simp) _));with_reducible exact zad _ _
 by_cases h35:(s[a+1+k].toNat :Int)=35
 ·have e:Hid (bZ s.data.toList a=some { aH 11 a (a+1+k+1)with n:=aK (dL s.data.toList (a+1) (a+1+k)) }):=by show _=_;rw[hT.out,zaa hn,hd];exact(zaa (by omega)).trans (zab (by omega))
  clear hT hd hn;go_enter func199,ntmps199;go_wp2_with (go_at_call 148;refine(fD _ _ _ (by unfold Ω;omega) (by omega) (by omega)).mono ?_;rintro e w' ⟨rfl,rfl⟩;rw[show((a:Int)+1).toNat=a+1 by omega,HK.out]);refine(fE _ _ hsz hall.out).mono ?_;rw[Ps.out];rintro e w' ⟨rfl,rfl⟩;go_wp2_with fail;refine zao (v:= .tuple #[bP { aH 11 a (a+1+k+1)with n:=aK (dL s.data.toList (a+1) (a+1+k)) },.bool true]) (by simp[results,results199,bP,aH,go_sem]) rfl ⟨by rw[e.out];rfl,?_⟩
  (repeat (first|with_reducible refine zaG ?_ (by simp) _|with_reducible refine zaH ?_ (by simp) _));with_reducible exact zad _ _
 ·have e:Hid (bZ s.data.toList a=none):=by show _=_;rw[hT.out,zaa hn,hd];exact(zaa (by omega)).trans (zaa (by omega))
  clear hT hd hn;go_enter func199,ntmps199;go_wp2_with (go_at_call 148;refine(fD _ _ _ (by unfold Ω;omega) (by omega) (by omega)).mono ?_;rintro e w' ⟨rfl,rfl⟩;rw[show((a:Int)+1).toNat=a+1 by omega,HK.out]);refine(fE _ _ hsz hall.out).mono ?_;rw[Ps.out];rintro e w' ⟨rfl,rfl⟩;go_wp2_with fail;refine zao (v:= .tuple #[bP yw,.bool false]) (by simp[results,results199,bP,yw,go_sem]) rfl ⟨by rw[e.out];rfl,?_⟩
  (repeat (first|with_reducible refine zaG ?_ (by simp) _|with_reducible refine zaH ?_ (by simp) _));with_reducible exact zad _ _
theorem AO {b:Nat}(hb:w.heap[b]?=some (.cells #[.pointer none,.slice none 0 0] 116 (0,0))):ζ prog 63 #[.pointer (some ⟨b,0,none⟩)] w λe w'=>e=.returned (.string ⟨#[]⟩)∧w'=w.drew:=by
 have c1:w.drew.cell? ⟨b,1,none⟩=some (.slice none 0 0):=by
  have:w.drew.heap[b]?=some (.cells #[.pointer none,.slice none 0 0] 116 (0,0)):=hb;simp[Ξ.cell?,this]
 have hSD:(Builtin.unsafeSliceData_ #[80] 190 #[.slice none 0 0]).run prog w.drew=.ok (.pointer none) w.drew:=Lib.run_unsafeSliceData_nil _ _ _ _ _;have hUS:(Builtin.unsafeString_ #[190,3] 9 #[.pointer none,Γ Δ 0]).run prog w.drew=.ok (.string ⟨#[]⟩) w.drew:=
  Lib.run_unsafeString_none _ _ _ _ _
 clear hb;go_enter func63,ntmps63
 go_wp2
 go_region;all_goals (go_wp2;go_ret;exact⟨rfl,rfl⟩)
def NG (W w:Ξ)(N:Nat)(l:List UInt8):Prop:=N=W.heap.size∧∃cs v,cs.size=2∧fu w 116 0 N N cs v (Lib.byteCells l)∧Φ N W w∧(l=[]→cs=#[.pointer none,.slice none 0 0])
theorem NG.start (W:Ξ):NG W (W.alloc (.cells #[.pointer none,.slice none 0 0] 116)) W.heap.size []:=
 ⟨rfl,_,_,rfl,⟨zac _,zav W _,Or.inl rfl,rfl,zck _ _ _ _⟩,(zad _ _).alloc (zac _) _,λ_=>rfl⟩
theorem NG.fT (h:NG W w N l)(c:UInt8)(hl:l.length≤2000000):ζ prog 191 #[.pointer (some ⟨N,0,none⟩),.int .u8 c.toNat] w λe w'=>e=.returned .nilIface∧NG W w' N (l++[c]):=by
 obtain⟨rfl,cs,v,hs,hb,hw,_⟩:=h;have hsz:=hw.size;refine(qH (hs▸yz) (by decide) hb c.toNat (by rw[Lib.byteCells_length];omega) hsz).mono ?_;rintro e w' ⟨rfl,v',h1,h2⟩;refine⟨rfl,rfl,_,v',?_,by rw[Lib.byteCells_append];exact h1,hw.trans (h2.below hsz (zac _) λk hk=>(hb.own.lt k hk).1),λh=>by simp at h⟩;simp[kR,hs]
theorem NG.string (h:NG W w N l):ζ prog 63 #[.pointer (some ⟨N,0,none⟩)] w λe w'=>e=.returned (.string ⟨⟨l⟩⟩)∧Φ W.heap.size W w':=by
 obtain⟨rfl,cs,v,hs,hb,hw,h0⟩:=h;by_cases hl:l=[]
 ·subst hl;have hblk:=hb.blk;rw[h0 rfl]at hblk;refine(AO hblk).mono ?_;rintro e w' ⟨rfl,rfl⟩;exact⟨rfl,hw.drew⟩
 ·refine(lW hb hl).mono ?_;rintro e w' ⟨rfl,h2⟩;exact⟨rfl,hw.trans (h2.below hw.size (zac _) λk hk=>(hb.own.lt k hk).1)⟩
theorem NG.below (h:NG W w N l):Φ W.heap.size W w:=by
 obtain⟨rfl,_,_,_,_,hw,_⟩:=h;exact hw
theorem ru {k:Nat}{o:List UInt8}(h:c=34):dD k o (c::r)=.ok (k+1) o:=by
 cases r<;>simp[dD,h]
theorem YE {k:Nat}{o:List UInt8}:dD k o [92]=.fin:=rfl
theorem C9 {k:Nat}{o:List UInt8}(h:AB x=none):dD k o (92::x::r)=.bad:=by
 rw[dD,zaa (by decide),zab rfl,h]
theorem oL {k:Nat}{o:List UInt8}{b:UInt8}(h:AB x=some b):dD k o (92::x::r)=dD (k+2) (o++[b]) r:=by
 rw[dD,zaa (by decide),zab rfl,h]
theorem pN {k:Nat}{o:List UInt8}(h1:¬c=34)(h2:¬c=92):dD k o (c::r)=dD (k+1) (o++[c]) r:=by
 cases r with
 |nil=>simp[dD,h1]
 |cons e r=>rw[dD,zaa h1,zaa h2]
def T0:Obj:= .cells #[Γ Δ 0,Γ Δ 0,Γ Δ 0,.string ⟨#[]⟩,Γ Δ 0,Γ Δ 0,Γ Δ 0] 131
theorem Kh (hn:n<256):(c.toNat:Int)=(n:Int)↔c=n.toUInt8:=by
 rw[←UInt8.toNat_inj];simp[Nat.mod_eq_of_lt hn];omega
theorem Da (s:ByteArray)(a:Nat)(w:Ξ)(hs:s.size≤1000000)(ha:a<s.size):ζ prog 169 #[.string s,Γ Δ a] w λe w'=>e=.returned (bP (jh s.data.toList a))∧Φ w.heap.size w w':=by
 have hT:Hid (jh s.data.toList a=match dD (a+1) [] (s.data.toList.drop (a+1))with|.fin=>nW s.data.toList|.bad=>bt a|.ok e b=>{ aH 8 a e with text:=b }):=rfl;have H0:Hid (NG (w.alloc T0) ((w.alloc T0).alloc (.cells #[.pointer none,.slice none 0 0] 116)) (w.heap.size+1) []):=by
  have:=NG.start (w.alloc T0);rw[show(w.alloc T0).heap.size=w.heap.size+1 by simp]at this;exact this
 have hblk:Hid ((w.alloc T0).heap[w.heap.size]?=some T0):=zav w _;have hw0:Hid (Φ w.heap.size w (w.alloc T0)):=(zad _ w).alloc (zac _) _;go_enter func169,ntmps169;go_wp2_with fail;go_loopw [6] (λi wr=>∃(k:Nat) (o:List UInt8),a+1≤k∧k≤s.size∧i=Γ Δ k∧o.length≤k∧Hid (NG (w.alloc T0) wr (w.heap.size+1) o)∧Hid (dD (a+1) [] (s.data.toList.drop (a+1))=dD k o (s.data.toList.drop k))) (λi _=>s.size-(η i).toNat)
 case atStart=>exact⟨a+1,[],zac _,by omega,by go_num,by simp,H0.out,rfl⟩
 case round=>
  obtain⟨k,o,G0,hk,rfl,AJ,H2,hr⟩:=hrel;by_cases hlt:k<s.size
  ·have hd:Hid _:=drop_cons s k hlt;by_cases h34:(s[k].toNat :Int)=34
   ·have he:Hid (jh s.data.toList a={ aH 8 a (k+1)with text:=o }):=by
     show _=_;rw[hT.out,hr.out,hd.out,ru ((Kh (by decide:34<256)).1 h34)]
    go_wp2_with fail;refine(H2.out.string).mono ?_;rintro e w1 ⟨rfl,hb⟩;obtain⟨⟨x0,x1,x2,x3,x4,x5,x6⟩,f0,f1,f2,f3,f4,f5,f6⟩:=dt (b:=w.heap.size) hb hblk.out;have HB:Hid (Φ w.heap.size w w1):=hw0.out.trans (hb.mono (by simp));clear hb;go_wp2_with fail;exact zao (v:=bP { aH 8 a (k+1)with text:=o }) (by simp[results,results169,bP,aH,go_sem, *]) rfl ⟨by rw[he.out],gh HB.out _ _ _ _ _ _ _⟩
   by_cases h92:(s[k].toNat :Int)=92
   ·have YF:Hid (s[k]=92):=(Kh (by decide:92<256)).1 h92;by_cases Uk:k+1<s.size
    ·have hd2:Hid _:=drop_cons s (k+1) Uk;cases hes:AB s[k+1]with
     |none=>
      have he:Hid (jh s.data.toList a=bt a):=by
       show _=_;rw[hT.out,hr.out,hd.out,YF.out,hd2.out,C9 hes]
      have YG:Hid _:=hes;go_wp2_with fail;refine(vd _ _).mono ?_;rw[YG.out];rintro e w' ⟨rfl,rfl⟩;go_wp2_with fail;refine(jy _ _).mono ?_;rintro e w1 ⟨rfl,hb1⟩;have hb:=H2.out.below.trans (hb1.mono H2.out.below.size);obtain⟨⟨x0,x1,x2,x3,x4,x5,x6⟩,f0,f1,f2,f3,f4,f5,f6⟩:=dt (b:=w.heap.size) hb hblk.out;have HB:Hid (Φ w.heap.size w w1):=hw0.out.trans (hb.mono (by simp));clear hb hb1;unfold bP;go_wp2_with fail;exact zao (v:=bP (bt a)) (by simp[results,results169,bP,aH,bt,go_sem, *]) rfl ⟨by rw[he.out],gh HB.out _ _ _ _ _ _ _⟩
     |some b=>
      have qa:Hid (dD (a+1) [] (s.data.toList.drop (a+1))=dD (k+2) (o++[b]) (s.data.toList.drop (k+2))):=by
       show _=_;rw[hr.out,hd.out,YF.out,hd2.out,oL hes]
      have YG:Hid _:=hes;go_wp2_with fail;refine(vd _ _).mono ?_;rw[YG.out];rintro e w' ⟨rfl,rfl⟩;go_wp2_with fail;refine(H2.out.fT b (by omega)).mono ?_;rintro e w2 ⟨rfl,h2⟩;have H3:Hid _:=h2;clear h2 H2;go_wp2_with fail;go_roundw
      case rel=>exact⟨k+2,o++[b],by omega,by omega,by go_num,by simp;omega,H3.out,qa.out⟩
      case measure=>simp[η];omega
    ·have Yh:k+1=s.size:=by omega
     have he:Hid (jh s.data.toList a=nW s.data.toList):=by
      show _=_;rw[hT.out,hr.out,hd.out,YF.out,show s.data.toList.drop (k+1)=[] from zbS (by rw[bR];omega),YE]
     have q:(((k:Int)+1)==(s.size:Int))=true:=by rw[zaJ];omega
     go_wp2_with fail;refine(uo _ _).mono ?_;rintro e w1 ⟨rfl,hb1⟩;have hb:=H2.out.below.trans (hb1.mono H2.out.below.size);obtain⟨⟨x0,x1,x2,x3,x4,x5,x6⟩,f0,f1,f2,f3,f4,f5,f6⟩:=dt (b:=w.heap.size) hb hblk.out;have HB:Hid (Φ w.heap.size w w1):=hw0.out.trans (hb.mono (by simp));clear hb hb1;unfold bP;go_wp2_with fail;exact zao (v:=bP (nW s.data.toList)) (by simp[results,results169,bP,aH,nW,go_sem, *]) rfl ⟨by rw[he.out],gh HB.out _ _ _ _ _ _ _⟩
   ·have qa:Hid (dD (a+1) [] (s.data.toList.drop (a+1))=dD (k+1) (o++[s[k]]) (s.data.toList.drop (k+1))):=by
     show _=_;rw[hr.out,hd.out,pN (λe=>h34 ((Kh (by decide:34<256)).2 e)) (λe=>h92 ((Kh (by decide:92<256)).2 e))]
    have q1:((s[k].toNat :Int)==34)=false:=by rw[zah];exact h34
    have q2:((s[k].toNat :Int)==92)=false:=by rw[zah];exact h92
    go_wp2_with fail;refine(H2.out.fT s[k] (by omega)).mono ?_;rintro e w2 ⟨rfl,h2⟩;have H3:Hid _:=h2;clear h2 H2;go_wp2_with fail;go_roundw
    case rel=>exact⟨k+1,o++[s[k]],by omega,by omega,by go_num,by simp;omega,H3.out,qa.out⟩
    case measure=>simp[η];omega
  ·have he:Hid (jh s.data.toList a=nW s.data.toList):=by
    show _=_;rw[hT.out,hr.out,show s.data.toList.drop k=[] from zbS (by rw[bR];omega)];rfl
   go_wp2_with fail;refine(uo _ _).mono ?_;rintro e w1 ⟨rfl,hb1⟩;have hb:=H2.out.below.trans (hb1.mono H2.out.below.size);obtain⟨⟨x0,x1,x2,x3,x4,x5,x6⟩,f0,f1,f2,f3,f4,f5,f6⟩:=dt (b:=w.heap.size) hb hblk.out;have HB:Hid (Φ w.heap.size w w1):=hw0.out.trans (hb.mono (by simp));clear hb hb1;unfold bP;go_wp2_with fail;exact zao (v:=bP (nW s.data.toList)) (by simp[results,results169,bP,aH,nW,go_sem, *]) rfl ⟨by rw[he.out],gh HB.out _ _ _ _ _ _ _⟩
theorem Db (s:ByteArray)(a:Nat)(w:Ξ)(hs:s.size≤1000000)(ha:a+2≤s.size):ζ prog 198 #[.string s,Γ Δ a] w λe w'=>e=.returned (bP (fM s.data.toList a))∧Φ w.heap.size w w':=by
 have hle:=jC fA (s.data.toList.drop (a+2));rw[zau,bR]at hle;have hT:Hid (fM s.data.toList a=if 1<aT fA (s.data.toList.drop (a+2))then(match nN (dL s.data.toList (a+2) (a+2+aT fA (s.data.toList.drop (a+2))))with|none=>bt a|some k=>{ aH 9 a (a+2+aT fA (s.data.toList.drop (a+2)))with n:=k })else match s.data.toList.drop (a+2)with|[]=>bt a|c::_=>if 33≤c.toNat∧c.toNat≤126 then { aH 9 a (a+3)with n:=(c.toNat:Int) } else bt a):=rfl;generalize hk:aT fA (s.data.toList.drop (a+2))=k at *;have HK:Hid _:=hk;clear hk;by_cases h1:1<k
 ·have Ps:Hid ((s.extract (a+2) (a+2+k)).data.toList=dL s.data.toList (a+2) (a+2+k)):=oJ _ _ _;cases hc:nN (dL s.data.toList (a+2) (a+2+k))with
  |none=>
   have e:Hid (fM s.data.toList a=bt a):=by show _=_;rw[hT.out,zab h1,hc]
   clear hT;go_enter func198,ntmps198;go_wp2_with (go_at_call 148;refine(gM _ _ _ (by unfold Ω;omega) (by omega) (by omega)).mono ?_;rintro e w' ⟨rfl,rfl⟩;rw[show((a:Int)+2).toNat=a+2 by omega,HK.out]);refine(yn _ _).mono ?_;rw[Ps.out,hc];rintro e w' ⟨rfl,rfl⟩;go_wp2_with fail;refine(jy _ _).mono ?_;rintro e w1 ⟨rfl,hb⟩;obtain⟨⟨x0,x1,x2,x3,x4,x5,x6⟩,f0,f1,f2,f3,f4,f5,f6⟩:=dt (b:=w.heap.size) hb (zav w _);have HB:Hid (Φ w.heap.size w w1):=((zad _ w).alloc (zac _) _).trans (hb.mono (by simp));clear hb;unfold bP;go_wp2_with fail;exact zao (v:=bP (bt a)) (by simp[results,results198,bP,aH,bt,go_sem, *]) rfl ⟨by rw[e.out],gh HB.out _ _ _ _ _ _ _⟩
  |some n=>
   have e:Hid (fM s.data.toList a={ aH 9 a (a+2+k)with n:=n }):=by show _=_;rw[hT.out,zab h1,hc]
   clear hT;go_enter func198,ntmps198;go_wp2_with (go_at_call 148;refine(gM _ _ _ (by unfold Ω;omega) (by omega) (by omega)).mono ?_;rintro e w' ⟨rfl,rfl⟩;rw[show((a:Int)+2).toNat=a+2 by omega,HK.out]);refine(yn _ _).mono ?_;rw[Ps.out,hc];rintro e w' ⟨rfl,rfl⟩;go_wp2_with fail;refine zao (v:=bP { aH 9 a (a+2+k)with n:=n }) (by simp[results,results198,bP,aH,go_sem]) rfl ⟨by rw[e.out],?_⟩
   (repeat (first|with_reducible refine zaG ?_ (by simp) _|with_reducible refine zaH ?_ (by simp) _));with_reducible exact zad _ _
 by_cases hlt:a+2<s.size
 ·have hd:=drop_cons s (a+2) hlt;have hwr:wrap64 (s[a+2].toNat :Int)=(s[a+2].toNat :Int):=by have:=s[a+2].toNat_lt;unfold wrap64;omega
  by_cases hp:33≤(s[a+2].toNat :Int)∧(s[a+2].toNat :Int)≤126
  ·have e:Hid (fM s.data.toList a={ aH 9 a (a+3)with n:=(s[a+2].toNat :Int) }):=by show _=_;rw[hT.out,zaa h1,hd];exact zab ⟨by omega,by omega⟩
   have wN:Hid (decide (33≤(s[a+2].toNat :Int)∧(s[a+2].toNat :Int)≤126)=true):=zaY hp;clear hT hd hp;go_enter func198,ntmps198;go_wp2_with (go_at_call 148;refine(gM _ _ _ (by unfold Ω;omega) (by omega) (by omega)).mono ?_;rintro e w' ⟨rfl,rfl⟩;rw[show((a:Int)+2).toNat=a+2 by omega,HK.out]);refine(lU _ _).mono ?_;rw[wN.out];rintro e w' ⟨rfl,rfl⟩;go_wp2_with fail;refine zao (v:=bP { aH 9 a (a+3)with n:=(s[a+2].toNat :Int) }) (by simp[results,results198,bP,aH,go_sem];try omega) rfl ⟨by rw[e.out],?_⟩
   (repeat (first|with_reducible refine zaG ?_ (by simp) _|with_reducible refine zaH ?_ (by simp) _));with_reducible exact zad _ _
  ·have e:Hid (fM s.data.toList a=bt a):=by show _=_;rw[hT.out,zaa h1,hd];exact zaa (by omega)
   have wN:Hid (decide (33≤(s[a+2].toNat :Int)∧(s[a+2].toNat :Int)≤126)=false):=zaS hp;clear hT hd hp;go_enter func198,ntmps198;go_wp2_with (go_at_call 148;refine(gM _ _ _ (by unfold Ω;omega) (by omega) (by omega)).mono ?_;rintro e w' ⟨rfl,rfl⟩;rw[show((a:Int)+2).toNat=a+2 by omega,HK.out]);refine(lU _ _).mono ?_;rw[wN.out];rintro e w' ⟨rfl,rfl⟩;go_wp2_with fail;refine(jy _ _).mono ?_;rintro e w1 ⟨rfl,hb⟩;obtain⟨⟨x0,x1,x2,x3,x4,x5,x6⟩,f0,f1,f2,f3,f4,f5,f6⟩:=dt (b:=w.heap.size) hb (zav w _);have HB:Hid (Φ w.heap.size w w1):=((zad _ w).alloc (zac _) _).trans (hb.mono (by simp));clear hb;unfold bP;go_wp2_with fail;exact zao (v:=bP (bt a)) (by simp[results,results198,bP,aH,bt,go_sem, *]) rfl ⟨by rw[e.out],gh HB.out _ _ _ _ _ _ _⟩
 ·have hd:s.data.toList.drop (a+2)=[]:=zbS (by rw[bR];omega);have e:Hid (fM s.data.toList a=bt a):=by show _=_;rw[hT.out,zaa h1,hd]
  clear hT hd;go_enter func198,ntmps198;go_wp2_with (go_at_call 148;refine(gM _ _ _ (by unfold Ω;omega) (by omega) (by omega)).mono ?_;rintro e w' ⟨rfl,rfl⟩;rw[show((a:Int)+2).toNat=a+2 by omega,HK.out]);refine(jy _ _).mono ?_;rintro e w1 ⟨rfl,hb⟩;obtain⟨⟨x0,x1,x2,x3,x4,x5,x6⟩,f0,f1,f2,f3,f4,f5,f6⟩:=dt (b:=w.heap.size) hb (zav w _);have HB:Hid (Φ w.heap.size w w1):=((zad _ w).alloc (zac _) _).trans (hb.mono (by simp));clear hb;unfold bP;go_wp2_with fail;exact zao (v:=bP (bt a)) (by simp[results,results198,bP,aH,bt,go_sem, *]) rfl ⟨by rw[e.out],gh HB.out _ _ _ _ _ _ _⟩
theorem Iu {s:ByteArray}{a:Nat}(h:∀c r,s.data.toList.drop (a+1)=c::r→¬c.toNat=40∧¬c.toNat=59∧¬c.toNat=92):ed s.data.toList a=(bZ s.data.toList a).getD (bW s.data.toList a):=by
 unfold ed;split
 ·rfl
 ·rename_i c r hd;obtain⟨h1,h2,h3⟩:=h c r hd;rw[zaa h1,zaa h2,zaa h3]
theorem Dc (s:ByteArray)(a:Nat)(w:Ξ)(hs:s.size≤1000000)(ha:a<s.size):ζ prog 170 #[.string s,Γ Δ a] w λe w'=>e=.returned (bP (ed s.data.toList a))∧Φ w.heap.size w w':=by
 by_cases hlt:a+1<s.size
 ·have hd:=drop_cons s (a+1) hlt;have hT:Hid (ed s.data.toList a=if s[a+1].toNat=40 then aH 5 a (a+2)else if s[a+1].toNat=59 then aH 6 a (a+2)else if s[a+1].toNat=92 then fM s.data.toList a else(bZ s.data.toList a).getD (bW s.data.toList a)):=by
   show _=_;unfold ed;rw[hd]
  clear hd;by_cases h40:(s[a+1].toNat :Int)=40
  ·have e:Hid (ed s.data.toList a=aH 5 a (a+2)):=by show _=_;rw[hT.out,zab (by omega)]
   go_enter func170,ntmps170;go_wp2_with fail;refine zao (v:=bP (aH 5 a (a+2))) (by simp[results,results170,bP,aH,go_sem]) rfl ⟨by rw[e.out],?_⟩
   (repeat (first|with_reducible refine zaG ?_ (by simp) _|with_reducible refine zaH ?_ (by simp) _));with_reducible exact zad _ _
  have q1:((s[a+1].toNat :Int)==40)=false:=by rw[zah];exact h40
  by_cases Uh:(s[a+1].toNat :Int)=59
  ·have e:Hid (ed s.data.toList a=aH 6 a (a+2)):=by show _=_;rw[hT.out,zaa (by omega),zab (by omega)]
   clear q1;go_enter func170,ntmps170;go_wp2_with fail;refine zao (v:=bP (aH 6 a (a+2))) (by simp[results,results170,bP,aH,go_sem]) rfl ⟨by rw[e.out],?_⟩
   (repeat (first|with_reducible refine zaG ?_ (by simp) _|with_reducible refine zaH ?_ (by simp) _));with_reducible exact zad _ _
  have q2:((s[a+1].toNat :Int)==59)=false:=by rw[zah];exact Uh
  by_cases h92:(s[a+1].toNat :Int)=92
  ·have e:Hid (ed s.data.toList a=fM s.data.toList a):=by show _=_;rw[hT.out,zaa (by omega),zaa (by omega),zab (by omega)]
   clear q1 q2;go_enter func170,ntmps170;go_wp2_with fail;refine(Db _ _ _ hs (by omega)).mono ?_;rintro e w1 ⟨rfl,hb⟩;obtain⟨⟨x0,x1,x2,x3,x4,x5,x6⟩,f0,f1,f2,f3,f4,f5,f6⟩:=dt (b:=w.heap.size) hb (zav w _);have HB:Hid (Φ w.heap.size w w1):=((zad _ w).alloc (zac _) _).trans (hb.mono (by simp));clear hb;unfold bP;go_wp2_with fail;exact zao (v:=bP (fM s.data.toList a)) (by simp[results,results170,bP,go_sem, *]) rfl ⟨by rw[e.out],gh HB.out _ _ _ _ _ _ _⟩
  have q3:((s[a+1].toNat :Int)==92)=false:=by rw[zah];exact h92
  have e0:Hid (ed s.data.toList a=(bZ s.data.toList a).getD (bW s.data.toList a)):=by show _=_;rw[hT.out,zaa (by omega),zaa (by omega),zaa (by omega)]
  clear hT h40 Uh h92;cases hl:bZ s.data.toList a with
  |some t=>
   have e:Hid (ed s.data.toList a=t):=by show _=_;rw[e0.out,hl];rfl
   have hl':Hid _:=hl;clear hl e0;go_enter func170,ntmps170;go_wp2_with fail;refine(lV _ _ _ hs (by omega)).mono ?_;rw[hl'.out];rintro e w1 ⟨rfl,hb⟩;obtain⟨⟨x0,x1,x2,x3,x4,x5,x6⟩,f0,f1,f2,f3,f4,f5,f6⟩:=dt (b:=w.heap.size) hb (zav w _);have HB:Hid (Φ w.heap.size w w1):=((zad _ w).alloc (zac _) _).trans (hb.mono (by simp));have hs1:w.heap.size<w1.heap.size:=by have:=hb.size;simp at this;omega
   have Yw:¬w.heap.size=w1.heap.size:=by omega
   have wJ:¬w1.heap.size=w.heap.size:=by omega
   clear hb;simp only[zbg,Option.isSome_some];unfold bP;go_wp2_with fail;refine zao (v:=bP t) (by simp[results,results170,bP,go_sem, *]) rfl ⟨by rw[e.out],?_⟩
   (repeat (first|with_reducible refine zaG ?_ (by first|(simp;done)|(simp;omega)) _|with_reducible refine zaH ?_ (by first|omega|(simp;done)|(simp;omega)) _));with_reducible exact HB.out
  |none=>
   have e:Hid (ed s.data.toList a=bW s.data.toList a):=by show _=_;rw[e0.out,hl];rfl
   have hl':Hid _:=hl;clear hl e0;go_enter func170,ntmps170;go_wp2_with fail;refine(lV _ _ _ hs (by omega)).mono ?_;rw[hl'.out];rintro e w1 ⟨rfl,hb⟩;have pM:Hid _:=(hb.block w.heap.size (by simp)).trans (zav w _);have HB:Hid (Φ w.heap.size w w1):=((zad _ w).alloc (zac _) _).trans (hb.mono (by simp));have hs1:w.heap.size<w1.heap.size:=by have:=hb.size;simp at this;omega
   clear hb;simp only[zbH,Option.isSome_none];unfold bP yw;go_wp2_with fail;refine(qE _ _ _ hs (by omega)).mono ?_;rintro e w2 ⟨rfl,hb2⟩;obtain⟨⟨x0,x1,x2,x3,x4,x5,x6⟩,f0,f1,f2,f3,f4,f5,f6⟩:=dt (b:=w.heap.size) hb2 ((zaT _ _ _ hs1).trans pM.out);have iB:Hid (Φ w.heap.size w w2):=(HB.out.alloc (by omega) _).trans (hb2.mono (by simp;omega));clear hb2;unfold bP;go_wp2_with fail;exact zao (v:=bP (bW s.data.toList a)) (by simp[results,results170,bP,go_sem, *]) rfl ⟨by rw[e.out],gh iB.out _ _ _ _ _ _ _⟩
 ·have e0:Hid (ed s.data.toList a=(bZ s.data.toList a).getD (bW s.data.toList a)):=Iu λc r h=>by
   have:=zak θ h;rw[zau,bR]at this;simp at this;omega
  cases hl:bZ s.data.toList a with
  |some t=>
   exfalso;unfold bZ at hl;simp only[show s.data.toList.drop (a+1)=[] from zbS (by rw[bR];omega),aT]at hl;simp at hl
  |none=>
   have e:Hid (ed s.data.toList a=bW s.data.toList a):=by show _=_;rw[e0.out,hl];rfl
   have hl':Hid _:=hl;clear hl e0;go_enter func170,ntmps170;go_wp2_with fail;refine(lV _ _ _ hs (by omega)).mono ?_;rw[hl'.out];rintro e w1 ⟨rfl,hb⟩;have pM:Hid _:=(hb.block w.heap.size (by simp)).trans (zav w _);have HB:Hid (Φ w.heap.size w w1):=((zad _ w).alloc (zac _) _).trans (hb.mono (by simp));have hs1:w.heap.size<w1.heap.size:=by have:=hb.size;simp at this;omega
   clear hb;simp only[zbH,Option.isSome_none];unfold bP yw;go_wp2_with fail;refine(qE _ _ _ hs (by omega)).mono ?_;rintro e w2 ⟨rfl,hb2⟩;obtain⟨⟨x0,x1,x2,x3,x4,x5,x6⟩,f0,f1,f2,f3,f4,f5,f6⟩:=dt (b:=w.heap.size) hb2 ((zaT _ _ _ hs1).trans pM.out);have iB:Hid (Φ w.heap.size w w2):=(HB.out.alloc (by omega) _).trans (hb2.mono (by simp;omega));clear hb2;unfold bP;go_wp2_with fail;exact zao (v:=bP (bW s.data.toList a)) (by simp[results,results170,bP,go_sem, *]) rfl ⟨by rw[e.out],gh iB.out _ _ _ _ _ _ _⟩
theorem PQ (s:ByteArray)(a:Nat)(w:Ξ)(hs:s.size≤1000000)(ha:a≤s.size):ζ prog 120 #[.string s,Γ Δ a] w λe w'=>e=.returned (bP (aR s.data.toList a))∧Φ w.heap.size w w':=by
 have hsk:=EW (s:=s.data.toList) (a:=a) (by rw[bR];exact ha);rw[bR]at hsk;have hT:Hid (aR s.data.toList a=cM s.data.toList (jg s.data.toList a)):=rfl;have G0:Hid ((a:Int)+(u7 true (s.data.toList.drop a)).1=(jg s.data.toList a:Nat)):=by
  show _=_;unfold jg u7;omega
 obtain⟨b,hk⟩:∃b,Hid (u7 true (s.data.toList.drop a)=(jg s.data.toList a-a,b)):=⟨(u7 true (s.data.toList.drop a)).2,by
  show _=_;have:=G0.out;apply Prod.ext
  ·show(u7 true (s.data.toList.drop a)).1=_;omega
  ·rfl⟩
 generalize jg s.data.toList a=k at *;clear G0;have hka:((a:Int)+((k-a:Nat):Int))=k:=by omega
 by_cases hlt:k<s.size
 ·have hd:=drop_cons s k hlt;have Ah:Hid (aR s.data.toList a=if s[k].toNat=40 then aH 2 k (k+1)else if s[k].toNat=41 then aH 3 k (k+1)else if s[k].toNat=39 then aH 4 k (k+1)else if s[k].toNat=34 then jh s.data.toList k else if s[k].toNat=35 then ed s.data.toList k else if bq (s[k].toNat :Int)then fN s.data.toList k else bt k):=by
   show _=_;rw[hT.out];unfold cM;rw[hd]
  clear hT hd;have qe:((k:Int)==(s.size:Int))=false:=by rw[zah];omega
  by_cases h40:(s[k].toNat :Int)=40
  ·have e:Hid (aR s.data.toList a=aH 2 k (k+1)):=by show _=_;rw[Ah.out,zab (by omega)]
   clear Ah;go_enter func120,ntmps120;go_wp2_with fail;refine(jK _ _ _ hs ha).mono ?_;rw[hk.out];rintro e w' ⟨rfl,rfl⟩;go_wp2_with fail;refine zao (v:=bP (aH 2 k (k+1))) (by simp[results,results120,bP,aH,go_sem]) rfl ⟨by rw[e.out],?_⟩
   (repeat (first|with_reducible refine zaG ?_ (by simp) _|with_reducible refine zaH ?_ (by simp) _));with_reducible exact zad _ _
  have q40:((s[k].toNat :Int)==40)=false:=by rw[zah];exact h40
  by_cases h41:(s[k].toNat :Int)=41
  ·have e:Hid (aR s.data.toList a=aH 3 k (k+1)):=by show _=_;rw[Ah.out,zaa (by omega),zab (by omega)]
   clear Ah;clear q40;go_enter func120,ntmps120;go_wp2_with fail;refine(jK _ _ _ hs ha).mono ?_;rw[hk.out];rintro e w' ⟨rfl,rfl⟩;go_wp2_with fail;refine zao (v:=bP (aH 3 k (k+1))) (by simp[results,results120,bP,aH,go_sem]) rfl ⟨by rw[e.out],?_⟩
   (repeat (first|with_reducible refine zaG ?_ (by simp) _|with_reducible refine zaH ?_ (by simp) _));with_reducible exact zad _ _
  have q41:((s[k].toNat :Int)==41)=false:=by rw[zah];exact h41
  by_cases h39:(s[k].toNat :Int)=39
  ·have e:Hid (aR s.data.toList a=aH 4 k (k+1)):=by show _=_;rw[Ah.out,zaa (by omega),zaa (by omega),zab (by omega)]
   clear Ah;clear q40 q41;go_enter func120,ntmps120;go_wp2_with fail;refine(jK _ _ _ hs ha).mono ?_;rw[hk.out];rintro e w' ⟨rfl,rfl⟩;go_wp2_with fail;refine zao (v:=bP (aH 4 k (k+1))) (by simp[results,results120,bP,aH,go_sem]) rfl ⟨by rw[e.out],?_⟩
   (repeat (first|with_reducible refine zaG ?_ (by simp) _|with_reducible refine zaH ?_ (by simp) _));with_reducible exact zad _ _
  have q39:((s[k].toNat :Int)==39)=false:=by rw[zah];exact h39
  by_cases h34:(s[k].toNat :Int)=34
  ·have e:Hid (aR s.data.toList a=jh s.data.toList k):=by show _=_;rw[Ah.out,zaa (by omega),zaa (by omega),zaa (by omega),zab (by omega)]
   clear Ah q40 q41 q39;go_enter func120,ntmps120;go_wp2_with fail;refine(jK _ _ _ hs ha).mono ?_;rw[hk.out];rintro e w' ⟨rfl,rfl⟩;go_wp2_with fail;refine(Da _ _ _ hs hlt).mono ?_;rintro e w1 ⟨rfl,hb⟩;obtain⟨⟨x0,x1,x2,x3,x4,x5,x6⟩,f0,f1,f2,f3,f4,f5,f6⟩:=dt (b:=w.heap.size) hb (zav w _);have HB:Hid (Φ w.heap.size w w1):=((zad _ w).alloc (zac _) _).trans (hb.mono (by simp));clear hb;unfold bP;go_wp2_with fail;exact zao (v:=bP (jh s.data.toList k)) (by simp[results,results120,bP,go_sem, *]) rfl ⟨by rw[e.out],gh HB.out _ _ _ _ _ _ _⟩
  have q34:((s[k].toNat :Int)==34)=false:=by rw[zah];exact h34
  by_cases h35:(s[k].toNat :Int)=35
  ·have e:Hid (aR s.data.toList a=ed s.data.toList k):=by show _=_;rw[Ah.out,zaa (by omega),zaa (by omega),zaa (by omega),zaa (by omega),zab (by omega)]
   clear Ah q40 q41 q39 q34;go_enter func120,ntmps120;go_wp2_with fail;refine(jK _ _ _ hs ha).mono ?_;rw[hk.out];rintro e w' ⟨rfl,rfl⟩;go_wp2_with fail;refine(Dc _ _ _ hs hlt).mono ?_;rintro e w1 ⟨rfl,hb⟩;obtain⟨⟨x0,x1,x2,x3,x4,x5,x6⟩,f0,f1,f2,f3,f4,f5,f6⟩:=dt (b:=w.heap.size) hb (zav w _);have HB:Hid (Φ w.heap.size w w1):=((zad _ w).alloc (zac _) _).trans (hb.mono (by simp));clear hb;unfold bP;go_wp2_with fail;exact zao (v:=bP (ed s.data.toList k)) (by simp[results,results120,bP,go_sem, *]) rfl ⟨by rw[e.out],gh HB.out _ _ _ _ _ _ _⟩
  have q35:((s[k].toNat :Int)==35)=false:=by rw[zah];exact h35
  cases hw:bq (s[k].toNat :Int)
  ·have e:Hid (aR s.data.toList a=bt k):=by show _=_;rw[Ah.out,zaa (by omega),zaa (by omega),zaa (by omega),zaa (by omega),zaa (by omega),hw];rfl
   have hw':Hid _:=hw;clear Ah hw;go_enter func120,ntmps120;go_wp2_with fail;refine(jK _ _ _ hs ha).mono ?_;rw[hk.out];rintro e w' ⟨rfl,rfl⟩;go_wp2_with fail;refine(iQ _ _ (by omega) (by have:=s[k].toNat_lt;omega)).mono ?_;rw[hw'.out];rintro e w' ⟨rfl,rfl⟩;go_wp2_with fail;refine(jy _ _).mono ?_;rintro e w1 ⟨rfl,hb⟩;obtain⟨⟨x0,x1,x2,x3,x4,x5,x6⟩,f0,f1,f2,f3,f4,f5,f6⟩:=dt (b:=w.heap.size) hb (zav w _);have HB:Hid (Φ w.heap.size w w1):=((zad _ w).alloc (zac _) _).trans (hb.mono (by simp));clear hb;unfold bP;go_wp2_with fail;exact zao (v:=bP (bt k)) (by simp[results,results120,bP,go_sem, *]) rfl ⟨by rw[e.out],gh HB.out _ _ _ _ _ _ _⟩
  ·have e:Hid (aR s.data.toList a=fN s.data.toList k):=by show _=_;rw[Ah.out,zaa (by omega),zaa (by omega),zaa (by omega),zaa (by omega),zaa (by omega),hw];rfl
   have hw':Hid _:=hw;clear Ah hw;go_enter func120,ntmps120;go_wp2_with fail;refine(jK _ _ _ hs ha).mono ?_;rw[hk.out];rintro e w' ⟨rfl,rfl⟩;go_wp2_with fail;refine(iQ _ _ (by omega) (by have:=s[k].toNat_lt;omega)).mono ?_;rw[hw'.out];rintro e w' ⟨rfl,rfl⟩;go_wp2_with fail;refine(C7 _ _ _ hs hlt hw'.out).mono ?_;rintro e w1 ⟨rfl,hb⟩;obtain⟨⟨x0,x1,x2,x3,x4,x5,x6⟩,f0,f1,f2,f3,f4,f5,f6⟩:=dt (b:=w.heap.size) hb (zav w _);have HB:Hid (Φ w.heap.size w w1):=((zad _ w).alloc (zac _) _).trans (hb.mono (by simp));clear hb;unfold bP;go_wp2_with fail;exact zao (v:=bP (fN s.data.toList k)) (by simp[results,results120,bP,go_sem, *]) rfl ⟨by rw[e.out],gh HB.out _ _ _ _ _ _ _⟩
 ·have eF:k=s.size:=by omega
  have e:Hid (aR s.data.toList a=nW s.data.toList):=by
   show _=_;rw[hT.out];unfold cM;rw[show s.data.toList.drop k=[] from zbS (by rw[bR];omega)]
  have qe:((k:Int)==(s.size:Int))=true:=by rw[zaJ];omega
  clear hT;go_enter func120,ntmps120;go_wp2_with fail;refine(jK _ _ _ hs ha).mono ?_;rw[hk.out];rintro e w' ⟨rfl,rfl⟩;go_wp2_with fail;refine(uo _ _).mono ?_;rintro e w1 ⟨rfl,hb⟩;obtain⟨⟨x0,x1,x2,x3,x4,x5,x6⟩,f0,f1,f2,f3,f4,f5,f6⟩:=dt (b:=w.heap.size) hb (zav w _);have HB:Hid (Φ w.heap.size w w1):=((zad _ w).alloc (zac _) _).trans (hb.mono (by simp));clear hb;unfold bP;go_wp2_with fail;exact zao (v:=bP (nW s.data.toList)) (by simp[results,results120,bP,go_sem, *]) rfl ⟨by rw[e.out],gh HB.out _ _ _ _ _ _ _⟩
end Go.Proofs.YtlhimdjkkiflhaaGreatDoor
