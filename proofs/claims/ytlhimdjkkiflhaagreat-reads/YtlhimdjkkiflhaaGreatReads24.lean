import Derived.Test.YtlhimdjkkiflhaaGreatReads17
set_option maxHeartbeats 8000000
set_option maxRecDepth 100000
namespace Go.Loop
structure RT where
 k:Nat
 f:Nat
 t:Nat
 x:List UInt8
 n:Int
 d:Int
def vw (a:Nat):RT:=⟨120,a,0,[],0,0⟩
def OJ (l:List UInt8):RT:=⟨101,l.length,l.length,[],0,0⟩
def ij (n:Int)(l:List UInt8)(k:Nat):Int×Nat:=(cf n ((l.drop k).take (au aD (l.drop k))),k+au aD (l.drop k))
def Bz (l:List UInt8)(a:Nat):Hb→RT
 |.fin=>OJ l
 |.bad=>vw a
 |.ok e b=>⟨115,a,e,b,0,0⟩
def lJ (l:List UInt8)(a:Nat):RT:=Bz l a (bU (a+1) [] (l.drop (a+1)))
def o7 (l:List UInt8)(a m:Nat):RT:=
 if 1<m then(if cW ((l.drop (a+2)).take m)<0 then vw a else⟨99,a,a+2+m,[],cW ((l.drop (a+2)).take m),0⟩)
 else match l.drop (a+2)with
  |[]=>vw a
  |c::_=>if c.toNat<33∨126<c.toNat then vw a else⟨99,a,a+3,[],(c.toNat:Int),0⟩
def en (l:List UInt8)(a:Nat):RT:=o7 l a (au eL (l.drop (a+2)))
def kQ (w:List UInt8)(a:Nat)(neg:Bool)(i:Nat):RT:=
 if(ij 0 w i).2=w.length then⟨110,a,a+w.length,[],if neg then -(ij 0 w i).1 else(ij 0 w i).1,1⟩
 else if(w[(ij 0 w i).2]?.map (·.toNat)).getD 0≠47∨(ij 0 w ((ij 0 w i).2+1)).2≠w.length∨(ij 0 w ((ij 0 w i).2+1)).2=(ij 0 w i).2+1 then vw a
 else⟨110,a,a+w.length,[],if neg then -(ij 0 w i).1 else(ij 0 w i).1,(ij 0 w ((ij 0 w i).2+1)).1⟩
def BA (w:List UInt8)(a:Nat):RT:=
 match w with
 |[]=>vw a
 |c::_=>kQ w a (decide (c.toNat=45)) (if c.toNat=43∨c.toNat=45 then 1 else 0)
def fj (w:List UInt8)(a:Nat):RT:=
 if w=[]then vw a
 else if w=[46]then⟨46,a,a+1,[],0,0⟩
 else if bN w=false then⟨119,a,a+w.length,w,0,0⟩
 else BA w a
def fF (l:List UInt8)(a e:Nat):RT:=
 if cq l (a+1) e=[116]∨cq l (a+1) e=[116,114,117,101]then⟨98,a,e,[],1,0⟩
 else if cq l (a+1) e=[102]∨cq l (a+1) e=[102,97,108,115,101]then⟨98,a,e,[],0,0⟩
 else vw a
def jH (l:List UInt8)(a:Nat):RT:=
 if a+1<(ij 0 l (a+1)).2∧(ij 0 l (a+1)).2<a+5∧(l[(ij 0 l (a+1)).2]?.map (·.toNat)).getD 0=61 then⟨112,a,(ij 0 l (a+1)).2+1,[],(ij 0 l (a+1)).1,0⟩
 else if a+1<(ij 0 l (a+1)).2∧(ij 0 l (a+1)).2<a+5∧(l[(ij 0 l (a+1)).2]?.map (·.toNat)).getD 0=35 then⟨97,a,(ij 0 l (a+1)).2+1,[],(ij 0 l (a+1)).1,0⟩
 else fF l a (a+1+au aX (l.drop (a+1)))
def cF (l:List UInt8)(a:Nat):RT:=
 match l.drop (a+1)with
 |[]=>jH l a
 |c::_=>if c.toNat=40 then⟨118,a,a+2,[],0,0⟩else if c.toNat=59 then⟨59,a,a+2,[],0,0⟩else if c.toNat=92 then en l a else jH l a
def oo (l:List UInt8)(a:Nat):RT:=
 match l.drop a with
 |[]=>OJ l
 |c::_=>
  if c.toNat=40∨c.toNat=41∨c.toNat=39 then⟨c.toNat,a,a+1,[],0,0⟩
  else if c.toNat=34 then lJ l a else if c.toNat=35 then cF l a
  else fj (cq l a (a+au aX (l.drop a))) a
def fN (l:List UInt8)(a:Nat):RT:=
 if(cV (l.drop a).length true (l.drop a)).2=false∨l.length≤a+(cV (l.drop a).length true (l.drop a)).1 then OJ l
 else oo l (a+(cV (l.drop a).length true (l.drop a)).1)
def kb (n:Nat):Nat:=[101,120,40,41,39,118,59,46,115,99,112,97,98,110,119].getD n 0
def RT.big (r:RT):Prop:=1000000<r.n∨r.n< -1000000∨1000000<r.d
instance (r:RT):Decidable r.big:=by unfold RT.big;infer_instance
structure TR (r:RT) (t:Tok):Prop where
 kd:t.kind≤14
 k:r.k=kb t.kind
 f:r.f=t.from_
 x:r.x=t.text
 n:t.kind≠13→r.n=t.n
 m:t.kind=13→(t.fault=7∧r.big)∨(t.fault=3∧¬r.big∧r.d=0)∨(t.fault=0∧¬r.big∧r.d≠0∧t.n=r.n.tdiv (Int.gcd r.n r.d)∧t.d=r.d/(Int.gcd r.n r.d))
structure TE (r:RT) (t:Tok):Prop extends TR r t where
 t:2≤t.kind→r.t=t.jZ
theorem BB (a:Nat):TE (vw a) (bG a):=⟨⟨(by show 1≤14;decide),rfl,rfl,rfl,λ_=>rfl,λh=>(by cases h)⟩,λh=>by have:2≤1:=h;omega⟩
theorem Ue (l:List UInt8):TE (OJ l) (nQ l):=⟨⟨(by show 0≤14;decide),rfl,rfl,rfl,λ_=>rfl,λh=>(by cases h)⟩,λh=>by have:2≤0:=h;omega⟩
theorem iK {k a e:Nat}{x:List UInt8}{n:Int}(hk:k≤14)(h13:k≠13){c:Nat}(hc:c=kb k):TE ⟨c,a,e,x,n,0⟩ ⟨k,a,e,x,n,0,0⟩:=⟨⟨hk,hc,rfl,rfl,λ_=>rfl,λh=>absurd h h13⟩,λ_=>rfl⟩
theorem QA (l:List UInt8)(a:Nat):TE (lJ l a) (j0 l a):=by
 unfold lJ j0;cases bU (a+1) [] (l.drop (a+1))with
 |fin=>exact Ue l
 |bad=>exact BB a
 |ok e b=>exact iK (k:=8) (by decide) (by decide) rfl
theorem QB (l:List UInt8)(a:Nat):TE (en l a) (jz l a):=by
 unfold en jz o7;have e:cq l (a+2) (a+2+au eL (l.drop (a+2)))=(l.drop (a+2)).take (au eL (l.drop (a+2))):=by unfold cq;congr 1;omega
 rw[e];split
 ·unfold pO;by_cases h:cW ((l.drop (a+2)).take (au eL (l.drop (a+2))))<0
  ·rw[zac h,zaa (by omega)];exact BB a
  ·rw[zaa h,zac (by omega)];exact iK (k:=9) (by decide) (by decide) rfl
 ·cases hd:l.drop (a+2)with
  |nil=>exact BB a
  |cons c r=>
   dsimp only;split
   ·rw[zaa (by omega)];exact BB a
   ·rw[zac (by omega)];exact iK (k:=9) (by decide) (by decide) rfl
theorem xG (l:List UInt8)(a:Nat):TE (fF l a (a+1+au aX (l.drop (a+1)))) (dA l a):=by
 unfold fF dA;dsimp only;split
 ·exact iK (k:=12) (by decide) (by decide) rfl
 ·split
  ·exact iK (k:=12) (by decide) (by decide) rfl
  ·exact BB a
theorem M3 {l:List UInt8}{k:Nat}:(l[k]?.map (·.toNat)).getD 0=match l.drop k with|[]=>0|c::_=>c.toNat:=by
 cases h:l.drop k with
 |nil=>rw[zbC (List.drop_eq_nil_iff.1 h)];rfl
 |cons c r=>
  have:l[k]?=some c:=by
   have:=zal (·[0]?) h;simpa using this
  rw[this];rfl
theorem M4 (l:List UInt8)(a:Nat):TE (jH l a) ((dQ l a).getD (dA l a)):=by
 unfold jH dQ;have e:cq l (a+1) (a+1+au aD (l.drop (a+1)))=(l.drop (a+1)).take (au aD (l.drop (a+1))):=by unfold cq;congr 1;omega
 rw[M3];dsimp only;show TE (if a+1<a+1+au aD (l.drop (a+1))∧a+1+au aD (l.drop (a+1))<a+5∧(match l.drop (a+1+au aD (l.drop (a+1)))with|[]=>0|c::_=>c.toNat)=61 then _ else if a+1<a+1+au aD (l.drop (a+1))∧a+1+au aD (l.drop (a+1))<a+5∧(match l.drop (a+1+au aD (l.drop (a+1)))with|[]=>0|c::_=>c.toNat)=35 then _ else _) _;rw[e];by_cases h:au aD (l.drop (a+1))=0∨3<au aD (l.drop (a+1))
 ·rw[zac h,zaa (by omega),zaa (by omega)];exact xG l a
 ·rw[zaa h];cases hd:l.drop (a+1+au aD (l.drop (a+1)))with
  |nil=>
   dsimp only;rw[zaa (by omega),zaa (by omega)];exact xG l a
  |cons c r=>
   dsimp only;by_cases h1:c.toNat=61
   ·rw[zac h1,zac ⟨by omega,by omega,h1⟩];exact iK (k:=10) (by decide) (by decide) rfl
   ·rw[zaa h1,zaa (λq=>h1 q.2.2)];by_cases h2:c.toNat=35
    ·rw[zac h2,zac ⟨by omega,by omega,h2⟩];exact iK (k:=11) (by decide) (by decide) rfl
    ·rw[zaa h2,zaa (λq=>h2 q.2.2)];exact xG l a
theorem QC (l:List UInt8)(a:Nat):TE (cF l a) (fK l a):=by
 unfold cF fK;cases hd:l.drop (a+1)with
 |nil=>exact M4 l a
 |cons c r=>
  dsimp only;by_cases h1:c.toNat=40
  ·rw[zac h1,zac h1];exact iK (k:=5) (by decide) (by decide) rfl
  rw[zaa h1,zaa h1];by_cases h2:c.toNat=59
  ·rw[zac h2,zac h2];exact iK (k:=6) (by decide) (by decide) rfl
  rw[zaa h2,zaa h2];by_cases h3:c.toNat=92
  ·rw[zac h3,zac h3];exact QB l a
  ·rw[zaa h3,zaa h3];exact M4 l a
theorem QD:∀l:List UInt8,bV (l.take (au aD l))= !decide (au aD l=0):=by
 intro l;unfold bV;have:∀l:List UInt8,(l.take (au aD l)).all (λc=>aD (c.toNat:Int))=true:=by
  intro l
  induction l with
  |nil=>rfl
  |cons c r ih=>
   unfold au;split
   ·rename_i h;rw[zcn,zaq,h,ih];rfl
   ·rfl
 rw[this,zbO];cases l with
 |nil=>rfl
 |cons c r=>
  unfold au;split<;>simp
theorem xH (p:Int→Bool):∀l:List UInt8,au p l≤l.length
 |[]=>zab _
 |c::r=>by
  unfold au;split
  ·have:=xH p r;simp;omega
  ·simp
theorem DT (p:Int→Bool):∀(l:List UInt8) (c:UInt8) (r:List UInt8),l.drop (au p l)=c::r→p (c.toNat:Int)=false
 |[],c,r,h=>by simp[au]at h
 |d::l,c,r,h=>by
  unfold au at h;split at h
  ·exact DT p l c r (by simpa using h)
  ·rename_i hp;simp only[zbJ,List.cons.injEq]at h;rw[←h.1];simpa using hp
theorem o9:∀l:List UInt8,eE l=match l.drop (au aD l)with|[]=>none|c::r=>if c.toNat=47 then some (l.take (au aD l),r)else(eE (c::r)).map λp=>(l.take (au aD l)++p.1,p.2)
 |[]=>rfl
 |d::l=>by
  have ih:=o9 l;by_cases hd:aD (d.toNat:Int)=true
  ·have VT:d.toNat≠47:=by
    intro e;rw[e]at hd;exact absurd hd (by decide)
   have er:au aD (d::l)=au aD l+1:=by rw[au,zac hd]
   rw[er,eE,zaa VT,ih,zca,zcn];cases hq:l.drop (au aD l)with
   |nil=>rfl
   |cons c r=>
    dsimp only;split
    ·rfl
    ·rw[Option.map_map];rfl
  ·have er:au aD (d::l)=0:=by rw[au,zaa hd]
   rw[er];show eE (d::l)=if d.toNat=47 then some ([],l)else(eE (d::l)).map λp=>([]++p.1,p.2)
   rw[eE];split
   ·rfl
   ·rw[Option.map_map]
    congr 1
theorem kx:∀(l:List UInt8) (n:Int),0≤n→l.all (λc=>aD (c.toNat:Int))=true→0≤cf n l
 |[],n,h,_=>h
 |c::l,n,h,hl=>by
  rw[zaq,zai]at hl;have hc:48≤(c.toNat:Int)∧(c.toNat:Int)≤57:=by simpa[aD]using hl.1
  show 0≤cf (min (n*10+((c.toNat:Int)-48)) 1000001) l;exact kx l _ (by omega) hl.2
theorem rR (l:List UInt8):(l.take (au aD l)).all (λc=>aD (c.toNat:Int))=true:=by
 induction l with
 |nil=>rfl
 |cons c r ih=>
  unfold au;split
  ·rename_i h;rw[zcn,zaq,h,ih];rfl
  ·rfl
theorem xI (l:List UInt8):bV l=(!decide (au aD l=0)&&decide (au aD l=l.length)):=by
 unfold bV;rw[←CU];cases l with
 |nil=>rfl
 |cons c r=>
  by_cases h:au aD (c::r)=(c::r).length
  ·have:¬au aD (c::r)=0:=by rw[h];simp
   simp[h]
  ·simp only[h,decide_false,Bool.and_false]
def QE (neg:Bool)(n d:Int):Option (Int×Int×Int):=if 1000000<n∨1000000<d then some (0,0,7)else if d=0 then some (0,0,3)else let m:=if neg then -n else n;some (m.tdiv (Int.gcd m d),d/(Int.gcd m d),0)
theorem M5 (neg:Bool)(l:List UInt8):numberOf neg l=if(bV ((eE l).getD (l,[49])).1&&bV ((eE l).getD (l,[49])).2)=true then QE neg (aA ((eE l).getD (l,[49])).1) (aA ((eE l).getD (l,[49])).2)else none:=rfl
def zY (a e:Nat):Option (Int×Int×Int)→Tok
 |none=>bG a
 |some (n,d,f)=>⟨13,a,e,[],n,d,f⟩
theorem M6 {a e:Nat}{neg:Bool}{n d:Int}(hn:0≤n)(hd:0≤d):TE ⟨110,a,e,[],if neg then -n else n,d⟩ (zY a e (QE neg n d)):=by
 have vX:RT.big ⟨110,a,e,[],if neg then -n else n,d⟩↔(1000000<n∨1000000<d):=by
  unfold RT.big;cases neg<;>simp<;>omega
 unfold QE;by_cases h1:1000000<n∨1000000<d
 ·rw[zac h1];exact⟨⟨by show 13≤14;decide,rfl,rfl,rfl,λh=>absurd rfl h,λ_=> .inl ⟨rfl,vX.2 h1⟩⟩,λ_=>rfl⟩
 ·rw[zaa h1];by_cases h2:d=0
  ·rw[zac h2];exact⟨⟨by show 13≤14;decide,rfl,rfl,rfl,λh=>absurd rfl h,λ_=> .inr (.inl ⟨rfl,λq=>h1 (vX.1 q),h2⟩)⟩,λ_=>rfl⟩
  ·rw[zaa h2];exact⟨⟨by show 13≤14;decide,rfl,rfl,rfl,λh=>absurd rfl h,λ_=> .inr (.inr ⟨rfl,λq=>h1 (vX.1 q),h2,rfl,rfl⟩)⟩,λ_=>rfl⟩
theorem F9 {w l:List UInt8}{a i:Nat}{neg:Bool}(hl:w.drop i=l)(hi:i≤w.length)(hr:0<au aD l):TE (kQ w a neg i) (zY a (a+w.length) (numberOf neg l)):=by
 have hwl:w.length=i+l.length:=by rw[←hl,zan];omega
 have e1:ij 0 w i=(aA (l.take (au aD l)),i+au aD l):=by unfold ij aA;rw[hl]
 have hle:=xH aD l;have zi:0≤aA (l.take (au aD l)):=kx _ 0 (Int.le_refl _) (rR l);unfold kQ;rw[e1];dsimp only;rw[M5];by_cases hm:au aD l=l.length
 ·have hdr:l.drop (au aD l)=[]:=by rw[hm];simp
  have hsl:eE l=none:=by rw[o9,hdr]
  have ht:l.take (au aD l)=l:=by rw[hm];simp
  have Jx:bV l=true:=by rw[xI,zbr (show ¬au aD l=0 by omega),zcb hm];rfl
  rw[zac (show i+au aD l=w.length by omega),hsl];rw[zac (show(bV ((none:Option (List UInt8×List UInt8)).getD (l,[49])).1&&bV ((none:Option (List UInt8×List UInt8)).getD (l,[49])).2)=true by show(bV l&&bV [49])=true;rw[Jx];decide),ht];rw[ht]at zi;exact M6 (a:=a) (e:=a+w.length) (neg:=neg) zi (show(0:Int)≤1 by decide)
 ·rw[zaa (show ¬i+au aD l=w.length by omega)];cases hd:l.drop (au aD l)with
  |nil=>
   have:=zal List.length hd;simp at this;omega
  |cons c r=>
   have hc:w[i+au aD l]?=some c:=by
    have h1:l[au aD l]?=some c:=by
     have:=zal (·[0]?) hd;simpa using this
    rw[←hl,zck]at h1;rw[←hl];exact h1
   rw[hc];have hr2:w.drop (i+au aD l+1)=r:=by
    rw[show i+au aD l+1=i+(au aD l+1) by omega,←zbe,hl,←zbe,hd];rfl
   have hlr:l.length=au aD l+1+r.length:=by
    have:=zal List.length hd;simp at this;omega
   have e2:ij 0 w (i+au aD l+1)=(aA (r.take (au aD r)),i+au aD l+1+au aD r):=by unfold ij aA;rw[hr2]
   have aex:=xH aD r;rw[e2];dsimp only;show TE (if c.toNat≠47∨i+au aD l+1+au aD r≠w.length∨i+au aD l+1+au aD r=i+au aD l+1 then _ else _) _;by_cases VT:c.toNat=47
   ·have hsl:eE l=some (l.take (au aD l),r):=by rw[o9,hd];dsimp only;rw[zac VT]
    rw[hsl];show TE _ (zY a (a+w.length) (if(bV (l.take (au aD l))&&bV r)=true then QE neg (aA (l.take (au aD l))) (aA r)else none));have yL:bV (l.take (au aD l))=true:=by rw[QD];simp;omega
    rw[yL,Bool.true_and,xI];by_cases h2:au aD r=0∨au aD r≠r.length
    ·rw[zac (show c.toNat≠47∨i+au aD l+1+au aD r≠w.length∨i+au aD l+1+au aD r=i+au aD l+1 by omega),zaa (by rw[zai,decide_eq_true_iff,Bool.not_eq_true',zcr];omega)];exact BB a
    ·have ht:r.take (au aD r)=r:=by rw[show au aD r=r.length by omega];simp
     rw[zaa (show ¬(c.toNat≠47∨i+au aD l+1+au aD r≠w.length∨i+au aD l+1+au aD r=i+au aD l+1) by omega),zac (show(!decide (au aD r=0)&&decide (au aD r=r.length))=true by rw[zai,decide_eq_true_iff,Bool.not_eq_true',zcr];omega),ht];have Ov:0≤aA r:=by have:=kx _ 0 (Int.le_refl _) (rR r);rw[ht]at this;exact this
     exact M6 (a:=a) (e:=a+w.length) (neg:=neg) zi Ov
   ·rw[zac (.inl VT)];have hno:bV l=false:=by rw[xI];simp[hm]
    cases hs:eE l with
    |none=>
     show TE _ (zY a (a+w.length) (if(bV l&&bV [49])=true then _ else none));rw[hno,zaa (by decide)];exact BB a
    |some p=>
     rw[o9,hd]at hs;dsimp only at hs;rw[zaa VT,eE,zaa VT,Option.map_map]at hs;obtain⟨p',h1,rfl⟩:=zav.1 hs;have Hf:=DT aD l c r hd;have hf:bV (l.take (au aD l)++c::p'.1)=false:=by
      unfold bV;rw[List.all_append,zaq,Hf];simp
     show TE _ (zY a (a+w.length) (if(bV (l.take (au aD l)++c::p'.1)&&bV p'.2)=true then _ else none));rw[hf,Bool.false_and,zaa (by decide)];exact BB a
theorem BC {c:UInt8}{r:List UInt8}(h:aD (c.toNat:Int)=true):0<au aD (c::r):=by rw[au,zac h];omega
theorem QF {w:List UInt8}{a:Nat}(h:bN w=true):TE (BA w a) (zY a (a+w.length) (fC w)):=by
 cases w with
 |nil=>cases h
 |cons c r=>
  unfold BA fC;dsimp only;by_cases FN:c.toNat=45
  ·rw[zac FN,zac (.inr FN)];have hd:0<au aD r:=by
    simp only[bN]at h;rw[zac (.inr FN)]at h;cases r with
    |nil=>cases h
    |cons d r=>exact BC h
   have:=F9 (w:=c::r) (l:=r) (a:=a) (i:=1) (neg:=true) rfl (by simp) hd;rw[show decide (c.toNat=45)=true by simpa using FN];exact this
  ·rw[zaa FN,show decide (c.toNat=45)=false by simpa using FN];by_cases KF:c.toNat=43
   ·rw[zac KF,zac (.inl KF)];have hd:0<au aD r:=by
     simp only[bN]at h;rw[zac (.inl KF)]at h;cases r with
     |nil=>cases h
     |cons d r=>exact BC h
    exact F9 (w:=c::r) (l:=r) (a:=a) (i:=1) (neg:=false) rfl (by simp) hd
   ·rw[zaa KF,zaa (by omega)];simp only[bN]at h;rw[zaa (by omega)]at h;exact F9 (w:=c::r) (l:=c::r) (a:=a) (i:=0) (neg:=false) rfl (by simp) (BC h)
theorem QH {l:List UInt8}{a:Nat}{c:UInt8}{r:List UInt8}(hd:l.drop a=c::r):TE (fj (cq l a (a+au aX (l.drop a))) a) (if aX (c.toNat:Int)then jA l a else bG a):=by
 have ec:cq l a (a+au aX (l.drop a))=(l.drop a).take (au aX (l.drop a)):=by unfold cq;congr 1;omega
 have hlen:(cq l a (a+au aX (l.drop a))).length=au aX (l.drop a):=by
  rw[ec,List.length_take];have:=xH aX (l.drop a);omega
 by_cases hw:aX (c.toNat:Int)=true
 ·have hne:cq l a (a+au aX (l.drop a))≠[]:=by
   intro e;rw[e]at hlen;rw[hd,au,zac hw]at hlen;simp at hlen
  rw[zac hw];unfold fj jA;dsimp only;rw[zaa hne];by_cases KP:cq l a (a+au aX (l.drop a))=[46]
  ·rw[zac KP,zac KP];rw[KP]at hlen;rw[←hlen];exact iK (k:=7) (by decide) (by decide) rfl
  ·rw[zaa KP,zaa KP];cases hm:bN (cq l a (a+au aX (l.drop a)))with
   |false=>
    rw[zac rfl,zac (by rfl),hlen];exact iK (k:=14) (by decide) (by decide) rfl
   |true=>
    have:=QF (a:=a) hm;rw[hlen]at this;rw[zaa (by decide),zaa (by decide)];exact this
 ·rw[zaa hw];have:cq l a (a+au aX (l.drop a))=[]:=by
   apply zcl.1;rw[hlen,hd,au,zaa hw]
  rw[this];exact BB a
theorem M7 (l:List UInt8)(a:Nat):TE (oo l a) (pP l a):=by
 unfold oo pP;cases hd:l.drop a with
 |nil=>exact Ue l
 |cons c r=>
  dsimp only;by_cases h1:c.toNat=40
  ·rw[zac (.inl h1),zac h1,h1];exact iK (k:=2) (by decide) (by decide) rfl
  rw[zaa h1];by_cases h2:c.toNat=41
  ·rw[zac (.inr (.inl h2)),zac h2,h2];exact iK (k:=3) (by decide) (by decide) rfl
  rw[zaa h2];by_cases h3:c.toNat=39
  ·rw[zac (.inr (.inr h3)),zac h3,h3];exact iK (k:=4) (by decide) (by decide) rfl
  rw[zaa h3,zaa (by omega)];by_cases h4:c.toNat=34
  ·rw[zac h4,zac h4];exact QA l a
  rw[zaa h4,zaa h4];by_cases h5:c.toNat=35
  ·rw[zac h5,zac h5];exact QC l a
  rw[zaa h5,zaa h5];have:=QH hd;rw[hd]at this;exact this
theorem QI (o:Nat)(l:List UInt8):(bf o l).1≤l.length:=by
 fun_induction bf o l<;>simp_all<;>omega
theorem rT:∀(n o:Nat) (l:List UInt8),l.length≤n→(bf o l).2=false→(bf o l).1=l.length
 |_,o,[],_,_=>by simp[bf]
 |_,o,[c],_,_=>by simp[bf]
 |0,o,c::d::r,hn,_=>by simp at hn
 |n+1,o,c::d::r,hn,h=>by
  simp only[zas]at hn;rw[bf]at h ⊢;split at h
  ·rename_i hc;rw[zac hc];have:=rT n (o+1) r (by omega) h;simp only[this,zas]
  ·rename_i hc;rw[zaa hc];split at h
   ·rename_i hc2;rw[zac hc2];split at h
    ·cases h
    ·rename_i ho;rw[zaa ho];have:=rT n (o-1) r (by omega) h;simp only[this,zas]
   ·rename_i hc2;rw[zaa hc2];have:=rT n o (d::r) (by simp;omega) h;simp only[this,zas]
theorem rU:∀(n:Nat) (l:List UInt8),(cV n true l).2=false→(cV n true l).1=l.length
 |0,l,h=>by simp[cV]at h
 |n+1,[],h=>by simp[cV]at h
 |n+1,c::r,h=>by
  have hnil:∀b,cV n b []=(0,b):=λb=>by cases n<;>rfl
  have aey:cU r≤r.length:=by
   clear h
   induction r with
   |nil=>exact zab _
   |cons d r ih=>rw[cU];split<;>simp<;>omega
  simp only[cV]at h ⊢;split at h
  ·rename_i hb;rw[zac hb];have:=rU n r h;simp only[this,zas]
  ·rename_i hb;rw[zaa hb];split at h
   ·rename_i hb2;rw[zac hb2];have:=rU n _ h;simp only[this,zas,zan];omega
   ·rename_i hb2;rw[zaa hb2];split at h
    ·rename_i hb3;rw[zac hb3];cases hc:(bf 0 (c::r)).2 with
     |true=>
      rw[hc]at h;have:=rU n _ h;simp only[this,zan];have hle:=QI 0 (c::r);omega
     |false=>
      have hall:=rT _ 0 (c::r) (zab _) hc;rw[hall];simp only[zcg,hnil,Nat.zero_add]
    ·cases h
theorem Hz (l:List UInt8)(a:Nat):TE (fN l a) (aO l a):=by
 unfold fN aO mW;by_cases h:(cV (l.drop a).length true (l.drop a)).2=false∨l.length≤a+(cV (l.drop a).length true (l.drop a)).1
 ·rw[zac h];have:l.length≤a+(cV (l.drop a).length true (l.drop a)).1:=by
   rcases h with h|h
   ·have:=rU _ _ h;rw[this,zan];omega
   ·exact h
  unfold pP;rw[zaW this];exact Ue l
 ·rw[zaa h];exact M7 l _
def lK (T:List Tok):Nat→Nat
 |0=>0
 |k+1=>((T[k]?).map (·.jZ)).getD 0
def Uf (L:Nat→RT)(T:List Tok):Prop:=∀k t,T[k]?=some t→TR (L (lK T k)) t∧(2≤t.kind→(L (lK T k)).t=lK T (k+1))
theorem zZ:∀(n:Nat) (s:List UInt8) (a k:Nat) (t:Tok),(aH n s a)[k]?=some t→t=aO s (match k with|0=>a|k+1=>(((aH n s a)[k]?).map (·.jZ)).getD 0)
 |0,s,a,k,t,h=>by simp[aH]at h
 |n+1,s,a,0,t,h=>by
  rw[aH]at h;split at h<;>simp at h<;>exact h.symm
 |n+1,s,a,k+1,t,h=>by
  rw[aH]at h ⊢;split at h
  ·simp at h
  ·rename_i hl;rw[zaa hl];rw[List.getElem?_cons_succ]at h;have:=zZ n s _ k t h;cases k with
   |zero=>exact this
   |succ k=>exact this
theorem DU (n:Nat)(s:List UInt8):Uf (fN s) (aH n s 0):=by
 intro k t h;have e:t=aO s (lK (aH n s 0) k):=by
  have:=zZ n s 0 k t h;cases k<;>exact this
 have te:=Hz s (lK (aH n s 0) k);rw[←e]at te;refine⟨te.toTR,λh2=>?_⟩;rw[te.t h2];show t.jZ=(((aH n s 0)[k]?).map (·.jZ)).getD 0;rw[h];rfl
def fq:dF:=⟨0,[],0,0,[]⟩
structure FS where
 at_:Nat
 nodes:List dF
 same:List (Option Nat)
 label:Int→Nat
 begun:List Bool
inductive FR (α:Type) where
 |out
 |fail (e:Int) (at_:Nat)
 |ok (a:α) (s:FS)
def FR.bind {α β:Type}(x:FR α)(f:α→FS→FR β):FR β:=
 match x with
 |.out=> .out
 |.fail e a=> .fail e a
 |.ok a s=>f a s
def FS.to (s:FS)(a:Nat):FS:={ s with at_:=a }
def FS.add (s:FS)(x:dF):FS:={ s with nodes:=s.nodes++[x],same:=s.same++[none],begun:=s.begun++[false] }
def FS.bT (s:FS)(n:Int):FS:={ s.add fq with label:=λm=>if m=n then s.nodes.length+1 else s.label m }
def FS.aZ (s:FS)(mine:List Nat):FS:={ s with begun:=mine.foldl (λl i=>l.set i true) s.begun }
def FS.is (s:FS)(mine:List Nat)(n:Nat):FS:={ s with same:=mine.foldl (λl i=>l.set i (some n)) s.same }
def aR:List Nat→Nat→FS→Nat×FS
 |[],rest,s=>(rest,s)
 |a::l,rest,s=>((aR l rest s).2.nodes.length,(aR l rest s).2.add ⟨1,[],0,0,[a,(aR l rest s).1]⟩)
def FS.atom (s:FS)(t:RT)(x:dF):FR Nat:= .ok s.nodes.length ((s.to t.t).add x)
section
variable (L:Nat→RT)(rI:Nat)
mutual
def cX:Nat→Nat→FS→FR RT
 |0,_,_=> .out
 |n+1,deep,s=>if(L s.at_).k=59 then(bz n deep true (s.to (L s.at_).t)).bind λ_ s=>cX n deep s else .ok (L s.at_) s
def bz:Nat→Nat→Bool→FS→FR Nat
 |0,_,_,_=> .out
 |n+1,deep,over,s=>(cX n deep s).bind λt s=>dS n t deep over [] s
def dS:Nat→RT→Nat→Bool→List Nat→FS→FR Nat
 |0,_,_,_,_,_=> .out
 |n+1,t,deep,over,mine,s=>
  if t.k=112 then
   (if 0<s.label t.n∨over=true then .fail 5 t.f
    else if rI<deep+1 then .fail 6 t.f
    else(cX n (deep+1) ((s.to t.t).bT t.n)).bind λt' s'=>dS n t' (deep+1) over (mine++[s.nodes.length]) s')
  else if t.k=97 then
   (if s.label t.n=0∨over=true∨s.begun[s.label t.n-1]?≠some true then .fail 5 t.f
    else .ok (s.label t.n-1) (((s.to t.t).aZ mine).is mine (s.label t.n-1)))
  else(bK n t deep over (s.aZ mine)).bind λk s=> .ok k (s.is mine k)
def bK:Nat→RT→Nat→Bool→FS→FR Nat
 |0,_,_,_,_=> .out
 |n+1,t,deep,over,s=>
  if t.k=115 then s.atom t ⟨3,t.x,0,0,[]⟩
  else if t.k=119 then s.atom t ⟨4,t.x,0,0,[]⟩
  else if t.k=98 then s.atom t ⟨6,[],t.n,0,[]⟩
  else if t.k=99 then s.atom t ⟨7,[],t.n,0,[]⟩
  else if t.k=110 then
   (if t.big then .fail 7 t.f else if t.d=0 then .fail 3 t.f
    else s.atom t ⟨5,[],t.n.tdiv (Int.gcd t.n t.d),t.d/(Int.gcd t.n t.d),[]⟩)
  else if t.k=40∨t.k=118∨t.k=39 then
   (if rI<deep+1 then .fail 6 t.f else cC n t.k (deep+1) over (s.to t.t))
  else if t.k=101 then .fail 4 t.f
  else .fail 3 t.f
def cC:Nat→Nat→Nat→Bool→FS→FR Nat
 |0,_,_,_,_=> .out
 |n+1,kind,deep,over,s=>
  if kind=39 then
   (bz n deep over (s.add ⟨4,[113,117,111,116,101],0,0,[]⟩)).bind λx s'=> .ok (aR [s.nodes.length,x] s'.nodes.length (s'.add fq)).1 (aR [s.nodes.length,x] s'.nodes.length (s'.add fq)).2
  else bZ n kind deep over [] s
def bZ:Nat→Nat→Nat→Bool→List Nat→FS→FR Nat
 |0,_,_,_,_,_=> .out
 |n+1,kind,deep,over,l,s=>
  (cX n deep s).bind λt s=>
    if t.k=41 then
     (if kind=118 then .ok s.nodes.length ((s.to t.t).add ⟨2,[],0,0,l⟩)
      else .ok (aR l s.nodes.length ((s.to t.t).add fq)).1 (aR l s.nodes.length ((s.to t.t).add fq)).2)
    else if kind=40∧t.k=46∧l≠[]then
     (cN n deep over (s.to t.t)).bind λrest s=> .ok (aR l rest s).1 (aR l rest s).2
    else if kind=118∧l.length=20∧t.k≠101 then .fail 3 t.f
    else(bz n deep over s).bind λk s=>bZ n kind deep over (l++[k]) s
def cN:Nat→Nat→Bool→FS→FR Nat
 |0,_,_,_=> .out
 |n+1,deep,over,s=>
  (bz n deep over s).bind λk s=>(cX n deep s).bind λt s=>
    if t.k=41 then .ok k (s.to t.t)else if t.k=101 then .fail 4 t.f else .fail 3 t.f
end
end
def Own (s:FS)(n:Nat):Prop:=s.same[n]?=some none∧∀m,s.label m≠n+1
def mZ (φ:Nat→Option Nat)(s:FS):Dt→List Nat→Prop
 |.nil,l=>∃n,l=[n]∧s.nodes[n]?=some ⟨0,[],0,0,[]⟩∧Own s n
 |.sym t,l=>∃n,l=[n]∧s.nodes[n]?=some ⟨4,t,0,0,[]⟩∧Own s n
 |.num a b,l=>∃n,l=[n]∧s.nodes[n]?=some ⟨5,[],a,b,[]⟩∧Own s n
 |.dI a,l=>∃n,l=[n]∧s.nodes[n]?=some ⟨6,[],a,0,[]⟩∧Own s n
 |.oY a,l=>∃n,l=[n]∧s.nodes[n]?=some ⟨7,[],a,0,[]⟩∧Own s n
 |.txt i t,l=>∃n,l=[n]∧s.nodes[n]?=some ⟨3,t,0,0,[]⟩∧Own s n∧φ i=some n
 |.pair i a b,l=>∃n x y,l=[n]∧s.nodes[n]?=some ⟨1,[],0,0,[x,y]⟩∧Own s n∧φ i=some n∧mZ φ s a [x]∧mZ φ s b [y]
 |.vec i d,l=>∃n xs,l=[n]∧s.nodes[n]?=some ⟨2,[],0,0,xs⟩∧Own s n∧φ i=some n∧mZ φ s d (0::0::xs)
 |.put m d,l=>mZ φ s d l∧∃n k,l=[n]∧s.label m=k+1∧s.same[k]?=some (some n)
 |.ask m,l=>∃n,l=[n]∧s.label m=n+1
 |.ee,l=>l=[0,0]
 |.bD a d,l=>∃x xs,l=0::0::x::xs∧mZ φ s a [x]∧mZ φ s d (0::0::xs)
abbrev oq (φ:Nat→Option Nat)(s:FS)(d:Dt)(l:List Nat):Prop:=mZ φ s d (0::0::l)
structure Gs (over:Bool) (M:List Nat) (φ iU:Nat→Option Nat) (fr:Nat) (s s':FS):Prop where
 nodes:∀(k:Nat) (x:dF),s.nodes[k]?=some x→s'.nodes[k]?=some x
 sm:∀k:Nat,k<s.nodes.length→k∉M→s'.same[k]?=s.same[k]?
 bT:∀m,s.label m≠0→s'.label m=s.label m
 M8:∀m,s.label m=0→s'.label m=0∨s.nodes.length<s'.label m
 M9:∀k:Nat,k<s.nodes.length→k∉M→s'.begun[k]?=s.begun[k]?
 ov:over=true→s'.label=s.label
 phi:∀i,i<fr→iU i=φ i
structure Fi (q:eA) (s:FS) (φ:Nat→Option Nat):Prop where
 sl:s.same.length=s.nodes.length
 bl:s.begun.length=s.nodes.length
 ax:∀m,m∈q.ax↔s.label m≠0
 pD:∀m,s.label m≤s.nodes.length
 inj:∀m m',s.label m=s.label m'→s.label m≠0→m=m'
 phi:∀i n,φ i=some n→i<q.fresh∧n<s.nodes.length
 pk:∀i n,φ i=some n→∃x,s.nodes[n]?=some x∧1≤x.kind∧x.kind≤3
 BD:∀i j n,φ i=some n→φ j=some n→i=j
def Mine (M:List Nat)(s:FS):Prop:=∀j∈M,s.same[j]?=some none∧∃m,s.label m=j+1
section
variable {o o':Bool}{M M':List Nat}{φ iU Ze:Nat→Option Nat}{fr fr':Nat}{s s' s'':FS}{q:eA}
theorem Gs.own (h:Gs o M φ iU fr s s')(hf:Fi q s φ)(hM:Mine M s){n:Nat}(hn:Own s n):Own s' n:=by
 have hl:n<s.nodes.length:=by rw[←hf.sl];exact(zaD.1 hn.1).1
 have E6:n∉M:=λhm=>by
  obtain⟨m,hm⟩:=(hM n hm).2;exact hn.2 m hm
 refine⟨by rw[h.sm n hl E6];exact hn.1,λm e=>?_⟩;by_cases h0:s.label m=0
 ·rcases h.M8 m h0 with h1|h1<;>omega
 ·rw[h.bT m h0]at e;exact hn.2 m e
theorem Gs.is (h:Gs o M φ iU fr s s')(hf:Fi q s φ)(hM:Mine M s){k x:Nat}(hn:s.same[k]?=some (some x)):s'.same[k]?=some (some x):=by
 have hl:k<s.nodes.length:=by rw[←hf.sl];exact(zaD.1 hn).1
 have E6:k∉M:=λhm=>by rw[(hM k hm).1]at hn;cases hn
 rw[h.sm k hl E6];exact hn
theorem mZ.mono' (h:Gs o M φ iU fr s s')(hp:∀i n,φ i=some n→iU i=some n)(hf:Fi q s φ)(hM:Mine M s):∀{d:Dt} {l:List Nat},mZ φ s d l→mZ iU s' d l
 |.nil,l,⟨n,e,h1,h2⟩=>⟨n,e,h.nodes _ _ h1,h.own hf hM h2⟩
 |.sym t,l,⟨n,e,h1,h2⟩=>⟨n,e,h.nodes _ _ h1,h.own hf hM h2⟩
 |.num a b,l,⟨n,e,h1,h2⟩=>⟨n,e,h.nodes _ _ h1,h.own hf hM h2⟩
 |.dI a,l,⟨n,e,h1,h2⟩=>⟨n,e,h.nodes _ _ h1,h.own hf hM h2⟩
 |.oY a,l,⟨n,e,h1,h2⟩=>⟨n,e,h.nodes _ _ h1,h.own hf hM h2⟩
 |.txt i t,l,⟨n,e,h1,h2,h3⟩=>⟨n,e,h.nodes _ _ h1,h.own hf hM h2,hp _ _ h3⟩
 |.pair i a b,l,⟨n,x,y,e,h1,h2,h3,ha,hb⟩=>⟨n,x,y,e,h.nodes _ _ h1,h.own hf hM h2,hp _ _ h3,ha.mono' h hp hf hM,hb.mono' h hp hf hM⟩
 |.vec i d,l,⟨n,xs,e,h1,h2,h3,hd⟩=>⟨n,xs,e,h.nodes _ _ h1,h.own hf hM h2,hp _ _ h3,hd.mono' h hp hf hM⟩
 |.put m d,l,⟨hd,n,k,e,h1,h2⟩=>⟨hd.mono' h hp hf hM,n,k,e,by rw[h.bT m (by omega)];exact h1,h.is hf hM h2⟩
 |.ask m,l,⟨n,e,h1⟩=>⟨n,e,by rw[h.bT m (by omega)];exact h1⟩
 |.ee,l,e=>e
 |.bD a d,l,⟨x,xs,e,ha,hd⟩=>⟨x,xs,e,ha.mono' h hp hf hM,hd.mono' h hp hf hM⟩
theorem mZ.mono (h:Gs o M φ iU q.fresh s s')(hf:Fi q s φ)(hM:Mine M s){d:Dt}{l:List Nat}(hr:mZ φ s d l):mZ iU s' d l:=hr.mono' h (λi n e=>by rw[h.phi i (hf.phi _ _ e).1];exact e) hf hM
theorem Gs.refl (o:Bool)(M:List Nat)(φ:Nat→Option Nat)(fr:Nat)(s:FS):Gs o M φ φ fr s s:=⟨λ_ _ h=>h,λ_ _ _=>rfl,λ_ _=>rfl,λ_ h=> .inl h,λ_ _ _=>rfl,λ_=>rfl,λ_ _=>rfl⟩
theorem Gs.to (o:Bool)(M:List Nat)(φ:Nat→Option Nat)(fr:Nat)(s:FS)(a:Nat):Gs o M φ φ fr s (s.to a):=⟨λ_ _ h=>h,λ_ _ _=>rfl,λ_ _=>rfl,λ_ h=> .inl h,λ_ _ _=>rfl,λ_=>rfl,λ_ _=>rfl⟩
theorem Fi.to (h:Fi q s φ)(a:Nat):Fi q (s.to a) φ:=⟨h.sl,h.bl,h.ax,h.pD,h.inj,h.phi,h.pk,h.BD⟩
theorem Fi.rst (h:Fi q s φ)(k:Nat):Fi { q with k:=k } s φ:=⟨h.sl,h.bl,h.ax,h.pD,h.inj,h.phi,h.pk,h.BD⟩
theorem Gs.len (h:Gs o M φ iU fr s s'):s.nodes.length≤s'.nodes.length:=by
 cases e:s.nodes.length with
 |zero=>exact zap _
 |succ n=>
  have h1:n<s.nodes.length:=by omega
  have:=h.nodes n _ (zaP h1);have:=(zaD.1 this).1;omega
theorem Gs.trans (h:Gs o M φ iU fr s s')(h':Gs o M iU Ze fr' s' s'')(hf:fr≤fr'):Gs o M φ Ze fr s s'':=by
 have hl:=h.len;refine⟨λk x q=>h'.nodes k x (h.nodes k x q),λk q1 q2=>by rw[h'.sm k (by omega) q2,h.sm k q1 q2],λm q=>by rw[h'.bT m (by rw[h.bT m q];exact q),h.bT m q],λm q=>?_,λk q1 q2=>by rw[h'.M9 k (by omega) q2,h.M9 k q1 q2],λq=>by rw[h'.ov q,h.ov q],λi q=>by rw[h'.phi i (by omega),h.phi i q]⟩;rcases h.M8 m q with h1|h1
 ·rcases h'.M8 m h1 with h2|h2
  ·exact .inl h2
  ·right;omega
 ·right;rw[h'.bT m (by omega)];exact h1
theorem Gs.sub (h:Gs o M φ iU fr s s')(hM:∀k,k<s.nodes.length→k∈M→k∈M')(ho:o'=true→o=true)(hf:fr'≤fr):Gs o' M' φ iU fr' s s':=
 ⟨h.nodes,λk q1 q2=>h.sm k q1 λq=>q2 (hM k q1 q),h.bT,h.M8,λk q1 q2=>h.M9 k q1 λq=>q2 (hM k q1 q),λq=>h.ov (ho q),λi q=>h.phi i (by omega)⟩
theorem Gs.add (o:Bool)(M:List Nat)(φ:Nat→Option Nat)(fr:Nat)(hf:Fi q s φ)(x:dF):Gs o M φ φ fr s (s.add x):=by
 refine⟨λk y h=>?_,λk h _=>?_,λ_ _=>rfl,λ_ h=> .inl h,λk h _=>?_,λ_=>rfl,λ_ _=>rfl⟩
 ·show(s.nodes++[x])[k]?=_;rw[zaS (zaD.1 h).1];exact h
 ·show(s.same++[none])[k]?=_;rw[zaS (by rw[hf.sl];exact h)]
 ·show(s.begun++[false])[k]?=_;rw[zaS (by rw[hf.bl];exact h)]
theorem Fi.add (hf:Fi q s φ)(x:dF):Fi q (s.add x) φ:=by
 refine⟨by simp[FS.add,hf.sl],by simp[FS.add,hf.bl],hf.ax,λm=>?_,hf.inj,λi n h=>?_,λi n h=>?_,hf.BD⟩
 ·show s.label m≤(s.nodes++[x]).length;have:=hf.pD m;simp;omega
 ·have:=hf.phi i n h;refine⟨this.1,?_⟩;show n<(s.nodes++[x]).length;simp;omega
 ·obtain⟨y,h1,h2⟩:=hf.pk i n h;exact⟨y,(Gs.add true [] φ 0 hf x).nodes n y h1,h2⟩
theorem fO (s:FS)(x:dF):(s.add x).nodes[s.nodes.length]?=some x:=by simp[FS.add]
theorem jr (hf:Fi q s φ)(x:dF):Own (s.add x) s.nodes.length:=by
 refine⟨?_,λm e=>?_⟩
 ·show(s.same++[none])[s.nodes.length]?=_;rw[←hf.sl];simp
 ·have:=hf.pD m;have:s.label m=s.nodes.length+1:=e;omega
def pE (φ:Nat→Option Nat)(i n:Nat):Nat→Option Nat:=λj=>if j=i then some n else φ j
theorem BF (φ:Nat→Option Nat)(i n:Nat):pE φ i n i=some n:=by simp[pE]
theorem Fi.Ga (hf:Fi q s φ)(x:dF)(hx:1≤x.kind∧x.kind≤3){i f':Nat}(hn:φ i=none)(hi:i<f')(hq:q.fresh≤f'):Fi { q with fresh:=f' } (s.add x) (pE φ i s.nodes.length):=by
 have hb:=hf.add x;have hlen:(s.add x).nodes.length=s.nodes.length+1:=by simp[FS.add]
 refine⟨hb.sl,hb.bl,hb.ax,hb.pD,hb.inj,λj n h=>?_,λj n h=>?_,λj j' n h h'=>?_⟩
 ·unfold pE at h;split at h
  ·cases h;exact⟨by subst_vars;exact hi,by omega⟩
  ·have:=hb.phi j n h;exact⟨zaH this.1 hq,this.2⟩
 ·unfold pE at h;split at h
  ·cases h;exact⟨x,fO s x,hx⟩
  ·exact hb.pk j n h
 ·unfold pE at h h';split at h<;>split at h'
  ·subst_vars;rfl
  ·cases h;have:=(hf.phi _ _ h').2;omega
  ·cases h';have:=(hf.phi _ _ h).2;omega
  ·exact hf.BD _ _ _ h h'
theorem Gs.Ga (o:Bool)(M:List Nat){fr:Nat}(hf:Fi q s φ)(x:dF){i:Nat}(hi:fr≤i):Gs o M φ (pE φ i s.nodes.length) fr s (s.add x):=by
 have h:=Gs.add o M φ fr hf x;refine⟨h.nodes,h.sm,h.bT,h.M8,h.M9,h.ov,λj hj=>?_⟩;unfold pE;rw[zaa (by omega)]
theorem Fi.qp (hf:Fi q s φ){i:Nat}(hi:q.fresh≤i):φ i=none:=by
 cases h:φ i with
 |none=>rfl
 |some n=>have:=(hf.phi i n h).1;omega
theorem dD (s:FS):Mine [] s:=λj h=>by cases h
theorem BG:∀{data:List Dt} {l:List Nat} {d:Dt} {k:Nat},oq φ s (fG data) l→mZ φ s d [k]→oq φ s (fG (data++[d])) (l++[k])
 |[],l,d,k,h,hd=>by
  obtain rfl:l=[]:=by have:0::0::l=[0,0]:=h;simpa using this
  exact⟨k,[],rfl,hd,rfl⟩
 |a::data,l,d,k,h,hd=>by
  obtain⟨x,xs,e,ha,hr⟩:=h;obtain rfl:l=x::xs:=by simpa using e
  exact⟨x,xs++[k],rfl,ha,BG hr hd⟩
theorem BH:∀{data:List Dt} {l:List Nat},oq φ s (fG data) l→l.length=data.length
 |[],l,h=>by obtain rfl:l=[]:=(by have:0::0::l=[0,0]:=h;simpa using this);rfl
 |a::data,l,h=>by
  obtain⟨x,xs,e,ha,hr⟩:=h;obtain rfl:l=x::xs:=by simpa using e
  simp[BH hr]
theorem rV (o:Bool){q0:eA}{s0:FS}{Zf:Nat→Option Nat}(hf:Fi q0 s0 Zf){rest:Dt}{r:Nat}(hr:mZ Zf s0 rest [r]):∀{data:List Dt} {l:List Nat},oq Zf s0 (fG data) l→∃iU,Fi { q0 with fresh:=(aU data rest q0.fresh).2 } (aR l r s0).2 iU∧Gs o [] Zf iU q0.fresh s0 (aR l r s0).2∧mZ iU (aR l r s0).2 (aU data rest q0.fresh).1 [(aR l r s0).1]∧(aR l r s0).2.at_=s0.at_∧(aR l r s0).2.label=s0.label∧q0.fresh≤(aU data rest q0.fresh).2
 |[],l,h=>by
  obtain rfl:l=[]:=by have:0::0::l=[0,0]:=h;simpa using this
  exact⟨Zf,hf,Gs.refl _ _ _ _ _,hr,rfl,rfl,zab _⟩
 |a::data,l,h=>by
  obtain⟨x,xs,e,ha,hd⟩:=h;obtain rfl:l=x::xs:=by simpa using e
  obtain⟨mm,h1,h2,h3,h4,h5,h6⟩:=rV o hf hr hd;have g:=h1.Ga ⟨1,[],0,0,[x,(aR xs r s0).1]⟩ (by constructor<;>simp) (i:=(aU data rest q0.fresh).2) (f':=(aU data rest q0.fresh).2+1) (h1.qp (zab _)) (Nat.lt_succ_self _) (Nat.le_succ _);have g2:Gs o [] mm (pE mm (aU data rest q0.fresh).2 (aR xs r s0).2.nodes.length) (aU data rest q0.fresh).2 (aR xs r s0).2 ((aR xs r s0).2.add ⟨1,[],0,0,[x,(aR xs r s0).1]⟩):=Gs.Ga o [] h1 _ (zab _);refine⟨_,g,h2.trans g2 h6,⟨_,x,(aR xs r s0).1,rfl,fO _ _,jr h1 _,BF _ _ _,?_,mZ.mono (q:={ q0 with fresh:=(aU data rest q0.fresh).2 }) g2 h1 (dD _) h3⟩,h4,h5,Nat.le_succ_of_le h6⟩;exact mZ.mono (q:={ q0 with fresh:=(aU data rest q0.fresh).2 }) g2 h1 (dD _) (mZ.mono h2 hf (dD _) ha)
end
theorem kR {α:Type}(v:α):∀(M:List Nat) (l:List α),(M.foldl (λl i=>l.set i v) l).length=l.length
 |[],_=>rfl
 |i::M,l=>by rw[List.foldl_cons,kR v M];simp
theorem ot {α:Type}(v:α):∀(M:List Nat) (l:List α) (k:Nat),(M.foldl (λl i=>l.set i v) l)[k]?=if k∈M then(l[k]?).map (λ_=>v)else l[k]?
 |[],l,k=>by simp
 |i::M,l,k=>by
  rw[List.foldl_cons,ot v M,List.getElem?_set];by_cases hk:k∈M
  ·simp only[hk,if_true,zaI,or_true];by_cases hi:i=k
   ·subst hi;by_cases hl:i<l.length
    ·simp[hl]
    ·simp[hl]
   ·simp[hi]
  ·simp only[hk,if_false,zaI,or_false];by_cases hi:i=k
   ·subst hi;by_cases hl:i<l.length
    ·simp[hl]
    ·simp[hl]
   ·have:¬k=i:=λe=>hi e.symm;simp[hi,this]
section
variable {o:Bool}{M:List Nat}{φ iU:Nat→Option Nat}{fr:Nat}{s s':FS}{q:eA}
theorem Fi.bT (hf:Fi q s φ)(n:Int):Fi { q with ax:=n::q.ax } (s.bT n) φ:=by
 have hb:=hf.add fq;have e:∀m,(s.bT n).label m=if m=n then s.nodes.length+1 else s.label m:=λ_=>rfl
 have hlen:(s.bT n).nodes.length=s.nodes.length+1:=by simp[FS.bT,FS.add]
 refine⟨hb.sl,hb.bl,λm=>?_,λm=>?_,λm m' h h'=>?_,hb.phi,hb.pk,hb.BD⟩
 ·rw[e m,zaI];by_cases hm:m=n
  ·simp[hm]
  ·simp only[hm,false_or,if_false];exact hf.ax m
 ·rw[e m,hlen];have:=hf.pD m;split<;>omega
 ·rw[e m,e m']at h;rw[e m]at h';have h1:=hf.pD m;have h2:=hf.pD m';by_cases hm:m=n<;>by_cases C9:m'=n
  ·rw[hm,C9]
  ·rw[zac hm,zaa C9]at h;omega
  ·rw[zaa hm,zac C9]at h;omega
  ·rw[zaa hm,zaa C9]at h;rw[zaa hm]at h';exact hf.inj _ _ h h'
theorem Gs.Na (hf:Fi q s φ){n:Int}(h0:s.label n=0):Gs false M φ φ fr s (s.bT n):=by
 have h:=Gs.add false M φ fr hf fq;have e:∀m,(s.bT n).label m=if m=n then s.nodes.length+1 else s.label m:=λ_=>rfl
 refine⟨h.nodes,h.sm,λm hm=>?_,λm hm=>?_,h.M9,(λq=>by cases q),h.phi⟩
 ·rw[e m,zaa (λq=>by subst q;exact hm h0)]
 ·rw[e m];split
  ·right;omega
  ·exact .inl hm
theorem Gs.aZ (o:Bool)(M:List Nat)(φ:Nat→Option Nat)(fr:Nat)(s:FS):Gs o M φ φ fr s (s.aZ M):=by
 refine⟨λ_ _ h=>h,λ_ _ _=>rfl,λ_ _=>rfl,λ_ h=> .inl h,λk _ hk=>?_,λ_=>rfl,λ_ _=>rfl⟩;show(M.foldl (λl i=>l.set i true) s.begun)[k]?=_;rw[ot,zaa hk]
theorem Fi.aZ (hf:Fi q s φ)(M:List Nat):Fi q (s.aZ M) φ:=by
 refine⟨hf.sl,?_,hf.ax,hf.pD,hf.inj,hf.phi,hf.pk,hf.BD⟩;show(M.foldl (λl i=>l.set i true) s.begun).length=_;rw[kR];exact hf.bl
theorem Gs.VU (o:Bool)(M:List Nat)(φ:Nat→Option Nat)(fr:Nat)(s:FS)(n:Nat):Gs o M φ φ fr s (s.is M n):=by
 refine⟨λ_ _ h=>h,λk _ hk=>?_,λ_ _=>rfl,λ_ h=> .inl h,λ_ _ _=>rfl,λ_=>rfl,λ_ _=>rfl⟩;show(M.foldl (λl i=>l.set i (some n)) s.same)[k]?=_;rw[ot,zaa hk]
theorem Fi.VU (hf:Fi q s φ)(M:List Nat)(n:Nat):Fi q (s.is M n) φ:=by
 refine⟨?_,hf.bl,hf.ax,hf.pD,hf.inj,hf.phi,hf.pk,hf.BD⟩;show(M.foldl (λl i=>l.set i (some n)) s.same).length=_;rw[kR];exact hf.sl
theorem Mine.go (h:Mine M s)(hf:Fi q s φ)(g:Gs o [] φ iU fr s s'):Mine M s':=λj hj=>by
 obtain⟨h1,m,h2⟩:=h j hj;have hl:j<s.nodes.length:=by rw[←hf.sl];exact(zaD.1 h1).1
 exact⟨by rw[g.sm j hl (by simp)];exact h1,m,by rw[g.bT m (by omega)];exact h2⟩
theorem Sm (h:Mine M s)(n:Nat):∀j∈M,(s.is M n).same[j]?=some (some n):=λj hj=>by
 show(M.foldl (λl i=>l.set i (some n)) s.same)[j]?=_;rw[ot,zac hj,(h j hj).1];rfl
structure Bg (over:Bool) (A:List Int) (M:List Nat) (s:FS):Prop where
 mine:Mine M s
 am:∀m∈A,∀k,s.label m=k+1→k∈M
 ma:over=false→∀j∈M,∃m∈A,s.label m=j+1
 yes:over=false→∀m k,s.label m=k+1→m∉A→s.begun[k]?=some true
 no:over=false→∀m∈A,∀k,s.label m=k+1→s.begun[k]?≠some true
 la:over=false→∀m∈A,s.label m≠0
def lj (over:Bool)(s:FS):Prop:=over=false→∀m k,s.label m=k+1→s.begun[k]?=some true
theorem lj.bg (h:lj o s):Bg o [] [] s:=⟨dD s,λ_ q=>(by cases q),λ_ _ q=>(by cases q),λq m k e _=>h q m k e,λ_ _ q=>(by cases q),λ_ _ q=>(by cases q)⟩
theorem Bg.over {A:List Int}(h:Bg o A M s)(hf:Fi q s φ)(g:Gs true [] φ iU fr s s'):Bg o A M s':=by
 have el:=g.ov rfl;have eb:∀m k,s.label m=k+1→s'.begun[k]?=s.begun[k]?:=λm k e=>g.M9 k (by have:=hf.pD m;omega) (by simp);refine⟨h.mine.go hf g,?_,?_,?_,?_,?_⟩
 ·rw[el];exact h.am
 ·rw[el];exact h.ma
 ·rw[el];intro q m k e hm;rw[eb m k e];exact h.yes q m k e hm
 ·rw[el];intro q m hm k e;rw[eb m k e];exact h.no q m hm k e
 ·rw[el];exact h.la
theorem Bg.aZ {A:List Int}(h:Bg o A M s)(hf:Fi q s φ):lj o (s.aZ M):=by
 intro q m k e;have e':s.label m=k+1:=e;show(M.foldl (λl i=>l.set i true) s.begun)[k]?=_;rw[ot];have hk:k<s.begun.length:=by have:=hf.pD m;rw[hf.bl];omega
 by_cases hM:k∈M
 ·rw[zac hM,zaP hk];rfl
 ·rw[zaa hM];exact h.yes q m k e' λha=>hM (h.am m ha k e')
end
section
variable (L:Nat→RT)(T:List Tok)(dp:Nat)
structure Ps (over:Bool) (M:List Nat) (φ iU:Nat→Option Nat) (q q':eA) (s s':FS) (d:Dt) (k:Nat):Prop where
 at_:s'.at_=lK T q'.k
 fi:Fi q' s' iU
 gs:Gs over M φ iU q.fresh s s'
 rep:mZ iU s' d [k]
 mine:∀j∈M,s'.same[j]?=some (some k)
 ab:lj over s'
 fr:q.fresh≤q'.fresh
def Ev {α:Type}(f:Nat→α)(x:α):Prop:=∃m0,∀m,m0≤m→f m=x
def Gb (p:Pl)(q:eA)(s:FS)(φ:Nat→Option Nat):RR Tok→Prop
 |.out=>True
 |.fail e a=>Ev (λm=>cX L dp m p.depth s) (.fail e a)∨∃r s',Ev (λm=>cX L dp m p.depth s) (.ok r s')∧r=L s'.at_∧r.f=a∧(r.k=101∧e=4∨r.k=120∧e=3)
 |.ok t q'=>∃r s' iU,Ev (λm=>cX L dp m p.depth s) (.ok r s')∧r=L s'.at_∧TR r t∧r.t=lK T q'.k∧2≤t.kind∧t.kind≠6∧Fi q' s' iU∧Gs true [] φ iU q.fresh s s'∧q.fresh≤q'.fresh
def kT (over:Bool)(M:List Nat)(q:eA)(s:FS)(φ:Nat→Option Nat)(f:Nat→FR Nat):RR Dt→Prop
 |.out=>True
 |.fail e a=>Ev f (.fail e a)
 |.ok d q'=>∃k s' iU,Ev f (.ok k s')∧Ps T over M φ iU q q' s s' d k
def H4 (over:Bool)(q:eA)(s:FS)(φ:Nat→Option Nat)(f:Nat→FR Nat):RR (List Dt)→Prop
 |.out=>True
 |.fail e a=>Ev f (.fail e a)
 |.ok data q'=>∃s1 mm xs,Ev f (.ok s1.nodes.length (s1.add ⟨2,[],0,0,xs⟩))∧s1.at_=lK T q'.k∧Fi q' s1 mm∧Gs over [] φ mm q.fresh s s1∧oq mm s1 (fG data) xs∧lj over s1∧q.fresh≤q'.fresh
def ng (m:Nat)(deep:Nat)(over:Bool)(M:List Nat)(s:FS):FR Nat:=(cX L dp m deep s).bind λt s=>dS L dp m t deep over M s
structure VW (n:Nat):Prop where
 take:∀p q s φ,p.depth≤dp→Fi q s φ→s.at_=lK T q.k→Gb L T dp p q s φ (aM T dp n p q)
 yH:∀t r p q s φ M,p.depth≤dp→TR r t→r.t=lK T q.k→2≤t.kind→t.kind≠6→Fi q s φ→Bg p.passed p.ahead M s→kT T p.passed M q s φ (λm=>dS L dp m r p.depth p.passed M s) (bQ T dp n t p q)
 mj:∀p q s φ M,p.depth≤dp→Fi q s φ→s.at_=lK T q.k→Bg p.passed p.ahead M s→kT T p.passed M q s φ (λm=>ng L dp m p.depth p.passed M s) (aI T dp n p q)
 Sn:∀data l p q s φ,p.depth≤dp→p.ahead=[]→Fi q s φ→s.at_=lK T q.k→lj p.passed s→oq φ s (fG data) l→kT T p.passed [] q s φ (λm=>bZ L dp m 40 p.depth p.passed l s) (cg T dp n data p q)
 vec:∀data l p q s φ,p.depth≤dp→p.ahead=[]→Fi q s φ→s.at_=lK T q.k→lj p.passed s→oq φ s (fG data) l→H4 T p.passed q s φ (λm=>bZ L dp m 118 p.depth p.passed l s) (eF T dp n data p q)
end
section
variable {L:Nat→RT}{T:List Tok}{dp:Nat}
theorem Ev.step {α β:Type}{f:Nat→α}{x:α}{g:Nat→β}{y:β}(h:Ev f x)(hg:∀m,f m=x→g (m+1)=y):Ev g y:=by
 obtain⟨m0,h⟩:=h;refine⟨m0+1,λm hm=>?_⟩;obtain⟨m,rfl⟩:∃m',m=m'+1:=⟨m-1,by omega⟩;exact hg m (h m (by omega))
theorem Ev.step2 {α β γ:Type}{f:Nat→α}{x:α}{f':Nat→γ}{x':γ}{g:Nat→β}{y:β}(h:Ev f x)(h':Ev f' x')(hg:∀m,f m=x→f' m=x'→g (m+1)=y):Ev g y:=by
 obtain⟨m0,h⟩:=h;obtain⟨m1,h'⟩:=h';refine⟨m0+m1+1,λm hm=>?_⟩;obtain⟨m,rfl⟩:∃m',m=m'+1:=⟨m-1,by omega⟩;exact hg m (h m (by omega)) (h' m (by omega))
theorem Ev.DV {α β γ:Type}{f:Nat→α}{x:α}{f':Nat→γ}{x':γ}{g:Nat→β}{y:β}(h:Ev f x)(h':Ev f' x')(hg:∀m,f m=x→f' m=x'→g m=y):Ev g y:=by
 obtain⟨m0,h⟩:=h;obtain⟨m1,h'⟩:=h';exact⟨m0+m1,λm hm=>hg m (h m (by omega)) (h' m (by omega))⟩
theorem Ev.same {α β:Type}{f:Nat→α}{x:α}{g:Nat→β}{y:β}(h:Ev f x)(hg:∀m,f m=x→g m=y):Ev g y:=h.imp λ_ h m hm=>hg m (h m hm)
theorem Ev.now {α:Type}{g:Nat→α}{y:α}(hg:∀m,g (m+1)=y):Ev g y:=⟨1,λm hm=>by obtain⟨m,rfl⟩:∃m',m=m'+1:=⟨m-1,by omega⟩;exact hg m⟩
theorem rW {s:FS}{deep:Nat}(h:(L s.at_).k≠59):Ev (λm=>cX L dp m deep s) (.ok (L s.at_) s):= .now λm=>by simp only[cX,zaa h]
theorem iL {deep:Nat}{over:Bool}{s:FS}{x:FR Nat}(h:Ev (λm=>ng L dp m deep over [] s) x):Ev (λm=>bz L dp m deep over s) x:=h.step λm e=>by simp only[bz];exact e
theorem DW {r:RT}{deep:Nat}{over:Bool}{M:List Nat}{s:FS}{e:Int}(h:r.k=101∧e=4∨r.k=120∧e=3):Ev (λm=>dS L dp m r deep over M s) (.fail e r.f):=by
 refine Ev.step (Ev.now (g:=λm=>bK L dp m r deep over (s.aZ M)) (y:= .fail e r.f) λm=>?_) λm em=>?_
 ·rcases h with⟨h,rfl⟩|⟨h,rfl⟩<;>simp[bK,h]
 ·rcases h with⟨h,rfl⟩|⟨h,rfl⟩<;>simp[dS,h,em,FR.bind]
theorem H5 {r:RT}{deep:Nat}{over:Bool}{M:List Nat}{s:FS}{e:Int}(hr:r=L s.at_)(h:r.k=101∧e=4∨r.k=120∧e=3):Ev (λm=>ng L dp m deep over M s) (.fail e r.f):=by
 have h1:Ev (λm=>cX L dp m deep s) (.ok (L s.at_) s):=rW (by rw[←hr];omega);refine h1.DV (DW (L:=L) (dp:=dp) (deep:=deep) (over:=over) (M:=M) (s:=s) h) λm e1 e2=>?_;unfold ng;rw[e1];show dS L dp m (L s.at_) deep over M s=_;rw[←hr];exact e2
end
end Go.Loop
