import Derived.Test.YtlhimdjkkiflhaaGreatDoorMade10
set_option maxHeartbeats 8000000
set_option maxRecDepth 100000
namespace Go.Loop
def cW:List Int→List Int→Dt→Option (List Int)
 |ah,L,.put n d=>if n∈L then none else cW (ah++[n]) (n::L) d
 |ah,L,.ask m=>if m∈L∧m∉ah then some L else none
 |_,L,.pair _ a b=>(cW [] L a).bind λL=>cW [] L b
 |_,L,.vec _ l=>cW [] L l
 |_,L,.br a l=>(cW [] L a).bind λL=>cW [] L l
 |_,L,_=>some L
def th:List Int→List Dt→Option (List Int)
 |L,[]=>some L
 |L,d::l=>(cW [] L d).bind λL=>th L l
def aY:Dt→List Nat
 |.txt i _=>[i]
 |.pair i a b=>i::(aY a++aY b)
 |.vec i l=>i::aY l
 |.br a l=>aY a++aY l
 |.put _ d=>aY d
 |_=>[]
def aP:Bool→Dt→Bool
 |true,.cZ=>true
 |true,.br a l=>aP false a&&aP true l
 |true,_=>false
 |false,.pair _ a b=>aP false a&&aP false b
 |false,.vec _ l=>decide (l.mX≤20)&&aP true l
 |false,.put _ d=>aP false d
 |false,.cZ=>false
 |false,.br _ _=>false
 |false,.sym s=>decide (s.length≤1000000)
 |false,_=>true
def oa (l:List Dt):Nat:=(l.map λd=>(aY d).length).sum
theorem o9 (L:List Int):∀(l r:List Dt),th L (l++r)=(th L l).bind λL=>th L r
 |[],r=>rfl
 |d::l,r=>by
  simp only[zam,th];cases cW [] L d with
  |none=>rfl
  |some M=>exact o9 M l r
theorem vv (l r:List Dt):oa (l++r)=oa l+oa r:=by simp[oa]
theorem Gm (d:Dt):oa [d]=(aY d).length:=by simp[oa]
theorem eI:∀(l:List Dt) (r:Dt) (i:Nat),(aU l r i).2=i+l.length
 |[],r,i=>rfl
 |d::l,r,i=>by simp only[aU,eI l r i,zar];omega
theorem uG:∀(l:List Dt) (r:Dt) (i:Nat),(aY (aU l r i).1).length=oa l+l.length+(aY r).length
 |[],r,i=>by simp[aU,oa]
 |d::l,r,i=>by
  have:=uG l r i;simp only[aU,aY,zar,zaR,this,oa,zaB,List.sum_cons];simp only[oa]at this;omega
theorem uH:∀(l:List Dt) (r:Dt) (i:Nat) (L:List Int),cW [] L (aU l r i).1=(th L l).bind λL=>cW [] L r
 |[],r,i,L=>rfl
 |d::l,r,i,L=>by
  simp only[aU,cW,th];cases cW [] L d with
  |none=>rfl
  |some M=>exact uH l r i M
theorem rD:∀(l:List Dt) (r:Dt) (i:Nat),(∀d∈l,aP false d=true)→aP false r=true→aP false (aU l r i).1=true
 |[],r,i,_,h=>h
 |d::l,r,i,hl,h=>by
  simp only[aU,aP,zae];exact⟨hl d (by simp),rD l r i (λx hx=>hl x (by simp[hx])) h⟩
theorem Gn (l:List Dt)(r:Dt)(i:Nat)(h:l≠[]∨r=.nil)(ah L:List Int):cW ah L (aU l r i).1=cW [] L (aU l r i).1:=by
 cases l with
 |nil=>
  rcases h with h|rfl
  ·exact absurd rfl h
  ·rfl
 |cons d l=>rfl
theorem KG:∀(l:List Dt) (ah L:List Int),cW ah L (fX l)=th L l
 |[],ah,L=>rfl
 |d::l,ah,L=>by
  simp only[fX,cW,th];cases cW [] L d with
  |none=>rfl
  |some M=>exact KG l [] M
theorem KH:∀(l:List Dt),(aY (fX l)).length=oa l
 |[]=>rfl
 |d::l=>by
  have:=KH l;simp only[fX,aY,zaR,this,oa,zaB,List.sum_cons]
theorem Dv:∀(l:List Dt),(fX l).mX=l.length
 |[]=>rfl
 |d::l=>by simp only[fX,Dt.mX,Dv l,zar]
theorem Gp:∀(l:List Dt),(∀d∈l,aP false d=true)→aP true (fX l)=true
 |[],_=>rfl
 |d::l,hl=>by
  simp only[fX,aP,zae];exact⟨hl d (by simp),Gp l λx hx=>hl x (by simp[hx])⟩
structure abV (T:List Tok) (s:eD) (t:Tok) (s':eD):Prop where
 mem:t∈T
 ak:s'.ak=s.ak
 k:s.k+1≤s'.k
 fr:s.fresh≤s'.fresh
 cr:s'.fresh+2*s.k+2≤s.fresh+2*s'.k
structure ZF (c:Nat) (p:Pl) (s:eD) (d:Dt) (s':eD):Prop where
 MX:cW p.ahead s.ak d=some s'.ak
 NU:p.passed=true→s'.ak=s.ak
 sh:aP false d=true
 ids:(aY d).length + s.fresh≤s'.fresh
 cr:s'.fresh+2*s.k+2*c≤s.fresh+2*s'.k+1
 lc:s'.ak.length+s.k+c≤s.ak.length+s'.k+1
 k:s.k+c≤s'.k
structure abW (L0:List Int) (data:List Dt) (p:Pl) (s:eD) (d:Dt) (s':eD):Prop where
 pn:∀ah L,cW ah L d=cW [] L d
 MX:cW [] L0 d=some s'.ak
 NU:p.passed=true→s'.ak=s.ak
 sh:aP false d=true
 ids:(aY d).length + s.fresh≤s'.fresh+oa data
 cr:s'.fresh+2*s.k+2≤s.fresh+data.length+2*s'.k
 lc:s'.ak.length+s.k≤s.ak.length+s'.k
 k:s.k+1≤s'.k
structure ad9 (L0:List Int) (data:List Dt) (p:Pl) (s:eD) (l:List Dt) (s':eD):Prop where
 MX:th L0 l=some s'.ak
 NU:p.passed=true→s'.ak=s.ak
 sh:∀d∈l,aP false d=true
 len:l.length≤20
 ids:oa l+s.fresh≤s'.fresh+oa data
 cr:s'.fresh+2*s.k+2≤s.fresh+2*s'.k
 lc:s'.ak.length+s.k≤s.ak.length+s'.k
 k:s.k+1≤s'.k
theorem RR.bk {α β:Type}{x:RR α}{f:α→eD→RR β}{b:β}{s:eD}(h:x.bind f=.ok b s):∃a s1,x=.ok a s1∧f a s1=.ok b s:=by
 cases x with
 |out=>cases h
 |fail e a=>cases h
 |ok a s1=>exact⟨a,s1,rfl,h⟩
section
variable (T:List Tok)(dp:Nat)
structure abX (n:Nat):Prop where
 datum:∀p s d s',ay T dp n p s=.ok d s'→ZF 1 p s d s'
 take:∀p s t s',aM T dp n p s=.ok t s'→abV T s t s'
 nY:∀t p s d s',t∈T→aL T dp n t p s=.ok d s'→ZF 0 p s d s'
 list:∀L0 data p s d s',p.ahead=[]→th L0 data=some s.ak→(∀d∈data,aP false d=true)→bh T dp n data p s=.ok d s'→abW L0 data p s d s'
 vec:∀L0 data p s l s',p.ahead=[]→th L0 data=some s.ak→(∀d∈data,aP false d=true)→data.length≤20→cy T dp n data p s=.ok l s'→ad9 L0 data p s l s'
theorem UZ {t:Tok}{p:Pl}{s s':eD}{d:Dt}(hs:t.kind=14→t.text.length≤1000000)(h:j9 t s=.ok d s'):ZF 0 p s d s':=by
 unfold j9 at h;split at h
 ·cases h;exact⟨by simp[cW],λ_=>rfl,rfl,by simp[aY];omega,by simp;omega,by simp,by simp⟩
 ·split at h
  ·cases h;exact⟨by simp[cW],λ_=>rfl,rfl,by simp[aY],by simp,by simp,by simp⟩
  ·split at h
   ·cases h;exact⟨by simp[cW],λ_=>rfl,rfl,by simp[aY],by simp,by simp,by simp⟩
   ·split at h
    ·rename_i rG;cases h;exact⟨by simp[cW],λ_=>rfl,by simpa[aP]using hs rG,by simp[aY],by simp,by simp,by simp⟩
    ·split at h
     ·cases h
     ·cases h;exact⟨by simp[cW],λ_=>rfl,rfl,by simp[aY],by simp,by simp,by simp⟩
theorem Dw (hT:∀t∈T,t.kind=14→t.text.length≤1000000):∀n,abX T dp n
 |0=>by
  refine⟨λp s d s' h=>?_,λp s t s' h=>?_,λt p s d s' _ h=>?_,λL0 data p s d s' _ _ _ h=>?_,λL0 data p s d s' _ _ _ _ h=>?_⟩;all_goals first
   |(unfold ay at h;cases h)
   |(unfold aM at h;cases h)
   |(unfold aL at h;cases h)
   |(unfold bh at h;cases h)
   |(unfold cy at h;cases h)
 |n+1=>by
  have ih:=Dw hT n;refine⟨λp s d s' h=>?_,λp s t s' h=>?_,λt p s d s' ht h=>?_,λL0 data p s d s' hp hL C8 h=>?_,λL0 data p s l s' hp hL C8 hlen h=>?_⟩
  ·unfold ay at h;obtain⟨t,s1,h1,h2⟩:=RR.bk h;have i1:=ih.take p s t s1 h1;have i2:=ih.nY t p s1 d s' i1.mem h2;have a1:=i1.ak;have a2:=i1.k;have a3:=i1.fr;have a4:=i1.cr;have b1:=i2.ids;have b2:=i2.cr;have b3:=i2.lc;have b4:=i2.k;have hl:s1.ak.length=s.ak.length:=by rw[a1]
   refine⟨by rw[←a1];exact i2.MX,λhq=>(i2.NU hq).trans a1,i2.sh,by omega,by omega,by omega,by omega⟩
  ·unfold aM at h;split at h
   ·cases h
   ·rename_i t0 ID;split at h
    ·cases h
    ·split at h
     ·cases h
     ·split at h
      ·obtain⟨d,s1,h1,h2⟩:=RR.bk h;have i1:=ih.datum _ _ d s1 h1;have i2:=ih.take p s1 t s' h2;have a1:=i1.NU rfl;have a2:=i1.k;have a3:=i1.cr;have a4:=i1.ids;have b1:=i2.ak;have b2:=i2.k;have b3:=i2.fr;have b4:=i2.cr;simp only at a1 a2 a3 a4;exact⟨i2.mem,by rw[b1,a1],by omega,by omega,by omega⟩
      ·cases h;exact⟨zbr ID,rfl,by simp,by simp,by simp;omega⟩
  ·unfold aL at h;split at h
   ·cases h
   ·split at h
    ·split at h
     ·cases h
     ·rename_i hnp;split at h
      ·cases h
      ·obtain⟨d1,s1,h1,h2⟩:=RR.bk h;cases h2;have i1:=ih.datum _ _ d1 s' h1;have a1:=i1.MX;have a3:=i1.ids;have a4:=i1.cr;have a5:=i1.lc;have a6:=i1.k;simp only[zar]at a1 a3 a4 a5 a6;refine⟨?_,λhq=>absurd (Or.inl hq) hnp,i1.sh,?_,by omega,by omega,by omega⟩
       ·simp only[cW];rw[zaa (λhm=>hnp (Or.inr hm))];exact a1
       ·simpa[aY]using a3
    ·split at h
     ·split at h
      ·cases h
      ·rename_i hna;cases h;simp only[not_or,Classical.not_not]at hna;refine⟨?_,λ_=>rfl,rfl,by simp[aY],by simp,by simp,by simp⟩;simp only[cW];rw[zab ⟨hna.2.1,hna.2.2⟩]
     ·split at h
      ·split at h
       ·cases h
       ·split at h
        ·obtain⟨l,s1,h1,h2⟩:=RR.bk h;cases h2;have i1:=ih.vec s.ak [] _ { s with fresh:=s.fresh+1 } l s' rfl rfl (λd hd=>by cases hd) (by simp) h1;have a1:=i1.MX;have a3:=i1.ids;have a4:=i1.cr;have a5:=i1.lc;have a6:=i1.k;simp only[oa,zbt,List.sum_nil]at a3 a4 a5 a6;refine⟨?_,λhq=>i1.NU hq,?_,?_,by omega,by omega,by omega⟩
         ·simp only[cW,KG];exact a1
         ·simp only[aP,Dv,zae,zaK];exact⟨i1.len,Gp l i1.sh⟩
         ·have:=KH l;simp only[oa]at this;simp only[aY,zar,this];omega
        ·split at h
         ·obtain⟨d1,s1,h1,h2⟩:=RR.bk h;cases h2;have i1:=ih.datum _ _ d1 s1 h1;have a1:=i1.MX;have a3:=i1.ids;have a4:=i1.cr;have a5:=i1.lc;have a6:=i1.k;simp only at a1 a3 a4 a5 a6;refine⟨?_,λhq=>i1.NU hq,?_,?_,?_,?_,?_⟩
          ·simp[aU,cW,a1]
          ·simp[aU,aP,i1.sh]
          ·simp only[aU,aY,zar,zaR,zbk];omega
          ·simp only;omega
          ·simp only;omega
          ·simp only;omega
         ·have i1:=ih.list s.ak [] _ s d s' rfl rfl (λd hd=>by cases hd) h;have a1:=i1.MX;have a3:=i1.ids;have a4:=i1.cr;have a5:=i1.lc;have a6:=i1.k;simp only[oa,zbt,List.sum_nil,zbk]at a1 a3 a4 a5 a6;refine⟨?_,λhq=>i1.NU hq,i1.sh,by omega,by omega,by omega,by omega⟩;rw[i1.pn];exact a1
      ·exact UZ (hT t ht) h
  ·unfold bh at h;obtain⟨t,s1,h1,h2⟩:=RR.bk h;have i1:=ih.take p s t s1 h1;have a1:=i1.ak;have a2:=i1.k;have a3:=i1.fr;have a4:=i1.cr;have rq:s1.ak.length=s.ak.length:=by rw[a1]
   split at h2
   ·cases h2;refine⟨Gn _ _ _ (Or.inr rfl),?_,λ_=>a1,rD _ _ _ C8 rfl,?_,?_,by simp only;omega,by simp only;omega⟩
    ·rw[uH,hL];simp[cW,a1]
    ·simp only[uG,eI,aY,zbk];omega
    ·simp only[eI];omega
   ·split at h2
    ·rename_i h7;obtain⟨d2,s2,h3,h4⟩:=RR.bk h2;obtain⟨t3,s3,h5,h6⟩:=RR.bk h4;have i2:=ih.datum p s1 d2 s2 h3;have i3:=ih.take p s2 t3 s3 h5;have b0:=i2.MX;have b1:=i2.ids;have b2:=i2.cr;have b3:=i2.lc;have b4:=i2.k;have c1:=i3.ak;have c2:=i3.k;have c3:=i3.fr;have c4:=i3.cr;have ZG:s3.ak.length=s2.ak.length:=by rw[c1]
     split at h6
     ·cases h6;refine⟨Gn _ _ _ (Or.inl h7.2),?_,λhq=>by simp only[c1,i2.NU hq,a1],rD _ _ _ C8 i2.sh,?_,?_,by simp only;omega,by simp only;omega⟩
      ·rw[uH,hL];simp only[zce,c1,←b0,hp,a1]
      ·simp only[uG,eI];omega
      ·simp only[eI];omega
     ·cases h6
    ·obtain⟨d2,s2,h3,h4⟩:=RR.bk h2;have i2:=ih.nY t p s1 d2 s2 i1.mem h3;have b0:=i2.MX;have b1:=i2.ids;have b2:=i2.cr;have b3:=i2.lc;have b4:=i2.k;rw[hp,a1]at b0;have i3:=ih.list L0 (data++[d2]) p s2 d s' hp (by rw[o9,hL];simp[th,b0]) (λx hx=>by
      rcases zaF.1 hx with hx|hx
      ·exact C8 x hx
      ·obtain rfl:x=d2:=by simpa using hx
       exact i2.sh) h4
     have c1:=i3.ids;have c2:=i3.cr;have c3:=i3.lc;have c4:=i3.k;simp only[vv,Gm,zaR,zar,zbk]at c1 c2;refine⟨i3.pn,i3.MX,λhq=>by rw[i3.NU hq,i2.NU hq,a1],i3.sh,?_,by omega,by omega,by omega⟩;omega
  ·unfold cy at h;obtain⟨t,s1,h1,h2⟩:=RR.bk h;have i1:=ih.take p s t s1 h1;have a1:=i1.ak;have a2:=i1.k;have a3:=i1.fr;have a4:=i1.cr;have rq:s1.ak.length=s.ak.length:=by rw[a1]
   split at h2
   ·cases h2;exact⟨by rw[hL,a1],λ_=>a1,C8,hlen,by omega,by omega,by omega,by omega⟩
   ·split at h2
    ·cases h2
    ·rename_i G5;obtain⟨d2,s2,h3,h4⟩:=RR.bk h2;have i2:=ih.nY t p s1 d2 s2 i1.mem h3;have b0:=i2.MX;have b1:=i2.ids;have b2:=i2.cr;have b3:=i2.lc;have b4:=i2.k;rw[hp,a1]at b0;have i3:=ih.vec L0 (data++[d2]) p s2 l s' hp (by rw[o9,hL];simp[th,b0]) (λx hx=>by
      rcases zaF.1 hx with hx|hx
      ·exact C8 x hx
      ·obtain rfl:x=d2:=by simpa using hx
       exact i2.sh) (by simp;omega) h4
     have c1:=i3.ids;have c2:=i3.cr;have c3:=i3.lc;have c4:=i3.k;simp only[vv,Gm]at c1 c2;refine⟨i3.MX,λhq=>by rw[i3.NU hq,i2.NU hq,a1],i3.sh,i3.len,?_,by omega,by omega,by omega⟩;omega
end
theorem dz:∀(d:Dt) (ah L L':List Int),cW ah L d=some L'→L<:+ L'
 |.put n d,ah,L,L',h=>by
  simp only[cW]at h;split at h
  ·cases h
  ·exact(List.suffix_cons n L).trans (dz d _ _ _ h)
 |.ask m,ah,L,L',h=>by
  simp only[cW]at h;split at h
  ·cases h;exact zbN _
  ·cases h
 |.pair _ a b,ah,L,L',h=>by
  simp only[cW]at h;obtain⟨M,h1,h2⟩:=zaO.1 h;exact(dz a _ _ _ h1).trans (dz b _ _ _ h2)
 |.vec _ l,ah,L,L',h=>dz l _ _ _ (by simpa only[cW]using h)
 |.br a l,ah,L,L',h=>by
  simp only[cW]at h;obtain⟨M,h1,h2⟩:=zaO.1 h;exact(dz a _ _ _ h1).trans (dz l _ _ _ h2)
 |.nil,ah,L,L',h=>by cases h;exact zbN _
 |.sym _,ah,L,L',h=>by cases h;exact zbN _
 |.num _ _,ah,L,L',h=>by cases h;exact zbN _
 |.cD _,ah,L,L',h=>by cases h;exact zbN _
 |.kB _,ah,L,L',h=>by cases h;exact zbN _
 |.txt _ _,ah,L,L',h=>by cases h;exact zbN _
 |.cZ,ah,L,L',h=>by cases h;exact zbN _
theorem nj (m:Int):∀(d:Dt) (ah L L':List Int),cW ah L d=some L'→m∈L'→m∈L∨(aO m d).isSome=true
 |.put n d,ah,L,L',h,hm=>by
  simp only[cW]at h;split at h
  ·cases h
  ·simp only[aO];by_cases e:n=m
   ·right;simp[e]
   ·rw[zaa e];rcases nj m d _ _ _ h hm with h1|h1
    ·rcases zal.1 h1 with h2|h2
     ·exact absurd h2.symm e
     ·exact Or.inl h2
    ·exact Or.inr h1
 |.ask k,ah,L,L',h,hm=>by
  simp only[cW]at h;split at h
  ·cases h;exact Or.inl hm
  ·cases h
 |.pair _ a b,ah,L,L',h,hm=>by
  simp only[cW]at h;obtain⟨M,h1,h2⟩:=zaO.1 h;simp only[aO];rcases nj m b _ _ _ h2 hm with h3|h3
  ·rcases nj m a _ _ _ h1 h3 with h4|h4
   ·exact Or.inl h4
   ·right;obtain⟨x,hx⟩:=zcc.1 h4;simp[hx]
  ·right;cases aO m a with
   |some x=>rfl
   |none=>exact h3
 |.vec _ l,ah,L,L',h,hm=>nj m l _ _ _ (by simpa only[cW]using h) hm
 |.br a l,ah,L,L',h,hm=>by
  simp only[cW]at h;obtain⟨M,h1,h2⟩:=zaO.1 h;simp only[aO];rcases nj m l _ _ _ h2 hm with h3|h3
  ·rcases nj m a _ _ _ h1 h3 with h4|h4
   ·exact Or.inl h4
   ·right;obtain⟨x,hx⟩:=zcc.1 h4;simp[hx]
  ·right;cases aO m a with
   |some x=>rfl
   |none=>exact h3
 |.nil,ah,L,L',h,hm=>by cases h;exact Or.inl hm
 |.sym _,ah,L,L',h,hm=>by cases h;exact Or.inl hm
 |.num _ _,ah,L,L',h,hm=>by cases h;exact Or.inl hm
 |.cD _,ah,L,L',h,hm=>by cases h;exact Or.inl hm
 |.kB _,ah,L,L',h,hm=>by cases h;exact Or.inl hm
 |.txt _ _,ah,L,L',h,hm=>by cases h;exact Or.inl hm
 |.cZ,ah,L,L',h,hm=>by cases h;exact Or.inl hm
structure vw (Lf:List Int) (n:Int) (d:Dt) (L1:List Int):Prop where
 ex:∃ah1 L2,n∈ah1∧cW ah1 (n::L1) d=some L2∧L2<:+ Lf
 new:n∉L1
 suf:(n::L1)<:+ Lf
 prop:aP false d=true
theorem vw.mono {Lf L':List Int}{n:Int}{d:Dt}{L1:List Int}(h:vw L' n d L1)(hs:L'<:+ Lf):vw Lf n d L1:=by
 obtain⟨⟨a,b,c,e,f⟩,h2,h3,h4⟩:=h;exact⟨⟨a,b,c,e,f.trans hs⟩,h2,h3.trans hs,h4⟩
theorem nk (n:Int):∀(b:Bool) (d0 d:Dt) (ah L L':List Int),aP b d0=true→cW ah L d0=some L'→aO n d0=some d→∃L1,vw L' n d L1
 |false,.put m x,d,ah,L,L',hp,h,hl=>by
  simp only[cW]at h;simp only[aO]at hl;simp only[aP]at hp;split at h
  ·cases h
  ·rename_i hm;split at hl
   ·rename_i e;subst e;cases hl;exact⟨L,⟨ah++[m],L',by simp,h,zbN _⟩,hm,dz _ _ _ _ h,hp⟩
   ·exact nk n false x d _ _ _ hp h hl
 |false,.pair _ a b,d,ah,L,L',hp,h,hl=>by
  simp only[cW]at h;simp only[aO]at hl;simp only[aP,zae]at hp;obtain⟨M,h1,h2⟩:=zaO.1 h;cases hq:aO n a with
  |some x=>
   rw[hq]at hl;cases hl;obtain⟨L1,h3⟩:=nk n false a d _ _ _ hp.1 h1 hq;exact⟨L1,h3.mono (dz _ _ _ _ h2)⟩
  |none=>
   rw[hq]at hl;exact nk n false b d _ _ _ hp.2 h2 hl
 |false,.vec _ l,d,ah,L,L',hp,h,hl=>by
  simp only[aP,zae]at hp;exact nk n true l d _ _ _ hp.2 (by simpa only[cW]using h) (by simpa only[aO]using hl)
 |true,.br a b,d,ah,L,L',hp,h,hl=>by
  simp only[cW]at h;simp only[aO]at hl;simp only[aP,zae]at hp;obtain⟨M,h1,h2⟩:=zaO.1 h;cases hq:aO n a with
  |some x=>
   rw[hq]at hl;cases hl;obtain⟨L1,h3⟩:=nk n false a d _ _ _ hp.1 h1 hq;exact⟨L1,h3.mono (dz _ _ _ _ h2)⟩
  |none=>
   rw[hq]at hl;exact nk n true b d _ _ _ hp.2 h2 hl
 |true,.cZ,d,ah,L,L',hp,h,hl=>by simp[aO]at hl
 |false,.cZ,d,ah,L,L',hp,h,hl=>by simp[aO]at hl
 |false,.br _ _,d,ah,L,L',hp,h,hl=>by simp[aP]at hp
 |true,.pair _ _ _,d,ah,L,L',hp,h,hl=>by simp[aP]at hp
 |true,.vec _ _,d,ah,L,L',hp,h,hl=>by simp[aP]at hp
 |true,.put _ _,d,ah,L,L',hp,h,hl=>by simp[aP]at hp
 |b,.nil,d,ah,L,L',hp,h,hl=>by simp[aO]at hl
 |b,.sym _,d,ah,L,L',hp,h,hl=>by simp[aO]at hl
 |b,.num _ _,d,ah,L,L',hp,h,hl=>by simp[aO]at hl
 |b,.cD _,d,ah,L,L',hp,h,hl=>by simp[aO]at hl
 |b,.kB _,d,ah,L,L',hp,h,hl=>by simp[aO]at hl
 |b,.txt _ _,d,ah,L,L',hp,h,hl=>by simp[aO]at hl
 |b,.ask _,d,ah,L,L',hp,h,hl=>by simp[aO]at hl
theorem QF (root:Dt)(B F:Nat):∀(d:Dt) (ah L L2:List Int),aP false d=true→cW ah L d=some L2→L2.length≤B→(∀m,m∈L→m∉ah→∀f,F≤f→(bQ root f (.ask m)).hd=true)→∀f,F+1+(B-L.length)≤f→(bQ root f d).hd=true
 |.put n d,ah,L,L2,hp,h,hB,hy,f,hf=>by
  simp only[cW]at h;simp only[aP]at hp;split at h
  ·cases h
  ·have hle:=(dz _ _ _ _ h).length_le;simp only[zar]at hle;obtain⟨g,rfl⟩:∃g,f=g+1:=⟨f-1,by omega⟩;show(bQ root g d).hd=true;refine QF root B F d (ah++[n]) (n::L) L2 hp h hB (λm hm hn f' hf'=>?_) g (by simp only[zar];omega);simp only[zaF,zbA,not_or]at hn;rcases zal.1 hm with e|e
   ·exact absurd e hn.2
   ·exact hy m e hn.1 f' hf'
 |.ask m,ah,L,L2,hp,h,hB,hy,f,hf=>by
  simp only[cW]at h;split at h
  ·rename_i e;exact hy m e.1 e.2 f (by omega)
  ·cases h
 |.nil,ah,L,L2,hp,h,hB,hy,f,hf=>by obtain⟨g,rfl⟩:∃g,f=g+1:=⟨f-1,by omega⟩;rfl
 |.sym _,ah,L,L2,hp,h,hB,hy,f,hf=>by obtain⟨g,rfl⟩:∃g,f=g+1:=⟨f-1,by omega⟩;rfl
 |.num _ _,ah,L,L2,hp,h,hB,hy,f,hf=>by obtain⟨g,rfl⟩:∃g,f=g+1:=⟨f-1,by omega⟩;rfl
 |.cD _,ah,L,L2,hp,h,hB,hy,f,hf=>by obtain⟨g,rfl⟩:∃g,f=g+1:=⟨f-1,by omega⟩;rfl
 |.kB _,ah,L,L2,hp,h,hB,hy,f,hf=>by obtain⟨g,rfl⟩:∃g,f=g+1:=⟨f-1,by omega⟩;rfl
 |.txt _ _,ah,L,L2,hp,h,hB,hy,f,hf=>by obtain⟨g,rfl⟩:∃g,f=g+1:=⟨f-1,by omega⟩;rfl
 |.pair _ _ _,ah,L,L2,hp,h,hB,hy,f,hf=>by obtain⟨g,rfl⟩:∃g,f=g+1:=⟨f-1,by omega⟩;rfl
 |.vec _ _,ah,L,L2,hp,h,hB,hy,f,hf=>by obtain⟨g,rfl⟩:∃g,f=g+1:=⟨f-1,by omega⟩;rfl
 |.cZ,ah,L,L2,hp,h,hB,hy,f,hf=>by simp[aP]at hp
 |.br _ _,ah,L,L2,hp,h,hB,hy,f,hf=>by simp[aP]at hp
section
variable {root:Dt}{Lf:List Int}(hr:cW [] [] root=some Lf)(hp:aP false root=true)
include hr hp
theorem Dx {m:Int}(hm:m∈Lf):∃d L1,aO m root=some d∧vw Lf m d L1:=by
 rcases nj m root _ _ _ hr hm with h|h
 ·cases h
 ·obtain⟨d,hd⟩:=zcc.1 h;obtain⟨L1,h1⟩:=nk m false root d _ _ _ hp hr hd;exact⟨d,L1,hd,h1⟩
omit hr hp in
theorem U0 {n m:Int}{d e:Dt}{L1 L2:List Int}(h:vw Lf n d L1)(h2:vw Lf m e L2)(hm:m∈L1):L2.length<L1.length:=by
 rcases List.suffix_or_suffix_of_suffix h.suf h2.suf with hs|hs
 ·rcases List.suffix_cons_iff.1 hs with e|e
  ·cases e;exact absurd hm h.new
  ·exact absurd (e.subset (zaQ _ hm)) h2.new
 ·rcases List.suffix_cons_iff.1 hs with e|e
  ·cases e;exact absurd hm h2.new
  ·have:=e.length_le;simp only[zar]at this;omega
theorem QH (B:Nat)(hB:Lf.length≤B):∀(N:Nat) (m:Int) (d:Dt) (L1:List Int),aO m root=some d→vw Lf m d L1→L1.length<N→∀f,N*(B+2)≤f→(bQ root f (.ask m)).hd=true
 |0,m,d,L1,_,_,h,f,hf=>by omega
 |N+1,m,d,L1,hl,hq,h,f,hf=>by
  have e:(N+1)*(B+2)=N*(B+2)+(B+2):=Nat.succ_mul _ _;obtain⟨g,rfl⟩:∃g,f=g+1:=⟨f-1,by omega⟩;show(bQ root g ((aO m root).getD .nil)).hd=true;rw[hl];show(bQ root g d).hd=true;obtain⟨ah1,L2,hn,hc,hs⟩:=hq.ex;refine QF root B (N*(B+2)) d ah1 (m::L1) L2 hq.prop hc (zag hs.length_le hB) (λm' ND hn' f' hf'=>?_) g (by omega);rcases zal.1 ND with e1|e1
  ·exact absurd (e1▸hn) hn'
  ·obtain⟨d',L1',h1,h2⟩:=Dx hr hp (hq.suf.subset (zaQ _ e1));exact QH B hB N m' d' L1' h1 h2 (by have:=U0 hq h2 e1;omega) f' hf'
theorem QI (B:Nat)(hB:Lf.length≤B)(hf:(B+1)*(B+2)≤200000):∀(b:Bool) (d:Dt) (ah L L':List Int),aP b d=true→cW ah L d=some L'→L'<:+ Lf→bH root d=true:=by
 have vQ:∀m,m∈Lf→∀f,B*(B+2)≤f→(bQ root f (.ask m)).hd=true:=λm hm f hf'=>by
  obtain⟨d',L1',h1,h2⟩:=Dx hr hp hm;have:=h2.suf.length_le;simp only[zar]at this;exact QH hr hp B hB B m d' L1' h1 h2 (by omega) f hf'
 have e:(B+1)*(B+2)=B*(B+2)+(B+2):=Nat.succ_mul _ _;intro b d
 induction d generalizing b with
 |put n d ih=>
  intro ah L L' hq h hs;cases b with
  |true=>simp[aP]at hq
  |false=>
   have hh:(bQ root 200000 (.put n d)).hd=true:=QF root B (B*(B+2)) (.put n d) ah L L' hq h (zag hs.length_le hB) (λm hm _ f' hf'=>vQ m ((dz _ _ _ _ h).trans hs |>.subset hm) f' hf') 200000 (by omega);simp only[cW]at h;simp only[aP]at hq;split at h
   ·cases h
   ·simp only[bH,hh,zbI];exact ih false _ _ _ hq h hs
 |ask m=>
  intro ah L L' hq h hs;simp only[cW]at h;split at h
  ·rename_i e1;cases h;obtain⟨d',L1',h1,h2⟩:=Dx hr hp (hs.subset e1.1);simp only[bH,h1,Option.isSome_some,zbI];exact vQ m (hs.subset e1.1) 200000 (by omega)
  ·cases h
 |pair i x y ihx ihy=>
  intro ah L L' hq h hs;cases b with
  |true=>simp[aP]at hq
  |false=>
   simp only[cW]at h;simp only[aP,zae]at hq;obtain⟨M,h1,h2⟩:=zaO.1 h;simp only[bH,zae];exact⟨ihx false _ _ _ hq.1 h1 ((dz _ _ _ _ h2).trans hs),ihy false _ _ _ hq.2 h2 hs⟩
 |vec i l ih=>
  intro ah L L' hq h hs;cases b with
  |true=>simp[aP]at hq
  |false=>
   simp only[cW]at h;simp only[aP,zae,zaK]at hq;simp only[bH,zae,zaK];exact⟨by omega,ih true _ _ _ hq.2 h hs⟩
 |br x y ihx ihy=>
  intro ah L L' hq h hs;cases b with
  |false=>simp[aP]at hq
  |true=>
   simp only[cW]at h;simp only[aP,zae]at hq;obtain⟨M,h1,h2⟩:=zaO.1 h;simp only[bH,zae];exact⟨ihx false _ _ _ hq.1 h1 ((dz _ _ _ _ h2).trans hs),ihy true _ _ _ hq.2 h2 hs⟩
 |sym s=>
  intro ah L L' hq h hs;cases b with
  |true=>simp[aP]at hq
  |false=>simpa only[aP,bH]using hq
 |nil=>intros;rfl
 |num _ _=>intros;rfl
 |cD _=>intros;rfl
 |kB _=>intros;rfl
 |txt _ _=>intros;rfl
 |cZ=>intros;rfl
end
theorem np (m:Int):∀(r d:Dt),aO m r=some d→∀i∈aY d,i∈aY r
 |.put n x,d,h,i,hi=>by
  simp only[aO]at h;split at h
  ·cases h;exact hi
  ·exact np m x d h i hi
 |.pair j a b,d,h,i,hi=>by
  simp only[aO]at h;simp only[aY,zal,zaF];cases hq:aO m a with
  |some x=>rw[hq]at h;cases h;exact Or.inr (Or.inl (np m a d hq i hi))
  |none=>rw[hq]at h;exact Or.inr (Or.inr (np m b d h i hi))
 |.vec j l,d,h,i,hi=>by
  simp only[aO]at h;simp only[aY,zal];exact Or.inr (np m l d h i hi)
 |.br a b,d,h,i,hi=>by
  simp only[aO]at h;simp only[aY,zaF];cases hq:aO m a with
  |some x=>rw[hq]at h;cases h;exact Or.inl (np m a d hq i hi)
  |none=>rw[hq]at h;exact Or.inr (np m b d h i hi)
 |.nil,d,h,_,_=>by simp[aO]at h
 |.sym _,d,h,_,_=>by simp[aO]at h
 |.num _ _,d,h,_,_=>by simp[aO]at h
 |.cD _,d,h,_,_=>by simp[aO]at h
 |.kB _,d,h,_,_=>by simp[aO]at h
 |.txt _ _,d,h,_,_=>by simp[aO]at h
 |.cZ,d,h,_,_=>by simp[aO]at h
 |.ask _,d,h,_,_=>by simp[aO]at h
theorem lf (m:Int):∀(b:Bool) (r d:Dt),aP b r=true→aO m r=some d→aP false d=true
 |false,.put n x,d,hp,h=>by
  simp only[aO]at h;simp only[aP]at hp;split at h
  ·cases h;exact hp
  ·exact lf m false x d hp h
 |false,.pair j a b,d,hp,h=>by
  simp only[aO]at h;simp only[aP,zae]at hp;cases hq:aO m a with
  |some x=>rw[hq]at h;cases h;exact lf m false a d hp.1 hq
  |none=>rw[hq]at h;exact lf m false b d hp.2 h
 |false,.vec j l,d,hp,h=>by
  simp only[aO]at h;simp only[aP,zae]at hp;exact lf m true l d hp.2 h
 |true,.br a b,d,hp,h=>by
  simp only[aO]at h;simp only[aP,zae]at hp;cases hq:aO m a with
  |some x=>rw[hq]at h;cases h;exact lf m false a d hp.1 hq
  |none=>rw[hq]at h;exact lf m true b d hp.2 h
 |false,.br _ _,d,hp,h=>by simp[aP]at hp
 |true,.put _ _,d,hp,h=>by simp[aP]at hp
 |true,.pair _ _ _,d,hp,h=>by simp[aP]at hp
 |true,.vec _ _,d,hp,h=>by simp[aP]at hp
 |b,.nil,d,hp,h=>by simp[aO]at h
 |b,.sym _,d,hp,h=>by simp[aO]at h
 |b,.num _ _,d,hp,h=>by simp[aO]at h
 |b,.cD _,d,hp,h=>by simp[aO]at h
 |b,.kB _,d,hp,h=>by simp[aO]at h
 |b,.txt _ _,d,hp,h=>by simp[aO]at h
 |b,.cZ,d,hp,h=>by simp[aO]at h
 |b,.ask _,d,hp,h=>by simp[aO]at h
section
variable {root:Dt}(hp:aP false root=true)
include hp
theorem pV:∀(f:Nat) (d:Dt),aP false d=true→(∀i∈aY d,i∈aY root)→aP false (bQ root f d)=true∧∀i∈aY (bQ root f d),i∈aY root
 |0,d,h1,h2=>⟨h1,h2⟩
 |f+1,.put n x,h1,h2=>pV f x (by simpa only[aP]using h1) (λi hi=>h2 i (by simpa only[aY]using hi))
 |f+1,.ask m,h1,h2=>by
  show aP false (bQ root f ((aO m root).getD .nil))=true∧∀i∈aY (bQ root f ((aO m root).getD .nil)),i∈aY root;cases hq:aO m root with
  |none=>exact pV f .nil rfl (λi hi=>by cases hi)
  |some x=>exact pV f x (lf m false root x hp hq) (np m root x hq)
 |f+1,.nil,h1,h2=>⟨h1,h2⟩
 |f+1,.sym _,h1,h2=>⟨h1,h2⟩
 |f+1,.num _ _,h1,h2=>⟨h1,h2⟩
 |f+1,.cD _,h1,h2=>⟨h1,h2⟩
 |f+1,.kB _,h1,h2=>⟨h1,h2⟩
 |f+1,.txt _ _,h1,h2=>⟨h1,h2⟩
 |f+1,.pair _ _ _,h1,h2=>⟨h1,h2⟩
 |f+1,.vec _ _,h1,h2=>⟨h1,h2⟩
 |f+1,.cZ,h1,h2=>⟨h1,h2⟩
 |f+1,.br _ _,h1,h2=>⟨h1,h2⟩
end
def eV (root:Dt)(g:fP):Nat:=((aY root).filter λi=>(g.met.lookup i).isNone).length
theorem filter_lt {α:Type}{p q:α→Bool}:∀{l:List α} {a:α},a∈l→(∀x,q x=true→p x=true)→p a=true→q a=false→(l.filter q).length + 1≤(l.filter p).length
 |x::r,a,ha,hpq,h1,h2=>by
  have hle:∀(r:List α),(r.filter q).length≤(r.filter p).length:=λr=>by
   induction r with
   |nil=>simp
   |cons y r ih=>
    by_cases hq:q y=true
    ·simp[hq,hpq y hq,ih]
    ·have hq':q y=false:=by simpa using hq
     by_cases wN:p y=true
     ·simp[hq',wN];omega
     ·have ZH:p y=false:=by simpa using wN
      simp[hq',ZH];omega
  rcases zal.1 ha with rfl|ha
  ·have:=hle r;simp[h1,h2];omega
  ·have:=filter_lt ha hpq h1 h2;by_cases hq:q x=true
   ·simp[hq,hpq x hq];omega
   ·have hq':q x=false:=by simpa using hq
    by_cases wN:p x=true
    ·simp[hq',wN];omega
    ·have ZH:p x=false:=by simpa using wN
     simp[hq',ZH];omega
theorem uI {root:Dt}{g:fP}{i k:Nat}{ns:List eO}(hi:i∈aY root)(h:g.met.lookup i=none):eV root ⟨ns,(i,k)::g.met⟩+1≤eV root g:=by
 refine filter_lt hi (λx hx=>?_) (by simp[h]) (by simp[List.lookup]);simp only[List.lookup]at hx;split at hx
 ·simp at hx
 ·exact hx
section
variable {root:Dt}(hp:aP false root=true)
include hp
theorem Gq:∀n,(∀d g,aP false d=true→(∀i∈aY d,i∈aY root)→25*eV root g+2≤n→∃k g',ie root n d g=some (k,g')∧eV root g'≤eV root g∧g'.nodes.length+22*eV root g'≤g.nodes.length+22*eV root g+1)∧∀l acc g,aP true l=true→(∀i∈aY l,i∈aY root)→25*eV root g+l.mX+3≤n→∃ks g',ahF root n l acc g=some (ks,g')∧eV root g'≤eV root g∧g'.nodes.length+22*eV root g'≤g.nodes.length+22*eV root g+l.mX
 |0=>⟨λd g _ _ h=>by omega,λl acc g _ _ h=>by omega⟩
 |n+1=>by
  have ih:=Gq n;refine⟨λd g h1 h2 hn=>?_,λl acc g h1 h2 hn=>?_⟩
  ·obtain⟨m1,m2⟩:=pV hp 200000 d h1 h2;have leaf:∀x:eO,∃k g',some (g.nodes.length,g.add x)=some (k,g')∧eV root g'≤eV root g∧g'.nodes.length+22*eV root g'≤g.nodes.length+22*eV root g+1:=λx=>
    ⟨_,_,rfl,zac _,by show(g.nodes++[x]).length + 22*eV root g≤_;simp;omega⟩
   unfold ie;cases hm:bQ root 200000 d with
   |pair i a b=>
    rw[hm]at m1 m2;dsimp only;cases hl:g.met.lookup i with
    |some k=>exact⟨k,g,rfl,zac _,by omega⟩
    |none=>
     have hu:eV root ⟨g.nodes++[⟨1,[],0,0,[]⟩],(i,g.nodes.length)::g.met⟩+1≤eV root g:=uI (m2 i (by simp[aY])) hl;simp only[aP,zae]at m1;obtain⟨ks,g',e,e1,e2⟩:=ih.2 (.br a (.br b .cZ)) [] ⟨g.nodes++[⟨1,[],0,0,[]⟩],(i,g.nodes.length)::g.met⟩ (by simp[aP,m1.1,m1.2]) (λj hj=>m2 j (by simp only[aY,zcz,zaF]at hj;simp only[aY,zal,zaF];exact Or.inr hj)) (by simp only[Dt.mX];omega);dsimp only;rw[e];refine⟨_,_,rfl,by show eV root g'≤_;omega,?_⟩;simp only[Dt.mX,zaR,zar,zbk]at e2;show(bE g'.nodes _ _).length + 22*eV root g'≤_;simp only[bE,List.length_modify];omega
   |vec i l=>
    rw[hm]at m1 m2;dsimp only;cases hl:g.met.lookup i with
    |some k=>exact⟨k,g,rfl,zac _,by omega⟩
    |none=>
     have hu:eV root ⟨g.nodes++[⟨2,[],0,0,[]⟩],(i,g.nodes.length)::g.met⟩+1≤eV root g:=uI (m2 i (by simp[aY])) hl;simp only[aP,zae,zaK]at m1;obtain⟨ks,g',e,e1,e2⟩:=ih.2 l [] ⟨g.nodes++[⟨2,[],0,0,[]⟩],(i,g.nodes.length)::g.met⟩ m1.2 (λj hj=>m2 j (by simp only[aY,zal];exact Or.inr hj)) (by omega);dsimp only;rw[e];refine⟨_,_,rfl,by show eV root g'≤_;omega,?_⟩;simp only[zaR,zar,zbk]at e2;show(bE g'.nodes _ _).length + 22*eV root g'≤_;simp only[bE,List.length_modify];omega
   |txt i s=>
    rw[hm]at m1 m2;dsimp only;cases hl:g.met.lookup i with
    |some k=>exact⟨k,g,rfl,zac _,by omega⟩
    |none=>
     have hu:eV root ⟨g.nodes++[⟨3,s,0,0,[]⟩],(i,g.nodes.length)::g.met⟩+1≤eV root g:=uI (m2 i (by simp[aY])) hl;exact⟨_,_,rfl,by omega,by simp only[zaR,zar,zbk];omega⟩
   |nil=>exact leaf _
   |sym s=>exact leaf _
   |num a b=>exact leaf _
   |cD a=>exact leaf _
   |kB a=>exact leaf _
   |put a b=>exact leaf _
   |ask a=>exact leaf _
   |cZ=>exact leaf _
   |br a b=>exact leaf _
  ·unfold ahF;cases l with
   |cZ=>exact⟨_,_,rfl,zac _,by simp only[Dt.mX];omega⟩
   |br a l=>
    simp only[aP,zae]at h1;simp only[Dt.mX]at hn;obtain⟨k,g1,e,e1,e2⟩:=ih.1 a g h1.1 (λi hi=>h2 i (by simp[aY,hi])) (by omega);obtain⟨ks,g2,f,f1,f2⟩:=ih.2 l (acc++[k]) g1 h1.2 (λi hi=>h2 i (by simp[aY,hi])) (by omega);refine⟨ks,g2,?_,by omega,by simp only[Dt.mX];omega⟩;dsimp only;rw[e];exact f
   |_=>simp[aP]at h1
end
theorem BU {s:List UInt8}{a:Nat}(h:(aR s a).kind=14):(aR s a).text.length≤s.length:=by
 have hw:∀a:Nat,(fN s a).kind=14→(fN s a).text.length≤s.length:=λa h=>by
  unfold fN at h ⊢;dsimp only at h ⊢;split at h
  ·cases h
  ·rename_i h1;rw[zaa h1];split at h
   ·rename_i h2;rw[zab h2];simp only[dL,zcM,zau];omega
   ·split at h<;>cases h
 have ht:∀a:Nat,(jh s a).kind≠14:=λa h=>by
  unfold jh at h;split at h<;>cases h
 have hq:∀a:Nat,(fM s a).kind≠14:=λa h=>by
  unfold fM at h;repeat' split at h
  all_goals cases h
 have hr:∀a:Nat,(bW s a).kind≠14:=λa h=>by
  unfold bW at h;dsimp only at h;repeat' split at h
  all_goals cases h
 have hl:∀a:Nat,((bZ s a).getD (bW s a)).kind≠14:=λa h=>by
  unfold bZ at h;dsimp only at h;repeat' split at h
  all_goals first
   |exact hr a h
   |cases h
 have hh:∀a:Nat,(ed s a).kind≠14:=λa h=>by
  unfold ed at h;repeat' split at h
  all_goals first
   |exact hl a h
   |exact hq a h
   |cases h
 unfold aR cM at h ⊢;generalize jg s a=b at h ⊢;cases hd:s.drop b with
 |nil=>rw[hd]at h;cases h
 |cons c r=>
  rw[hd]at h;dsimp only at h ⊢;repeat' split at h
  all_goals first
   |exact absurd h (ht b)
   |exact absurd h (hh b)
   |(cases h;done)
   |skip
  rename_i h1 h2 h3 h4 h5 h6;rw[zaa h1,zaa h2,zaa h3,zaa h4,zaa h5,zab h6];exact hw b h
theorem nt:∀(n:Nat) (s:List UInt8) (a:Nat) (t:Tok),t∈aw n s a→t.kind=14→t.text.length≤s.length
 |0,s,a,t,h,_=>by simp[aw]at h
 |n+1,s,a,t,h,rG=>by
  rw[aw]at h;split at h
  ·obtain rfl:t=aR s a:=by simpa using h
   exact BU rG
  ·rcases zal.1 h with rfl|h
   ·exact BU rG
   ·exact nt n s _ t h rG
theorem tj {s:List UInt8}(hs:s.length≤400)(dp:Nat)(d:Dt)(s':eD)(h:ay (aw (s.length+1) s 0) dp 2000 ⟨0,false,[]⟩ ⟨0,0,[]⟩=.ok d s'):bH d d=true∧∃k g,ie d 100000 d ⟨[],[]⟩=some (k,g)∧g.nodes.length≤999999:=by
 have hT:=lF (s.length+1) s 0 (zaq _) (by omega);have hle:=pO (s.length+1) s 0;have i:=(Dw (aw (s.length+1) s 0) dp (λt ht rG=>zag (nt _ _ _ t ht rG) (by omega)) 2000).datum _ _ d s' h;have hk:s'.k<(aw (s.length+1) s 0).length:=by
  have:=(fuel (aw (s.length+1) s 0) dp hT.2 2000).datum ⟨0,false,[]⟩ ⟨0,0,[]⟩ (zbT.2 hT.1) (by show 2*(_-0)+2≤2000;omega);rw[h]at this;exact this.2
 have a1:=i.MX;have a2:=i.sh;have a3:=i.ids;have a4:=i.cr;have a5:=i.lc;simp only[zbk]at a1 a3 a4 a5;have qm:(aY d).length≤802:=by omega
 have hl:s'.ak.length≤401:=by omega
 refine⟨QI a1 a2 401 hl (by decide) false d _ _ _ a2 a1 (zbN _),?_⟩;have hu:eV d ⟨[],[]⟩≤(aY d).length:=List.length_filter_le _ _;obtain⟨k,g,e,_,e2⟩:=(Gq a2 100000).1 d ⟨[],[]⟩ a2 (λi hi=>hi) (by omega);refine⟨k,g,e,?_⟩;simp only[zbk]at e2;omega
structure RT where
 k:Nat
 f:Nat
 t:Nat
 x:List UInt8
 n:Int
 d:Int
def kb (n:Nat):Nat:=[101,120,40,41,39,118,59,46,115,99,112,97,98,110,119].getD n 0
def RT.big (r:RT):Prop:=1000000<r.n∨r.n< -1000000∨1000000<r.d
instance (r:RT):Decidable r.big:=by unfold RT.big;infer_instance
end Go.Loop
