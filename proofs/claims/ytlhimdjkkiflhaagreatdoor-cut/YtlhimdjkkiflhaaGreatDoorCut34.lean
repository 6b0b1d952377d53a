import Derived.Test.YtlhimdjkkiflhaaGreatDoorCut25
set_option maxHeartbeats 8000000
set_option maxRecDepth 100000
namespace Go.Loop
def cW:List Int→List Int→Dt→Option (List Int)
 |ah,L,.put n d=>if n∈L then none else cW (ah++[n]) (n::L) d
 |ah,L,.ask m=>if m∈L∧m∉ah then some L else none
 |_,L,.pair _ a b=>(cW [] L a).bind λL=>cW [] L b
 |_,L,.vec _ l=>cW [] L l
 |_,L,.ck a l=>(cW [] L a).bind λL=>cW [] L l
 |_,L,_=>some L
def r7:List Int→List Dt→Option (List Int)
 |L,[]=>some L
 |L,d::l=>(cW [] L d).bind λL=>r7 L l
def dI:Dt→List Nat
 |.txt i _=>[i]
 |.pair i a b=>i::(dI a++dI b)
 |.vec i l=>i::dI l
 |.ck a l=>dI a++dI l
 |.put _ d=>dI d
 |_=>[]
def bf:Bool→Dt→Bool
 |true,.fj=>true
 |true,.ck a l=>bf false a&&bf true l
 |true,_=>false
 |false,.pair _ a b=>bf false a&&bf false b
 |false,.vec _ l=>decide (l.ql≤20)&&bf true l
 |false,.put _ d=>bf false d
 |false,.fj=>false
 |false,.ck _ _=>false
 |false,.sym s=>decide (s.length≤1000000)
 |false,_=>true
def nH (l:List Dt):Nat:=(l.map λd=>(dI d).length).sum
theorem oG (L:List Int):∀(l r:List Dt),r7 L (l++r)=(r7 L l).bind λL=>r7 L r
 |[],r=>rfl
 |d::l,r=>by
  simp only[zat,r7];cases cW [] L d with
  |none=>rfl
  |some M=>exact oG M l r
theorem uf (l r:List Dt):nH (l++r)=nH l+nH r:=by simp[nH]
theorem Dz (d:Dt):nH [d]=(dI d).length:=by simp[nH]
theorem mA:∀(l:List Dt) (r:Dt) (i:Nat),(aW l r i).2=i+l.length
 |[],r,i=>rfl
 |d::l,r,i=>by simp only[aW,mA l r i,zak];omega
theorem tB:∀(l:List Dt) (r:Dt) (i:Nat),(dI (aW l r i).1).length=nH l+l.length+(dI r).length
 |[],r,i=>by simp[aW,nH]
 |d::l,r,i=>by
  have:=tB l r i;simp only[aW,dI,zak,zaw,this,nH,zao,List.sum_cons];simp only[nH]at this;omega
theorem tC:∀(l:List Dt) (r:Dt) (i:Nat) (L:List Int),cW [] L (aW l r i).1=(r7 L l).bind λL=>cW [] L r
 |[],r,i,L=>rfl
 |d::l,r,i,L=>by
  simp only[aW,cW,r7];cases cW [] L d with
  |none=>rfl
  |some M=>exact tC l r i M
theorem mZ:∀(l:List Dt) (r:Dt) (i:Nat),(∀d∈l,bf false d=true)→bf false r=true→bf false (aW l r i).1=true
 |[],r,i,_,h=>h
 |d::l,r,i,hl,h=>by
  simp only[aW,bf,zac];exact⟨hl d (by simp),mZ l r i (λx hx=>hl x (by simp[hx])) h⟩
theorem DC (l:List Dt)(r:Dt)(i:Nat)(h:l≠[]∨r=.nil)(ah L:List Int):cW ah L (aW l r i).1=cW [] L (aW l r i).1:=by
 cases l with
 |nil=>
  rcases h with h|rfl
  ·exact absurd rfl h
  ·rfl
 |cons d l=>rfl
theorem Hn:∀(l:List Dt) (ah L:List Int),cW ah L (lJ l)=r7 L l
 |[],ah,L=>rfl
 |d::l,ah,L=>by
  simp only[lJ,cW,r7];cases cW [] L d with
  |none=>rfl
  |some M=>exact Hn l [] M
theorem Ho:∀(l:List Dt),(dI (lJ l)).length=nH l
 |[]=>rfl
 |d::l=>by
  have:=Ho l;simp only[lJ,dI,zaw,this,nH,zao,List.sum_cons]
theorem Hp:∀(l:List Dt),(lJ l).ql=l.length
 |[]=>rfl
 |d::l=>by simp only[lJ,Dt.ql,Hp l,zak]
theorem DD:∀(l:List Dt),(∀d∈l,bf false d=true)→bf true (lJ l)=true
 |[],_=>rfl
 |d::l,hl=>by
  simp only[lJ,bf,zac];exact⟨hl d (by simp),DD l λx hx=>hl x (by simp[hx])⟩
structure aae (T:List Tok) (s:eX) (t:Tok) (s':eX):Prop where
 mem:t∈T
 aN:s'.aN=s.aN
 k:s.k+1≤s'.k
 fr:s.fresh≤s'.fresh
 cr:s'.fresh+2*s.k+2≤s.fresh+2*s'.k
structure Vw (c:Nat) (p:Pl) (s:eX) (d:Dt) (s':eX):Prop where
 JZ:cW p.ahead s.aN d=some s'.aN
 Kw:p.passed=true→s'.aN=s.aN
 sh:bf false d=true
 ids:(dI d).length + s.fresh≤s'.fresh
 cr:s'.fresh+2*s.k+2*c≤s.fresh+2*s'.k+1
 lc:s'.aN.length+s.k+c≤s.aN.length+s'.k+1
 k:s.k+c≤s'.k
structure aaf (L0:List Int) (data:List Dt) (p:Pl) (s:eX) (d:Dt) (s':eX):Prop where
 pn:∀ah L,cW ah L d=cW [] L d
 JZ:cW [] L0 d=some s'.aN
 Kw:p.passed=true→s'.aN=s.aN
 sh:bf false d=true
 ids:(dI d).length + s.fresh≤s'.fresh+nH data
 cr:s'.fresh+2*s.k+2≤s.fresh+data.length+2*s'.k
 lc:s'.aN.length+s.k≤s.aN.length+s'.k
 k:s.k+1≤s'.k
structure ab3 (L0:List Int) (data:List Dt) (p:Pl) (s:eX) (l:List Dt) (s':eX):Prop where
 JZ:r7 L0 l=some s'.aN
 Kw:p.passed=true→s'.aN=s.aN
 sh:∀d∈l,bf false d=true
 len:l.length≤20
 ids:nH l+s.fresh≤s'.fresh+nH data
 cr:s'.fresh+2*s.k+2≤s.fresh+2*s'.k
 lc:s'.aN.length+s.k≤s.aN.length+s'.k
 k:s.k+1≤s'.k
theorem RR.bA {α β:Type}{x:RR α}{f:α→eX→RR β}{b:β}{s:eX}(h:x.bind f=.ok b s):∃a s1,x=.ok a s1∧f a s1=.ok b s:=by
 cases x with
 |out=>cases h
 |fail e a=>cases h
 |ok a s1=>exact⟨a,s1,rfl,h⟩
section
variable (T:List Tok)(dp:Nat)
structure aag (n:Nat):Prop where
 datum:∀p s d s',aM T dp n p s=.ok d s'→Vw 1 p s d s'
 take:∀p s t s',aX T dp n p s=.ok t s'→aae T s t s'
 sj:∀t p s d s',t∈T→bG T dp n t p s=.ok d s'→Vw 0 p s d s'
 list:∀L0 data p s d s',p.ahead=[]→r7 L0 data=some s.aN→(∀d∈data,bf false d=true)→bD T dp n data p s=.ok d s'→aaf L0 data p s d s'
 vec:∀L0 data p s l s',p.ahead=[]→r7 L0 data=some s.aN→(∀d∈data,bf false d=true)→data.length≤20→dR T dp n data p s=.ok l s'→ab3 L0 data p s l s'
theorem Q7 {t:Tok}{p:Pl}{s s':eX}{d:Dt}(hs:t.kind=14→t.text.length≤1000000)(h:pO t s=.ok d s'):Vw 0 p s d s':=by
 unfold pO at h;split at h
 ·cases h;exact⟨by simp[cW],λ_=>rfl,rfl,by simp[dI];omega,by simp;omega,by simp,by simp⟩
 ·split at h
  ·cases h;exact⟨by simp[cW],λ_=>rfl,rfl,by simp[dI],by simp,by simp,by simp⟩
  ·split at h
   ·cases h;exact⟨by simp[cW],λ_=>rfl,rfl,by simp[dI],by simp,by simp,by simp⟩
   ·split at h
    ·rename_i uV;cases h;exact⟨by simp[cW],λ_=>rfl,by simpa[bf]using hs uV,by simp[dI],by simp,by simp,by simp⟩
    ·split at h
     ·cases h
     ·cases h;exact⟨by simp[cW],λ_=>rfl,rfl,by simp[dI],by simp,by simp,by simp⟩
theorem Nk (hT:∀t∈T,t.kind=14→t.text.length≤1000000):∀n,aag T dp n
 |0=>by
  refine⟨λp s d s' h=>?_,λp s t s' h=>?_,λt p s d s' _ h=>?_,λL0 data p s d s' _ _ _ h=>?_,λL0 data p s d s' _ _ _ _ h=>?_⟩;all_goals first
   |(unfold aM at h;cases h)
   |(unfold aX at h;cases h)
   |(unfold bG at h;cases h)
   |(unfold bD at h;cases h)
   |(unfold dR at h;cases h)
 |n+1=>by
  have ih:=Nk hT n;refine⟨λp s d s' h=>?_,λp s t s' h=>?_,λt p s d s' ht h=>?_,λL0 data p s d s' hp hL AO h=>?_,λL0 data p s l s' hp hL AO hlen h=>?_⟩
  ·unfold aM at h;obtain⟨t,s1,h1,h2⟩:=RR.bA h;have i1:=ih.take p s t s1 h1;have i2:=ih.sj t p s1 d s' i1.mem h2;have a1:=i1.aN;have a2:=i1.k;have a3:=i1.fr;have a4:=i1.cr;have b1:=i2.ids;have b2:=i2.cr;have b3:=i2.lc;have b4:=i2.k;have hl:s1.aN.length=s.aN.length:=by rw[a1]
   refine⟨by rw[←a1];exact i2.JZ,λhq=>(i2.Kw hq).trans a1,i2.sh,by omega,by omega,by omega,by omega⟩
  ·unfold aX at h;split at h
   ·cases h
   ·rename_i t0 ht0;split at h
    ·cases h
    ·split at h
     ·cases h
     ·split at h
      ·obtain⟨d,s1,h1,h2⟩:=RR.bA h;have i1:=ih.datum _ _ d s1 h1;have i2:=ih.take p s1 t s' h2;have a1:=i1.Kw rfl;have a2:=i1.k;have a3:=i1.cr;have a4:=i1.ids;have b1:=i2.aN;have b2:=i2.k;have b3:=i2.fr;have b4:=i2.cr;simp only at a1 a2 a3 a4;exact⟨i2.mem,by rw[b1,a1],by omega,by omega,by omega⟩
      ·cases h;exact⟨zbD ht0,rfl,by simp,by simp,by simp;omega⟩
  ·unfold bG at h;split at h
   ·cases h
   ·split at h
    ·split at h
     ·cases h
     ·rename_i hnp;split at h
      ·cases h
      ·obtain⟨d1,s1,h1,h2⟩:=RR.bA h;cases h2;have i1:=ih.datum _ _ d1 s' h1;have a1:=i1.JZ;have a3:=i1.ids;have a4:=i1.cr;have a5:=i1.lc;have a6:=i1.k;simp only[zak]at a1 a3 a4 a5 a6;refine⟨?_,λhq=>absurd (Or.inl hq) hnp,i1.sh,?_,by omega,by omega,by omega⟩
       ·simp only[cW];rw[if_neg (λhm=>hnp (Or.inr hm))];exact a1
       ·simpa[dI]using a3
    ·split at h
     ·split at h
      ·cases h
      ·rename_i hna;cases h;simp only[not_or,Classical.not_not]at hna;refine⟨?_,λ_=>rfl,rfl,by simp[dI],by simp,by simp,by simp⟩;simp only[cW];rw[if_pos ⟨hna.2.1,hna.2.2⟩]
     ·split at h
      ·split at h
       ·cases h
       ·split at h
        ·obtain⟨l,s1,h1,h2⟩:=RR.bA h;cases h2;have i1:=ih.vec s.aN [] _ { s with fresh:=s.fresh+1 } l s' rfl rfl (λd hd=>by cases hd) (by simp) h1;have a1:=i1.JZ;have a3:=i1.ids;have a4:=i1.cr;have a5:=i1.lc;have a6:=i1.k;simp only[nH,zaG,List.sum_nil]at a3 a4 a5 a6;refine⟨?_,λhq=>i1.Kw hq,?_,?_,by omega,by omega,by omega⟩
         ·simp only[cW,Hn];exact a1
         ·simp only[bf,Hp,zac,decide_eq_true_eq];exact⟨i1.len,DD l i1.sh⟩
         ·have:=Ho l;simp only[nH]at this;simp only[dI,zak,this];omega
        ·split at h
         ·obtain⟨d1,s1,h1,h2⟩:=RR.bA h;cases h2;have i1:=ih.datum _ _ d1 s1 h1;have a1:=i1.JZ;have a3:=i1.ids;have a4:=i1.cr;have a5:=i1.lc;have a6:=i1.k;simp only at a1 a3 a4 a5 a6;refine⟨?_,λhq=>i1.Kw hq,?_,?_,?_,?_,?_⟩
          ·simp[aW,cW,a1]
          ·simp[aW,bf,i1.sh]
          ·simp only[aW,dI,zak,zaw,zaS];omega
          ·simp only;omega
          ·simp only;omega
          ·simp only;omega
         ·have i1:=ih.list s.aN [] _ s d s' rfl rfl (λd hd=>by cases hd) h;have a1:=i1.JZ;have a3:=i1.ids;have a4:=i1.cr;have a5:=i1.lc;have a6:=i1.k;simp only[nH,zaG,List.sum_nil,zaS]at a1 a3 a4 a5 a6;refine⟨?_,λhq=>i1.Kw hq,i1.sh,by omega,by omega,by omega,by omega⟩;rw[i1.pn];exact a1
      ·exact Q7 (hT t ht) h
  ·unfold bD at h;obtain⟨t,s1,h1,h2⟩:=RR.bA h;have i1:=ih.take p s t s1 h1;have a1:=i1.aN;have a2:=i1.k;have a3:=i1.fr;have a4:=i1.cr;have lN:s1.aN.length=s.aN.length:=by rw[a1]
   split at h2
   ·cases h2;refine⟨DC _ _ _ (Or.inr rfl),?_,λ_=>a1,mZ _ _ _ AO rfl,?_,?_,by simp only;omega,by simp only;omega⟩
    ·rw[tC,hL];simp[cW,a1]
    ·simp only[tB,mA,dI,zaS];omega
    ·simp only[mA];omega
   ·split at h2
    ·rename_i h7;obtain⟨d2,s2,h3,h4⟩:=RR.bA h2;obtain⟨t3,s3,h5,h6⟩:=RR.bA h4;have i2:=ih.datum p s1 d2 s2 h3;have i3:=ih.take p s2 t3 s3 h5;have b0:=i2.JZ;have b1:=i2.ids;have b2:=i2.cr;have b3:=i2.lc;have b4:=i2.k;have c1:=i3.aN;have c2:=i3.k;have c3:=i3.fr;have c4:=i3.cr;have hl3:s3.aN.length=s2.aN.length:=by rw[c1]
     split at h6
     ·cases h6;refine⟨DC _ _ _ (Or.inl h7.2),?_,λhq=>by simp only[c1,i2.Kw hq,a1],mZ _ _ _ AO i2.sh,?_,?_,by simp only;omega,by simp only;omega⟩
      ·rw[tC,hL];simp only[zbk,c1,←b0,hp,a1]
      ·simp only[tB,mA];omega
      ·simp only[mA];omega
     ·cases h6
    ·obtain⟨d2,s2,h3,h4⟩:=RR.bA h2;have i2:=ih.sj t p s1 d2 s2 i1.mem h3;have b0:=i2.JZ;have b1:=i2.ids;have b2:=i2.cr;have b3:=i2.lc;have b4:=i2.k;rw[hp,a1]at b0;have i3:=ih.list L0 (data++[d2]) p s2 d s' hp (by rw[oG,hL];simp[r7,b0]) (λx hx=>by
      rcases zaO.1 hx with hx|hx
      ·exact AO x hx
      ·obtain rfl:x=d2:=by simpa using hx
       exact i2.sh) h4
     have c1:=i3.ids;have c2:=i3.cr;have c3:=i3.lc;have c4:=i3.k;simp only[uf,Dz,zaw,zak,zaS]at c1 c2;refine⟨i3.pn,i3.JZ,λhq=>by rw[i3.Kw hq,i2.Kw hq,a1],i3.sh,?_,by omega,by omega,by omega⟩;omega
  ·unfold dR at h;obtain⟨t,s1,h1,h2⟩:=RR.bA h;have i1:=ih.take p s t s1 h1;have a1:=i1.aN;have a2:=i1.k;have a3:=i1.fr;have a4:=i1.cr;have lN:s1.aN.length=s.aN.length:=by rw[a1]
   split at h2
   ·cases h2;exact⟨by rw[hL,a1],λ_=>a1,AO,hlen,by omega,by omega,by omega,by omega⟩
   ·split at h2
    ·cases h2
    ·rename_i PW;obtain⟨d2,s2,h3,h4⟩:=RR.bA h2;have i2:=ih.sj t p s1 d2 s2 i1.mem h3;have b0:=i2.JZ;have b1:=i2.ids;have b2:=i2.cr;have b3:=i2.lc;have b4:=i2.k;rw[hp,a1]at b0;have i3:=ih.vec L0 (data++[d2]) p s2 l s' hp (by rw[oG,hL];simp[r7,b0]) (λx hx=>by
      rcases zaO.1 hx with hx|hx
      ·exact AO x hx
      ·obtain rfl:x=d2:=by simpa using hx
       exact i2.sh) (by simp;omega) h4
     have c1:=i3.ids;have c2:=i3.cr;have c3:=i3.lc;have c4:=i3.k;simp only[uf,Dz]at c1 c2;refine⟨i3.JZ,λhq=>by rw[i3.Kw hq,i2.Kw hq,a1],i3.sh,i3.len,?_,by omega,by omega,by omega⟩;omega
end
theorem dB:∀(d:Dt) (ah L L':List Int),cW ah L d=some L'→L<:+ L'
 |.put n d,ah,L,L',h=>by
  simp only[cW]at h;split at h
  ·cases h
  ·exact(List.suffix_cons n L).trans (dB d _ _ _ h)
 |.ask m,ah,L,L',h=>by
  simp only[cW]at h;split at h
  ·cases h;exact zaY _
  ·cases h
 |.pair _ a b,ah,L,L',h=>by
  simp only[cW]at h;obtain⟨M,h1,h2⟩:=zay.1 h;exact(dB a _ _ _ h1).trans (dB b _ _ _ h2)
 |.vec _ l,ah,L,L',h=>dB l _ _ _ (by simpa only[cW]using h)
 |.ck a l,ah,L,L',h=>by
  simp only[cW]at h;obtain⟨M,h1,h2⟩:=zay.1 h;exact(dB a _ _ _ h1).trans (dB l _ _ _ h2)
 |.nil,ah,L,L',h=>by cases h;exact zaY _
 |.sym _,ah,L,L',h=>by cases h;exact zaY _
 |.num _ _,ah,L,L',h=>by cases h;exact zaY _
 |.eT _,ah,L,L',h=>by cases h;exact zaY _
 |.si _,ah,L,L',h=>by cases h;exact zaY _
 |.txt _ _,ah,L,L',h=>by cases h;exact zaY _
 |.fj,ah,L,L',h=>by cases h;exact zaY _
theorem ng (m:Int):∀(d:Dt) (ah L L':List Int),cW ah L d=some L'→m∈L'→m∈L∨(aY m d).isSome=true
 |.put n d,ah,L,L',h,hm=>by
  simp only[cW]at h;split at h
  ·cases h
  ·simp only[aY];by_cases e:n=m
   ·right;simp[e]
   ·rw[if_neg e];rcases ng m d _ _ _ h hm with h1|h1
    ·rcases zas.1 h1 with h2|h2
     ·exact absurd h2.symm e
     ·exact Or.inl h2
    ·exact Or.inr h1
 |.ask k,ah,L,L',h,hm=>by
  simp only[cW]at h;split at h
  ·cases h;exact Or.inl hm
  ·cases h
 |.pair _ a b,ah,L,L',h,hm=>by
  simp only[cW]at h;obtain⟨M,h1,h2⟩:=zay.1 h;simp only[aY];rcases ng m b _ _ _ h2 hm with h3|h3
  ·rcases ng m a _ _ _ h1 h3 with h4|h4
   ·exact Or.inl h4
   ·right;obtain⟨x,hx⟩:=zbq.1 h4;simp[hx]
  ·right;cases aY m a with
   |some x=>rfl
   |none=>exact h3
 |.vec _ l,ah,L,L',h,hm=>ng m l _ _ _ (by simpa only[cW]using h) hm
 |.ck a l,ah,L,L',h,hm=>by
  simp only[cW]at h;obtain⟨M,h1,h2⟩:=zay.1 h;simp only[aY];rcases ng m l _ _ _ h2 hm with h3|h3
  ·rcases ng m a _ _ _ h1 h3 with h4|h4
   ·exact Or.inl h4
   ·right;obtain⟨x,hx⟩:=zbq.1 h4;simp[hx]
  ·right;cases aY m a with
   |some x=>rfl
   |none=>exact h3
 |.nil,ah,L,L',h,hm=>by cases h;exact Or.inl hm
 |.sym _,ah,L,L',h,hm=>by cases h;exact Or.inl hm
 |.num _ _,ah,L,L',h,hm=>by cases h;exact Or.inl hm
 |.eT _,ah,L,L',h,hm=>by cases h;exact Or.inl hm
 |.si _,ah,L,L',h,hm=>by cases h;exact Or.inl hm
 |.txt _ _,ah,L,L',h,hm=>by cases h;exact Or.inl hm
 |.fj,ah,L,L',h,hm=>by cases h;exact Or.inl hm
structure ug (Lf:List Int) (n:Int) (d:Dt) (L1:List Int):Prop where
 ex:∃ah1 L2,n∈ah1∧cW ah1 (n::L1) d=some L2∧L2<:+ Lf
 new:n∉L1
 suf:(n::L1)<:+ Lf
 prop:bf false d=true
theorem ug.mono {Lf L':List Int}{n:Int}{d:Dt}{L1:List Int}(h:ug L' n d L1)(hs:L'<:+ Lf):ug Lf n d L1:=by
 obtain⟨⟨a,b,c,e,f⟩,h2,h3,h4⟩:=h;exact⟨⟨a,b,c,e,f.trans hs⟩,h2,h3.trans hs,h4⟩
theorem nh (n:Int):∀(b:Bool) (d0 d:Dt) (ah L L':List Int),bf b d0=true→cW ah L d0=some L'→aY n d0=some d→∃L1,ug L' n d L1
 |false,.put m x,d,ah,L,L',hp,h,hl=>by
  simp only[cW]at h;simp only[aY]at hl;simp only[bf]at hp;split at h
  ·cases h
  ·rename_i hm;split at hl
   ·rename_i e;subst e;cases hl;exact⟨L,⟨ah++[m],L',by simp,h,zaY _⟩,hm,dB _ _ _ _ h,hp⟩
   ·exact nh n false x d _ _ _ hp h hl
 |false,.pair _ a b,d,ah,L,L',hp,h,hl=>by
  simp only[cW]at h;simp only[aY]at hl;simp only[bf,zac]at hp;obtain⟨M,h1,h2⟩:=zay.1 h;cases hq:aY n a with
  |some x=>
   rw[hq]at hl;cases hl;obtain⟨L1,h3⟩:=nh n false a d _ _ _ hp.1 h1 hq;exact⟨L1,h3.mono (dB _ _ _ _ h2)⟩
  |none=>
   rw[hq]at hl;exact nh n false b d _ _ _ hp.2 h2 hl
 |false,.vec _ l,d,ah,L,L',hp,h,hl=>by
  simp only[bf,zac]at hp;exact nh n true l d _ _ _ hp.2 (by simpa only[cW]using h) (by simpa only[aY]using hl)
 |true,.ck a b,d,ah,L,L',hp,h,hl=>by
  simp only[cW]at h;simp only[aY]at hl;simp only[bf,zac]at hp;obtain⟨M,h1,h2⟩:=zay.1 h;cases hq:aY n a with
  |some x=>
   rw[hq]at hl;cases hl;obtain⟨L1,h3⟩:=nh n false a d _ _ _ hp.1 h1 hq;exact⟨L1,h3.mono (dB _ _ _ _ h2)⟩
  |none=>
   rw[hq]at hl;exact nh n true b d _ _ _ hp.2 h2 hl
 |true,.fj,d,ah,L,L',hp,h,hl=>by simp[aY]at hl
 |false,.fj,d,ah,L,L',hp,h,hl=>by simp[aY]at hl
 |false,.ck _ _,d,ah,L,L',hp,h,hl=>by simp[bf]at hp
 |true,.pair _ _ _,d,ah,L,L',hp,h,hl=>by simp[bf]at hp
 |true,.vec _ _,d,ah,L,L',hp,h,hl=>by simp[bf]at hp
 |true,.put _ _,d,ah,L,L',hp,h,hl=>by simp[bf]at hp
 |b,.nil,d,ah,L,L',hp,h,hl=>by simp[aY]at hl
 |b,.sym _,d,ah,L,L',hp,h,hl=>by simp[aY]at hl
 |b,.num _ _,d,ah,L,L',hp,h,hl=>by simp[aY]at hl
 |b,.eT _,d,ah,L,L',hp,h,hl=>by simp[aY]at hl
 |b,.si _,d,ah,L,L',hp,h,hl=>by simp[aY]at hl
 |b,.txt _ _,d,ah,L,L',hp,h,hl=>by simp[aY]at hl
 |b,.ask _,d,ah,L,L',hp,h,hl=>by simp[aY]at hl
theorem Nl (root:Dt)(B F:Nat):∀(d:Dt) (ah L L2:List Int),bf false d=true→cW ah L d=some L2→L2.length≤B→(∀m,m∈L→m∉ah→∀f,F≤f→(cO root f (.ask m)).hd=true)→∀f,F+1+(B-L.length)≤f→(cO root f d).hd=true
 |.put n d,ah,L,L2,hp,h,hB,hy,f,hf=>by
  simp only[cW]at h;simp only[bf]at hp;split at h
  ·cases h
  ·have hle:=(dB _ _ _ _ h).length_le;simp only[zak]at hle;obtain⟨g,rfl⟩:∃g,f=g+1:=⟨f-1,by omega⟩;show(cO root g d).hd=true;refine Nl root B F d (ah++[n]) (n::L) L2 hp h hB (λm hm hn f' hf'=>?_) g (by simp only[zak];omega);simp only[zaO,List.mem_singleton,not_or]at hn;rcases zas.1 hm with e|e
   ·exact absurd e hn.2
   ·exact hy m e hn.1 f' hf'
 |.ask m,ah,L,L2,hp,h,hB,hy,f,hf=>by
  simp only[cW]at h;split at h
  ·rename_i e;exact hy m e.1 e.2 f (by omega)
  ·cases h
 |.nil,ah,L,L2,hp,h,hB,hy,f,hf=>by obtain⟨g,rfl⟩:∃g,f=g+1:=⟨f-1,by omega⟩;rfl
 |.sym _,ah,L,L2,hp,h,hB,hy,f,hf=>by obtain⟨g,rfl⟩:∃g,f=g+1:=⟨f-1,by omega⟩;rfl
 |.num _ _,ah,L,L2,hp,h,hB,hy,f,hf=>by obtain⟨g,rfl⟩:∃g,f=g+1:=⟨f-1,by omega⟩;rfl
 |.eT _,ah,L,L2,hp,h,hB,hy,f,hf=>by obtain⟨g,rfl⟩:∃g,f=g+1:=⟨f-1,by omega⟩;rfl
 |.si _,ah,L,L2,hp,h,hB,hy,f,hf=>by obtain⟨g,rfl⟩:∃g,f=g+1:=⟨f-1,by omega⟩;rfl
 |.txt _ _,ah,L,L2,hp,h,hB,hy,f,hf=>by obtain⟨g,rfl⟩:∃g,f=g+1:=⟨f-1,by omega⟩;rfl
 |.pair _ _ _,ah,L,L2,hp,h,hB,hy,f,hf=>by obtain⟨g,rfl⟩:∃g,f=g+1:=⟨f-1,by omega⟩;rfl
 |.vec _ _,ah,L,L2,hp,h,hB,hy,f,hf=>by obtain⟨g,rfl⟩:∃g,f=g+1:=⟨f-1,by omega⟩;rfl
 |.fj,ah,L,L2,hp,h,hB,hy,f,hf=>by simp[bf]at hp
 |.ck _ _,ah,L,L2,hp,h,hB,hy,f,hf=>by simp[bf]at hp
section
variable {root:Dt}{Lf:List Int}(hr:cW [] [] root=some Lf)(hp:bf false root=true)
include hr hp
theorem Bg {m:Int}(hm:m∈Lf):∃d L1,aY m root=some d∧ug Lf m d L1:=by
 rcases ng m root _ _ _ hr hm with h|h
 ·cases h
 ·obtain⟨d,hd⟩:=zbq.1 h;obtain⟨L1,h1⟩:=nh m false root d _ _ _ hp hr hd;exact⟨d,L1,hd,h1⟩
omit hr hp in
theorem Q8 {n m:Int}{d e:Dt}{L1 L2:List Int}(h:ug Lf n d L1)(h2:ug Lf m e L2)(hm:m∈L1):L2.length<L1.length:=by
 rcases List.suffix_or_suffix_of_suffix h.suf h2.suf with hs|hs
 ·rcases List.suffix_cons_iff.1 hs with e|e
  ·cases e;exact absurd hm h.new
  ·exact absurd (e.subset (zax _ hm)) h2.new
 ·rcases List.suffix_cons_iff.1 hs with e|e
  ·cases e;exact absurd hm h2.new
  ·have:=e.length_le;simp only[zak]at this;omega
theorem Nn (B:Nat)(hB:Lf.length≤B):∀(N:Nat) (m:Int) (d:Dt) (L1:List Int),aY m root=some d→ug Lf m d L1→L1.length<N→∀f,N*(B+2)≤f→(cO root f (.ask m)).hd=true
 |0,m,d,L1,_,_,h,f,hf=>by omega
 |N+1,m,d,L1,hl,hq,h,f,hf=>by
  have e:(N+1)*(B+2)=N*(B+2)+(B+2):=Nat.succ_mul _ _;obtain⟨g,rfl⟩:∃g,f=g+1:=⟨f-1,by omega⟩;show(cO root g ((aY m root).getD .nil)).hd=true;rw[hl];show(cO root g d).hd=true;obtain⟨ah1,L2,hn,hc,hs⟩:=hq.ex;refine Nl root B (N*(B+2)) d ah1 (m::L1) L2 hq.prop hc (zad hs.length_le hB) (λm' Kl hn' f' hf'=>?_) g (by omega);rcases zas.1 Kl with e1|e1
  ·exact absurd (e1▸hn) hn'
  ·obtain⟨d',L1',h1,h2⟩:=Bg hr hp (hq.suf.subset (zax _ e1));exact Nn B hB N m' d' L1' h1 h2 (by have:=Q8 hq h2 e1;omega) f' hf'
theorem Np (B:Nat)(hB:Lf.length≤B)(hf:(B+1)*(B+2)≤200000):∀(b:Bool) (d:Dt) (ah L L':List Int),bf b d=true→cW ah L d=some L'→L'<:+ Lf→b8 root d=true:=by
 have uE:∀m,m∈Lf→∀f,B*(B+2)≤f→(cO root f (.ask m)).hd=true:=λm hm f hf'=>by
  obtain⟨d',L1',h1,h2⟩:=Bg hr hp hm;have:=h2.suf.length_le;simp only[zak]at this;exact Nn hr hp B hB B m d' L1' h1 h2 (by omega) f hf'
 have e:(B+1)*(B+2)=B*(B+2)+(B+2):=Nat.succ_mul _ _;intro b d
 induction d generalizing b with
 |put n d ih=>
  intro ah L L' hq h hs;cases b with
  |true=>simp[bf]at hq
  |false=>
   have hh:(cO root 200000 (.put n d)).hd=true:=Nl root B (B*(B+2)) (.put n d) ah L L' hq h (zad hs.length_le hB) (λm hm _ f' hf'=>uE m ((dB _ _ _ _ h).trans hs |>.subset hm) f' hf') 200000 (by omega);simp only[cW]at h;simp only[bf]at hq;split at h
   ·cases h
   ·simp only[b8,hh,zaW];exact ih false _ _ _ hq h hs
 |ask m=>
  intro ah L L' hq h hs;simp only[cW]at h;split at h
  ·rename_i e1;cases h;obtain⟨d',L1',h1,h2⟩:=Bg hr hp (hs.subset e1.1);simp only[b8,h1,Option.isSome_some,zaW];exact uE m (hs.subset e1.1) 200000 (by omega)
  ·cases h
 |pair i x y ihx ihy=>
  intro ah L L' hq h hs;cases b with
  |true=>simp[bf]at hq
  |false=>
   simp only[cW]at h;simp only[bf,zac]at hq;obtain⟨M,h1,h2⟩:=zay.1 h;simp only[b8,zac];exact⟨ihx false _ _ _ hq.1 h1 ((dB _ _ _ _ h2).trans hs),ihy false _ _ _ hq.2 h2 hs⟩
 |vec i l ih=>
  intro ah L L' hq h hs;cases b with
  |true=>simp[bf]at hq
  |false=>
   simp only[cW]at h;simp only[bf,zac,decide_eq_true_eq]at hq;simp only[b8,zac,decide_eq_true_eq];exact⟨by omega,ih true _ _ _ hq.2 h hs⟩
 |ck x y ihx ihy=>
  intro ah L L' hq h hs;cases b with
  |false=>simp[bf]at hq
  |true=>
   simp only[cW]at h;simp only[bf,zac]at hq;obtain⟨M,h1,h2⟩:=zay.1 h;simp only[b8,zac];exact⟨ihx false _ _ _ hq.1 h1 ((dB _ _ _ _ h2).trans hs),ihy true _ _ _ hq.2 h2 hs⟩
 |sym s=>
  intro ah L L' hq h hs;cases b with
  |true=>simp[bf]at hq
  |false=>simpa only[bf,b8]using hq
 |nil=>intros;rfl
 |num _ _=>intros;rfl
 |eT _=>intros;rfl
 |si _=>intros;rfl
 |txt _ _=>intros;rfl
 |fj=>intros;rfl
end
theorem ni (m:Int):∀(r d:Dt),aY m r=some d→∀i∈dI d,i∈dI r
 |.put n x,d,h,i,hi=>by
  simp only[aY]at h;split at h
  ·cases h;exact hi
  ·exact ni m x d h i hi
 |.pair j a b,d,h,i,hi=>by
  simp only[aY]at h;simp only[dI,zas,zaO];cases hq:aY m a with
  |some x=>rw[hq]at h;cases h;exact Or.inr (Or.inl (ni m a d hq i hi))
  |none=>rw[hq]at h;exact Or.inr (Or.inr (ni m b d h i hi))
 |.vec j l,d,h,i,hi=>by
  simp only[aY]at h;simp only[dI,zas];exact Or.inr (ni m l d h i hi)
 |.ck a b,d,h,i,hi=>by
  simp only[aY]at h;simp only[dI,zaO];cases hq:aY m a with
  |some x=>rw[hq]at h;cases h;exact Or.inl (ni m a d hq i hi)
  |none=>rw[hq]at h;exact Or.inr (ni m b d h i hi)
 |.nil,d,h,_,_=>by simp[aY]at h
 |.sym _,d,h,_,_=>by simp[aY]at h
 |.num _ _,d,h,_,_=>by simp[aY]at h
 |.eT _,d,h,_,_=>by simp[aY]at h
 |.si _,d,h,_,_=>by simp[aY]at h
 |.txt _ _,d,h,_,_=>by simp[aY]at h
 |.fj,d,h,_,_=>by simp[aY]at h
 |.ask _,d,h,_,_=>by simp[aY]at h
theorem kX (m:Int):∀(b:Bool) (r d:Dt),bf b r=true→aY m r=some d→bf false d=true
 |false,.put n x,d,hp,h=>by
  simp only[aY]at h;simp only[bf]at hp;split at h
  ·cases h;exact hp
  ·exact kX m false x d hp h
 |false,.pair j a b,d,hp,h=>by
  simp only[aY]at h;simp only[bf,zac]at hp;cases hq:aY m a with
  |some x=>rw[hq]at h;cases h;exact kX m false a d hp.1 hq
  |none=>rw[hq]at h;exact kX m false b d hp.2 h
 |false,.vec j l,d,hp,h=>by
  simp only[aY]at h;simp only[bf,zac]at hp;exact kX m true l d hp.2 h
 |true,.ck a b,d,hp,h=>by
  simp only[aY]at h;simp only[bf,zac]at hp;cases hq:aY m a with
  |some x=>rw[hq]at h;cases h;exact kX m false a d hp.1 hq
  |none=>rw[hq]at h;exact kX m true b d hp.2 h
 |false,.ck _ _,d,hp,h=>by simp[bf]at hp
 |true,.put _ _,d,hp,h=>by simp[bf]at hp
 |true,.pair _ _ _,d,hp,h=>by simp[bf]at hp
 |true,.vec _ _,d,hp,h=>by simp[bf]at hp
 |b,.nil,d,hp,h=>by simp[aY]at h
 |b,.sym _,d,hp,h=>by simp[aY]at h
 |b,.num _ _,d,hp,h=>by simp[aY]at h
 |b,.eT _,d,hp,h=>by simp[aY]at h
 |b,.si _,d,hp,h=>by simp[aY]at h
 |b,.txt _ _,d,hp,h=>by simp[aY]at h
 |b,.fj,d,hp,h=>by simp[aY]at h
 |b,.ask _,d,hp,h=>by simp[aY]at h
section
variable {root:Dt}(hp:bf false root=true)
include hp
theorem px:∀(f:Nat) (d:Dt),bf false d=true→(∀i∈dI d,i∈dI root)→bf false (cO root f d)=true∧∀i∈dI (cO root f d),i∈dI root
 |0,d,h1,h2=>⟨h1,h2⟩
 |f+1,.put n x,h1,h2=>px f x (by simpa only[bf]using h1) (λi hi=>h2 i (by simpa only[dI]using hi))
 |f+1,.ask m,h1,h2=>by
  show bf false (cO root f ((aY m root).getD .nil))=true∧∀i∈dI (cO root f ((aY m root).getD .nil)),i∈dI root;cases hq:aY m root with
  |none=>exact px f .nil rfl (λi hi=>by cases hi)
  |some x=>exact px f x (kX m false root x hp hq) (ni m root x hq)
 |f+1,.nil,h1,h2=>⟨h1,h2⟩
 |f+1,.sym _,h1,h2=>⟨h1,h2⟩
 |f+1,.num _ _,h1,h2=>⟨h1,h2⟩
 |f+1,.eT _,h1,h2=>⟨h1,h2⟩
 |f+1,.si _,h1,h2=>⟨h1,h2⟩
 |f+1,.txt _ _,h1,h2=>⟨h1,h2⟩
 |f+1,.pair _ _ _,h1,h2=>⟨h1,h2⟩
 |f+1,.vec _ _,h1,h2=>⟨h1,h2⟩
 |f+1,.fj,h1,h2=>⟨h1,h2⟩
 |f+1,.ck _ _,h1,h2=>⟨h1,h2⟩
end
def eU (root:Dt)(g:mh):Nat:=((dI root).filter λi=>(g.met.lookup i).isNone).length
theorem filter_lt {α:Type}{p q:α→Bool}:∀{l:List α} {a:α},a∈l→(∀x,q x=true→p x=true)→p a=true→q a=false→(l.filter q).length + 1≤(l.filter p).length
 |x::r,a,ha,hpq,h1,h2=>by
  have hle:∀(r:List α),(r.filter q).length≤(r.filter p).length:=λr=>by
   induction r with
   |nil=>simp
   |cons y r ih=>
    by_cases hq:q y=true
    ·simp[hq,hpq y hq,ih]
    ·have hq':q y=false:=by simpa using hq
     by_cases uZ:p y=true
     ·simp[hq',uZ];omega
     ·have Vx:p y=false:=by simpa using uZ
      simp[hq',Vx];omega
  rcases zas.1 ha with rfl|ha
  ·have:=hle r;simp[h1,h2];omega
  ·have:=filter_lt ha hpq h1 h2;by_cases hq:q x=true
   ·simp[hq,hpq x hq];omega
   ·have hq':q x=false:=by simpa using hq
    by_cases uZ:p x=true
    ·simp[hq',uZ];omega
    ·have Vx:p x=false:=by simpa using uZ
     simp[hq',Vx];omega
theorem tD {root:Dt}{g:mh}{i k:Nat}{ns:List pj}(hi:i∈dI root)(h:g.met.lookup i=none):eU root ⟨ns,(i,k)::g.met⟩+1≤eU root g:=by
 refine filter_lt hi (λx hx=>?_) (by simp[h]) (by simp[List.lookup]);simp only[List.lookup]at hx;split at hx
 ·simp at hx
 ·exact hx
section
variable {root:Dt}(hp:bf false root=true)
include hp
theorem DF:∀n,(∀d g,bf false d=true→(∀i∈dI d,i∈dI root)→25*eU root g+2≤n→∃k g',kZ root n d g=some (k,g')∧eU root g'≤eU root g∧g'.nodes.length+22*eU root g'≤g.nodes.length+22*eU root g+1)∧∀l acc g,bf true l=true→(∀i∈dI l,i∈dI root)→25*eU root g+l.ql+3≤n→∃ks g',il root n l acc g=some (ks,g')∧eU root g'≤eU root g∧g'.nodes.length+22*eU root g'≤g.nodes.length+22*eU root g+l.ql
 |0=>⟨λd g _ _ h=>by omega,λl acc g _ _ h=>by omega⟩
 |n+1=>by
  have ih:=DF n;refine⟨λd g h1 h2 hn=>?_,λl acc g h1 h2 hn=>?_⟩
  ·obtain⟨m1,m2⟩:=px hp 200000 d h1 h2;have leaf:∀x:pj,∃k g',some (g.nodes.length,g.add x)=some (k,g')∧eU root g'≤eU root g∧g'.nodes.length+22*eU root g'≤g.nodes.length+22*eU root g+1:=λx=>
    ⟨_,_,rfl,zaa _,by show(g.nodes++[x]).length + 22*eU root g≤_;simp;omega⟩
   unfold kZ;cases hm:cO root 200000 d with
   |pair i a b=>
    rw[hm]at m1 m2;dsimp only;cases hl:g.met.lookup i with
    |some k=>exact⟨k,g,rfl,zaa _,by omega⟩
    |none=>
     have hu:eU root ⟨g.nodes++[⟨1,[],0,0,[]⟩],(i,g.nodes.length)::g.met⟩+1≤eU root g:=tD (m2 i (by simp[dI])) hl;simp only[bf,zac]at m1;obtain⟨ks,g',e,e1,e2⟩:=ih.2 (.ck a (.ck b .fj)) [] ⟨g.nodes++[⟨1,[],0,0,[]⟩],(i,g.nodes.length)::g.met⟩ (by simp[bf,m1.1,m1.2]) (λj hj=>m2 j (by simp only[dI,List.append_nil,zaO]at hj;simp only[dI,zas,zaO];exact Or.inr hj)) (by simp only[Dt.ql];omega);dsimp only;rw[e];refine⟨_,_,rfl,by show eU root g'≤_;omega,?_⟩;simp only[Dt.ql,zaw,zak,zaS]at e2;show(di g'.nodes _ _).length + 22*eU root g'≤_;simp only[di,List.length_modify];omega
   |vec i l=>
    rw[hm]at m1 m2;dsimp only;cases hl:g.met.lookup i with
    |some k=>exact⟨k,g,rfl,zaa _,by omega⟩
    |none=>
     have hu:eU root ⟨g.nodes++[⟨2,[],0,0,[]⟩],(i,g.nodes.length)::g.met⟩+1≤eU root g:=tD (m2 i (by simp[dI])) hl;simp only[bf,zac,decide_eq_true_eq]at m1;obtain⟨ks,g',e,e1,e2⟩:=ih.2 l [] ⟨g.nodes++[⟨2,[],0,0,[]⟩],(i,g.nodes.length)::g.met⟩ m1.2 (λj hj=>m2 j (by simp only[dI,zas];exact Or.inr hj)) (by omega);dsimp only;rw[e];refine⟨_,_,rfl,by show eU root g'≤_;omega,?_⟩;simp only[zaw,zak,zaS]at e2;show(di g'.nodes _ _).length + 22*eU root g'≤_;simp only[di,List.length_modify];omega
   |txt i s=>
    rw[hm]at m1 m2;dsimp only;cases hl:g.met.lookup i with
    |some k=>exact⟨k,g,rfl,zaa _,by omega⟩
    |none=>
     have hu:eU root ⟨g.nodes++[⟨3,s,0,0,[]⟩],(i,g.nodes.length)::g.met⟩+1≤eU root g:=tD (m2 i (by simp[dI])) hl;exact⟨_,_,rfl,by omega,by simp only[zaw,zak,zaS];omega⟩
   |nil=>exact leaf _
   |sym s=>exact leaf _
   |num a b=>exact leaf _
   |eT a=>exact leaf _
   |si a=>exact leaf _
   |put a b=>exact leaf _
   |ask a=>exact leaf _
   |fj=>exact leaf _
   |ck a b=>exact leaf _
  ·unfold il;cases l with
   |fj=>exact⟨_,_,rfl,zaa _,by simp only[Dt.ql];omega⟩
   |ck a l=>
    simp only[bf,zac]at h1;simp only[Dt.ql]at hn;obtain⟨k,g1,e,e1,e2⟩:=ih.1 a g h1.1 (λi hi=>h2 i (by simp[dI,hi])) (by omega);obtain⟨ks,g2,f,f1,f2⟩:=ih.2 l (acc++[k]) g1 h1.2 (λi hi=>h2 i (by simp[dI,hi])) (by omega);refine⟨ks,g2,?_,by omega,by simp only[Dt.ql];omega⟩;dsimp only;rw[e];exact f
   |_=>simp[bf]at h1
end
theorem zG {s:List UInt8}{a:Nat}(h:(ax s a).kind=14):(ax s a).text.length≤s.length:=by
 have hw:∀a:Nat,(jG s a).kind=14→(jG s a).text.length≤s.length:=λa h=>by
  unfold jG at h ⊢;dsimp only at h ⊢;split at h
  ·cases h
  ·rename_i h1;rw[if_neg h1];split at h
   ·rename_i h2;rw[if_pos h2];simp only[fR,List.length_take,zah];omega
   ·split at h<;>cases h
 have ht:∀a:Nat,(lg s a).kind≠14:=λa h=>by
  unfold lg at h;split at h<;>cases h
 have hq:∀a:Nat,(kK s a).kind≠14:=λa h=>by
  unfold kK at h;repeat' split at h
  all_goals cases h
 have hr:∀a:Nat,(dW s a).kind≠14:=λa h=>by
  unfold dW at h;dsimp only at h;repeat' split at h
  all_goals cases h
 have hl:∀a:Nat,((eo s a).getD (dW s a)).kind≠14:=λa h=>by
  unfold eo at h;dsimp only at h;repeat' split at h
  all_goals first
   |exact hr a h
   |cases h
 have hh:∀a:Nat,(gA s a).kind≠14:=λa h=>by
  unfold gA at h;repeat' split at h
  all_goals first
   |exact hl a h
   |exact hq a h
   |cases h
 unfold ax gf at h ⊢;generalize nt s a=b at h ⊢;cases hd:s.drop b with
 |nil=>rw[hd]at h;cases h
 |cons c r=>
  rw[hd]at h;dsimp only at h ⊢;repeat' split at h
  all_goals first
   |exact absurd h (ht b)
   |exact absurd h (hh b)
   |(cases h;done)
   |skip
  rename_i h1 h2 h3 h4 h5 h6;rw[if_neg h1,if_neg h2,if_neg h3,if_neg h4,if_neg h5,if_pos h6];exact hw b h
theorem xE:∀(n:Nat) (s:List UInt8) (a:Nat) (t:Tok),t∈aQ n s a→t.kind=14→t.text.length≤s.length
 |0,s,a,t,h,_=>by simp[aQ]at h
 |n+1,s,a,t,h,uV=>by
  rw[aQ]at h;split at h
  ·obtain rfl:t=ax s a:=by simpa using h
   exact zG uV
  ·rcases zas.1 h with rfl|h
   ·exact zG uV
   ·exact xE n s _ t h uV
theorem r8 {s:List UInt8}(hs:s.length≤400)(dp:Nat)(d:Dt)(s':eX)(h:aM (aQ (s.length+1) s 0) dp 2000 ⟨0,false,[]⟩ ⟨0,0,[]⟩=.ok d s'):b8 d d=true∧∃k g,kZ d 100000 d ⟨[],[]⟩=some (k,g)∧g.nodes.length≤999999:=by
 have hT:=ou (s.length+1) s 0 (zaj _) (by omega);have hle:=sW (s.length+1) s 0;have i:=(Nk (aQ (s.length+1) s 0) dp (λt ht uV=>zad (xE _ _ _ t ht uV) (by omega)) 2000).datum _ _ d s' h;have hk:s'.k<(aQ (s.length+1) s 0).length:=by
  have:=(fuel (aQ (s.length+1) s 0) dp hT.2 2000).datum ⟨0,false,[]⟩ ⟨0,0,[]⟩ (zbC.2 hT.1) (by show 2*(_-0)+2≤2000;omega);rw[h]at this;exact this.2
 have a1:=i.JZ;have a2:=i.sh;have a3:=i.ids;have a4:=i.cr;have a5:=i.lc;simp only[zaS]at a1 a3 a4 a5;have acT:(dI d).length≤802:=by omega
 have hl:s'.aN.length≤401:=by omega
 refine⟨Np a1 a2 401 hl (by decide) false d _ _ _ a2 a1 (zaY _),?_⟩;have hu:eU d ⟨[],[]⟩≤(dI d).length:=List.length_filter_le _ _;obtain⟨k,g,e,_,e2⟩:=(DF a2 100000).1 d ⟨[],[]⟩ a2 (λi hi=>hi) (by omega);refine⟨k,g,e,?_⟩;simp only[zaS]at e2;omega
end Go.Loop
