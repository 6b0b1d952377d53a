import Derived.Test.YtlhimdjkkiflhaaGreatReads26
set_option maxHeartbeats 8000000
set_option maxRecDepth 100000
namespace Go.Loop
def cP:List Int→List Int→Dt→Option (List Int)
 |ah,L,.put n d=>if n∈L then none else cP (ah++[n]) (n::L) d
 |ah,L,.ask m=>if m∈L∧m∉ah then some L else none
 |_,L,.pair _ a b=>(cP [] L a).bind λL=>cP [] L b
 |_,L,.vec _ l=>cP [] L l
 |_,L,.bD a l=>(cP [] L a).bind λL=>cP [] L l
 |_,L,_=>some L
def sw:List Int→List Dt→Option (List Int)
 |L,[]=>some L
 |L,d::l=>(cP [] L d).bind λL=>sw L l
def dE:Dt→List Nat
 |.txt i _=>[i]
 |.pair i a b=>i::(dE a++dE b)
 |.vec i l=>i::dE l
 |.bD a l=>dE a++dE l
 |.put _ d=>dE d
 |_=>[]
def bh:Bool→Dt→Bool
 |true,.ee=>true
 |true,.bD a l=>bh false a&&bh true l
 |true,_=>false
 |false,.pair _ a b=>bh false a&&bh false b
 |false,.vec _ l=>decide (l.rP≤20)&&bh true l
 |false,.put _ d=>bh false d
 |false,.ee=>false
 |false,.bD _ _=>false
 |false,.sym s=>decide (s.length≤1000000)
 |false,_=>true
def nk (l:List Dt):Nat:=(l.map λd=>(dE d).length).sum
theorem oD (L:List Int):∀(l r:List Dt),sw L (l++r)=(sw L l).bind λL=>sw L r
 |[],r=>rfl
 |d::l,r=>by
  simp only[zaV,sw];cases cP [] L d with
  |none=>rfl
  |some M=>exact oD M l r
theorem uB (l r:List Dt):nk (l++r)=nk l+nk r:=by simp[nk]
theorem Em (d:Dt):nk [d]=(dE d).length:=by simp[nk]
theorem mi:∀(l:List Dt) (r:Dt) (i:Nat),(aU l r i).2=i+l.length
 |[],r,i=>rfl
 |d::l,r,i=>by simp only[aU,mi l r i,zas];omega
theorem tU:∀(l:List Dt) (r:Dt) (i:Nat),(dE (aU l r i).1).length=nk l+l.length+(dE r).length
 |[],r,i=>by simp[aU,nk]
 |d::l,r,i=>by
  have:=tU l r i;simp only[aU,dE,zas,zaT,this,nk,zaC,List.sum_cons];simp only[nk]at this;omega
theorem tV:∀(l:List Dt) (r:Dt) (i:Nat) (L:List Int),cP [] L (aU l r i).1=(sw L l).bind λL=>cP [] L r
 |[],r,i,L=>rfl
 |d::l,r,i,L=>by
  simp only[aU,cP,sw];cases cP [] L d with
  |none=>rfl
  |some M=>exact tV l r i M
theorem qz:∀(l:List Dt) (r:Dt) (i:Nat),(∀d∈l,bh false d=true)→bh false r=true→bh false (aU l r i).1=true
 |[],r,i,_,h=>h
 |d::l,r,i,hl,h=>by
  simp only[aU,bh,zai];exact⟨hl d (by simp),qz l r i (λx hx=>hl x (by simp[hx])) h⟩
theorem En (l:List Dt)(r:Dt)(i:Nat)(h:l≠[]∨r=.nil)(ah L:List Int):cP ah L (aU l r i).1=cP [] L (aU l r i).1:=by
 cases l with
 |nil=>
  rcases h with h|rfl
  ·exact absurd rfl h
  ·rfl
 |cons d l=>rfl
theorem Iu:∀(l:List Dt) (ah L:List Int),cP ah L (fG l)=sw L l
 |[],ah,L=>rfl
 |d::l,ah,L=>by
  simp only[fG,cP,sw];cases cP [] L d with
  |none=>rfl
  |some M=>exact Iu l [] M
theorem Iw:∀(l:List Dt),(dE (fG l)).length=nk l
 |[]=>rfl
 |d::l=>by
  have:=Iw l;simp only[fG,dE,zaT,this,nk,zaC,List.sum_cons]
theorem Ix:∀(l:List Dt),(fG l).rP=l.length
 |[]=>rfl
 |d::l=>by simp only[fG,Dt.rP,Ix l,zas]
theorem Eo:∀(l:List Dt),(∀d∈l,bh false d=true)→bh true (fG l)=true
 |[],_=>rfl
 |d::l,hl=>by
  simp only[fG,bh,zai];exact⟨hl d (by simp),Eo l λx hx=>hl x (by simp[hx])⟩
structure aak (T:List Tok) (s:eA) (t:Tok) (s':eA):Prop where
 mem:t∈T
 ax:s'.ax=s.ax
 k:s.k+1≤s'.k
 fr:s.fresh≤s'.fresh
 cr:s'.fresh+2*s.k+2≤s.fresh+2*s'.k
structure U6 (c:Nat) (p:Pl) (s:eA) (d:Dt) (s':eA):Prop where
 Km:cP p.ahead s.ax d=some s'.ax
 KV:p.passed=true→s'.ax=s.ax
 sh:bh false d=true
 ids:(dE d).length + s.fresh≤s'.fresh
 cr:s'.fresh+2*s.k+2*c≤s.fresh+2*s'.k+1
 lc:s'.ax.length+s.k+c≤s.ax.length+s'.k+1
 k:s.k+c≤s'.k
structure aal (L0:List Int) (data:List Dt) (p:Pl) (s:eA) (d:Dt) (s':eA):Prop where
 pn:∀ah L,cP ah L d=cP [] L d
 Km:cP [] L0 d=some s'.ax
 KV:p.passed=true→s'.ax=s.ax
 sh:bh false d=true
 ids:(dE d).length + s.fresh≤s'.fresh+nk data
 cr:s'.fresh+2*s.k+2≤s.fresh+data.length+2*s'.k
 lc:s'.ax.length+s.k≤s.ax.length+s'.k
 k:s.k+1≤s'.k
structure adR (L0:List Int) (data:List Dt) (p:Pl) (s:eA) (l:List Dt) (s':eA):Prop where
 Km:sw L0 l=some s'.ax
 KV:p.passed=true→s'.ax=s.ax
 sh:∀d∈l,bh false d=true
 len:l.length≤20
 ids:nk l+s.fresh≤s'.fresh+nk data
 cr:s'.fresh+2*s.k+2≤s.fresh+2*s'.k
 lc:s'.ax.length+s.k≤s.ax.length+s'.k
 k:s.k+1≤s'.k
theorem RR.aY {α β:Type}{x:RR α}{f:α→eA→RR β}{b:β}{s:eA}(h:x.bind f=.ok b s):∃a s1,x=.ok a s1∧f a s1=.ok b s:=by
 cases x with
 |out=>cases h
 |fail e a=>cases h
 |ok a s1=>exact⟨a,s1,rfl,h⟩
section
variable (T:List Tok)(dp:Nat)
structure aam (n:Nat):Prop where
 datum:∀p s d s',aI T dp n p s=.ok d s'→U6 1 p s d s'
 take:∀p s t s',aM T dp n p s=.ok t s'→aak T s t s'
 yH:∀t p s d s',t∈T→bQ T dp n t p s=.ok d s'→U6 0 p s d s'
 list:∀L0 data p s d s',p.ahead=[]→sw L0 data=some s.ax→(∀d∈data,bh false d=true)→cg T dp n data p s=.ok d s'→aal L0 data p s d s'
 vec:∀L0 data p s l s',p.ahead=[]→sw L0 data=some s.ax→(∀d∈data,bh false d=true)→data.length≤20→eF T dp n data p s=.ok l s'→adR L0 data p s l s'
theorem Ru {t:Tok}{p:Pl}{s s':eA}{d:Dt}(hs:t.kind=14→t.text.length≤1000000)(h:uv t s=.ok d s'):U6 0 p s d s':=by
 unfold uv at h;split at h
 ·cases h;exact⟨by simp[cP],λ_=>rfl,rfl,by simp[dE];omega,by simp;omega,by simp,by simp⟩
 ·split at h
  ·cases h;exact⟨by simp[cP],λ_=>rfl,rfl,by simp[dE],by simp,by simp,by simp⟩
  ·split at h
   ·cases h;exact⟨by simp[cP],λ_=>rfl,rfl,by simp[dE],by simp,by simp,by simp⟩
   ·split at h
    ·rename_i uN;cases h;exact⟨by simp[cP],λ_=>rfl,by simpa[bh]using hs uN,by simp[dE],by simp,by simp,by simp⟩
    ·split at h
     ·cases h
     ·cases h;exact⟨by simp[cP],λ_=>rfl,rfl,by simp[dE],by simp,by simp,by simp⟩
theorem N8 (hT:∀t∈T,t.kind=14→t.text.length≤1000000):∀n,aam T dp n
 |0=>by
  refine⟨λp s d s' h=>?_,λp s t s' h=>?_,λt p s d s' _ h=>?_,λL0 data p s d s' _ _ _ h=>?_,λL0 data p s d s' _ _ _ _ h=>?_⟩;all_goals first
   |(unfold aI at h;cases h)
   |(unfold aM at h;cases h)
   |(unfold bQ at h;cases h)
   |(unfold cg at h;cases h)
   |(unfold eF at h;cases h)
 |n+1=>by
  have ih:=N8 hT n;refine⟨λp s d s' h=>?_,λp s t s' h=>?_,λt p s d s' ht h=>?_,λL0 data p s d s' hp hL Dh h=>?_,λL0 data p s l s' hp hL Dh hlen h=>?_⟩
  ·unfold aI at h;obtain⟨t,s1,h1,h2⟩:=RR.aY h;have i1:=ih.take p s t s1 h1;have i2:=ih.yH t p s1 d s' i1.mem h2;have a1:=i1.ax;have a2:=i1.k;have a3:=i1.fr;have a4:=i1.cr;have b1:=i2.ids;have b2:=i2.cr;have b3:=i2.lc;have b4:=i2.k;have hl:s1.ax.length=s.ax.length:=by rw[a1]
   refine⟨by rw[←a1];exact i2.Km,λhq=>(i2.KV hq).trans a1,i2.sh,by omega,by omega,by omega,by omega⟩
  ·unfold aM at h;split at h
   ·cases h
   ·rename_i t0 ht0;split at h
    ·cases h
    ·split at h
     ·cases h
     ·split at h
      ·obtain⟨d,s1,h1,h2⟩:=RR.aY h;have i1:=ih.datum _ _ d s1 h1;have i2:=ih.take p s1 t s' h2;have a1:=i1.KV rfl;have a2:=i1.k;have a3:=i1.cr;have a4:=i1.ids;have b1:=i2.ax;have b2:=i2.k;have b3:=i2.fr;have b4:=i2.cr;simp only at a1 a2 a3 a4;exact⟨i2.mem,by rw[b1,a1],by omega,by omega,by omega⟩
      ·cases h;exact⟨zbo ht0,rfl,by simp,by simp,by simp;omega⟩
  ·unfold bQ at h;split at h
   ·cases h
   ·split at h
    ·split at h
     ·cases h
     ·rename_i hnp;split at h
      ·cases h
      ·obtain⟨d1,s1,h1,h2⟩:=RR.aY h;cases h2;have i1:=ih.datum _ _ d1 s' h1;have a1:=i1.Km;have a3:=i1.ids;have a4:=i1.cr;have a5:=i1.lc;have a6:=i1.k;simp only[zas]at a1 a3 a4 a5 a6;refine⟨?_,λhq=>absurd (Or.inl hq) hnp,i1.sh,?_,by omega,by omega,by omega⟩
       ·simp only[cP];rw[zaa (λhm=>hnp (Or.inr hm))];exact a1
       ·simpa[dE]using a3
    ·split at h
     ·split at h
      ·cases h
      ·rename_i Ui;cases h;simp only[not_or,Classical.not_not]at Ui;refine⟨?_,λ_=>rfl,rfl,by simp[dE],by simp,by simp,by simp⟩;simp only[cP];rw[zac ⟨Ui.2.1,Ui.2.2⟩]
     ·split at h
      ·split at h
       ·cases h
       ·split at h
        ·obtain⟨l,s1,h1,h2⟩:=RR.aY h;cases h2;have i1:=ih.vec s.ax [] _ { s with fresh:=s.fresh+1 } l s' rfl rfl (λd hd=>by cases hd) (by simp) h1;have a1:=i1.Km;have a3:=i1.ids;have a4:=i1.cr;have a5:=i1.lc;have a6:=i1.k;simp only[nk,zbv,List.sum_nil]at a3 a4 a5 a6;refine⟨?_,λhq=>i1.KV hq,?_,?_,by omega,by omega,by omega⟩
         ·simp only[cP,Iu];exact a1
         ·simp only[bh,Ix,zai,zbj];exact⟨i1.len,Eo l i1.sh⟩
         ·have:=Iw l;simp only[nk]at this;simp only[dE,zas,this];omega
        ·split at h
         ·obtain⟨d1,s1,h1,h2⟩:=RR.aY h;cases h2;have i1:=ih.datum _ _ d1 s1 h1;have a1:=i1.Km;have a3:=i1.ids;have a4:=i1.cr;have a5:=i1.lc;have a6:=i1.k;simp only at a1 a3 a4 a5 a6;refine⟨?_,λhq=>i1.KV hq,?_,?_,?_,?_,?_⟩
          ·simp[aU,cP,a1]
          ·simp[aU,bh,i1.sh]
          ·simp only[aU,dE,zas,zaT,zbp];omega
          ·simp only;omega
          ·simp only;omega
          ·simp only;omega
         ·have i1:=ih.list s.ax [] _ s d s' rfl rfl (λd hd=>by cases hd) h;have a1:=i1.Km;have a3:=i1.ids;have a4:=i1.cr;have a5:=i1.lc;have a6:=i1.k;simp only[nk,zbv,List.sum_nil,zbp]at a1 a3 a4 a5 a6;refine⟨?_,λhq=>i1.KV hq,i1.sh,by omega,by omega,by omega,by omega⟩;rw[i1.pn];exact a1
      ·exact Ru (hT t ht) h
  ·unfold cg at h;obtain⟨t,s1,h1,h2⟩:=RR.aY h;have i1:=ih.take p s t s1 h1;have a1:=i1.ax;have a2:=i1.k;have a3:=i1.fr;have a4:=i1.cr;have sG:s1.ax.length=s.ax.length:=by rw[a1]
   split at h2
   ·cases h2;refine⟨En _ _ _ (Or.inr rfl),?_,λ_=>a1,qz _ _ _ Dh rfl,?_,?_,by simp only;omega,by simp only;omega⟩
    ·rw[tV,hL];simp[cP,a1]
    ·simp only[tU,mi,dE,zbp];omega
    ·simp only[mi];omega
   ·split at h2
    ·rename_i h7;obtain⟨d2,s2,h3,h4⟩:=RR.aY h2;obtain⟨t3,s3,h5,h6⟩:=RR.aY h4;have i2:=ih.datum p s1 d2 s2 h3;have i3:=ih.take p s2 t3 s3 h5;have b0:=i2.Km;have b1:=i2.ids;have b2:=i2.cr;have b3:=i2.lc;have b4:=i2.k;have c1:=i3.ax;have c2:=i3.k;have c3:=i3.fr;have c4:=i3.cr;have Uh:s3.ax.length=s2.ax.length:=by rw[c1]
     split at h6
     ·cases h6;refine⟨En _ _ _ (Or.inl h7.2),?_,λhq=>by simp only[c1,i2.KV hq,a1],qz _ _ _ Dh i2.sh,?_,?_,by simp only;omega,by simp only;omega⟩
      ·rw[tV,hL];simp only[Option.bind_some,c1,←b0,hp,a1]
      ·simp only[tU,mi];omega
      ·simp only[mi];omega
     ·cases h6
    ·obtain⟨d2,s2,h3,h4⟩:=RR.aY h2;have i2:=ih.yH t p s1 d2 s2 i1.mem h3;have b0:=i2.Km;have b1:=i2.ids;have b2:=i2.cr;have b3:=i2.lc;have b4:=i2.k;rw[hp,a1]at b0;have i3:=ih.list L0 (data++[d2]) p s2 d s' hp (by rw[oD,hL];simp[sw,b0]) (λx hx=>by
      rcases zaQ.1 hx with hx|hx
      ·exact Dh x hx
      ·obtain rfl:x=d2:=by simpa using hx
       exact i2.sh) h4
     have c1:=i3.ids;have c2:=i3.cr;have c3:=i3.lc;have c4:=i3.k;simp only[uB,Em,zaT,zas,zbp]at c1 c2;refine⟨i3.pn,i3.Km,λhq=>by rw[i3.KV hq,i2.KV hq,a1],i3.sh,?_,by omega,by omega,by omega⟩;omega
  ·unfold eF at h;obtain⟨t,s1,h1,h2⟩:=RR.aY h;have i1:=ih.take p s t s1 h1;have a1:=i1.ax;have a2:=i1.k;have a3:=i1.fr;have a4:=i1.cr;have sG:s1.ax.length=s.ax.length:=by rw[a1]
   split at h2
   ·cases h2;exact⟨by rw[hL,a1],λ_=>a1,Dh,hlen,by omega,by omega,by omega,by omega⟩
   ·split at h2
    ·cases h2
    ·rename_i Gd;obtain⟨d2,s2,h3,h4⟩:=RR.aY h2;have i2:=ih.yH t p s1 d2 s2 i1.mem h3;have b0:=i2.Km;have b1:=i2.ids;have b2:=i2.cr;have b3:=i2.lc;have b4:=i2.k;rw[hp,a1]at b0;have i3:=ih.vec L0 (data++[d2]) p s2 l s' hp (by rw[oD,hL];simp[sw,b0]) (λx hx=>by
      rcases zaQ.1 hx with hx|hx
      ·exact Dh x hx
      ·obtain rfl:x=d2:=by simpa using hx
       exact i2.sh) (by simp;omega) h4
     have c1:=i3.ids;have c2:=i3.cr;have c3:=i3.lc;have c4:=i3.k;simp only[uB,Em]at c1 c2;refine⟨i3.Km,λhq=>by rw[i3.KV hq,i2.KV hq,a1],i3.sh,i3.len,?_,by omega,by omega,by omega⟩;omega
end
theorem dh:∀(d:Dt) (ah L L':List Int),cP ah L d=some L'→L<:+ L'
 |.put n d,ah,L,L',h=>by
  simp only[cP]at h;split at h
  ·cases h
  ·exact(List.suffix_cons n L).trans (dh d _ _ _ h)
 |.ask m,ah,L,L',h=>by
  simp only[cP]at h;split at h
  ·cases h;exact zbD _
  ·cases h
 |.pair _ a b,ah,L,L',h=>by
  simp only[cP]at h;obtain⟨M,h1,h2⟩:=zaJ.1 h;exact(dh a _ _ _ h1).trans (dh b _ _ _ h2)
 |.vec _ l,ah,L,L',h=>dh l _ _ _ (by simpa only[cP]using h)
 |.bD a l,ah,L,L',h=>by
  simp only[cP]at h;obtain⟨M,h1,h2⟩:=zaJ.1 h;exact(dh a _ _ _ h1).trans (dh l _ _ _ h2)
 |.nil,ah,L,L',h=>by cases h;exact zbD _
 |.sym _,ah,L,L',h=>by cases h;exact zbD _
 |.num _ _,ah,L,L',h=>by cases h;exact zbD _
 |.dI _,ah,L,L',h=>by cases h;exact zbD _
 |.oY _,ah,L,L',h=>by cases h;exact zbD _
 |.txt _ _,ah,L,L',h=>by cases h;exact zbD _
 |.ee,ah,L,L',h=>by cases h;exact zbD _
theorem mQ (m:Int):∀(d:Dt) (ah L L':List Int),cP ah L d=some L'→m∈L'→m∈L∨(aJ m d).isSome=true
 |.put n d,ah,L,L',h,hm=>by
  simp only[cP]at h;split at h
  ·cases h
  ·simp only[aJ];by_cases e:n=m
   ·right;simp[e]
   ·rw[zaa e];rcases mQ m d _ _ _ h hm with h1|h1
    ·rcases zaI.1 h1 with h2|h2
     ·exact absurd h2.symm e
     ·exact Or.inl h2
    ·exact Or.inr h1
 |.ask k,ah,L,L',h,hm=>by
  simp only[cP]at h;split at h
  ·cases h;exact Or.inl hm
  ·cases h
 |.pair _ a b,ah,L,L',h,hm=>by
  simp only[cP]at h;obtain⟨M,h1,h2⟩:=zaJ.1 h;simp only[aJ];rcases mQ m b _ _ _ h2 hm with h3|h3
  ·rcases mQ m a _ _ _ h1 h3 with h4|h4
   ·exact Or.inl h4
   ·right;obtain⟨x,hx⟩:=zbP.1 h4;simp[hx]
  ·right;cases aJ m a with
   |some x=>rfl
   |none=>exact h3
 |.vec _ l,ah,L,L',h,hm=>mQ m l _ _ _ (by simpa only[cP]using h) hm
 |.bD a l,ah,L,L',h,hm=>by
  simp only[cP]at h;obtain⟨M,h1,h2⟩:=zaJ.1 h;simp only[aJ];rcases mQ m l _ _ _ h2 hm with h3|h3
  ·rcases mQ m a _ _ _ h1 h3 with h4|h4
   ·exact Or.inl h4
   ·right;obtain⟨x,hx⟩:=zbP.1 h4;simp[hx]
  ·right;cases aJ m a with
   |some x=>rfl
   |none=>exact h3
 |.nil,ah,L,L',h,hm=>by cases h;exact Or.inl hm
 |.sym _,ah,L,L',h,hm=>by cases h;exact Or.inl hm
 |.num _ _,ah,L,L',h,hm=>by cases h;exact Or.inl hm
 |.dI _,ah,L,L',h,hm=>by cases h;exact Or.inl hm
 |.oY _,ah,L,L',h,hm=>by cases h;exact Or.inl hm
 |.txt _ _,ah,L,L',h,hm=>by cases h;exact Or.inl hm
 |.ee,ah,L,L',h,hm=>by cases h;exact Or.inl hm
structure uC (Lf:List Int) (n:Int) (d:Dt) (L1:List Int):Prop where
 ex:∃ah1 L2,n∈ah1∧cP ah1 (n::L1) d=some L2∧L2<:+ Lf
 new:n∉L1
 suf:(n::L1)<:+ Lf
 prop:bh false d=true
theorem uC.mono {Lf L':List Int}{n:Int}{d:Dt}{L1:List Int}(h:uC L' n d L1)(hs:L'<:+ Lf):uC Lf n d L1:=by
 obtain⟨⟨a,b,c,e,f⟩,h2,h3,h4⟩:=h;exact⟨⟨a,b,c,e,f.trans hs⟩,h2,h3.trans hs,h4⟩
theorem mR (n:Int):∀(b:Bool) (d0 d:Dt) (ah L L':List Int),bh b d0=true→cP ah L d0=some L'→aJ n d0=some d→∃L1,uC L' n d L1
 |false,.put m x,d,ah,L,L',hp,h,hl=>by
  simp only[cP]at h;simp only[aJ]at hl;simp only[bh]at hp;split at h
  ·cases h
  ·rename_i hm;split at hl
   ·rename_i e;subst e;cases hl;exact⟨L,⟨ah++[m],L',by simp,h,zbD _⟩,hm,dh _ _ _ _ h,hp⟩
   ·exact mR n false x d _ _ _ hp h hl
 |false,.pair _ a b,d,ah,L,L',hp,h,hl=>by
  simp only[cP]at h;simp only[aJ]at hl;simp only[bh,zai]at hp;obtain⟨M,h1,h2⟩:=zaJ.1 h;cases hq:aJ n a with
  |some x=>
   rw[hq]at hl;cases hl;obtain⟨L1,h3⟩:=mR n false a d _ _ _ hp.1 h1 hq;exact⟨L1,h3.mono (dh _ _ _ _ h2)⟩
  |none=>
   rw[hq]at hl;exact mR n false b d _ _ _ hp.2 h2 hl
 |false,.vec _ l,d,ah,L,L',hp,h,hl=>by
  simp only[bh,zai]at hp;exact mR n true l d _ _ _ hp.2 (by simpa only[cP]using h) (by simpa only[aJ]using hl)
 |true,.bD a b,d,ah,L,L',hp,h,hl=>by
  simp only[cP]at h;simp only[aJ]at hl;simp only[bh,zai]at hp;obtain⟨M,h1,h2⟩:=zaJ.1 h;cases hq:aJ n a with
  |some x=>
   rw[hq]at hl;cases hl;obtain⟨L1,h3⟩:=mR n false a d _ _ _ hp.1 h1 hq;exact⟨L1,h3.mono (dh _ _ _ _ h2)⟩
  |none=>
   rw[hq]at hl;exact mR n true b d _ _ _ hp.2 h2 hl
 |true,.ee,d,ah,L,L',hp,h,hl=>by simp[aJ]at hl
 |false,.ee,d,ah,L,L',hp,h,hl=>by simp[aJ]at hl
 |false,.bD _ _,d,ah,L,L',hp,h,hl=>by simp[bh]at hp
 |true,.pair _ _ _,d,ah,L,L',hp,h,hl=>by simp[bh]at hp
 |true,.vec _ _,d,ah,L,L',hp,h,hl=>by simp[bh]at hp
 |true,.put _ _,d,ah,L,L',hp,h,hl=>by simp[bh]at hp
 |b,.nil,d,ah,L,L',hp,h,hl=>by simp[aJ]at hl
 |b,.sym _,d,ah,L,L',hp,h,hl=>by simp[aJ]at hl
 |b,.num _ _,d,ah,L,L',hp,h,hl=>by simp[aJ]at hl
 |b,.dI _,d,ah,L,L',hp,h,hl=>by simp[aJ]at hl
 |b,.oY _,d,ah,L,L',hp,h,hl=>by simp[aJ]at hl
 |b,.txt _ _,d,ah,L,L',hp,h,hl=>by simp[aJ]at hl
 |b,.ask _,d,ah,L,L',hp,h,hl=>by simp[aJ]at hl
theorem N9 (root:Dt)(B F:Nat):∀(d:Dt) (ah L L2:List Int),bh false d=true→cP ah L d=some L2→L2.length≤B→(∀m,m∈L→m∉ah→∀f,F≤f→(bY root f (.ask m)).hd=true)→∀f,F+1+(B-L.length)≤f→(bY root f d).hd=true
 |.put n d,ah,L,L2,hp,h,hB,hy,f,hf=>by
  simp only[cP]at h;simp only[bh]at hp;split at h
  ·cases h
  ·have hle:=(dh _ _ _ _ h).length_le;simp only[zas]at hle;obtain⟨g,rfl⟩:∃g,f=g+1:=⟨f-1,by omega⟩;show(bY root g d).hd=true;refine N9 root B F d (ah++[n]) (n::L) L2 hp h hB (λm hm hn f' hf'=>?_) g (by simp only[zas];omega);simp only[zaQ,zcq,not_or]at hn;rcases zaI.1 hm with e|e
   ·exact absurd e hn.2
   ·exact hy m e hn.1 f' hf'
 |.ask m,ah,L,L2,hp,h,hB,hy,f,hf=>by
  simp only[cP]at h;split at h
  ·rename_i e;exact hy m e.1 e.2 f (by omega)
  ·cases h
 |.nil,ah,L,L2,hp,h,hB,hy,f,hf=>by obtain⟨g,rfl⟩:∃g,f=g+1:=⟨f-1,by omega⟩;rfl
 |.sym _,ah,L,L2,hp,h,hB,hy,f,hf=>by obtain⟨g,rfl⟩:∃g,f=g+1:=⟨f-1,by omega⟩;rfl
 |.num _ _,ah,L,L2,hp,h,hB,hy,f,hf=>by obtain⟨g,rfl⟩:∃g,f=g+1:=⟨f-1,by omega⟩;rfl
 |.dI _,ah,L,L2,hp,h,hB,hy,f,hf=>by obtain⟨g,rfl⟩:∃g,f=g+1:=⟨f-1,by omega⟩;rfl
 |.oY _,ah,L,L2,hp,h,hB,hy,f,hf=>by obtain⟨g,rfl⟩:∃g,f=g+1:=⟨f-1,by omega⟩;rfl
 |.txt _ _,ah,L,L2,hp,h,hB,hy,f,hf=>by obtain⟨g,rfl⟩:∃g,f=g+1:=⟨f-1,by omega⟩;rfl
 |.pair _ _ _,ah,L,L2,hp,h,hB,hy,f,hf=>by obtain⟨g,rfl⟩:∃g,f=g+1:=⟨f-1,by omega⟩;rfl
 |.vec _ _,ah,L,L2,hp,h,hB,hy,f,hf=>by obtain⟨g,rfl⟩:∃g,f=g+1:=⟨f-1,by omega⟩;rfl
 |.ee,ah,L,L2,hp,h,hB,hy,f,hf=>by simp[bh]at hp
 |.bD _ _,ah,L,L2,hp,h,hB,hy,f,hf=>by simp[bh]at hp
section
variable {root:Dt}{Lf:List Int}(hr:cP [] [] root=some Lf)(hp:bh false root=true)
include hr hp
theorem BZ {m:Int}(hm:m∈Lf):∃d L1,aJ m root=some d∧uC Lf m d L1:=by
 rcases mQ m root _ _ _ hr hm with h|h
 ·cases h
 ·obtain⟨d,hd⟩:=zbP.1 h;obtain⟨L1,h1⟩:=mR m false root d _ _ _ hp hr hd;exact⟨d,L1,hd,h1⟩
omit hr hp in
theorem Rv {n m:Int}{d e:Dt}{L1 L2:List Int}(h:uC Lf n d L1)(h2:uC Lf m e L2)(hm:m∈L1):L2.length<L1.length:=by
 rcases List.suffix_or_suffix_of_suffix h.suf h2.suf with hs|hs
 ·rcases List.suffix_cons_iff.1 hs with e|e
  ·cases e;exact absurd hm h.new
  ·exact absurd (e.subset (zbm _ hm)) h2.new
 ·rcases List.suffix_cons_iff.1 hs with e|e
  ·cases e;exact absurd hm h2.new
  ·have:=e.length_le;simp only[zas]at this;omega
theorem Oa (B:Nat)(hB:Lf.length≤B):∀(N:Nat) (m:Int) (d:Dt) (L1:List Int),aJ m root=some d→uC Lf m d L1→L1.length<N→∀f,N*(B+2)≤f→(bY root f (.ask m)).hd=true
 |0,m,d,L1,_,_,h,f,hf=>by omega
 |N+1,m,d,L1,hl,hq,h,f,hf=>by
  have e:(N+1)*(B+2)=N*(B+2)+(B+2):=Nat.succ_mul _ _;obtain⟨g,rfl⟩:∃g,f=g+1:=⟨f-1,by omega⟩;show(bY root g ((aJ m root).getD .nil)).hd=true;rw[hl];show(bY root g d).hd=true;obtain⟨ah1,L2,hn,hc,hs⟩:=hq.ex;refine N9 root B (N*(B+2)) d ah1 (m::L1) L2 hq.prop hc (zaj hs.length_le hB) (λm' C9 hn' f' hf'=>?_) g (by omega);rcases zaI.1 C9 with e1|e1
  ·exact absurd (e1▸hn) hn'
  ·obtain⟨d',L1',h1,h2⟩:=BZ hr hp (hq.suf.subset (zbm _ e1));exact Oa B hB N m' d' L1' h1 h2 (by have:=Rv hq h2 e1;omega) f' hf'
theorem Ob (B:Nat)(hB:Lf.length≤B)(hf:(B+1)*(B+2)≤200000):∀(b:Bool) (d:Dt) (ah L L':List Int),bh b d=true→cP ah L d=some L'→L'<:+ Lf→bp root d=true:=by
 have uV:∀m,m∈Lf→∀f,B*(B+2)≤f→(bY root f (.ask m)).hd=true:=λm hm f hf'=>by
  obtain⟨d',L1',h1,h2⟩:=BZ hr hp hm;have:=h2.suf.length_le;simp only[zas]at this;exact Oa hr hp B hB B m d' L1' h1 h2 (by omega) f hf'
 have e:(B+1)*(B+2)=B*(B+2)+(B+2):=Nat.succ_mul _ _;intro b d
 induction d generalizing b with
 |put n d ih=>
  intro ah L L' hq h hs;cases b with
  |true=>simp[bh]at hq
  |false=>
   have hh:(bY root 200000 (.put n d)).hd=true:=N9 root B (B*(B+2)) (.put n d) ah L L' hq h (zaj hs.length_le hB) (λm hm _ f' hf'=>uV m ((dh _ _ _ _ h).trans hs |>.subset hm) f' hf') 200000 (by omega);simp only[cP]at h;simp only[bh]at hq;split at h
   ·cases h
   ·simp only[bp,hh,Bool.true_and];exact ih false _ _ _ hq h hs
 |ask m=>
  intro ah L L' hq h hs;simp only[cP]at h;split at h
  ·rename_i e1;cases h;obtain⟨d',L1',h1,h2⟩:=BZ hr hp (hs.subset e1.1);simp only[bp,h1,Option.isSome_some,Bool.true_and];exact uV m (hs.subset e1.1) 200000 (by omega)
  ·cases h
 |pair i x y ihx ihy=>
  intro ah L L' hq h hs;cases b with
  |true=>simp[bh]at hq
  |false=>
   simp only[cP]at h;simp only[bh,zai]at hq;obtain⟨M,h1,h2⟩:=zaJ.1 h;simp only[bp,zai];exact⟨ihx false _ _ _ hq.1 h1 ((dh _ _ _ _ h2).trans hs),ihy false _ _ _ hq.2 h2 hs⟩
 |vec i l ih=>
  intro ah L L' hq h hs;cases b with
  |true=>simp[bh]at hq
  |false=>
   simp only[cP]at h;simp only[bh,zai,zbj]at hq;simp only[bp,zai,zbj];exact⟨by omega,ih true _ _ _ hq.2 h hs⟩
 |bD x y ihx ihy=>
  intro ah L L' hq h hs;cases b with
  |false=>simp[bh]at hq
  |true=>
   simp only[cP]at h;simp only[bh,zai]at hq;obtain⟨M,h1,h2⟩:=zaJ.1 h;simp only[bp,zai];exact⟨ihx false _ _ _ hq.1 h1 ((dh _ _ _ _ h2).trans hs),ihy true _ _ _ hq.2 h2 hs⟩
 |sym s=>
  intro ah L L' hq h hs;cases b with
  |true=>simp[bh]at hq
  |false=>simpa only[bh,bp]using hq
 |nil=>intros;rfl
 |num _ _=>intros;rfl
 |dI _=>intros;rfl
 |oY _=>intros;rfl
 |txt _ _=>intros;rfl
 |ee=>intros;rfl
end
theorem mS (m:Int):∀(r d:Dt),aJ m r=some d→∀i∈dE d,i∈dE r
 |.put n x,d,h,i,hi=>by
  simp only[aJ]at h;split at h
  ·cases h;exact hi
  ·exact mS m x d h i hi
 |.pair j a b,d,h,i,hi=>by
  simp only[aJ]at h;simp only[dE,zaI,zaQ];cases hq:aJ m a with
  |some x=>rw[hq]at h;cases h;exact Or.inr (Or.inl (mS m a d hq i hi))
  |none=>rw[hq]at h;exact Or.inr (Or.inr (mS m b d h i hi))
 |.vec j l,d,h,i,hi=>by
  simp only[aJ]at h;simp only[dE,zaI];exact Or.inr (mS m l d h i hi)
 |.bD a b,d,h,i,hi=>by
  simp only[aJ]at h;simp only[dE,zaQ];cases hq:aJ m a with
  |some x=>rw[hq]at h;cases h;exact Or.inl (mS m a d hq i hi)
  |none=>rw[hq]at h;exact Or.inr (mS m b d h i hi)
 |.nil,d,h,_,_=>by simp[aJ]at h
 |.sym _,d,h,_,_=>by simp[aJ]at h
 |.num _ _,d,h,_,_=>by simp[aJ]at h
 |.dI _,d,h,_,_=>by simp[aJ]at h
 |.oY _,d,h,_,_=>by simp[aJ]at h
 |.txt _ _,d,h,_,_=>by simp[aJ]at h
 |.ee,d,h,_,_=>by simp[aJ]at h
 |.ask _,d,h,_,_=>by simp[aJ]at h
theorem kW (m:Int):∀(b:Bool) (r d:Dt),bh b r=true→aJ m r=some d→bh false d=true
 |false,.put n x,d,hp,h=>by
  simp only[aJ]at h;simp only[bh]at hp;split at h
  ·cases h;exact hp
  ·exact kW m false x d hp h
 |false,.pair j a b,d,hp,h=>by
  simp only[aJ]at h;simp only[bh,zai]at hp;cases hq:aJ m a with
  |some x=>rw[hq]at h;cases h;exact kW m false a d hp.1 hq
  |none=>rw[hq]at h;exact kW m false b d hp.2 h
 |false,.vec j l,d,hp,h=>by
  simp only[aJ]at h;simp only[bh,zai]at hp;exact kW m true l d hp.2 h
 |true,.bD a b,d,hp,h=>by
  simp only[aJ]at h;simp only[bh,zai]at hp;cases hq:aJ m a with
  |some x=>rw[hq]at h;cases h;exact kW m false a d hp.1 hq
  |none=>rw[hq]at h;exact kW m true b d hp.2 h
 |false,.bD _ _,d,hp,h=>by simp[bh]at hp
 |true,.put _ _,d,hp,h=>by simp[bh]at hp
 |true,.pair _ _ _,d,hp,h=>by simp[bh]at hp
 |true,.vec _ _,d,hp,h=>by simp[bh]at hp
 |b,.nil,d,hp,h=>by simp[aJ]at h
 |b,.sym _,d,hp,h=>by simp[aJ]at h
 |b,.num _ _,d,hp,h=>by simp[aJ]at h
 |b,.dI _,d,hp,h=>by simp[aJ]at h
 |b,.oY _,d,hp,h=>by simp[aJ]at h
 |b,.txt _ _,d,hp,h=>by simp[aJ]at h
 |b,.ee,d,hp,h=>by simp[aJ]at h
 |b,.ask _,d,hp,h=>by simp[aJ]at h
section
variable {root:Dt}(hp:bh false root=true)
include hp
theorem pw:∀(f:Nat) (d:Dt),bh false d=true→(∀i∈dE d,i∈dE root)→bh false (bY root f d)=true∧∀i∈dE (bY root f d),i∈dE root
 |0,d,h1,h2=>⟨h1,h2⟩
 |f+1,.put n x,h1,h2=>pw f x (by simpa only[bh]using h1) (λi hi=>h2 i (by simpa only[dE]using hi))
 |f+1,.ask m,h1,h2=>by
  show bh false (bY root f ((aJ m root).getD .nil))=true∧∀i∈dE (bY root f ((aJ m root).getD .nil)),i∈dE root;cases hq:aJ m root with
  |none=>exact pw f .nil rfl (λi hi=>by cases hi)
  |some x=>exact pw f x (kW m false root x hp hq) (mS m root x hq)
 |f+1,.nil,h1,h2=>⟨h1,h2⟩
 |f+1,.sym _,h1,h2=>⟨h1,h2⟩
 |f+1,.num _ _,h1,h2=>⟨h1,h2⟩
 |f+1,.dI _,h1,h2=>⟨h1,h2⟩
 |f+1,.oY _,h1,h2=>⟨h1,h2⟩
 |f+1,.txt _ _,h1,h2=>⟨h1,h2⟩
 |f+1,.pair _ _ _,h1,h2=>⟨h1,h2⟩
 |f+1,.vec _ _,h1,h2=>⟨h1,h2⟩
 |f+1,.ee,h1,h2=>⟨h1,h2⟩
 |f+1,.bD _ _,h1,h2=>⟨h1,h2⟩
end
def eG (root:Dt)(g:jF):Nat:=((dE root).filter λi=>(g.met.lookup i).isNone).length
theorem filter_lt {α:Type}{p q:α→Bool}:∀{l:List α} {a:α},a∈l→(∀x,q x=true→p x=true)→p a=true→q a=false→(l.filter q).length + 1≤(l.filter p).length
 |x::r,a,ha,hpq,h1,h2=>by
  have hle:∀(r:List α),(r.filter q).length≤(r.filter p).length:=λr=>by
   induction r with
   |nil=>simp
   |cons y r ih=>
    by_cases hq:q y=true
    ·simp[hq,hpq y hq,ih]
    ·have hq':q y=false:=by simpa using hq
     by_cases vt:p y=true
     ·simp[hq',vt];omega
     ·have U7:p y=false:=by simpa using vt
      simp[hq',U7];omega
  rcases zaI.1 ha with rfl|ha
  ·have:=hle r;simp[h1,h2];omega
  ·have:=filter_lt ha hpq h1 h2;by_cases hq:q x=true
   ·simp[hq,hpq x hq];omega
   ·have hq':q x=false:=by simpa using hq
    by_cases vt:p x=true
    ·simp[hq',vt];omega
    ·have U7:p x=false:=by simpa using vt
     simp[hq',U7];omega
theorem tW {root:Dt}{g:jF}{i k:Nat}{ns:List dF}(hi:i∈dE root)(h:g.met.lookup i=none):eG root ⟨ns,(i,k)::g.met⟩+1≤eG root g:=by
 refine filter_lt hi (λx hx=>?_) (by simp[h]) (by simp[List.lookup]);simp only[List.lookup]at hx;split at hx
 ·simp at hx
 ·exact hx
section
variable {root:Dt}(hp:bh false root=true)
include hp
theorem Ep:∀n,(∀d g,bh false d=true→(∀i∈dE d,i∈dE root)→25*eG root g+2≤n→∃k g',nj root n d g=some (k,g')∧eG root g'≤eG root g∧g'.nodes.length+22*eG root g'≤g.nodes.length+22*eG root g+1)∧∀l acc g,bh true l=true→(∀i∈dE l,i∈dE root)→25*eG root g+l.rP+3≤n→∃ks g',iQ root n l acc g=some (ks,g')∧eG root g'≤eG root g∧g'.nodes.length+22*eG root g'≤g.nodes.length+22*eG root g+l.rP
 |0=>⟨λd g _ _ h=>by omega,λl acc g _ _ h=>by omega⟩
 |n+1=>by
  have ih:=Ep n;refine⟨λd g h1 h2 hn=>?_,λl acc g h1 h2 hn=>?_⟩
  ·obtain⟨m1,m2⟩:=pw hp 200000 d h1 h2;have leaf:∀x:dF,∃k g',some (g.nodes.length,g.add x)=some (k,g')∧eG root g'≤eG root g∧g'.nodes.length+22*eG root g'≤g.nodes.length+22*eG root g+1:=λx=>
    ⟨_,_,rfl,zab _,by show(g.nodes++[x]).length + 22*eG root g≤_;simp;omega⟩
   unfold nj;cases hm:bY root 200000 d with
   |pair i a b=>
    rw[hm]at m1 m2;dsimp only;cases hl:g.met.lookup i with
    |some k=>exact⟨k,g,rfl,zab _,by omega⟩
    |none=>
     have hu:eG root ⟨g.nodes++[⟨1,[],0,0,[]⟩],(i,g.nodes.length)::g.met⟩+1≤eG root g:=tW (m2 i (by simp[dE])) hl;simp only[bh,zai]at m1;obtain⟨ks,g',e,e1,e2⟩:=ih.2 (.bD a (.bD b .ee)) [] ⟨g.nodes++[⟨1,[],0,0,[]⟩],(i,g.nodes.length)::g.met⟩ (by simp[bh,m1.1,m1.2]) (λj hj=>m2 j (by simp only[dE,List.append_nil,zaQ]at hj;simp only[dE,zaI,zaQ];exact Or.inr hj)) (by simp only[Dt.rP];omega);dsimp only;rw[e];refine⟨_,_,rfl,by show eG root g'≤_;omega,?_⟩;simp only[Dt.rP,zaT,zas,zbp]at e2;show(bP g'.nodes _ _).length + 22*eG root g'≤_;simp only[bP,List.length_modify];omega
   |vec i l=>
    rw[hm]at m1 m2;dsimp only;cases hl:g.met.lookup i with
    |some k=>exact⟨k,g,rfl,zab _,by omega⟩
    |none=>
     have hu:eG root ⟨g.nodes++[⟨2,[],0,0,[]⟩],(i,g.nodes.length)::g.met⟩+1≤eG root g:=tW (m2 i (by simp[dE])) hl;simp only[bh,zai,zbj]at m1;obtain⟨ks,g',e,e1,e2⟩:=ih.2 l [] ⟨g.nodes++[⟨2,[],0,0,[]⟩],(i,g.nodes.length)::g.met⟩ m1.2 (λj hj=>m2 j (by simp only[dE,zaI];exact Or.inr hj)) (by omega);dsimp only;rw[e];refine⟨_,_,rfl,by show eG root g'≤_;omega,?_⟩;simp only[zaT,zas,zbp]at e2;show(bP g'.nodes _ _).length + 22*eG root g'≤_;simp only[bP,List.length_modify];omega
   |txt i s=>
    rw[hm]at m1 m2;dsimp only;cases hl:g.met.lookup i with
    |some k=>exact⟨k,g,rfl,zab _,by omega⟩
    |none=>
     have hu:eG root ⟨g.nodes++[⟨3,s,0,0,[]⟩],(i,g.nodes.length)::g.met⟩+1≤eG root g:=tW (m2 i (by simp[dE])) hl;exact⟨_,_,rfl,by omega,by simp only[zaT,zas,zbp];omega⟩
   |nil=>exact leaf _
   |sym s=>exact leaf _
   |num a b=>exact leaf _
   |dI a=>exact leaf _
   |oY a=>exact leaf _
   |put a b=>exact leaf _
   |ask a=>exact leaf _
   |ee=>exact leaf _
   |bD a b=>exact leaf _
  ·unfold iQ;cases l with
   |ee=>exact⟨_,_,rfl,zab _,by simp only[Dt.rP];omega⟩
   |bD a l=>
    simp only[bh,zai]at h1;simp only[Dt.rP]at hn;obtain⟨k,g1,e,e1,e2⟩:=ih.1 a g h1.1 (λi hi=>h2 i (by simp[dE,hi])) (by omega);obtain⟨ks,g2,f,f1,f2⟩:=ih.2 l (acc++[k]) g1 h1.2 (λi hi=>h2 i (by simp[dE,hi])) (by omega);refine⟨ks,g2,?_,by omega,by simp only[Dt.rP];omega⟩;dsimp only;rw[e];exact f
   |_=>simp[bh]at h1
end
theorem Ah {s:List UInt8}{a:Nat}(h:(aO s a).kind=14):(aO s a).text.length≤s.length:=by
 have hw:∀a:Nat,(jA s a).kind=14→(jA s a).text.length≤s.length:=λa h=>by
  unfold jA at h ⊢;dsimp only at h ⊢;split at h
  ·cases h
  ·rename_i h1;rw[zaa h1];split at h
   ·rename_i h2;rw[zac h2];simp only[cq,List.length_take,zan];omega
   ·split at h<;>cases h
 have ht:∀a:Nat,(j0 s a).kind≠14:=λa h=>by
  unfold j0 at h;split at h<;>cases h
 have hq:∀a:Nat,(jz s a).kind≠14:=λa h=>by
  unfold jz at h;repeat' split at h
  all_goals cases h
 have hr:∀a:Nat,(dA s a).kind≠14:=λa h=>by
  unfold dA at h;dsimp only at h;repeat' split at h
  all_goals cases h
 have hl:∀a:Nat,((dQ s a).getD (dA s a)).kind≠14:=λa h=>by
  unfold dQ at h;dsimp only at h;repeat' split at h
  all_goals first
   |exact hr a h
   |cases h
 have hh:∀a:Nat,(fK s a).kind≠14:=λa h=>by
  unfold fK at h;repeat' split at h
  all_goals first
   |exact hl a h
   |exact hq a h
   |cases h
 unfold aO pP at h ⊢;generalize mW s a=b at h ⊢;cases hd:s.drop b with
 |nil=>rw[hd]at h;cases h
 |cons c r=>
  rw[hd]at h;dsimp only at h ⊢;repeat' split at h
  all_goals first
   |exact absurd h (ht b)
   |exact absurd h (hh b)
   |(cases h;done)
   |skip
  rename_i h1 h2 h3 h4 h5 h6;rw[zaa h1,zaa h2,zaa h3,zaa h4,zaa h5,zac h6];exact hw b h
theorem yg:∀(n:Nat) (s:List UInt8) (a:Nat) (t:Tok),t∈aH n s a→t.kind=14→t.text.length≤s.length
 |0,s,a,t,h,_=>by simp[aH]at h
 |n+1,s,a,t,h,uN=>by
  rw[aH]at h;split at h
  ·obtain rfl:t=aO s a:=by simpa using h
   exact Ah uN
  ·rcases zaI.1 h with rfl|h
   ·exact Ah uN
   ·exact yg n s _ t h uN
theorem Er {s:List UInt8}(hs:s.length≤400)(dp:Nat)(d:Dt)(s':eA)(h:aI (aH (s.length+1) s 0) dp 2000 ⟨0,false,[]⟩ ⟨0,0,[]⟩=.ok d s'):bp d d=true∧∃k g,nj d 100000 d ⟨[],[]⟩=some (k,g)∧g.nodes.length≤999999:=by
 have hT:=ly (s.length+1) s 0 (zap _) (by omega);have hle:=oZ (s.length+1) s 0;have i:=(N8 (aH (s.length+1) s 0) dp (λt ht uN=>zaj (yg _ _ _ t ht uN) (by omega)) 2000).datum _ _ d s' h;have hk:s'.k<(aH (s.length+1) s 0).length:=by
  have:=(fuel (aH (s.length+1) s 0) dp hT.2 2000).datum ⟨0,false,[]⟩ ⟨0,0,[]⟩ (zbS.2 hT.1) (by show 2*(_-0)+2≤2000;omega);rw[h]at this;exact this.2
 have a1:=i.Km;have a2:=i.sh;have a3:=i.ids;have a4:=i.cr;have a5:=i.lc;simp only[zbp]at a1 a3 a4 a5;have aeS:(dE d).length≤802:=by omega
 have hl:s'.ax.length≤401:=by omega
 refine⟨Ob a1 a2 401 hl (by decide) false d _ _ _ a2 a1 (zbD _),?_⟩;have hu:eG d ⟨[],[]⟩≤(dE d).length:=List.length_filter_le _ _;obtain⟨k,g,e,_,e2⟩:=(Ep a2 100000).1 d ⟨[],[]⟩ a2 (λi hi=>hi) (by omega);refine⟨k,g,e,?_⟩;simp only[zbp]at e2;omega
def EE:FS:=⟨0,[],[],λ_=>0,[]⟩
theorem adS:Fi ⟨0,0,[]⟩ EE λ_=>none:=
 ⟨rfl,rfl,λm=>⟨λh=>(by cases h),λh=>absurd rfl h⟩,λ_=>zab _,λ_ _ _ h=>absurd rfl h,λ_ _ h=>(by cases h),λ_ _ h=>(by cases h),λ_ _ _ h=>(by cases h)⟩
theorem Rw (N:Nat):Fw N EE:=⟨rfl,rfl,λ_=>zab _,zap _⟩
theorem Es {t:List UInt8}(ht:t.length≤400)(dp:Nat):(∃m e a,bz (fN t) dp m 0 false EE=.fail e a∧∀dep:Int,dep=dp→dp≤30→fE t dep=some ([],a,e))∨
 (∃m k s' m2 k2 h',bz (fN t) dp m 0 false EE=.ok k s'∧mf s' m2 k ⟨[],List.replicate s'.nodes.length 0⟩=some (k2,h')∧h'.out.length≤999999∧Sz t.length 1 0 EE s'∧Bs t.length s'∧∀dep:Int,dep=dp→dp≤30→fE t dep=some (if 150<h'.out.length then([],0,2)else(h'.out,s'.at_,0))):=by
 have hT:=ly (t.length+1) t 0 (zap _) (by omega);have hle:=oZ (t.length+1) t 0;have T7:=(fuel (aH (t.length+1) t 0) dp hT.2 2000).datum ⟨0,false,[]⟩ ⟨0,0,[]⟩ (zbS.2 hT.1) (by show 2*(_-0)+2≤2000;omega);have hbg:Bg false [] [] EE:=lj.bg λ_ m k e=>by cases e
 have Gq:=(QL (dp:=dp) (DU (t.length+1) t) 2000).mj ⟨0,false,[]⟩ ⟨0,0,[]⟩ EE (λ_=>none) [] (zap _) adS rfl hbg;cases et:aI (aH (t.length+1) t 0) dp 2000 ⟨0,false,[]⟩ ⟨0,0,[]⟩with
 |out=>rw[et]at T7;exact T7.elim
 |fail e a=>
  rw[et]at Gq;obtain⟨m0,hm⟩:=iL Gq;refine .inl ⟨m0,e,a,hm m0 (zab _),λdep h1 h2=>?_⟩;subst h1;unfold fE;rw[zaa (by omega),zaa (by omega),zbn,et]
 |ok d q'=>
  rw[et]at Gq;obtain⟨k,s',iU,ia,ps⟩:=Gq;obtain⟨m0,hm⟩:=iL ia;have Ur:=hm m0 (zab _);obtain⟨hsz,hat⟩:=(eB (dp:=dp) (BX t) m0).mj _ _ _ _ _ (Rw _) Ur;have G0:=(Rt (dp:=dp) (BX t) m0).mj _ _ _ _ _ (Rw _) (λx hx=>by cases hx) Ur;obtain⟨hg,k',g,df,IP⟩:=Er ht dp d q' et;obtain⟨h',⟨m2,GG⟩,gr,gp⟩:=(QN ps.fi ps.rep hg 100000).1 d k ⟨[],[]⟩ ⟨[],List.replicate s'.nodes.length 0⟩ k' g ps.rep hg ⟨rfl,by simp,λi n _=>by
   show(List.replicate s'.nodes.length 0)[n]?.getD 0=0;rw[List.getElem?_replicate];split<;>rfl⟩ df
  have hout:h'.out=g.nodes:=List.ext_getElem? λj=>gp.n j (zap _);refine .inr ⟨m0,k,s',m2,k',h',Ur,GG m2 (zab _),by rw[hout];exact IP,hsz,G0,λdep h1 h2=>?_⟩;subst h1;unfold fE;rw[zaa (by omega),zaa (by omega),zbn,et];dsimp only;rw[df];simp only[Option.map];have hp:=ps.at_;have:0<s'.at_:=hat
  cases hq:q'.k with
  |zero=>rw[hq]at hp;simp only[lK]at hp;omega
  |succ n=>
   rw[hq]at hp;simp only[lK]at hp;rw[hout,hp];rfl
section
variable {s:FS}{B:Nat}
theorem RA (hB:∀x∈s.nodes,x.subs.length≤B):∀m,(∀n g k g',mf s m n g=some (k,g')→∀(j:Nat) x,g.out.length≤j→g'.out[j]?=some x→x.subs.length≤B)∧(∀l k g g' y,eP s m l k g=some g'→g.out[k]?=some y→(∀(j:Nat) x,g.out.length≤j→g'.out[j]?=some x→x.subs.length≤B)∧∃y',g'.out[k]?=some y'∧y'.subs.length=y.subs.length+l.length):=by
 intro m
 induction m with
 |zero=>
  constructor
  ·intro _ _ _ _ h;simp[mf]at h
  ·intro _ _ _ _ _ h;simp[eP]at h
 |succ m ih=>
  constructor
  ·intro n g k g' h j x hj hx;simp only[mf]at h;split at h
   ·cases h
   ·split at h
    ·cases h
    ·rename_i z hz;split at h
     ·cases h;rw[zbC hj]at hx;cases hx
     ·obtain⟨y,h1,h2⟩:=zav.1 h;cases h2;obtain⟨i1,y',i2,i3⟩:=ih.2 _ _ _ _ { z with subs:=[] } h1 (by simp);by_cases hjk:j=g.out.length
      ·subst hjk;rw[i2]at hx;cases hx;rw[i3];have:=hB z (zbo hz);simpa using this
      ·exact i1 j x (by simp;omega) hx
  ·intro l k g g' y h hy;cases l with
   |nil=>
    simp only[eP]at h;cases h;exact⟨λj x hj hx=>(by rw[zbC hj]at hx;cases hx),y,hy,rfl⟩
   |cons a l=>
    simp only[eP]at h;obtain⟨r,h1,h2⟩:=zaJ.1 h;have hk:k<g.out.length:=(zaD.1 hy).1;have EC:=(ye (s:=s) m).1 _ _ _ _ h1;have Rp:=(ye (s:=s) m).2 _ _ _ _ h2;have hy1:r.2.out[k]?=some y:=(EC.kp k hk (by simp)).trans hy;obtain⟨i1,y',i2,i3⟩:=ih.2 _ _ _ _ _ h2 (ji hy1);refine⟨λj x hj hx=>?_,y',i2,by rw[i3];simp[dF.w];omega⟩;by_cases yi:j<r.2.out.length
    ·have hjk:j≠k:=by omega
     have e1:=Rp.kp j (by rw[eU];exact yi) (λe=>hjk (zaY e).symm);rw[hx]at e1;have e2:(dw r.2.out k r.1)[j]?=r.2.out[j]?:=qu hjk;exact ih.1 _ _ _ _ h1 j x hj (e2.symm.trans e1.symm)
    ·exact i1 j x (by rw[eU];omega) hx
end
theorem Eu {t:List UInt8}{dep:Int}{nodes:List dF}{a:Nat}{e:Int}(h:fE t dep=some (nodes,a,e)):(e=0∨nodes=[])∧nodes.length≤150∧∀x∈nodes,x.subs.length≤1000:=by
 by_cases hd:dep<0∨30<dep
 ·unfold fE at h;rw[zac hd]at h;cases h;exact⟨.inr rfl,by simp,λx hx=>by cases hx⟩
 by_cases hl:400<t.length
 ·unfold fE at h;rw[zaa hd,zac hl]at h;cases h;exact⟨.inr rfl,by simp,λx hx=>by cases hx⟩
 obtain⟨dp,rfl⟩:=zbu (show 0≤dep by omega);rcases Es (t:=t) (by omega) dp with⟨m,er,at_,_,et⟩|⟨m,k,s',m2,k2,h',_,ln,_,_,hBs,et⟩
 ·have:=et dp rfl (by omega);rw[h]at this;cases this;exact⟨.inr rfl,by simp,λx hx=>by cases hx⟩
 ·have hr:=et dp rfl (by omega);rw[h]at hr;by_cases Od:150<h'.out.length
  ·rw[zac Od]at hr;cases hr;exact⟨.inr rfl,by simp,λx hx=>by cases hx⟩
  ·rw[zaa Od]at hr;cases hr;refine⟨.inl rfl,by omega,λx hx=>?_⟩;obtain⟨j,hj⟩:=List.mem_iff_getElem?.1 hx;have:=(RA (B:=t.length+2) (λx hx=>hBs x hx) m2).1 _ _ _ _ ln j x (zap _) hj;omega
def Oh:List UInt8:=[35,48,61,40,97,32,46,32,35,48,35,41]
theorem Kt:(fE Oh 2).map (λr=>(r.1.length,r.2.2))=some (2,0):=by decide +kernel
end Go.Loop
