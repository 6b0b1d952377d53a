import Derived.Test.YtlhimdjkkiflhaaGreatDoorRet23
set_option maxHeartbeats 8000000
set_option maxRecDepth 100000
namespace Go.Loop
def La (T:List Tok)(k:Nat):Prop:=∃j t,k=j+1∧T[j]?=some t∧t.kind≠0∧t.kind≠1
section
variable (T T':List Tok)(dp K:Nat)
structure ack (n:Nat):Prop where
 datum:∀p s d s',ay T dp n p s=.ok d s'→s.k<s'.k∧La T s'.k∧(s'.k≤K→ay T' dp n p s=.ok d s')
 take:∀p s t s',aM T dp n p s=.ok t s'→s.k<s'.k∧La T s'.k∧(s'.k≤K→aM T' dp n p s=.ok t s')
 nY:∀t p s d s',aL T dp n t p s=.ok d s'→s.k≤s'.k∧(s'.k=s.k∨La T s'.k)∧(s'.k≤K→aL T' dp n t p s=.ok d s')
 list:∀data p s d s',bh T dp n data p s=.ok d s'→s.k<s'.k∧La T s'.k∧(s'.k≤K→bh T' dp n data p s=.ok d s')
 vec:∀data p s l s',cy T dp n data p s=.ok l s'→s.k<s'.k∧La T s'.k∧(s'.k≤K→cy T' dp n data p s=.ok l s')
end
theorem Vp {t:Tok}{s s':eD}{d:Dt}(h:j9 t s=.ok d s'):s'.k=s.k:=by
 unfold j9 at h;repeat' split at h
 all_goals first|(cases h;rfl)|cases h
theorem fZ {α β:Type}{x:RR α}{f:α→eD→RR β}{a:α}{s:eD}(h:x=.ok a s):x.bind f=f a s:=by rw[h];rfl
section
variable {T T':List Tok}{dp K:Nat}
theorem La.same {k k':Nat}(h:La T k)(e:k'=k):La T k':=e▸h
theorem JD (hT:∀j,j<K→T'[j]?=T[j]?):∀n,ack T T' dp K n
 |0=>by
  refine⟨λp s d s' h=>?_,λp s t s' h=>?_,λt p s d s' h=>?_,λdata p s d s' h=>?_,λdata p s d s' h=>?_⟩;all_goals first
   |(unfold ay at h;cases h)
   |(unfold aM at h;cases h)
   |(unfold aL at h;cases h)
   |(unfold bh at h;cases h)
   |(unfold cy at h;cases h)
 |n+1=>by
  have ih:=JD hT n;refine⟨λp s d s' h=>?_,λp s t s' h=>?_,λt p s d s' h=>?_,λdata p s d s' h=>?_,λdata p s l s' h=>?_⟩
  ·unfold ay at h ⊢;obtain⟨t,s1,h1,h2⟩:=RR.bk h;obtain⟨a1,a2,a3⟩:=ih.take p s t s1 h1;obtain⟨b1,b2,b3⟩:=ih.nY t p s1 d s' h2;refine⟨by omega,b2.elim (λe=>a2.same e) id,λhk=>?_⟩;rw[fZ (a3 (by omega))];exact b3 hk
  ·unfold aM at h ⊢;cases ID:T[s.k]? with
   |none=>rw[ID]at h;cases h
   |some t0=>
    rw[ID]at h;dsimp only at h;split at h
    ·cases h
    ·rename_i k0;split at h
     ·cases h
     ·rename_i k1;split at h
      ·rename_i k6;obtain⟨d,s1,h1,h2⟩:=RR.bk h;obtain⟨a1,a2,a3⟩:=ih.datum _ _ d s1 h1;obtain⟨b1,b2,b3⟩:=ih.take p s1 t s' h2;have a1':s.k+1<s1.k:=a1;refine⟨by omega,b2,λhk=>?_⟩;rw[hT s.k (by omega),ID];dsimp only;rw[zaa k0,zaa k1,zab k6,fZ (a3 (by omega))];exact b3 hk
      ·rename_i k6;cases h;refine⟨Nat.lt_succ_self _,⟨s.k,t,rfl,ID,k0,k1⟩,λhk=>?_⟩;have O1:s.k+1≤K:=hk;rw[hT s.k (by omega),ID];dsimp only;rw[zaa k0,zaa k1,zaa k6]
  ·unfold aL at h ⊢;split at h
   ·cases h
   ·rename_i q37;rw[zaa q37];split at h
    ·rename_i Ur;rw[zab Ur];split at h
     ·cases h
     ·rename_i q1;rw[zaa q1];split at h
      ·cases h
      ·rename_i q2;rw[zaa q2];obtain⟨d1,s1,h1,h2⟩:=RR.bk h;obtain⟨a1,a2,a3⟩:=ih.datum _ _ d1 s1 h1;cases h2;refine⟨zci a1,.inr a2,λhk=>?_⟩;rw[fZ (a3 hk)]
    ·rename_i Ur;rw[zaa Ur];split at h
     ·rename_i Xf;rw[zab Xf];split at h
      ·cases h
      ·rename_i q1;rw[zaa q1];cases h;exact⟨zac _,.inl rfl,λ_=>rfl⟩
     ·rename_i Xf;rw[zaa Xf];split at h
      ·rename_i QP;rw[zab QP];split at h
       ·cases h
       ·rename_i q1;rw[zaa q1];split at h
        ·rename_i q5;rw[zab q5];obtain⟨l,s1,h1,h2⟩:=RR.bk h;obtain⟨a1,a2,a3⟩:=ih.vec _ _ _ l s1 h1;cases h2;refine⟨zci a1,.inr a2,λhk=>?_⟩;rw[fZ (a3 hk)]
        ·rename_i q5;rw[zaa q5];split at h
         ·rename_i q4;rw[zab q4];obtain⟨d1,s1,h1,h2⟩:=RR.bk h;obtain⟨a1,a2,a3⟩:=ih.datum _ _ d1 s1 h1;cases h2;refine⟨zci a1,.inr a2,λhk=>?_⟩;rw[fZ (a3 hk)]
         ·rename_i q4;rw[zaa q4];obtain⟨a1,a2,a3⟩:=ih.list _ _ _ d s' h;exact⟨zci a1,.inr a2,a3⟩
      ·rename_i QP;rw[zaa QP];have e:=Vp h;exact⟨by omega,.inl e,λ_=>h⟩
  ·unfold bh at h ⊢;obtain⟨t,s1,h1,h2⟩:=RR.bk h;obtain⟨a1,a2,a3⟩:=ih.take p s t s1 h1;split at h2
   ·rename_i q3;cases h2;refine⟨a1,a2,λhk=>?_⟩;rw[fZ (a3 hk),zab q3]
   ·rename_i q3;split at h2
    ·rename_i q7;obtain⟨rest,s2,h3,h4⟩:=RR.bk h2;obtain⟨t2,s3,h5,h6⟩:=RR.bk h4;obtain⟨b1,b2,b3⟩:=ih.datum p s1 rest s2 h3;obtain⟨c1,c2,c3⟩:=ih.take p s2 t2 s3 h5;split at h6
     ·rename_i q33;cases h6;have hk3:s1.k<s3.k:=by omega
      refine⟨by show s.k<s3.k;omega,c2,λhk=>?_⟩;have O1:s3.k≤K:=hk;rw[fZ (a3 (by omega)),zaa q3,zab q7,fZ (b3 (by omega)),fZ (c3 O1),zab q33]
     ·cases h6
    ·rename_i q7;obtain⟨d1,s2,h3,h4⟩:=RR.bk h2;obtain⟨b1,b2,b3⟩:=ih.nY t p s1 d1 s2 h3;obtain⟨c1,c2,c3⟩:=ih.list (data++[d1]) p s2 d s' h4;refine⟨by omega,c2,λhk=>?_⟩;rw[fZ (a3 (by omega)),zaa q3,zaa q7,fZ (b3 (by omega))];exact c3 hk
  ·unfold cy at h ⊢;obtain⟨t,s1,h1,h2⟩:=RR.bk h;obtain⟨a1,a2,a3⟩:=ih.take p s t s1 h1;split at h2
   ·rename_i q3;cases h2;refine⟨a1,a2,λhk=>?_⟩;rw[fZ (a3 hk),zab q3]
   ·rename_i q3;split at h2
    ·cases h2
    ·rename_i q20;obtain⟨d1,s2,h3,h4⟩:=RR.bk h2;obtain⟨b1,b2,b3⟩:=ih.nY t p s1 d1 s2 h3;obtain⟨c1,c2,c3⟩:=ih.vec (data++[d1]) p s2 l s' h4;refine⟨by omega,c2,λhk=>?_⟩;rw[fZ (a3 (by omega)),zaa q3,zaa q20,fZ (b3 (by omega))];exact c3 hk
end
theorem Nr {t:List UInt8}{dep:Int}{nodes:List eO}{a:Nat}(h:cS t dep=some (nodes,a,0))(hne:nodes≠[]):1≤a∧a≤t.length∧cS (t.take a) dep=some (nodes,a,0):=by
 unfold cS at h;split at h
 ·cases h
 ·rename_i hd;split at h
  ·cases h
  ·rename_i h4;split at h
   ·cases h
   ·cases h;exact absurd rfl hne
   ·rename_i d s eK;obtain⟨g,h1,h2⟩:=zas.1 h;split at h2
    ·cases h2
    ·rename_i ql;simp only[zaf,zay]at h2;obtain⟨rfl,ha⟩:=h2;obtain⟨j,tk,hj,NK,G0,Yh⟩:=((JD (T:=aw (t.length+1) t 0) (T':=aw (t.length+1) t 0) (dp:=dep.toNat) (K:=0) (λj hj=>by omega) 2000).datum _ _ d s eK).2.1;have hjk:s.k-1=j:=by omega
     rw[hjk,NK]at ha;have ha':tk.gw=a:=ha;have oF:tk.lastB=false:=by simp[Tok.lastB,G0,Yh]
     have fU:∀(n b k:Nat) (x:Tok),b≤t.length→(aw n t b)[k]?=some x→x.gw≤t.length∧(x.lastB=false→b<x.gw)∧∀(q:Nat) (y:Tok),q<k→(aw n t b)[q]?=some y→y.lastB=false∧y.gw≤x.gw∨x.lastB=true∧y.lastB=false:=by
      intro n
      induction n with
      |zero=>intro b k x _ h;simp[aw]at h
      |succ n ih=>
       intro b k x hb h;simp only[aw]at h ⊢;have hf:=ju (s:=t) (a:=b) hb;by_cases h0:(aR t b).lastB=true
       ·rw[zab h0]at h ⊢;cases k with
        |zero=>simp at h;subst h;exact⟨hf.2.1,λe=>(by rw[h0]at e;cases e),λq y hq=>by omega⟩
        |succ k=>simp at h
       ·rw[zaa h0]at h ⊢;have Au:(aR t b).lastB=false:=by simpa using h0
        have hlt:=(hf.2.2 Au).1;cases k with
        |zero=>simp at h;subst h;exact⟨hf.2.1,λ_=>hlt,λq y hq=>by omega⟩
        |succ k=>
         simp only[zcw]at h;obtain⟨i1,i2,i3⟩:=ih _ k x hf.2.1 h;refine⟨i1,λe=>(by have:=i2 e;omega),λq y hq hy=>?_⟩;cases q with
         |zero=>
          simp at hy;subst hy;cases hx:x.lastB with
          |true=>exact .inr ⟨rfl,Au⟩
          |false=>exact .inl ⟨Au,zci (i2 hx)⟩
         |succ q=>exact i3 q y (by omega) (by simpa using hy)
     obtain⟨f1,f2,f3⟩:=fU _ 0 j tk (zaq _) NK;have hal:a≤t.length:=by omega
     have ha1:1≤a:=by have:=f2 oF;omega
     have hpl:(t.take a).length=a:=by simp;omega
     have rF:∀q,q<s.k→(aw ((t.take a).length + 1) (t.take a) 0)[q]?=(aw (t.length+1) t 0)[q]?:=λq hq=>by
      have hql:q<(aw (t.length+1) t 0).length:=by
       have:=(zbh.1 NK).1;omega
      obtain⟨y,hy⟩:∃y,(aw (t.length+1) t 0)[q]?=some y:=⟨_,zat hql⟩;have hyl:y.lastB=false∧y.gw≤a:=by
       by_cases Hq:q=j
       ·subst Hq;rw[NK]at hy;cases hy;exact⟨oF,by omega⟩
       ·rcases f3 q y (by omega) hy with⟨u1,u2⟩|⟨u1,_⟩
        ·exact⟨u1,by omega⟩
        ·rw[oF]at u1;cases u1
      rw[hy];refine(Ab (p:=t.take a) (r:=t.drop a) (t.length+1) ((t.take a).length + 1) 0 q y (zaq _) (by omega) ?_ hyl.1 (by omega)).1;rw[List.take_append_drop];exact hy
     have lX:=((JD (T:=aw (t.length+1) t 0) (T':=aw ((t.take a).length + 1) (t.take a) 0) (dp:=dep.toNat) (K:=s.k) rF 2000).datum _ _ d s eK).2.2 (zac _);refine⟨ha1,hal,?_⟩;unfold cS;rw[zaa hd,zaa (by omega),lX];dsimp only;rw[h1];simp only[zbp,zaa ql];rw[rF (s.k-1) (by omega),hjk,NK];simp[ha']
theorem RR.b8 {α β:Type}{x:RR α}{f:α→eD→RR β}{e:Int}{a:Nat}(h:x.bind f=.fail e a):x=.fail e a∨∃y s,x=.ok y s∧f y s=.fail e a:=by
 cases x with
 |out=>cases h
 |fail e' a'=>cases h;exact .inl rfl
 |ok y s=>exact .inr ⟨y,s,rfl,h⟩
section
variable (T:List Tok)(dp:Nat)
structure acm (n:Nat):Prop where
 datum:∀p s e a,ay T dp n p s=.fail e a→∃t∈T,a=t.from_
 take:∀p s e a,aM T dp n p s=.fail e a→∃t∈T,a=t.from_
 mem:∀p s t s',aM T dp n p s=.ok t s'→t∈T
 nY:∀t p s e a,t∈T→aL T dp n t p s=.fail e a→∃t∈T,a=t.from_
 list:∀data p s e a,bh T dp n data p s=.fail e a→∃t∈T,a=t.from_
 vec:∀data p s e a,cy T dp n data p s=.fail e a→∃t∈T,a=t.from_
end
section
variable {T:List Tok}{dp:Nat}
theorem Vq {t:Tok}{s:eD}{e:Int}{a:Nat}(h:j9 t s=.fail e a):a=t.from_:=by
 unfold j9 at h;repeat' split at h
 all_goals first|(cases h;rfl)|cases h
theorem Sp:∀n,acm T dp n
 |0=>by
  refine⟨λp s e a h=>?_,λp s e a h=>?_,λp s t s' h=>?_,λt p s e a _ h=>?_,λdata p s e a h=>?_,λdata p s e a h=>?_⟩;all_goals first
   |(unfold ay at h;cases h)
   |(unfold aM at h;cases h)
   |(unfold aL at h;cases h)
   |(unfold bh at h;cases h)
   |(unfold cy at h;cases h)
 |n+1=>by
  have ih:=Sp n;refine⟨λp s e a h=>?_,λp s e a h=>?_,λp s t s' h=>?_,λt p s e a ht h=>?_,λdata p s e a h=>?_,λdata p s e a h=>?_⟩
  ·unfold ay at h;rcases RR.b8 h with h|⟨t,s1,h1,h2⟩
   ·exact ih.take _ _ _ _ h
   ·exact ih.nY _ _ _ _ _ (ih.mem _ _ _ _ h1) h2
  ·unfold aM at h;split at h
   ·cases h
   ·rename_i t0 ID;have hm:=zbr ID;split at h
    ·cases h;exact⟨t0,hm,rfl⟩
    ·split at h
     ·cases h;exact⟨t0,hm,rfl⟩
     ·split at h
      ·rcases RR.b8 h with h|⟨_,s1,_,h2⟩
       ·exact ih.datum _ _ _ _ h
       ·exact ih.take _ _ _ _ h2
      ·cases h
  ·unfold aM at h;split at h
   ·cases h
   ·rename_i t0 ID;split at h
    ·cases h
    ·split at h
     ·cases h
     ·split at h
      ·obtain⟨_,s1,_,h2⟩:=RR.bk h;exact ih.mem _ _ _ _ h2
      ·cases h;exact zbr ID
  ·unfold aL at h;split at h
   ·cases h;exact⟨t,ht,rfl⟩
   ·split at h
    ·split at h
     ·cases h;exact⟨t,ht,rfl⟩
     ·split at h
      ·cases h;exact⟨t,ht,rfl⟩
      ·rcases RR.b8 h with h|⟨_,s1,_,h2⟩
       ·exact ih.datum _ _ _ _ h
       ·cases h2
    ·split at h
     ·split at h
      ·cases h;exact⟨t,ht,rfl⟩
      ·cases h
     ·split at h
      ·split at h
       ·cases h;exact⟨t,ht,rfl⟩
       ·split at h
        ·rcases RR.b8 h with h|⟨_,s1,_,h2⟩
         ·exact ih.vec _ _ _ _ _ h
         ·cases h2
        ·split at h
         ·rcases RR.b8 h with h|⟨_,s1,_,h2⟩
          ·exact ih.datum _ _ _ _ h
          ·cases h2
         ·exact ih.list _ _ _ _ _ h
      ·exact⟨t,ht,Vq h⟩
  ·unfold bh at h;rcases RR.b8 h with h|⟨t,s1,h1,h2⟩
   ·exact ih.take _ _ _ _ h
   ·have hm:=ih.mem _ _ _ _ h1;split at h2
    ·cases h2
    ·split at h2
     ·rcases RR.b8 h2 with h|⟨_,s2,_,h4⟩
      ·exact ih.datum _ _ _ _ h
      ·rcases RR.b8 h4 with h|⟨t2,s3,h5,h6⟩
       ·exact ih.take _ _ _ _ h
       ·split at h6
        ·cases h6
        ·cases h6;exact⟨t2,ih.mem _ _ _ _ h5,rfl⟩
     ·rcases RR.b8 h2 with h|⟨_,s2,_,h4⟩
      ·exact ih.nY _ _ _ _ _ hm h
      ·exact ih.list _ _ _ _ _ h4
  ·unfold cy at h;rcases RR.b8 h with h|⟨t,s1,h1,h2⟩
   ·exact ih.take _ _ _ _ h
   ·have hm:=ih.mem _ _ _ _ h1;split at h2
    ·cases h2
    ·split at h2
     ·cases h2;exact⟨t,hm,rfl⟩
     ·rcases RR.b8 h2 with h|⟨_,s2,_,h4⟩
      ·exact ih.nY _ _ _ _ _ hm h
      ·exact ih.vec _ _ _ _ _ h4
end
theorem vB:∀(n:Nat) (s:List UInt8) (a:Nat) (t:Tok),a≤s.length→t∈aw n s a→t.from_≤s.length
 |0,_,_,_,_,h=>by cases h
 |n+1,s,a,t,ha,h=>by
  have hf:=ju (s:=s) (a:=a) ha;simp only[aw]at h;split at h
  ·rw[zbA.1 h];exact hf.1
  ·rcases zal.1 h with rfl|h
   ·exact hf.1
   ·exact vB n s _ t hf.2.1 h
theorem Sq {t:List UInt8}{dep:Int}{nodes:List eO}{a:Nat}{e:Int}(h:cS t dep=some (nodes,a,e))(he:e≠0):a≤t.length:=by
 unfold cS at h;split at h
 ·cases h;exact zaq _
 ·split at h
  ·cases h;exact zaq _
  ·split at h
   ·cases h
   ·rename_i hf;cases h;obtain⟨x,hx,rfl⟩:=(Sp 2000).datum _ _ _ _ hf;exact vB _ _ _ _ (zaq _) hx
   ·obtain⟨g,h1,h2⟩:=zas.1 h;split at h2
    ·cases h2;exact zaq _
    ·cases h2;exact absurd rfl he
section
variable (T:List Tok)(dp:Nat)
structure acn (n:Nat):Prop where
 datum:∀p s e a,ay T dp n p s=.fail e a→e≠0
 take:∀p s e a,aM T dp n p s=.fail e a→e≠0
 nY:∀t p s e a,aL T dp n t p s=.fail e a→e≠0
 list:∀data p s e a,bh T dp n data p s=.fail e a→e≠0
 vec:∀data p s e a,cy T dp n data p s=.fail e a→e≠0
end
section
variable {T:List Tok}{dp:Nat}
theorem Vr {t:Tok}{s:eD}{e:Int}{a:Nat}(h:j9 t s=.fail e a):e≠0:=by
 unfold j9 at h;split at h
 ·cases h
 ·split at h
  ·cases h
  ·split at h
   ·cases h
   ·split at h
    ·cases h
    ·split at h
     ·rename_i hf;cases h;exact hf
     ·cases h
theorem Sr:∀n,acn T dp n
 |0=>by
  refine⟨λp s e a h=>?_,λp s e a h=>?_,λt p s e a h=>?_,λdata p s e a h=>?_,λdata p s e a h=>?_⟩;all_goals first
   |(unfold ay at h;cases h)
   |(unfold aM at h;cases h)
   |(unfold aL at h;cases h)
   |(unfold bh at h;cases h)
   |(unfold cy at h;cases h)
 |n+1=>by
  have ih:=Sr n;refine⟨λp s e a h=>?_,λp s e a h=>?_,λt p s e a h=>?_,λdata p s e a h=>?_,λdata p s e a h=>?_⟩
  ·unfold ay at h;rcases RR.b8 h with h|⟨t,s1,_,h2⟩
   ·exact ih.take _ _ _ _ h
   ·exact ih.nY _ _ _ _ _ h2
  ·unfold aM at h;split at h
   ·cases h
   ·split at h
    ·cases h;decide
    ·split at h
     ·cases h;decide
     ·split at h
      ·rcases RR.b8 h with h|⟨_,s1,_,h2⟩
       ·exact ih.datum _ _ _ _ h
       ·exact ih.take _ _ _ _ h2
      ·cases h
  ·unfold aL at h;split at h
   ·cases h;decide
   ·split at h
    ·split at h
     ·cases h;decide
     ·split at h
      ·cases h;decide
      ·rcases RR.b8 h with h|⟨_,s1,_,h2⟩
       ·exact ih.datum _ _ _ _ h
       ·cases h2
    ·split at h
     ·split at h
      ·cases h;decide
      ·cases h
     ·split at h
      ·split at h
       ·cases h;decide
       ·split at h
        ·rcases RR.b8 h with h|⟨_,s1,_,h2⟩
         ·exact ih.vec _ _ _ _ _ h
         ·cases h2
        ·split at h
         ·rcases RR.b8 h with h|⟨_,s1,_,h2⟩
          ·exact ih.datum _ _ _ _ h
          ·cases h2
         ·exact ih.list _ _ _ _ _ h
      ·exact Vr h
  ·unfold bh at h;rcases RR.b8 h with h|⟨t,s1,_,h2⟩
   ·exact ih.take _ _ _ _ h
   ·split at h2
    ·cases h2
    ·split at h2
     ·rcases RR.b8 h2 with h|⟨_,s2,_,h4⟩
      ·exact ih.datum _ _ _ _ h
      ·rcases RR.b8 h4 with h|⟨t2,s3,_,h6⟩
       ·exact ih.take _ _ _ _ h
       ·split at h6
        ·cases h6
        ·cases h6;decide
     ·rcases RR.b8 h2 with h|⟨_,s2,_,h4⟩
      ·exact ih.nY _ _ _ _ _ h
      ·exact ih.list _ _ _ _ _ h4
  ·unfold cy at h;rcases RR.b8 h with h|⟨t,s1,_,h2⟩
   ·exact ih.take _ _ _ _ h
   ·split at h2
    ·cases h2
    ·split at h2
     ·cases h2;decide
     ·rcases RR.b8 h2 with h|⟨_,s2,_,h4⟩
      ·exact ih.nY _ _ _ _ _ h
      ·exact ih.vec _ _ _ _ _ h4
end
theorem JE {t:List UInt8}{dep:Int}{nodes:List eO}{a:Nat}{e:Int}(h:cS t dep=some (nodes,a,e)):(e=0∧nodes≠[])∨(e≠0∧nodes=[]):=by
 unfold cS at h;split at h
 ·cases h;exact .inr ⟨by decide,rfl⟩
 ·split at h
  ·cases h;exact .inr ⟨by decide,rfl⟩
  ·rename_i h4;split at h
   ·cases h
   ·rename_i hf;cases h;exact .inr ⟨(Sr 2000).datum _ _ _ _ hf,rfl⟩
   ·rename_i d s eK;obtain⟨g,h1,h2⟩:=zas.1 h;split at h2
    ·cases h2;exact .inr ⟨by decide,rfl⟩
    ·cases h2;have hk:=((BX (N:=t.length) (root:=d) (by omega) (wW eK).b 100000).1 d ⟨[],[]⟩ g.1 g.2 (wW eK).b (λ_ hp=>by cases hp) h1).2;refine .inl ⟨rfl,λe=>?_⟩;rw[e]at hk;simp at hk
end Go.Loop
