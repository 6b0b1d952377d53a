import Derived.Test.YtlhimdjkkiflhaaGreatDoorRet12
import Derived.Test.YtlhimdjkkiflhaaGreatDoorRet23
set_option maxHeartbeats 8000000
set_option maxRecDepth 100000
open Go.Lib renaming decDigits→Γ,itoa→Δ
namespace Go.Loop
theorem wU:∀d:Nat,d<10→(UInt8.ofNat (48+d)).toNat=48+d:=by decide
theorem wV {Q:Nat→List UInt8→Prop}(h1:∀u,u<10→Q u [UInt8.ofNat (48+u)])(h2:∀u,10≤u→Q (u/10) (Γ (u/10))→Q u (Γ (u/10)++[UInt8.ofNat (48+u%10)])):∀u,Q u (Γ u):=by
 intro u
 induction u using Nat.strongRecOn with
 |ind u ih=>
  by_cases h:u<10
  ·rw[Lib.decDigits_one h];exact h1 u h
  ·rw[Γ,dif_neg h];exact h2 u (by omega) (ih (u/10) (by omega))
theorem gQ (u:Nat):∀c∈Γ u,48≤c.toNat∧c.toNat≤57:=
 wV (Q:=λ_ l=>∀c∈l,48≤c.toNat∧c.toNat≤57) (λu h c hc=>by
  simp only[zbA]at hc;subst hc;rw[wU u h];omega) (λu h ih c hc=>by
  rcases zaF.1 hc with hc|hc
  ·exact ih c hc
  ·simp only[zbA]at hc;subst hc;rw[wU _ (Nat.mod_lt _ (by omega))];omega) u
theorem nu (u:Nat):Γ u≠[]:=wV (Q:=λ_ l=>l≠[]) (λ_ _=>by simp) (λ_ _ _=>by simp) u
theorem lC (l:List UInt8)(c:UInt8):aK (l++[c])=min (aK l*10+((c.toNat:Int)-48)) 1000001:=by simp[aK,dT]
theorem ny (u:Nat):u≤1000001→aK (Γ u)=u:=
 wV (Q:=λu l=>u≤1000001→aK l=u) (λu h _=>by
  have:=lC [] (UInt8.ofNat (48+u));rw[wU u h]at this;simp only[zbm]at this;rw[this];simp only[aK,dT,List.foldl_nil];omega) (λu h ih hu=>by
  rw[lC,ih (by omega),wU _ (Nat.mod_lt _ (by omega))];omega) u
theorem zf:∀l:List UInt8,(∀c∈l,c.toNat≠47)→jV l=none
 |[],_=>rfl
 |c::r,h=>by
  rw[jV,zaa (h c zaD),zf r λx hx=>h x (zaQ _ hx)];rfl
theorem tu (u:Nat):dE (Γ u)=true:=by
 unfold dE;have h1:(Γ u).isEmpty=false:=by
  cases h:Γ u with
  |nil=>exact absurd h (nu u)
  |cons c r=>rfl
 rw[h1];simp only[Bool.not_false,zbI,zaC];intro c hc;have:=gQ u c hc;simp only[cF,zaK];omega
theorem tz (neg:Bool)(u:Nat)(hu:u≤1000000):numberOf neg (Γ u)=some (if neg then -(u:Int)else u,1,0):=by
 have hs:=zf (Γ u) λc hc=>by have:=gQ u c hc;omega
 have ha:=ny u (by omega);unfold numberOf;rw[hs];simp only[zbH];rw[tu u,show dE [49]=true from rfl,ha,show aK [49]=1 from rfl];simp only[Bool.and_self,if_true];rw[zaa (by omega),zaa (by omega)];simp
theorem zg (u:Nat):(Γ u).all sF=true:=by
 rw[zaC];intro c hc;have:=gQ u c hc;have hd:cF (c.toNat:Int)=true:=by simp only[cF,zaK];omega
 simp[sF,bq,hd]
theorem Gs (u:Nat):bX (Γ u)=true:=by
 cases h:Γ u with
 |nil=>exact absurd h (nu u)
 |cons c r=>
  have:=gQ u c (by rw[h];exact zaD);simp only[bX];rw[zaa (by omega)];simp only[cF,zaK];omega
theorem Dy (x:Int)(h1: -1000000≤x)(h2:x≤1000000):dH (Δ x)=some (x,1,0)∧bX (Δ x)=true∧(Δ x).all sF=true∧Δ x≠[]∧Δ x≠[46]:=by
 by_cases h0:0≤x
 ·obtain⟨u,rfl⟩:=zbq h0;rw[Lib.itoa_nonneg];have hd:=gQ u;refine⟨?_,Gs u,zg u,nu u,λe=>?_⟩
  ·have hn:=tz false u (by omega);cases h:Γ u with
   |nil=>exact absurd h (nu u)
   |cons c r=>
    have hc:=hd c (by rw[h];exact zaD);rw[dH,zaa (by omega),zaa (by omega),←h,hn];rfl
  ·have:=hd 46 (by rw[e];exact zaD);have e46:(46:UInt8).toNat=46:=rfl;omega
 ·obtain⟨u,rfl⟩:∃u:Nat,x=-(u:Int):=⟨x.natAbs,by omega⟩;rw[Lib.itoa_neg u (by omega)];have hn:=tz true u (by omega);refine⟨?_,?_,?_,by simp,λe=>?_⟩
  ·rw[dH,zab (show UInt8.toNat 45=45 from rfl),hn];rfl
  ·have hm:=Gs u;cases h:Γ u with
   |nil=>exact absurd h (nu u)
   |cons c r=>
    have hc:=gQ u c (by rw[h];exact zaD);simp only[bX];rw[zab (.inr rfl)];simp only[cF,zaK];omega
  ·rw[zap,zg];rfl
  ·have:=(List.cons.inj e).1;cases this
theorem tA:∀(w r:List UInt8),w.all sF=true→aT bq r=0→aT bq (w++r)=w.length
 |[],_,_,h=>h
 |c::w,r,h,hr=>by
  simp only[zap,zae]at h;have hc:bq (c.toNat:Int)=true:=h.1;rw[zam,aT,zab hc,tA w r h.2 hr,zar]
def abY (a:Nat)(x:Int):Tok:={ aH 13 a (a+(Δ x).length)with n:=x,d:=1 }
theorem ZK {s:List UInt8}{a:Nat}{x:Int}{r:List UInt8}(h1: -1000000≤x)(h2:x≤1000000)(h:s.drop a=Δ x++r)(hr:aT bq r=0):cM s a=abY a x:=by
 obtain⟨g1,g2,g3,g4,g5⟩:=Dy x h1 h2;have hrun:=tA _ r g3 hr;unfold abY;generalize Δ x=w at *;cases w with
 |nil=>exact absurd rfl g4
 |cons c w=>
  have hc:bq (c.toNat:Int)=true:=by
   simp only[zap,zae]at g3;exact g3.1
  have n40:c.toNat≠40:=λe=>by rw[e]at hc;cases hc
  have n41:c.toNat≠41:=λe=>by rw[e]at hc;cases hc
  have n39:c.toNat≠39:=λe=>by rw[e]at hc;cases hc
  have n34:c.toNat≠34:=λe=>by rw[e]at hc;cases hc
  have n35:c.toNat≠35:=λe=>by rw[e]at hc;cases hc
  unfold cM;rw[h,zam];dsimp only;rw[zaa n40,zaa n41,zaa n39,zaa n34,zaa n35,zab hc];have hcut:dL s a (a+(c::w).length)=c::w:=by
   simp only[dL,h];rw[show a+(c::w).length - a=(c::w).length by omega];simp
  unfold fN;dsimp only;rw[h,hrun,hcut,zaa g5,g2,g1];rfl
end Go.Loop
namespace Go.Proofs.YtlhimdjkkiflhaaGreatDoor
open Go.RowKit Go.Loop
def Dl (r:List UInt8):Prop:=r=[]∨∃c q,r=c::q∧(c=32∨c=41)
theorem Dl.run {r:List UInt8}(h:Dl r){q:Int→Bool}(h1:q 32=false)(h2:q 41=false):aT q r=0:=by
 rcases h with rfl|⟨c,x,rfl,rfl|rfl⟩
 ·rfl
 ·simp[aT,h1]
 ·simp[aT,h2]
theorem Dl.word {r:List UInt8}(h:Dl r):aT bq r=0:=h.run (by decide) (by decide)
theorem Dl.abZ {r:List UInt8}(h:Dl r):aT fA r=0:=h.run (by decide) (by decide)
section
variable {s:List UInt8}{a:Nat}{r:List UInt8}
theorem U2 {w:List UInt8}(hs:ir w=true)(h:s.drop a=w++r)(hr:Dl r):cM s a={ aH 14 a (a+w.length)with text:=w }:=by
 unfold ir at hs;simp only[zae,Bool.not_eq_true',zah,ne_eq]at hs;obtain⟨⟨⟨h1,h2⟩,h3⟩,h4⟩:=hs;have e1:=tA w [] h4 rfl;rw[zcz]at e1;exact U1 (by intro e;rw[e]at h1;cases h1) h h4 e1 (tA w r h4 hr.word) h3 h2
theorem QJ:∀{w:List UInt8} (q:List UInt8),bX w=true→bX (w++q)=true
 |[],_,h=>by cases h
 |[c],q,h=>by
  simp only[bX]at h;split at h
  ·cases h
  ·rename_i hc;simp only[zam,bX];rw[zaa hc];exact h
 |c::d::w,q,h=>by
  simp only[zam,bX]at h ⊢;exact h
theorem zh:∀(l q:List UInt8),(∀c∈l,c.toNat≠47)→jV (l++47::q)=some (l,q)
 |[],q,_=>by simp[jV]
 |c::l,q,h=>by
  rw[zam,jV,zaa (h c zaD),zh l q λx hx=>h x (zaQ _ hx)];rfl
theorem qQ (neg:Bool)(u v:Nat)(hu:u≤1000000)(hv:v≤1000000)(NA:1≤v)(hg:Int.gcd (if neg then -(u:Int)else u) v=1):numberOf neg (Γ u++47::Γ v)=some (if neg then -(u:Int)else u,(v:Int),0):=by
 have hs:=zh (Γ u) (Γ v) λc hc=>by have:=gQ u c hc;omega
 have ha:=ny u (by omega);have hb:=ny v (by omega);unfold numberOf;rw[hs];simp only[zbg];rw[tu u,tu v,ha,hb];simp only[Bool.and_self,if_true];rw[zaa (by omega),zaa (by omega),hg];simp
theorem U3 {w:List UInt8}{n d f:Int}(h:s.drop a=w++r)(hr:aT bq r=0)(g1:dH w=some (n,d,f))(g2:bX w=true)(g3:w.all sF=true)(g4:w≠[])(g5:w≠[46]):cM s a={ aH 13 a (a+w.length)with n:=n,d:=d,fault:=f }:=by
 have hrun:=tA _ r g3 hr;cases w with
 |nil=>exact absurd rfl g4
 |cons c w=>
  have hc:bq (c.toNat:Int)=true:=by
   simp only[zap,zae]at g3;exact g3.1
  have n40:c.toNat≠40:=λe=>by rw[e]at hc;cases hc
  have n41:c.toNat≠41:=λe=>by rw[e]at hc;cases hc
  have n39:c.toNat≠39:=λe=>by rw[e]at hc;cases hc
  have n34:c.toNat≠34:=λe=>by rw[e]at hc;cases hc
  have n35:c.toNat≠35:=λe=>by rw[e]at hc;cases hc
  unfold cM;rw[h,zam];dsimp only;rw[zaa n40,zaa n41,zaa n39,zaa n34,zaa n35,zab hc];have hcut:dL s a (a+(c::w).length)=c::w:=by
   simp only[dL,h];rw[show a+(c::w).length - a=(c::w).length by omega];simp
  unfold fN;dsimp only;rw[h,hrun,hcut,zaa g5,g2,g1];rfl
theorem U4 {n d:Int}(hn:lT n d=true)(h:s.drop a=dV n d++r)(hr:Dl r):cM s a={ aH 13 a (a+(dV n d).length)with n:=n,d:=d }:=by
 unfold lT at hn;obtain⟨d1,d2,n1,n2,hg⟩:=of_decide_eq_true hn;unfold dV at h ⊢;by_cases hd:d=1
 ·subst hd;rw[zab rfl]at h ⊢;exact ZK n1 n2 h hr.word
 ·rw[zaa hd]at h ⊢;obtain⟨v,rfl⟩:=zbq (show 0≤d by omega);obtain⟨g1,g2,g3,g4,g5⟩:=Dy n n1 n2;have hw:(Δ n++47::Δ (v:Int)).all sF=true:=by
   rw[Lib.itoa_nonneg];simp only[List.all_append,zap,zae];exact⟨g3,by decide,zg v⟩
  have hm:=QJ (47::Δ (v:Int)) g2;have cO:dH (Δ n++47::Δ (v:Int))=some (n,(v:Int),0):=by
   rw[Lib.itoa_nonneg];by_cases h0:0≤n
   ·obtain⟨u,rfl⟩:=zbq h0;rw[Lib.itoa_nonneg];cases hc:Γ u with
    |nil=>exact absurd hc (nu u)
    |cons c q=>
     have hdg:=gQ u c (by rw[hc];exact zaD);rw[zam,dH,zaa (by omega),zaa (by omega),←zam,←hc];exact qQ false u v (by omega) (by omega) (by omega) hg
   ·obtain⟨u,hu⟩:=zbq (show 0≤-n by omega);obtain rfl:n=-(u:Int):=by omega
    rw[Lib.itoa_neg u (by omega)];rw[zam,dH,zab (by decide)];exact qQ true u v (by omega) (by omega) (by omega) hg
  refine U3 h hr.word cO hm hw (by simp) λe=>?_;cases hi:Δ n with
  |nil=>exact g4 hi
  |cons c q=>rw[hi]at e;simp at e
theorem QK {l:List UInt8}(h:s.drop a=lZ l++r):cM s a={ aH 8 a (a+(lZ l).length)with text:=l }:=by
 have key:∀(l acc:List UInt8) (i:Nat),dD i acc (l.flatMap mB++34::r)=.ok (i+(l.flatMap mB).length + 1) (acc++l):=by
  intro l
  induction l with
  |nil=>intro acc i;simp[ru]
  |cons c l ih=>
   intro acc i;rw[zbB,zbK];have he:mB c=if c.toNat=92 then[92,92]else if c.toNat=34 then[92,34]else if c.toNat=10 then[92,110]else if c.toNat=9 then[92,116]else[c]:=rfl
   rw[he];split
   ·rename_i hc;obtain rfl:c=92:=UInt8.toNat_inj.1 hc;rw[zam,zam,zbm,oL (b:=92) (by decide),ih];simp;omega
   ·split
    ·rename_i hc;obtain rfl:c=34:=UInt8.toNat_inj.1 hc;rw[zam,zam,zbm,oL (b:=34) (by decide),ih];simp;omega
    ·split
     ·rename_i hc;obtain rfl:c=10:=UInt8.toNat_inj.1 hc;rw[zam,zam,zbm,oL (b:=10) (by decide),ih];simp;omega
     ·split
      ·rename_i hc;obtain rfl:c=9:=UInt8.toNat_inj.1 hc;rw[zam,zam,zbm,oL (b:=9) (by decide),ih];simp;omega
      ·rename_i c1 c2 c3 c4;rw[zam,zbm,pN (λe=>c2 (by rw[e];rfl)) (λe=>c1 (by rw[e];rfl)),ih];simp;omega
 unfold lZ at h ⊢;have h1:s.drop (a+1)=l.flatMap mB++34::r:=by
  have:=afO (k:=1) h rfl;simpa using this
 unfold cM;rw[h,zam];dsimp only;rw[zaa (by decide),zaa (by decide),zaa (by decide),zab (by decide)];unfold jh;rw[h1,key];simp[aH];omega
theorem M0 {c:UInt8}(hc:c=116∨c=102)(h:s.drop a=35::c::r)(hr:Dl r):cM s a={ aH 12 a (a+2)with n:=if c=116 then 1 else 0 }:=by
 have h1:s.drop (a+1)=c::r:=afO h rfl;have hd:aT cF (c::r)=0:=by rcases hc with rfl|rfl<;>simp[aT,cF]
 have hw:aT bq (c::r)=1:=by rcases hc with rfl|rfl<;>simp[aT,hr.word,bq,fA,cF,ER]
 have hcut:dL s (a+1) (a+1+1)=[c]:=by
  simp only[dL,h1];rw[show a+1+1-(a+1)=1 by omega];rfl
 have hl:bZ s a=none:=by
  unfold bZ;dsimp only;rw[h1,hd,zab (.inl rfl)]
 unfold cM;rw[h];dsimp only;rw[zaa (by decide),zaa (by decide),zaa (by decide),zaa (by decide),zab (by decide)];unfold ed;rw[h1];dsimp only;rw[zaa (by rcases hc with rfl|rfl<;>decide),zaa (by rcases hc with rfl|rfl<;>decide),zaa (by rcases hc with rfl|rfl<;>decide),hl];show bW s a=_;unfold bW;dsimp only;rw[h1,hw,hcut];rcases hc with rfl|rfl
 ·rw[zab (.inl rfl)];rfl
 ·rw[zaa (by decide),zab (.inl rfl)];rfl
theorem QL {n:Int}(hn:jf n=true)(h:s.drop a=s7 n++r)(hr:Dl r):cM s a={ aH 9 a (a+(s7 n).length)with n:=n }:=by
 have h0:s.drop a=35::92::((if hasName n then nameOf n else[UInt8.ofNat n.toNat])++r):=h;have h1:s.drop (a+1)=92::((if hasName n then nameOf n else[UInt8.ofNat n.toNat])++r):=afO h0 rfl;have h2:s.drop (a+2)=(if hasName n then nameOf n else[UInt8.ofNat n.toNat])++r:=afO h0 rfl;have e:cM s a=fM s a:=by
  unfold cM;rw[h0];dsimp only;rw[zaa (by decide),zaa (by decide),zaa (by decide),zaa (by decide),zab (by decide)];unfold ed;rw[h1];dsimp only;rw[zaa (by decide),zaa (by decide),zab (by decide)]
 rw[e];unfold fM s7;cases hh:hasName n with
 |true=>
  rw[hh,zab rfl]at h2;rw[zab rfl];have key:∀w:List UInt8,1<w.length→w.all (λc=>fA (c.toNat:Int))=true→gG w=n→0≤n→s.drop (a+2)=w++r→(if 1<aT fA (s.drop (a+2))then(match nN (dL s (a+2) (a+2+aT fA (s.drop (a+2))))with|none=>bt a|some k=>{ aH 9 a (a+2+aT fA (s.drop (a+2)))with n:=k })else match s.drop (a+2)with|[]=>bt a|c::_=>if 33≤c.toNat∧c.toNat≤126 then { aH 9 a (a+3)with n:=(c.toNat:Int) } else bt a)={ aH 9 a (a+(w.length+2))with n:=n }:=by
   intro w hw hall ab0 Ln hd;have hrun:aT fA (w++r)=w.length:=by
    rw[BA fA w r hall,hr.abZ];rfl
   have hcut:dL s (a+2) (a+2+w.length)=w:=by
    simp only[dL,hd];rw[show a+2+w.length-(a+2)=w.length by omega];simp
   rw[hd,hrun,zab hw,hcut];unfold nN;rw[ab0,zab Ln];simp[aH];omega
  unfold hasName at hh;have lA:=of_decide_eq_true hh;rcases lA with rfl|rfl|rfl|rfl|rfl|rfl
  all_goals exact key _ (by decide) (by decide) (by decide) (by decide) h2
 |false=>
  rw[hh]at h2;simp only[zaU,if_false]at h2 ⊢;unfold jf at hn;rw[hh,Bool.false_or]at hn;obtain⟨g1,g2⟩:=of_decide_eq_true hn;obtain⟨u,rfl⟩:=zbq (show 0≤n by omega);have hu:(UInt8.ofNat (u:Int).toNat).toNat=u:=by simp;omega
  have hrun:¬1<aT fA (s.drop (a+2)):=by
   rw[h2];simp only[zam,zbm,aT,hr.abZ];split<;>omega
  rw[zaa hrun,h2];simp only[zam,zbm];rw[zab (by rw[hu];omega),hu];simp[aH]
theorem QM (m:Nat)(hm:m≤999):(Γ m).length≤3:=by
 have key:∀u:Nat,(u<10→(Γ u).length≤1)∧(u<100→(Γ u).length≤2)∧(u<1000→(Γ u).length≤3):=
  wV (Q:=λu l=>(u<10→l.length≤1)∧(u<100→l.length≤2)∧(u<1000→l.length≤3)) (λ_ _=>by simp) (λu hu ih=>by
   simp only[zaR,zar,zbk];refine⟨λh=>by omega,λh=>?_,λh=>?_⟩
   ·have:=ih.1 (by omega);omega
   ·have:=ih.2.1 (by omega);omega)
 exact(key m).2.2 (by omega)
theorem BV {m:Nat}{c:UInt8}(hm:m≤999)(hc:c=61∨c=35)(h:s.drop a=35::(Δ m++c::r)):cM s a={ aH (if c=61 then 10 else 11) a (a+(Δ m).length + 2)with n:=(m:Int) }:=by
 rw[Lib.itoa_nonneg]at h ⊢;have h1:s.drop (a+1)=Γ m++c::r:=afO h rfl;have hall:(Γ m).all (λc=>cF (c.toNat:Int))=true:=by
  have:=tu m;unfold dE at this;rw[zae]at this;exact this.2
 have hrun:aT cF (Γ m++c::r)=(Γ m).length:=by
  rw[BA cF _ _ hall];rcases hc with rfl|rfl<;>simp[aT,cF]
 have hlen:=QM m hm;have QN:1≤(Γ m).length:=by
  cases hd:Γ m with
  |nil=>exact absurd hd (nu m)
  |cons x q=>simp
 have h2:s.drop (a+1+(Γ m).length)=c::r:=afO h1 (by simp);have hcut:dL s (a+1) (a+1+(Γ m).length)=Γ m:=by
  simp only[dL,h1];rw[show a+1+(Γ m).length - (a+1)=(Γ m).length by omega];simp
 have hl:bZ s a=some { aH (if c=61 then 10 else 11) a (a+(Γ m).length + 2)with n:=(m:Int) }:=by
  unfold bZ;dsimp only;rw[h1,hrun,zaa (by omega),h2,hcut,ny m (by omega)];dsimp only;rcases hc with rfl|rfl
  ·rw[zab (by decide),zab rfl];simp[aH];omega
  ·rw[zaa (by decide),zab (by decide),zaa (by decide)];simp[aH];omega
 cases hd:Γ m with
 |nil=>exact absurd hd (nu m)
 |cons x q=>
  have hx:=gQ m x (by rw[hd];exact zaD);unfold cM;rw[h];dsimp only;rw[zaa (by decide),zaa (by decide),zaa (by decide),zaa (by decide),zab (by decide)];unfold ed;rw[h1,hd,zam];dsimp only;rw[zaa (by omega),zaa (by omega),zaa (by omega),hl,hd];rfl
theorem U5 {c:UInt8}{l:List UInt8}(h:s.drop a=c::l)(h1:gH c=false)(h2:c.toNat≠59)(h3:cN (c::l)=false):aR s a=cM s a:=by
 have:=MZ (k:=0) h (by simp[dB,h1,h2,h3]);simpa using this
theorem U6 {l:List UInt8}(h:s.drop a=32::l):aR s a=aR s (a+1):=by
 have h1:s.drop (a+1)=l:=afO h rfl;unfold aR jg;rw[h,h1];simp only[zar,dB,show gH 32=true from rfl,if_true]
 congr 1
 omega
end
def Pos (T:List Tok)(s:List UInt8)(k a:Nat):Prop:=a≤s.length∧∃n,s.length-a<n∧T.drop k=aw n s a
section
variable {T:List Tok}{s:List UInt8}{k a:Nat}
theorem Pos.start (s:List UInt8):Pos (aw (s.length+1) s 0) s 0 0:=⟨zaq _,s.length+1,by omega,by simp⟩
theorem Pos.tok (h:Pos T s k a):T[k]?=some (aR s a):=by
 obtain⟨_,n,hn,hd⟩:=h;obtain⟨n,rfl⟩:∃m,n=m+1:=⟨n-1,by omega⟩;have:(T.drop k)[0]?=some (aR s a):=by
  rw[hd,aw];split<;>rfl
 simpa using this
theorem Pos.next (h:Pos T s k a)(hl:(aR s a).lastB=false):Pos T s (k+1) (aR s a).gw:=by
 obtain⟨ha,n,hn,hd⟩:=h;obtain⟨n,rfl⟩:∃m,n=m+1:=⟨n-1,by omega⟩;have hf:=ju (s:=s) (a:=a) ha;have hlt:=(hf.2.2 hl).1;have hle:=hf.2.1;refine⟨hle,n,by omega,?_⟩;rw[aw,zaa (by simp[hl])]at hd;rw[show k+1=1+k by omega,Nat.add_comm,←zcn,hd];rfl
theorem Pos.sp {l:List UInt8}(h:Pos T s k a)(hs:s.drop a=32::l):Pos T s k (a+1):=by
 obtain⟨ha,n,hn,hd⟩:=h;have hlen:a<s.length:=by
  have:=zak List.length hs;simp at this;omega
 refine⟨hlen,n,by omega,?_⟩;obtain⟨n,rfl⟩:∃m,n=m+1:=⟨n-1,by omega⟩;rw[hd,aw,aw,U6 hs]
theorem Pos.Jj (h:Pos T s k a){c:UInt8}{l:List UInt8}(hs:s.drop a=c::l)(h1:gH c=false)(h2:c.toNat≠59)(h3:cN (c::l)=false){t:Tok}(ht:cM s a=t):T[k]?=some t∧(t.lastB=false→Pos T s (k+1) t.gw):=by
 have e:=U5 hs h1 h2 h3;rw[ht]at e;exact⟨by rw[h.tok,e],λhl=>by have:=h.next (by rw[e];exact hl);rw[e]at this;exact this⟩
end
def Ev (P:Nat→Prop):Prop:=∃m0,∀m,m0≤m→P m
theorem Ev.S6 {P Q:Nat→Prop}(h:Ev P)(hq:∀m,P m→Q (m+1)):Ev Q:=by
 obtain⟨m0,h⟩:=h;exact⟨m0+1,λm hm=>by
  obtain⟨m,rfl⟩:∃x,m=x+1:=⟨m-1,by omega⟩;exact hq m (h m (by omega))⟩
theorem Ev.and {P Q:Nat→Prop}(h:Ev P)(k:Ev Q):Ev λm=>P m∧Q m:=by
 obtain⟨m0,h⟩:=h;obtain⟨m1,k⟩:=k;exact⟨max m0 m1,λm hm=>⟨h m (by omega),k m (by omega)⟩⟩
theorem Ev.all {P:Nat→Prop}(h:∀m,P m):Ev P:=⟨0,λm _=>h m⟩
section
variable (G:List Nd)(lam:Int→Nat)(ck:Nat→Option Nat)
def qT (x:Nat):Nd:=G.getD x ⟨0,[],0,0,[],none,0⟩
def Wd:Dt→List Nat→Prop
 |.nil,l=>∃a,l=[a]∧aJ G a=0
 |.sym w,l=>∃a,l=[a]∧aJ G a=4∧(qT G a).text=w
 |.num n d,l=>∃a,l=[a]∧aJ G a=5∧(qT G a).n=n∧(qT G a).d=d
 |.cD n,l=>∃a,l=[a]∧aJ G a=6∧(qT G a).n=n
 |.kB n,l=>∃a,l=[a]∧aJ G a=7∧(qT G a).n=n
 |.txt i w,l=>∃a,l=[a]∧aJ G a=3∧(qT G a).text=w∧ck i=some a
 |.pair i u v,l=>∃a,l=[a]∧aJ G a=1∧ck i=some a∧Wd u [(ai G a).getD 0 0]∧Wd v [(ai G a).getD 1 0]
 |.vec i u,l=>∃a,l=[a]∧aJ G a=2∧ck i=some a∧Wd u (ai G a)
 |.put m u,l=>Wd u l∧∃a,l=[a]∧lam m=a
 |.ask m,l=>∃a,l=[a]∧lam m=a
 |.cZ,l=>l=[]
 |.br u v,l=>∃a q,l=a::q∧Wd u [a]∧Wd v q
end
section
variable {G:List Nd}{lam:Int→Nat}{ck je:Nat→Option Nat}
theorem Wd.mono:∀{d:Dt} {l:List Nat},(∀i∈aY d,je i=ck i)→Wd G lam ck d l→Wd G lam je d l
 |.nil,_,_,h=>h
 |.sym _,_,_,h=>h
 |.num _ _,_,_,h=>h
 |.cD _,_,_,h=>h
 |.kB _,_,_,h=>h
 |.txt i w,l,hp,⟨a,h1,h2,h3,h4⟩=>⟨a,h1,h2,h3,(hp i (by simp[aY])).trans h4⟩
 |.pair i u v,l,hp,⟨a,h1,h2,h3,h4,h5⟩=>⟨a,h1,h2,(hp i (by simp[aY])).trans h3,h4.mono λj hj=>hp j (by simp[aY,hj]),h5.mono λj hj=>hp j (by simp[aY,hj])⟩
 |.vec i u,l,hp,⟨a,h1,h2,h3,h4⟩=>⟨a,h1,h2,(hp i (by simp[aY])).trans h3,h4.mono λj hj=>hp j (by simp[aY,hj])⟩
 |.put m u,l,hp,⟨h1,h2⟩=>⟨h1.mono λj hj=>hp j (by simpa[aY]using hj),h2⟩
 |.ask _,_,_,h=>h
 |.cZ,_,_,h=>h
 |.br u v,l,hp,⟨a,q,h1,h2,h3⟩=>⟨a,q,h1,h2.mono λj hj=>hp j (by simp[aY,hj]),h3.mono λj hj=>hp j (by simp[aY,hj])⟩
def Ch (G:List Nd)(lam:Int→Nat)(ck:Nat→Option Nat):List Nat→List Dt→Nat→Prop
 |[],[],_=>True
 |b::bs,d::ds,r=>aJ G b=1∧Wd G lam ck d [(ai G b).getD 0 0]∧(ai G b).getD 1 0=bs.headD r∧Ch G lam ck bs ds r
 |_,_,_=>False
theorem Ch.mono:∀{bs:List Nat} {ds:List Dt} {r:Nat},(∀d∈ds,∀i∈aY d,je i=ck i)→Ch G lam ck bs ds r→Ch G lam je bs ds r
 |[],[],_,_,_=>trivial
 |b::bs,d::ds,r,hp,⟨h1,h2,h3,h4⟩=>⟨h1,h2.mono λi hi=>hp d (by simp) i hi,h3,h4.mono λx hx i hi=>hp x (by simp[hx]) i hi⟩
 |[],_::_,_,_,h=>h
 |_::_,[],_,_,h=>h
theorem Ch.len:∀{bs:List Nat} {ds:List Dt} {r:Nat},Ch G lam ck bs ds r→bs.length=ds.length
 |[],[],_,_=>rfl
 |_::_,_::_,_,⟨_,_,_,h4⟩=>by simp[h4.len]
 |[],_::_,_,h=>h.elim
 |_::_,[],_,h=>h.elim
theorem Ch.snoc:∀{bs:List Nat} {ds:List Dt} {r r':Nat} {d:Dt},Ch G lam ck bs ds r→aJ G r=1→Wd G lam ck d [(ai G r).getD 0 0]→(ai G r).getD 1 0=r'→Ch G lam ck (bs++[r]) (ds++[d]) r'
 |[],[],r,r',d,_,h1,h2,h3=>⟨h1,h2,h3,trivial⟩
 |b::bs,x::ds,r,r',d,⟨g1,g2,g3,g4⟩,h1,h2,h3=>⟨g1,g2,by cases bs<;>simpa using g3,g4.snoc h1 h2 h3⟩
 |[],_::_,_,_,_,h,_,_,_=>h.elim
 |_::_,[],_,_,_,h,_,_,_=>h.elim
def uK (ck:Nat→Option Nat)(i:Nat)(bs:List Nat):Nat→Option Nat:=λx=>if i≤x∧x<i+bs.length then bs[bs.length-1-(x-i)]? else ck x
theorem pW {i:Nat}{bs:List Nat}{x:Nat}(h:x<i):uK ck i bs x=ck x:=by unfold uK;rw[zaa (by omega)]
theorem BZ {i b:Nat}{bs:List Nat}{x:Nat}(h:x<i+bs.length):uK ck i (b::bs) x=uK ck i bs x:=by
 unfold uK;by_cases hx:i≤x
 ·rw[zab ⟨hx,by simp;omega⟩,zab ⟨hx,h⟩];have:(b::bs).length - 1-(x-i)=(bs.length-1-(x-i))+1:=by simp;omega
  rw[this,zcw]
 ·rw[zaa (by omega),zaa (by omega)]
theorem tC {i r:Nat}{rest:Dt}:∀{bs:List Nat} {ds:List Dt},Ch G lam ck bs ds r→Wd G lam ck rest [r]→(∀d∈ds,∀j∈aY d,j<i)→(∀j∈aY rest,j<i)→Wd G lam (uK ck i bs) (aU ds rest i).1 [bs.headD r]∧∀j∈aY (aU ds rest i).1,j<i+bs.length
 |[],[],_,hr,_,h2=>⟨hr.mono λj hj=>pW (h2 j hj),λj hj=>by have:=h2 j (by simpa[aU]using hj);simpa using this⟩
 |b::bs,d::ds,⟨g1,g2,g3,g4⟩,hr,h1,h2=>by
  obtain⟨i1,i2⟩:=tC g4 hr (λx hx=>h1 x (by simp[hx])) h2;have hlen:=g4.len;simp only[aU,eI];have hd:∀j∈aY d,j<i:=h1 d (by simp);refine⟨⟨b,rfl,g1,?_,?_,?_⟩,?_⟩
  ·unfold uK;rw[zab ⟨by omega,by simp;omega⟩];have:(b::bs).length - 1-(i+ds.length-i)=0:=by simp;omega
   rw[this];rfl
  ·exact g2.mono λj hj=>pW (hd j hj)
  ·rw[g3];exact i1.mono λj hj=>BZ (i2 j hj)
  ·intro j hj;simp only[aY,zal,zaF]at hj;simp only[zar];rcases hj with rfl|hj|hj
   ·omega
   ·have:=hd j hj;omega
   ·have:=i2 j hj;omega
 |[],_::_,h,_,_,_=>h.elim
 |_::_,[],h,_,_,_=>h.elim
end
end Go.Proofs.YtlhimdjkkiflhaaGreatDoor
namespace Go.Loop
theorem di {t:TS}{p:List UInt8}(h:(t.add p).long=false):t.long=false∧(t.add p).out=t.out++p:=by
 unfold TS.add at h ⊢;split at h
 ·rename_i hl;rw[hl]at h;cases h
 ·rename_i hl;rw[zaa hl];split at h
  ·cases h
  ·rename_i h4;rw[zaa h4];exact⟨by simpa using hl,rfl⟩
theorem zl {t:TS}{a:Nat}(h:(t.put a).long=false):t.long=false∧(t.put a).out=t.out++(35::(Δ t.next++[61])):=di (p:=35::(Δ t.next++[61])) h
def jZ (node:TS→Nat→TS):Bool→List Nat→TS→TS
 |_,[],t=>t
 |b,x::l,t=>jZ node false l (node (if b then t else t.add [32]) x)
theorem B0 (node:TS→Nat→TS):∀(l:List Nat) (b:Bool) (x:Nat) (t:TS),jZ node b (l++[x]) t=node (if b&&l.isEmpty then jZ node b l t else(jZ node b l t).add [32]) x
 |[],b,x,t=>by cases b<;>rfl
 |y::l,b,x,t=>by
  simp only[zam,jZ];rw[B0 node l false x];simp
theorem zm (node:TS→Nat→TS)(l:List Nat)(t:TS):∀k,k≤l.length→fY node l k t=jZ node true (l.take k) t
 |0,_=>rfl
 |k+1,h=>by
  rw[fY,zm node l t k (by omega),zcv (by omega),B0];have e:l.getD k 0=l[k]:=by simp[List.getD,List.getElem?_eq_getElem (show k<l.length by omega)]
  rw[e];cases k with
  |zero=>simp
  |succ k=>
   cases l with
   |nil=>simp at h
   |cons x l=>simp
theorem pX (node:TS→Nat→TS)(l:List Nat)(t:TS):fY node l l.length t=jZ node true l t:=by
 rw[zm node l t _ (zac _),List.take_length]
structure Gr (t t':TS):Prop where
 nl:t.long=false
 out:∃q,t'.out=t.out++q
 cE:∀b,0≤t.cE.getD b (-1)→t'.cE.getD b (-1)=t.cE.getD b (-1)
theorem Gr.refl {t:TS}(h:t.long=false):Gr t t:=⟨h,⟨[],by simp⟩,λ_ _=>rfl⟩
theorem Gr.trans {a b c:TS}(h:Gr a b)(k:Gr b c):Gr a c:=by
 obtain⟨q,hq⟩:=h.out;obtain⟨r,hr⟩:=k.out;refine⟨h.nl,⟨q++r,by rw[hr,hq,zbK]⟩,λx hx=>?_⟩;rw[k.cE x (by rw[h.cE x hx];exact hx),h.cE x hx]
theorem Gr.add {t:TS}{p:List UInt8}(h:(t.add p).long=false):Gr t (t.add p):=⟨(di h).1,⟨p,(di h).2⟩,λb _=>by rw[gX]⟩
theorem Gr.put {t:TS}{a:Nat}(h:(t.put a).long=false)(ha:t.cE.getD a (-1)<0):Gr t (t.put a):=by
 refine⟨(zl h).1,⟨_,(zl h).2⟩,λb hb=>?_⟩;show(t.cE.set a t.next).getD b (-1)=_;have hne:a≠b:=λe=>by subst e;omega
 simp only[List.getD,List.getElem?_set,zaa hne]
theorem Gr.len {t t':TS}(h:Gr t t'):t.out.length≤t'.out.length:=by
 obtain⟨q,hq⟩:=h.out;rw[hq];simp
section
variable {K:Nat→Int}{S:Nat→List Nat}{At:Nat→List UInt8}{L:Nat→Bool}
theorem lM {node:TS→Nat→TS}(hn:∀t y,(node t y).long=false→Gr t (node t y)):∀(l:List Nat) (b:Bool) (t:TS),(jZ node b l t).long=false→Gr t (jZ node b l t)
 |[],_,t,h=>Gr.refl h
 |x::l,b,t,h=>by
  simp only[jZ]at h ⊢;have i1:=lM hn l false _ h;have i2:=hn _ _ i1.nl;refine Gr.trans ?_ (i2.trans i1);cases b with
  |true=>exact Gr.refl i2.nl
  |false=>exact Gr.add i2.nl
theorem dX:∀(f:Nat) (b:Bool) (t:TS) (a:Nat),(WF K S At L f b t a).long=false→Gr t (WF K S At L f b t a)
 |0,_,t,_,h=>Gr.refl h
 |f+1,false,t,a,h=>by
  simp only[WF]at h ⊢;by_cases hl:t.long=true
  ·rw[zab hl]at h;rw[hl]at h;cases h
  ·rw[zaa hl]at h ⊢;have hl':t.long=false:=by simpa using hl
   by_cases h0:0≤t.cE.getD a (-1)
   ·rw[zab h0]at h ⊢;exact Gr.add h
   ·rw[zaa h0]at h ⊢;have hp:∀t0,t0=(if L a then t.put a else t)→t0.long=false→Gr t t0:=λt0 e hq=>by
     subst e;cases hL:L a with
     |true=>rw[hL]at hq;exact Gr.put hq (by omega)
     |false=>exact Gr.refl hl'
    by_cases h1:K a=1
    ·rw[zab h1]at h ⊢;have i1:=dX f true _ _ h;have i2:=dX f false _ _ i1.nl;have i3:=Gr.add i2.nl;exact(hp _ rfl i3.nl).trans (i3.trans (i2.trans i1))
    ·rw[zaa h1]at h ⊢;by_cases h2:K a=2
     ·rw[zab h2,pX]at h ⊢;have i1:=Gr.add h;have i2:=lM (λt y hq=>dX f false t y hq) _ _ _ i1.nl;have i3:=Gr.add i2.nl;exact(hp _ rfl i3.nl).trans (i3.trans (i2.trans i1))
     ·rw[zaa h2]at h ⊢;have i3:=Gr.add h;exact(hp _ rfl i3.nl).trans i3
 |f+1,true,t,r,h=>by
  simp only[WF]at h ⊢;by_cases h1:K r=1∧L r=false
  ·rw[zab h1]at h ⊢;have i1:=dX f true _ _ h;have i2:=dX f false _ _ i1.nl;exact(Gr.add i2.nl).trans (i2.trans i1)
  ·rw[zaa h1]at h ⊢;by_cases h0:K r=0
   ·rw[zab h0]at h ⊢;exact Gr.add h
   ·rw[zaa h0]at h ⊢;have i1:=Gr.add h;have i2:=dX f false _ _ i1.nl;exact(Gr.add i2.nl).trans (i2.trans i1)
theorem B1 {f:Nat}{t:TS}{r:Nat}(h:(WF K S At L (f+1) true t r).long=false):∃c q,(c=32∨c=41)∧(WF K S At L (f+1) true t r).out=t.out++c::q:=by
 simp only[WF]at h ⊢;by_cases h1:K r=1∧L r=false
 ·rw[zab h1]at h ⊢;have i1:=dX f true _ _ h;have i2:=dX f false _ _ i1.nl;obtain⟨q,hq⟩:=(i2.trans i1).out;refine⟨32,q,.inl rfl,?_⟩;rw[hq,(di i2.nl).2];simp
 ·rw[zaa h1]at h ⊢;by_cases h0:K r=0
  ·rw[zab h0]at h ⊢;exact⟨41,[],.inr rfl,(di h).2⟩
  ·rw[zaa h0]at h ⊢;have i1:=Gr.add h;have i2:=dX f false _ _ i1.nl;obtain⟨q,hq⟩:=(i2.trans i1).out;refine⟨32,46::32::q,.inl rfl,?_⟩;rw[hq,(di i2.nl).2];simp
end
def Gu (node:TS→Nat→TS)(lg:TS→Nat→List Nat):Bool→List Nat→TS→List Nat
 |_,[],_=>[]
 |b,x::l,t=>lg (if b then t else t.add [32]) x++Gu node lg false l (node (if b then t else t.add [32]) x)
def WL (K:Nat→Int)(S:Nat→List Nat)(At:Nat→List UInt8)(L:Nat→Bool):Nat→Bool→TS→Nat→List Nat
 |0,_,_,_=>[]
 |f+1,false,t,a=>
  if 0≤t.cE.getD a (-1)then[]
  else if K a=1 then a::(WL K S At L f false ((if L a then t.put a else t).add [40]) ((S a).getD 0 0)++WL K S At L f true (WF K S At L f false ((if L a then t.put a else t).add [40]) ((S a).getD 0 0)) ((S a).getD 1 0))
  else if K a=2 then a::Gu (WF K S At L f false) (WL K S At L f false) true (S a) ((if L a then t.put a else t).add [35,40])
  else if K a=3 then[a]else[]
 |f+1,true,t,r=>
  if K r=1∧L r=false then r::(WL K S At L f false (t.add [32]) ((S r).getD 0 0)++WL K S At L f true (WF K S At L f false (t.add [32]) ((S r).getD 0 0)) ((S r).getD 1 0))
  else if K r=0 then[]
  else WL K S At L f false (t.add [32,46,32]) r
def cn (ck:Nat→Option Nat)(c:Nat)(l:List Nat):Nat:=l.countP λi=>ck i==some c
theorem pY (ck:Nat→Option Nat)(c:Nat)(l r:List Nat):cn ck c (l++r)=cn ck c l+cn ck c r:=by simp[cn]
theorem nC (ck:Nat→Option Nat)(c i:Nat)(l:List Nat):cn ck c (i::l)=(if ck i=some c then 1 else 0)+cn ck c l:=by
 simp only[cn,List.countP_cons];by_cases h:ck i=some c
 ·rw[zab h];simp[h];omega
 ·rw[zaa h];simp[h]
theorem Jk (ck:Nat→Option Nat)(c:Nat):cn ck c []=0:=rfl
theorem nD {ck je:Nat→Option Nat}(c:Nat):∀{l:List Nat},(∀i∈l,je i=ck i)→cn je c l=cn ck c l
 |[],_=>rfl
 |i::l,h=>by rw[nC,nC,h i (by simp),nD c λj hj=>h j (by simp[hj])]
theorem lN (c a:Nat)(l:List Nat):(a::l).count c=(if some a=some c then 1 else 0)+l.count c:=by
 rw[List.count_cons];by_cases h:a=c
 ·subst h;simp;omega
 ·rw[zaa (by simpa using h)];simp[h]
end Go.Loop
namespace Go.Proofs.YtlhimdjkkiflhaaGreatDoor
open Go.RowKit Go.Loop
def B2 {α:Type}(X:Nat→RR α)(P:α→eD→(Nat→Option Nat)→Prop):Prop:=(∃e,Ev λm=>X m=.fail 6 e)∨∃d σ ck,Ev (λm=>X m=.ok d σ)∧P d σ ck
theorem B2.mono {α:Type}{X:Nat→RR α}{P Q:α→eD→(Nat→Option Nat)→Prop}(h:B2 X P)(k:∀d σ ck,P d σ ck→Q d σ ck):B2 X Q:=
 h.imp id λ⟨d,σ,ck,h1,h2⟩=>⟨d,σ,ck,h1,k _ _ _ h2⟩
theorem B2.S6 {α:Type}{X Y:Nat→RR α}{P:α→eD→(Nat→Option Nat)→Prop}(h:B2 X P)(hy:Ev λm=>Y (m+1)=X m):B2 Y P:=by
 rcases h with⟨e,h⟩|⟨d,σ,ck,h1,h2⟩
 ·exact .inl ⟨e,(h.and hy).S6 λm q=>q.2.trans q.1⟩
 ·exact .inr ⟨d,σ,ck,(h1.and hy).S6 λm q=>q.2.trans q.1,h2⟩
theorem B2.bind {α β:Type}{X:Nat→RR α}{Y:Nat→RR β}{Z:α→eD→Nat→RR β}{P:α→eD→(Nat→Option Nat)→Prop}{Q:β→eD→(Nat→Option Nat)→Prop}(h:B2 X P)(hy:Ev λm=>Y (m+1)=(X m).bind λd s=>Z d s m)(hz:∀d σ ck,P d σ ck→B2 (Z d σ) Q):B2 Y Q:=by
 rcases h with⟨e,h⟩|⟨d,σ,ck,h1,h2⟩
 ·exact .inl ⟨e,(h.and hy).S6 λm q=>by rw[q.2,q.1];rfl⟩
 ·rcases hz d σ ck h2 with⟨e,k⟩|⟨d',Oc,je,k1,k2⟩
  ·exact .inl ⟨e,((h1.and hy).and k).S6 λm q=>by rw[q.1.2,q.1.1];exact q.2⟩
  ·exact .inr ⟨d',Oc,je,((h1.and hy).and k1).S6 λm q=>by rw[q.1.2,q.1.1];exact q.2,k2⟩
theorem Ev.ji {P:Nat→Prop}(h:∀m,P (m+1)):Ev P:=⟨1,λm hm=>by
 obtain⟨m,rfl⟩:∃x,m=x+1:=⟨m-1,by omega⟩;exact h m⟩
theorem Ev.XG {P:Nat→Prop}(h:∀m,P (m+2)):Ev P:=⟨2,λm hm=>by
 obtain⟨m,rfl⟩:∃x,m=x+2:=⟨m-2,by omega⟩;exact h m⟩
structure Tk (t:Tok):Prop where
 n0:t.kind≠0
 n1:t.kind≠1
 n3:t.kind≠3
 n6:t.kind≠6
 n7:t.kind≠7
section
variable {T:List Tok}{k fr:Nat}{ak:List Int}{p:Pl}{τ:Tok}{ds:List Dt}
theorem zn (hT:T[k]?=some τ)(h0:τ.kind≠0)(h1:τ.kind≠1)(h6:τ.kind≠6)(m:Nat):aM T 30 (m+1) p ⟨k,fr,ak⟩=.ok τ ⟨k+1,fr,ak⟩:=by
 unfold aM;dsimp only;rw[hT];dsimp only;rw[zaa h0,zaa h1,zaa h6]
theorem Jl (hT:T[k]?=some τ)(h:Tk τ)(m:Nat):ay T 30 (m+2) p ⟨k,fr,ak⟩=aL T 30 (m+1) τ p ⟨k+1,fr,ak⟩:=by
 rw[ay,zn hT h.n0 h.n1 h.n6];rfl
theorem QT (hT:T[k]?=some τ)(h:Tk τ)(m:Nat):bh T 30 (m+2) ds p ⟨k,fr,ak⟩=(aL T 30 (m+1) τ p ⟨k+1,fr,ak⟩).bind λd s=>bh T 30 (m+1) (ds++[d]) p s:=by
 rw[bh,zn hT h.n0 h.n1 h.n6];show(if τ.kind=3 then _ else _)=_;rw[zaa h.n3,zaa (λq=>h.n7 q.1)]
theorem ab2 (hT:T[k]?=some τ)(h:Tk τ)(hd:ds.length≠20)(m:Nat):cy T 30 (m+2) ds p ⟨k,fr,ak⟩=(aL T 30 (m+1) τ p ⟨k+1,fr,ak⟩).bind λd s=>cy T 30 (m+1) (ds++[d]) p s:=by
 rw[cy,zn hT h.n0 h.n1 h.n6];show(if τ.kind=3 then _ else _)=_;rw[zaa h.n3,zaa hd]
theorem QU (hT:T[k]?=some τ)(h:τ.kind=3)(m:Nat):bh T 30 (m+2) ds p ⟨k,fr,ak⟩=.ok (aU ds .nil fr).1 ⟨k+1,fr+ds.length,ak⟩:=by
 rw[bh,zn hT (by omega) (by omega) (by omega)];show(if τ.kind=3 then _ else _)=_;rw[zab h];simp only[eI]
theorem ab3 (hT:T[k]?=some τ)(h:τ.kind=3)(m:Nat):cy T 30 (m+2) ds p ⟨k,fr,ak⟩=.ok ds ⟨k+1,fr,ak⟩:=by
 rw[cy,zn hT (by omega) (by omega) (by omega)];show(if τ.kind=3 then _ else _)=_;rw[zab h]
theorem ZM (hT:T[k]?=some τ)(h:τ.kind=7)(hd:ds≠[])(m:Nat):bh T 30 (m+2) ds p ⟨k,fr,ak⟩=(ay T 30 (m+1) p ⟨k+1,fr,ak⟩).bind λrest s=>(aM T 30 (m+1) p s).bind λt s=>if t.kind=3 then .ok (aU ds rest s.fresh).1 { s with fresh:=(aU ds rest s.fresh).2 } else .fail 3 t.from_:=by
 rw[bh,zn hT (by omega) (by omega) (by omega)];show(if τ.kind=3 then _ else _)=_;rw[zaa (by omega),zab ⟨h,hd⟩]
end
section
variable {T:List Tok}{p:Pl}{τ:Tok}{σ:eD}{m:Nat}
theorem qU (n:Nat)(h:τ.kind=n)(hn:n≠0∧n≠1∧n≠3∧n≠6∧n≠7):Tk τ:=by
 subst h;exact⟨hn.1,hn.2.1,hn.2.2.1,hn.2.2.2.1,hn.2.2.2.2⟩
theorem mF (n:Nat)(h:τ.kind=n)(hn:n≠3∧n≠7∧n≠10∧n≠11∧n≠2∧n≠5∧n≠4):aL T 30 (m+1) τ p σ=j9 τ σ:=by
 subst h;rw[aL,zaa (by omega),zaa (by omega),zaa (by omega),zaa (by omega)]
theorem mE (h:τ.kind=2):aL T 30 (m+1) τ p σ=if p.depth=30 then .fail 6 τ.from_ else bh T 30 m [] ⟨p.depth+1,p.passed,[]⟩ σ:=by
 rw[aL,zaa (by omega),zaa (by omega),zaa (by omega),zab (by omega)];split
 ·rfl
 ·rw[zaa (by omega),zaa (by omega)]
theorem ze (h:τ.kind=5):aL T 30 (m+1) τ p σ=if p.depth=30 then .fail 6 τ.from_ else(cy T 30 m [] ⟨p.depth+1,p.passed,[]⟩ { σ with fresh:=σ.fresh+1 }).bind λl s'=> .ok (.vec σ.fresh (fX l)) s':=by
 rw[aL,zaa (by omega),zaa (by omega),zaa (by omega),zab (by omega)];split
 ·rfl
 ·rfl
theorem Gv (h:τ.kind=10)(hp:p.passed=false)(hl:τ.n∉σ.ak):aL T 30 (m+1) τ p σ=if p.depth=30 then .fail 6 τ.from_ else(ay T 30 m ⟨p.depth+1,p.passed,p.ahead++[τ.n]⟩ { σ with ak:=τ.n::σ.ak }).bind λd s=> .ok (.put τ.n d) s:=by
 rw[aL,zaa (by omega),zab h,zaa (by
  rw[hp];rintro (e|e)
  ·cases e
  ·exact hl e)]
theorem QV (h:τ.kind=11)(hp:p.passed=false)(ha:p.ahead=[])(hl:τ.n∈σ.ak):aL T 30 (m+1) τ p σ=.ok (.ask τ.n) σ:=by
 rw[aL,zaa (by omega),zaa (by omega),zab h,zaa (by
  rw[hp,ha];rintro (e|e|e)
  ·cases e
  ·exact e hl
  ·cases e)]
end
section
variable (G:List Nd)(s:List UInt8)(T:List Tok)(lam:Int→Nat)
structure AX (t:TS) (k:Nat) (ak:List Int):Prop where
 pos:Pos T s k t.out.length
 ak:∀m:Int,m∈ak↔0≤m∧m<t.next
structure Fin (t:TS):Prop where
 nl:t.long=false
 pre:∃r,s=t.out++r
 lam:∀b,0≤t.cE.getD b (-1)→lam (t.cE.getD b (-1))=b
def Lt (T:List Tok)(k:Nat)(t:TS):Prop:=∃j τ,k=j+1∧T[j]?=some τ∧τ.gw=t.out.length
structure Va (t':TS) (fr:Nat) (ck:Nat→Option Nat) (l:List Nat) (lg:List Nat) (d:Dt) (σ:eD) (je:Nat→Option Nat):Prop where
 at_:AX s T t' σ.k σ.ak
 Na:fr≤σ.fresh
 old:∀i,i<fr→je i=ck i
 wd:Wd G lam je d l
 ids:∀i∈aY d,i<σ.fresh
 last:Lt T σ.k t'
 cnt:∀c,cn je c (aY d)=lg.count c
end
section
variable {G:List Nd}{s:List UInt8}{T:List Tok}{lam:Int→Nat}{t t':TS}{k fr:Nat}{ak:List Int}{ck:Nat→Option Nat}{p:Pl}
theorem Fin.of {t t':TS}(h:Fin s lam t')(g:Gr t t'):Fin s lam t:=by
 obtain⟨q,hq⟩:=g.out;obtain⟨r,hr⟩:=h.pre;refine⟨g.nl,⟨q++r,by rw[hr,hq,zbK]⟩,λb hb=>?_⟩;have e:=g.cE b hb;have:=h.lam b (by rw[e];exact hb);rw[e]at this;exact this
theorem Fin.drop {q:List UInt8}(h:Fin s lam t')(hq:t'.out=t.out++q):s.drop t.out.length=q++s.drop t'.out.length∧t'.out.length=t.out.length+q.length:=by
 obtain⟨r,hr⟩:=h.pre;refine⟨?_,by rw[hq];simp⟩;rw[hr,hq,zbK,List.drop_left,←zbK,List.drop_left]
theorem Va.from {J0:Nat}{zo:Nat→Option Nat}{l lg:List Nat}{d:Dt}{σ:eD}{je:Nat→Option Nat}(h:Va G s T lam t' J0 zo l lg d σ je)(h1:fr≤J0)(h2:∀i,i<fr→zo i=ck i):Va G s T lam t' fr ck l lg d σ je:=
 ⟨h.at_,zag h1 h.Na,λi hi=>(h.old i (by omega)).trans (h2 i hi),h.wd,h.ids,h.last,h.cnt⟩
theorem AX.same {t t':TS}(h:AX s T t k ak)(ho:Pos T s k t'.out.length)(hn:t'.next=t.next):AX s T t' k ak:=⟨ho,λm=>by rw[h.ak,hn]⟩
theorem AX.tok {c:UInt8}{l:List UInt8}{τ:Tok}(h:AX s T t k ak)(hs:s.drop t.out.length=c::l)(h1:gH c=false)(h2:c.toNat≠59)(h3:cN (c::l)=false)(ht:cM s t.out.length=τ)(hl:τ.lastB=false):T[k]?=some τ∧Pos T s (k+1) τ.gw:=by
 obtain⟨e1,e2⟩:=h.pos.Jj hs h1 h2 h3 ht;exact⟨e1,e2 hl⟩
theorem Jm {w:List UInt8}(h:ir w=true):∃c q,w=c::q∧gH c=false∧c.toNat≠59∧c≠35:=by
 unfold ir at h;simp only[zae]at h;cases w with
 |nil=>simp at h
 |cons c q=>
  have hc:bq (c.toNat:Int)=true:=by
   have:=h.2;simp only[zap,zae]at this;exact this.1
  refine⟨c,q,rfl,?_,λe=>(by rw[e]at hc;cases hc),λe=>(by subst e;cases hc)⟩;unfold gH;rw[zaS];rintro (e|e|e)<;>(rw[e]at hc;cases hc)
theorem Nb {n d:Int}(hn:lT n d=true):∃c q,dV n d=c::q∧gH c=false∧c.toNat≠59∧c≠35:=by
 unfold lT at hn;obtain⟨_,_,n1,n2,_⟩:=of_decide_eq_true hn;obtain⟨_,_,g3,g4,_⟩:=Dy n n1 n2;cases hi:Δ n with
 |nil=>exact absurd hi g4
 |cons c q=>
  rw[hi]at g3;have hc:bq (c.toNat:Int)=true:=by
   simp only[zap,zae]at g3;exact g3.1
  have:∃q',dV n d=c::q':=by
   unfold dV;split
   ·exact⟨q,hi⟩
   ·exact⟨_,by rw[hi,zam]⟩
  obtain⟨q',hq'⟩:=this;refine⟨c,q',hq',?_,λe=>(by rw[e]at hc;cases hc),λe=>(by subst e;cases hc)⟩;unfold gH;rw[zaS];rintro (e|e|e)<;>(rw[e]at hc;cases hc)
theorem QW {a:Nat}{x:Nd}(hx:G[a]?=some x)(hk:aQ x=true)(n1:x.kind≠1)(n2:x.kind≠2)(hF:Fin s lam t')(hq:t'.out=t.out++eU x)(qa:t'.next=t.next)(hD:Dl (s.drop t'.out.length))(hA:AX s T t k ak):∃τ,T[k]?=some τ∧Tk τ∧B2 (λm=>aL T 30 m τ p ⟨k+1,fr,ak⟩) (Va G s T lam t' fr ck [a] (if x.kind=3 then[a]else[])):=by
 obtain⟨hs,hlen⟩:=hF.drop hq;have hK:aJ G a=x.kind:=by unfold aJ;rw[hx]
 have hN:qT G a=x:=by unfold qT;simp[List.getD,hx]
 unfold aQ at hk;unfold eU at hs hq hlen;by_cases k0:x.kind=0
 ·rw[zab k0]at hs hlen;have hs0:s.drop t.out.length=40::41::s.drop t'.out.length:=hs;obtain⟨e1,e2⟩:=hA.tok hs0 (by decide) (by decide) (jE (by decide)) (KI hs0) rfl;have QX:Pos T s (k+1) (t.out.length+1):=e2;have hs1:s.drop (t.out.length+1)=41::s.drop t'.out.length:=afO hs0 rfl;obtain⟨f1,f2⟩:=QX.Jj hs1 (by decide) (by decide) (jE (by decide)) (tq hs1);have f3:Pos T s (k+2) (t.out.length+2):=f2 rfl;refine⟨_,e1,qU 2 rfl (by decide),?_⟩;by_cases qz:p.depth=30
  ·exact .inl ⟨t.out.length,Ev.ji λm=>by
    show aL T 30 (m+1) _ _ _=_;rw[mE rfl,zab qz];rfl⟩
  ·refine .inr ⟨.nil,⟨k+2,fr,ak⟩,ck,⟨3,λm hm=>?_⟩,⟨⟨by rw[hlen];exact f3,λm=>by rw[hA.ak,qa]⟩,zac _,λ_ _=>rfl,⟨a,rfl,by rw[hK];exact k0⟩,λi hi=>(by cases hi),⟨k+1,_,rfl,f1,hlen.symm⟩,λc=>by rw[zaa (by omega)];rfl⟩⟩;obtain⟨m,rfl⟩:∃y,m=y+3:=⟨m-3,by omega⟩;show aL T 30 (m+2+1) _ _ _=_;rw[mE rfl,zaa qz];exact QU f1 rfl m
 ·rw[zaa k0]at hs hlen;rw[zaa k0,zaa n1,zaa n2]at hk;by_cases k3:x.kind=3
  ·rw[zab k3]at hs hlen;have ht:=QK hs;have hs0:s.drop t.out.length=34::(x.text.flatMap mB++[34]++s.drop t'.out.length):=by rw[hs];simp[lZ]
   obtain⟨e1,e2⟩:=hA.tok hs0 (by decide) (by decide) (jE (by decide)) ht rfl;have QX:Pos T s (k+1) (t.out.length+(lZ x.text).length):=e2;refine⟨_,e1,qU 8 rfl (by decide),.inr ⟨.txt fr x.text,⟨k+1,fr+1,ak⟩,λi=>if i=fr then some a else ck i,Ev.ji λm=>?_,⟨⟨by rw[hlen];exact QX,λm=>by rw[hA.ak,qa]⟩,Nat.le_succ _,λi hi=>zaa (by omega),⟨a,rfl,by rw[hK];exact k3,by rw[hN],zab rfl⟩,λi hi=>(by simp[aY]at hi;subst hi;exact Nat.lt_succ_self _),⟨k,_,rfl,e1,hlen.symm⟩,λc=>by rw[zab k3,lN];simp only[aY,nC,Jk,if_true,List.count_nil]⟩⟩⟩;show aL T 30 (m+1) _ _ _=_;rw[mF 8 rfl (by decide)];rfl
  ·rw[zaa k3]at hs hlen;rw[zaa k3]at hk;by_cases k4:x.kind=4
   ·rw[zab k4]at hs hlen hk;simp only[zae,zaK]at hk;have ht:=U2 hk.2 hs hD;obtain⟨c,q,hw,hb,Uh,h35⟩:=Jm hk.2;have hs0:s.drop t.out.length=c::(q++s.drop t'.out.length):=by rw[hs,hw];rfl
    obtain⟨e1,e2⟩:=hA.tok hs0 hb Uh (jE h35) ht rfl;have QX:Pos T s (k+1) (t.out.length+x.text.length):=e2;refine⟨_,e1,qU 14 rfl (by decide),.inr ⟨.sym x.text,⟨k+1,fr,ak⟩,ck,Ev.ji λm=>?_,⟨⟨by rw[hlen];exact QX,λm=>by rw[hA.ak,qa]⟩,zac _,λ_ _=>rfl,⟨a,rfl,by rw[hK];exact k4,by rw[hN]⟩,λi hi=>(by cases hi),⟨k,_,rfl,e1,hlen.symm⟩,λc=>by rw[zaa (by omega)];rfl⟩⟩⟩;show aL T 30 (m+1) _ _ _=_;rw[mF 14 rfl (by decide)];rfl
   ·rw[zaa k4]at hs hlen hk;by_cases k5:x.kind=5
    ·rw[zab k5]at hs hlen hk;simp only[zae,zaK]at hk;have ht:=U4 hk.1 hs hD;obtain⟨c,q,hw,hb,Uh,h35⟩:=Nb hk.1;have hs0:s.drop t.out.length=c::(q++s.drop t'.out.length):=by rw[hs,hw];rfl
     obtain⟨e1,e2⟩:=hA.tok hs0 hb Uh (jE h35) ht rfl;have QX:Pos T s (k+1) (t.out.length+(dV x.n x.d).length):=e2;refine⟨_,e1,qU 13 rfl (by decide),.inr ⟨.num x.n x.d,⟨k+1,fr,ak⟩,ck,Ev.ji λm=>?_,⟨⟨by rw[hlen];exact QX,λm=>by rw[hA.ak,qa]⟩,zac _,λ_ _=>rfl,⟨a,rfl,by rw[hK];exact k5,by rw[hN],by rw[hN]⟩,λi hi=>(by cases hi),⟨k,_,rfl,e1,hlen.symm⟩,λc=>by rw[zaa (by omega)];rfl⟩⟩⟩;show aL T 30 (m+1) _ _ _=_;rw[mF 13 rfl (by decide)];rfl
    ·rw[zaa k5]at hs hlen hk;by_cases k6:x.kind=6
     ·rw[zab k6]at hs hlen hk;obtain⟨h01,_,_,_⟩:=of_decide_eq_true hk;have key:∀c:UInt8,(c=116∨c=102)→(if c=116 then(1:Int)else 0)=x.n→s.drop t.out.length=35::c::s.drop t'.out.length→t'.out.length=t.out.length+2→∃τ,T[k]?=some τ∧Tk τ∧B2 (λm=>aL T 30 m τ p ⟨k+1,fr,ak⟩) (Va G s T lam t' fr ck [a] (if x.kind=3 then[a]else[])):=by
       intro c hc hn hs0 hlen;have ht:=M0 hc hs0 hD;have hb3:cN (35::c::s.drop t'.out.length)=false:=by
        rcases hc with rfl|rfl<;>rfl
       obtain⟨e1,e2⟩:=hA.tok hs0 (by decide) (by decide) hb3 ht rfl;have QX:Pos T s (k+1) (t.out.length+2):=e2;refine⟨_,e1,qU 12 rfl (by decide),.inr ⟨.cD x.n,⟨k+1,fr,ak⟩,ck,Ev.ji λm=>?_,⟨⟨by rw[hlen];exact QX,λm=>by rw[hA.ak,qa]⟩,zac _,λ_ _=>rfl,⟨a,rfl,by rw[hK];exact k6,by rw[hN]⟩,λi hi=>(by cases hi),⟨k,_,rfl,e1,hlen.symm⟩,λc=>by rw[zaa (by omega)];rfl⟩⟩⟩;show aL T 30 (m+1) _ _ _=_;rw[mF 12 rfl (by decide),←hn];rfl
      by_cases h1:x.n=1
      ·rw[zab h1]at hs hlen;exact key 116 (.inl rfl) (by rw[h1];rfl) hs hlen
      ·rw[zaa h1]at hs hlen;exact key 102 (.inr rfl) (by rw[show x.n=0 by omega];rfl) hs hlen
     ·rw[zaa k6]at hs hlen hk;by_cases k7:x.kind=7
      ·rw[zab k7]at hk;simp only[zae,zaK]at hk;have ht:=QL hk.1 hs hD;have hs0:s.drop t.out.length=35::92::((if hasName x.n then nameOf x.n else[UInt8.ofNat x.n.toNat])++s.drop t'.out.length):=hs;obtain⟨e1,e2⟩:=hA.tok hs0 (by decide) (by decide) rfl ht rfl;have QX:Pos T s (k+1) (t.out.length+(s7 x.n).length):=e2;refine⟨_,e1,qU 9 rfl (by decide),.inr ⟨.kB x.n,⟨k+1,fr,ak⟩,ck,Ev.ji λm=>?_,⟨⟨by rw[hlen];exact QX,λm=>by rw[hA.ak,qa]⟩,zac _,λ_ _=>rfl,⟨a,rfl,by rw[hK];exact k7,by rw[hN]⟩,λi hi=>(by cases hi),⟨k,_,rfl,e1,hlen.symm⟩,λc=>by rw[zaa (by omega)];rfl⟩⟩⟩;show aL T 30 (m+1) _ _ _=_;rw[mF 9 rfl (by decide)];rfl
      ·rw[zaa k7]at hk;cases hk
end
end Go.Proofs.YtlhimdjkkiflhaaGreatDoor
