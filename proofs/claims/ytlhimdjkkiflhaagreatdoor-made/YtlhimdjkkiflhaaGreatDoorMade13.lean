import Derived.Test.YtlhimdjkkiflhaaGreatDoorMade06
import Derived.Test.YtlhimdjkkiflhaaGreatDoorMade12
set_option maxHeartbeats 8000000
set_option maxRecDepth 100000
open Go.Lib renaming decDigits→Γ,itoa→Δ
namespace Go.Loop
theorem wU:∀d:Nat,d<10→(UInt8.ofNat (48+d)).toNat=48+d:=by decide
theorem wV {Q:Nat→List UInt8→Prop}(h1:∀u,u<10→Q u [UInt8.ofNat (48+u)])(h2:∀u,10≤u→Q (u/10) (Γ (u/10))→Q u (Γ (u/10)++[UInt8.ofNat (48+u%10)])):∀u,Q u (Γ u):=by
 intro u
 induction u using Nat.strongRecOn with
 |ind u ih=>
  by_cases h:u<10
  ·rw[Lib.decDigits_one h];exact h1 u h
  ·rw[Γ,dif_neg h];exact h2 u (by omega) (ih (u/10) (by omega))
theorem gQ (u:Nat):∀c∈Γ u,48≤c.toNat∧c.toNat≤57:=
 wV (Q:=λ_ l=>∀c∈l,48≤c.toNat∧c.toNat≤57) (λu h c hc=>by
  simp only[zbA]at hc;subst hc;rw[wU u h];omega) (λu h ih c hc=>by
  rcases zaF.1 hc with hc|hc
  ·exact ih c hc
  ·simp only[zbA]at hc;subst hc;rw[wU _ (zcL _ (by omega))];omega) u
theorem nu (u:Nat):Γ u≠[]:=wV (Q:=λ_ l=>l≠[]) (λ_ _=>by simp) (λ_ _ _=>by simp) u
theorem lC (l:List UInt8)(c:UInt8):aK (l++[c])=min (aK l*10+((c.toNat:Int)-48)) 1000001:=by simp[aK,dT]
theorem ny (u:Nat):u≤1000001→aK (Γ u)=u:=
 wV (Q:=λu l=>u≤1000001→aK l=u) (λu h _=>by
  have:=lC [] (UInt8.ofNat (48+u));rw[wU u h]at this;simp only[zbm]at this;rw[this];simp only[aK,dT,List.foldl_nil];omega) (λu h ih hu=>by
  rw[lC,ih (by omega),wU _ (zcL _ (by omega))];omega) u
theorem zf:∀l:List UInt8,(∀c∈l,c.toNat≠47)→jV l=none
 |[],_=>rfl
 |c::r,h=>by
  rw[jV,zaa (h c zaD),zf r λx hx=>h x (zaQ _ hx)];rfl
theorem tu (u:Nat):dE (Γ u)=true:=by
 unfold dE;have h1:(Γ u).isEmpty=false:=by
  cases h:Γ u with
  |nil=>exact absurd h (nu u)
  |cons c r=>rfl
 rw[h1];simp only[Bool.not_false,zbI,zaC];intro c hc;have:=gQ u c hc;simp only[cF,zaK];omega
theorem tz (neg:Bool)(u:Nat)(hu:u≤1000000):numberOf neg (Γ u)=some (if neg then -(u:Int)else u,1,0):=by
 have hs:=zf (Γ u) λc hc=>by have:=gQ u c hc;omega
 have ha:=ny u (by omega);unfold numberOf;rw[hs];simp only[zbH];rw[tu u,show dE [49]=true from rfl,ha,show aK [49]=1 from rfl];simp only[Bool.and_self,if_true];rw[zaa (by omega),zaa (by omega)];simp
theorem zg (u:Nat):(Γ u).all sF=true:=by
 rw[zaC];intro c hc;have:=gQ u c hc;have hd:cF (c.toNat:Int)=true:=by simp only[cF,zaK];omega
 simp[sF,bq,hd]
theorem Gs (u:Nat):bX (Γ u)=true:=by
 cases h:Γ u with
 |nil=>exact absurd h (nu u)
 |cons c r=>
  have:=gQ u c (by rw[h];exact zaD);simp only[bX];rw[zaa (by omega)];simp only[cF,zaK];omega
theorem Dy (x:Int)(h1: -1000000≤x)(h2:x≤1000000):dH (Δ x)=some (x,1,0)∧bX (Δ x)=true∧(Δ x).all sF=true∧Δ x≠[]∧Δ x≠[46]:=by
 by_cases h0:0≤x
 ·obtain⟨u,rfl⟩:=zbq h0;rw[Lib.itoa_nonneg];have hd:=gQ u;refine⟨?_,Gs u,zg u,nu u,λe=>?_⟩
  ·have hn:=tz false u (by omega);cases h:Γ u with
   |nil=>exact absurd h (nu u)
   |cons c r=>
    have hc:=hd c (by rw[h];exact zaD);rw[dH,zaa (by omega),zaa (by omega),←h,hn];rfl
  ·have:=hd 46 (by rw[e];exact zaD);have e46:(46:UInt8).toNat=46:=rfl;omega
 ·obtain⟨u,rfl⟩:∃u:Nat,x=-(u:Int):=⟨x.natAbs,by omega⟩;rw[Lib.itoa_neg u (by omega)];have hn:=tz true u (by omega);refine⟨?_,?_,?_,by simp,λe=>?_⟩
  ·rw[dH,zab (show UInt8.toNat 45=45 from rfl),hn];rfl
  ·have hm:=Gs u;cases h:Γ u with
   |nil=>exact absurd h (nu u)
   |cons c r=>
    have hc:=gQ u c (by rw[h];exact zaD);simp only[bX];rw[zab (.inr rfl)];simp only[cF,zaK];omega
  ·rw[zap,zg];rfl
  ·have:=(List.cons.inj e).1;cases this
theorem tA:∀(w r:List UInt8),w.all sF=true→aT bq r=0→aT bq (w++r)=w.length
 |[],_,_,h=>h
 |c::w,r,h,hr=>by
  simp only[zap,zae]at h;have hc:bq (c.toNat:Int)=true:=h.1;rw[zam,aT,zab hc,tA w r h.2 hr,zar]
def abY (a:Nat)(x:Int):Tok:={ aH 13 a (a+(Δ x).length)with n:=x,d:=1 }
theorem ZK {s:List UInt8}{a:Nat}{x:Int}{r:List UInt8}(h1: -1000000≤x)(h2:x≤1000000)(h:s.drop a=Δ x++r)(hr:aT bq r=0):cM s a=abY a x:=by
 obtain⟨g1,g2,g3,g4,g5⟩:=Dy x h1 h2;have hrun:=tA _ r g3 hr;unfold abY;generalize Δ x=w at *;cases w with
 |nil=>exact absurd rfl g4
 |cons c w=>
  have hc:bq (c.toNat:Int)=true:=by
   simp only[zap,zae]at g3;exact g3.1
  have n40:c.toNat≠40:=λe=>by rw[e]at hc;cases hc
  have n41:c.toNat≠41:=λe=>by rw[e]at hc;cases hc
  have n39:c.toNat≠39:=λe=>by rw[e]at hc;cases hc
  have n34:c.toNat≠34:=λe=>by rw[e]at hc;cases hc
  have n35:c.toNat≠35:=λe=>by rw[e]at hc;cases hc
  unfold cM;rw[h,zam];dsimp only;rw[zaa n40,zaa n41,zaa n39,zaa n34,zaa n35,zab hc];have hcut:dL s a (a+(c::w).length)=c::w:=by
   simp only[dL,h];rw[show a+(c::w).length - a=(c::w).length by omega];simp
  unfold fN;dsimp only;rw[h,hrun,hcut,zaa g5,g2,g1];rfl
end Go.Loop
namespace Go.Proofs.YtlhimdjkkiflhaaGreatDoor
open Go.RowKit Go.Loop
variable {r l:List UInt8}{n:Int}{c:UInt8}{P:Nat→Prop}
def Dl (r:List UInt8):Prop:=r=[]∨∃c q,r=c::q∧(c=32∨c=41)
theorem Dl.run (h:Dl r){q:Int→Bool}(h1:q 32=false)(h2:q 41=false):aT q r=0:=by
 rcases h with rfl|⟨c,x,rfl,rfl|rfl⟩
 ·rfl
 ·simp[aT,h1]
 ·simp[aT,h2]
theorem Dl.word (h:Dl r):aT bq r=0:=h.run (by decide) (by decide)
theorem Dl.abZ (h:Dl r):aT fA r=0:=h.run (by decide) (by decide)
section
variable {s:List UInt8}{a:Nat}{r:List UInt8}
theorem U2 {w:List UInt8}(hs:ir w=true)(h:s.drop a=w++r)(hr:Dl r):cM s a={ aH 14 a (a+w.length)with text:=w }:=by
 unfold ir at hs;simp only[zae,Bool.not_eq_true',zah,ne_eq]at hs;obtain⟨⟨⟨h1,h2⟩,h3⟩,h4⟩:=hs;have e1:=tA w [] h4 rfl;rw[zcz]at e1;exact U1 (by intro e;rw[e]at h1;cases h1) h h4 e1 (tA w r h4 hr.word) h3 h2
theorem QJ:∀{w:List UInt8} (q:List UInt8),bX w=true→bX (w++q)=true
 |[],_,h=>by cases h
 |[c],q,h=>by
  simp only[bX]at h;split at h
  ·cases h
  ·rename_i hc;simp only[zam,bX];rw[zaa hc];exact h
 |c::d::w,q,h=>by
  simp only[zam,bX]at h ⊢;exact h
theorem zh:∀(l q:List UInt8),(∀c∈l,c.toNat≠47)→jV (l++47::q)=some (l,q)
 |[],q,_=>by simp[jV]
 |c::l,q,h=>by
  rw[zam,jV,zaa (h c zaD),zh l q λx hx=>h x (zaQ _ hx)];rfl
theorem qQ (neg:Bool)(u v:Nat)(hu:u≤1000000)(hv:v≤1000000)(NA:1≤v)(hg:Int.gcd (if neg then -(u:Int)else u) v=1):numberOf neg (Γ u++47::Γ v)=some (if neg then -(u:Int)else u,(v:Int),0):=by
 have hs:=zh (Γ u) (Γ v) λc hc=>by have:=gQ u c hc;omega
 have ha:=ny u (by omega);have hb:=ny v (by omega);unfold numberOf;rw[hs];simp only[zbg];rw[tu u,tu v,ha,hb];simp only[Bool.and_self,if_true];rw[zaa (by omega),zaa (by omega),hg];simp
theorem U3 {w:List UInt8}{d f:Int}(h:s.drop a=w++r)(hr:aT bq r=0)(g1:dH w=some (n,d,f))(g2:bX w=true)(g3:w.all sF=true)(g4:w≠[])(g5:w≠[46]):cM s a={ aH 13 a (a+w.length)with n:=n,d:=d,fault:=f }:=by
 have hrun:=tA _ r g3 hr;cases w with
 |nil=>exact absurd rfl g4
 |cons c w=>
  have hc:bq (c.toNat:Int)=true:=by
   simp only[zap,zae]at g3;exact g3.1
  have n40:c.toNat≠40:=λe=>by rw[e]at hc;cases hc
  have n41:c.toNat≠41:=λe=>by rw[e]at hc;cases hc
  have n39:c.toNat≠39:=λe=>by rw[e]at hc;cases hc
  have n34:c.toNat≠34:=λe=>by rw[e]at hc;cases hc
  have n35:c.toNat≠35:=λe=>by rw[e]at hc;cases hc
  unfold cM;rw[h,zam];dsimp only;rw[zaa n40,zaa n41,zaa n39,zaa n34,zaa n35,zab hc];have hcut:dL s a (a+(c::w).length)=c::w:=by
   simp only[dL,h];rw[show a+(c::w).length - a=(c::w).length by omega];simp
  unfold fN;dsimp only;rw[h,hrun,hcut,zaa g5,g2,g1];rfl
theorem U4 {d:Int}(hn:lT n d=true)(h:s.drop a=dV n d++r)(hr:Dl r):cM s a={ aH 13 a (a+(dV n d).length)with n:=n,d:=d }:=by
 unfold lT at hn;obtain⟨d1,d2,n1,n2,hg⟩:=of_decide_eq_true hn;unfold dV at h ⊢;by_cases hd:d=1
 ·subst hd;rw[zab rfl]at h ⊢;exact ZK n1 n2 h hr.word
 ·rw[zaa hd]at h ⊢;obtain⟨v,rfl⟩:=zbq (show 0≤d by omega);obtain⟨g1,g2,g3,g4,g5⟩:=Dy n n1 n2;have hw:(Δ n++47::Δ (v:Int)).all sF=true:=by
   rw[Lib.itoa_nonneg];simp only[List.all_append,zap,zae];exact⟨g3,by decide,zg v⟩
  have hm:=QJ (47::Δ (v:Int)) g2;have cO:dH (Δ n++47::Δ (v:Int))=some (n,(v:Int),0):=by
   rw[Lib.itoa_nonneg];by_cases h0:0≤n
   ·obtain⟨u,rfl⟩:=zbq h0;rw[Lib.itoa_nonneg];cases hc:Γ u with
    |nil=>exact absurd hc (nu u)
    |cons c q=>
     have hdg:=gQ u c (by rw[hc];exact zaD);rw[zam,dH,zaa (by omega),zaa (by omega),←zam,←hc];exact qQ false u v (by omega) (by omega) (by omega) hg
   ·obtain⟨u,hu⟩:=zbq (show 0≤-n by omega);obtain rfl:n=-(u:Int):=by omega
    rw[Lib.itoa_neg u (by omega)];rw[zam,dH,zab (by decide)];exact qQ true u v (by omega) (by omega) (by omega) hg
  refine U3 h hr.word cO hm hw (by simp) λe=>?_;cases hi:Δ n with
  |nil=>exact g4 hi
  |cons c q=>rw[hi]at e;simp at e
theorem QK (h:s.drop a=lZ l++r):cM s a={ aH 8 a (a+(lZ l).length)with text:=l }:=by
 have key:∀(l acc:List UInt8) (i:Nat),dD i acc (l.flatMap mB++34::r)=.ok (i+(l.flatMap mB).length + 1) (acc++l):=by
  intro l
  induction l with
  |nil=>intro acc i;simp[ru]
  |cons c l ih=>
   intro acc i;rw[zbB,zbK];have he:mB c=if c.toNat=92 then[92,92]else if c.toNat=34 then[92,34]else if c.toNat=10 then[92,110]else if c.toNat=9 then[92,116]else[c]:=rfl
   rw[he];split
   ·rename_i hc;obtain rfl:c=92:=UInt8.toNat_inj.1 hc;rw[zam,zam,zbm,oL (b:=92) (by decide),ih];simp;omega
   ·split
    ·rename_i hc;obtain rfl:c=34:=UInt8.toNat_inj.1 hc;rw[zam,zam,zbm,oL (b:=34) (by decide),ih];simp;omega
    ·split
     ·rename_i hc;obtain rfl:c=10:=UInt8.toNat_inj.1 hc;rw[zam,zam,zbm,oL (b:=10) (by decide),ih];simp;omega
     ·split
      ·rename_i hc;obtain rfl:c=9:=UInt8.toNat_inj.1 hc;rw[zam,zam,zbm,oL (b:=9) (by decide),ih];simp;omega
      ·rename_i c1 c2 c3 c4;rw[zam,zbm,pN (λe=>c2 (by rw[e];rfl)) (λe=>c1 (by rw[e];rfl)),ih];simp;omega
 unfold lZ at h ⊢;have h1:s.drop (a+1)=l.flatMap mB++34::r:=by
  have:=afO (k:=1) h rfl;simpa using this
 unfold cM;rw[h,zam];dsimp only;rw[zaa (by decide),zaa (by decide),zaa (by decide),zab (by decide)];unfold jh;rw[h1,key];simp[aH];omega
theorem M0 (hc:c=116∨c=102)(h:s.drop a=35::c::r)(hr:Dl r):cM s a={ aH 12 a (a+2)with n:=if c=116 then 1 else 0 }:=by
 have h1:s.drop (a+1)=c::r:=afO h rfl;have hd:aT cF (c::r)=0:=by rcases hc with rfl|rfl<;>simp[aT,cF]
 have hw:aT bq (c::r)=1:=by rcases hc with rfl|rfl<;>simp[aT,hr.word,bq,fA,cF,ER]
 have hcut:dL s (a+1) (a+1+1)=[c]:=by
  simp only[dL,h1];rw[show a+1+1-(a+1)=1 by omega];rfl
 have hl:bZ s a=none:=by
  unfold bZ;dsimp only;rw[h1,hd,zab (.inl rfl)]
 unfold cM;rw[h];dsimp only;rw[zaa (by decide),zaa (by decide),zaa (by decide),zaa (by decide),zab (by decide)];unfold ed;rw[h1];dsimp only;rw[zaa (by rcases hc with rfl|rfl<;>decide),zaa (by rcases hc with rfl|rfl<;>decide),zaa (by rcases hc with rfl|rfl<;>decide),hl];show bW s a=_;unfold bW;dsimp only;rw[h1,hw,hcut];rcases hc with rfl|rfl
 ·rw[zab (.inl rfl)];rfl
 ·rw[zaa (by decide),zab (.inl rfl)];rfl
theorem QL (hn:jf n=true)(h:s.drop a=s7 n++r)(hr:Dl r):cM s a={ aH 9 a (a+(s7 n).length)with n:=n }:=by
 have h0:s.drop a=35::92::((if hasName n then nameOf n else[UInt8.ofNat n.toNat])++r):=h;have h1:s.drop (a+1)=92::((if hasName n then nameOf n else[UInt8.ofNat n.toNat])++r):=afO h0 rfl;have h2:s.drop (a+2)=(if hasName n then nameOf n else[UInt8.ofNat n.toNat])++r:=afO h0 rfl;have e:cM s a=fM s a:=by
  unfold cM;rw[h0];dsimp only;rw[zaa (by decide),zaa (by decide),zaa (by decide),zaa (by decide),zab (by decide)];unfold ed;rw[h1];dsimp only;rw[zaa (by decide),zaa (by decide),zab (by decide)]
 rw[e];unfold fM s7;cases hh:hasName n with
 |true=>
  rw[hh,zab rfl]at h2;rw[zab rfl];have key:∀w:List UInt8,1<w.length→w.all (λc=>fA (c.toNat:Int))=true→gG w=n→0≤n→s.drop (a+2)=w++r→(if 1<aT fA (s.drop (a+2))then(match nN (dL s (a+2) (a+2+aT fA (s.drop (a+2))))with|none=>bt a|some k=>{ aH 9 a (a+2+aT fA (s.drop (a+2)))with n:=k })else match s.drop (a+2)with|[]=>bt a|c::_=>if 33≤c.toNat∧c.toNat≤126 then { aH 9 a (a+3)with n:=(c.toNat:Int) } else bt a)={ aH 9 a (a+(w.length+2))with n:=n }:=by
   intro w hw hall ab0 Ln hd;have hrun:aT fA (w++r)=w.length:=by
    rw[BA fA w r hall,hr.abZ];rfl
   have hcut:dL s (a+2) (a+2+w.length)=w:=by
    simp only[dL,hd];rw[show a+2+w.length-(a+2)=w.length by omega];simp
   rw[hd,hrun,zab hw,hcut];unfold nN;rw[ab0,zab Ln];simp[aH];omega
  unfold hasName at hh;have lA:=of_decide_eq_true hh;rcases lA with rfl|rfl|rfl|rfl|rfl|rfl
  all_goals exact key _ (by decide) (by decide) (by decide) (by decide) h2
 |false=>
  rw[hh]at h2;simp only[zaU,if_false]at h2 ⊢;unfold jf at hn;rw[hh,Bool.false_or]at hn;obtain⟨g1,g2⟩:=of_decide_eq_true hn;obtain⟨u,rfl⟩:=zbq (show 0≤n by omega);have hu:(UInt8.ofNat (u:Int).toNat).toNat=u:=by simp;omega
  have hrun:¬1<aT fA (s.drop (a+2)):=by
   rw[h2];simp only[zam,zbm,aT,hr.abZ];split<;>omega
  rw[zaa hrun,h2];simp only[zam,zbm];rw[zab (by rw[hu];omega),hu];simp[aH]
theorem QM (m:Nat)(hm:m≤999):(Γ m).length≤3:=by
 have key:∀u:Nat,(u<10→(Γ u).length≤1)∧(u<100→(Γ u).length≤2)∧(u<1000→(Γ u).length≤3):=
  wV (Q:=λu l=>(u<10→l.length≤1)∧(u<100→l.length≤2)∧(u<1000→l.length≤3)) (λ_ _=>by simp) (λu hu ih=>by
   simp only[zaR,zar,zbk];refine⟨λh=>by omega,λh=>?_,λh=>?_⟩
   ·have:=ih.1 (by omega);omega
   ·have:=ih.2.1 (by omega);omega)
 exact(key m).2.2 (by omega)
theorem BV {m:Nat}(hm:m≤999)(hc:c=61∨c=35)(h:s.drop a=35::(Δ m++c::r)):cM s a={ aH (if c=61 then 10 else 11) a (a+(Δ m).length + 2)with n:=(m:Int) }:=by
 rw[Lib.itoa_nonneg]at h ⊢;have h1:s.drop (a+1)=Γ m++c::r:=afO h rfl;have hall:(Γ m).all (λc=>cF (c.toNat:Int))=true:=by
  have:=tu m;unfold dE at this;rw[zae]at this;exact this.2
 have hrun:aT cF (Γ m++c::r)=(Γ m).length:=by
  rw[BA cF _ _ hall];rcases hc with rfl|rfl<;>simp[aT,cF]
 have hlen:=QM m hm;have QN:1≤(Γ m).length:=by
  cases hd:Γ m with
  |nil=>exact absurd hd (nu m)
  |cons x q=>simp
 have h2:s.drop (a+1+(Γ m).length)=c::r:=afO h1 (by simp);have hcut:dL s (a+1) (a+1+(Γ m).length)=Γ m:=by
  simp only[dL,h1];rw[show a+1+(Γ m).length - (a+1)=(Γ m).length by omega];simp
 have hl:bZ s a=some { aH (if c=61 then 10 else 11) a (a+(Γ m).length + 2)with n:=(m:Int) }:=by
  unfold bZ;dsimp only;rw[h1,hrun,zaa (by omega),h2,hcut,ny m (by omega)];dsimp only;rcases hc with rfl|rfl
  ·rw[zab (by decide),zab rfl];simp[aH];omega
  ·rw[zaa (by decide),zab (by decide),zaa (by decide)];simp[aH];omega
 cases hd:Γ m with
 |nil=>exact absurd hd (nu m)
 |cons x q=>
  have hx:=gQ m x (by rw[hd];exact zaD);unfold cM;rw[h];dsimp only;rw[zaa (by decide),zaa (by decide),zaa (by decide),zaa (by decide),zab (by decide)];unfold ed;rw[h1,hd,zam];dsimp only;rw[zaa (by omega),zaa (by omega),zaa (by omega),hl,hd];rfl
theorem U5 (h:s.drop a=c::l)(h1:gH c=false)(h2:c.toNat≠59)(h3:cN (c::l)=false):aR s a=cM s a:=by
 have:=MZ (k:=0) h (by simp[dB,h1,h2,h3]);simpa using this
theorem U6 (h:s.drop a=32::l):aR s a=aR s (a+1):=by
 have h1:s.drop (a+1)=l:=afO h rfl;unfold aR jg;rw[h,h1];simp only[zar,dB,show gH 32=true from rfl,if_true]
 congr 1
 omega
end
def Pos (T:List Tok)(s:List UInt8)(k a:Nat):Prop:=a≤s.length∧∃n,s.length-a<n∧T.drop k=aw n s a
section
variable {T:List Tok}{s:List UInt8}{k a:Nat}
theorem Pos.start (s:List UInt8):Pos (aw (s.length+1) s 0) s 0 0:=⟨zaq _,s.length+1,by omega,by simp⟩
theorem Pos.tok (h:Pos T s k a):T[k]?=some (aR s a):=by
 obtain⟨_,n,hn,hd⟩:=h;obtain⟨n,rfl⟩:∃m,n=m+1:=⟨n-1,by omega⟩;have:(T.drop k)[0]?=some (aR s a):=by
  rw[hd,aw];split<;>rfl
 simpa using this
theorem Pos.next (h:Pos T s k a)(hl:(aR s a).lastB=false):Pos T s (k+1) (aR s a).gw:=by
 obtain⟨ha,n,hn,hd⟩:=h;obtain⟨n,rfl⟩:∃m,n=m+1:=⟨n-1,by omega⟩;have hf:=ju (s:=s) (a:=a) ha;have hlt:=(hf.2.2 hl).1;have hle:=hf.2.1;refine⟨hle,n,by omega,?_⟩;rw[aw,zaa (by simp[hl])]at hd;rw[show k+1=1+k by omega,Nat.add_comm,←zcn,hd];rfl
theorem Pos.sp (h:Pos T s k a)(hs:s.drop a=32::l):Pos T s k (a+1):=by
 obtain⟨ha,n,hn,hd⟩:=h;have hlen:a<s.length:=by
  have:=zak List.length hs;simp at this;omega
 refine⟨hlen,n,by omega,?_⟩;obtain⟨n,rfl⟩:∃m,n=m+1:=⟨n-1,by omega⟩;rw[hd,aw,aw,U6 hs]
theorem Pos.Jj (h:Pos T s k a)(hs:s.drop a=c::l)(h1:gH c=false)(h2:c.toNat≠59)(h3:cN (c::l)=false){t:Tok}(ht:cM s a=t):T[k]?=some t∧(t.lastB=false→Pos T s (k+1) t.gw):=by
 have e:=U5 hs h1 h2 h3;rw[ht]at e;exact⟨by rw[h.tok,e],λhl=>by have:=h.next (by rw[e];exact hl);rw[e]at this;exact this⟩
end
def Ev (P:Nat→Prop):Prop:=∃m0,∀m,m0≤m→P m
theorem Ev.S6 {Q:Nat→Prop}(h:Ev P)(hq:∀m,P m→Q (m+1)):Ev Q:=by
 obtain⟨m0,h⟩:=h;exact⟨m0+1,λm hm=>by
  obtain⟨m,rfl⟩:∃x,m=x+1:=⟨m-1,by omega⟩;exact hq m (h m (by omega))⟩
theorem Ev.and {Q:Nat→Prop}(h:Ev P)(k:Ev Q):Ev λm=>P m∧Q m:=by
 obtain⟨m0,h⟩:=h;obtain⟨m1,k⟩:=k;exact⟨max m0 m1,λm hm=>⟨h m (by omega),k m (by omega)⟩⟩
theorem Ev.all (h:∀m,P m):Ev P:=⟨0,λm _=>h m⟩
section
variable (G:List Nd)(lam:Int→Nat)(ck:Nat→Option Nat)
def qT (x:Nat):Nd:=G.getD x ⟨0,[],0,0,[],none,0⟩
def Wd:Dt→List Nat→Prop
 |.nil,l=>∃a,l=[a]∧aJ G a=0
 |.sym w,l=>∃a,l=[a]∧aJ G a=4∧(qT G a).text=w
 |.num n d,l=>∃a,l=[a]∧aJ G a=5∧(qT G a).n=n∧(qT G a).d=d
 |.cD n,l=>∃a,l=[a]∧aJ G a=6∧(qT G a).n=n
 |.kB n,l=>∃a,l=[a]∧aJ G a=7∧(qT G a).n=n
 |.txt i w,l=>∃a,l=[a]∧aJ G a=3∧(qT G a).text=w∧ck i=some a
 |.pair i u v,l=>∃a,l=[a]∧aJ G a=1∧ck i=some a∧Wd u [(ai G a).getD 0 0]∧Wd v [(ai G a).getD 1 0]
 |.vec i u,l=>∃a,l=[a]∧aJ G a=2∧ck i=some a∧Wd u (ai G a)
 |.put m u,l=>Wd u l∧∃a,l=[a]∧lam m=a
 |.ask m,l=>∃a,l=[a]∧lam m=a
 |.cZ,l=>l=[]
 |.br u v,l=>∃a q,l=a::q∧Wd u [a]∧Wd v q
end
section
variable {G:List Nd}{lam:Int→Nat}{ck je:Nat→Option Nat}
theorem Wd.mono:∀{d:Dt} {l:List Nat},(∀i∈aY d,je i=ck i)→Wd G lam ck d l→Wd G lam je d l
 |.nil,_,_,h=>h
 |.sym _,_,_,h=>h
 |.num _ _,_,_,h=>h
 |.cD _,_,_,h=>h
 |.kB _,_,_,h=>h
 |.txt i w,l,hp,⟨a,h1,h2,h3,h4⟩=>⟨a,h1,h2,h3,(hp i (by simp[aY])).trans h4⟩
 |.pair i u v,l,hp,⟨a,h1,h2,h3,h4,h5⟩=>⟨a,h1,h2,(hp i (by simp[aY])).trans h3,h4.mono λj hj=>hp j (by simp[aY,hj]),h5.mono λj hj=>hp j (by simp[aY,hj])⟩
 |.vec i u,l,hp,⟨a,h1,h2,h3,h4⟩=>⟨a,h1,h2,(hp i (by simp[aY])).trans h3,h4.mono λj hj=>hp j (by simp[aY,hj])⟩
 |.put m u,l,hp,⟨h1,h2⟩=>⟨h1.mono λj hj=>hp j (by simpa[aY]using hj),h2⟩
 |.ask _,_,_,h=>h
 |.cZ,_,_,h=>h
 |.br u v,l,hp,⟨a,q,h1,h2,h3⟩=>⟨a,q,h1,h2.mono λj hj=>hp j (by simp[aY,hj]),h3.mono λj hj=>hp j (by simp[aY,hj])⟩
def Ch (G:List Nd)(lam:Int→Nat)(ck:Nat→Option Nat):List Nat→List Dt→Nat→Prop
 |[],[],_=>True
 |b::bs,d::ds,r=>aJ G b=1∧Wd G lam ck d [(ai G b).getD 0 0]∧(ai G b).getD 1 0=bs.headD r∧Ch G lam ck bs ds r
 |_,_,_=>False
theorem Ch.mono:∀{bs:List Nat} {ds:List Dt} {r:Nat},(∀d∈ds,∀i∈aY d,je i=ck i)→Ch G lam ck bs ds r→Ch G lam je bs ds r
 |[],[],_,_,_=>trivial
 |b::bs,d::ds,r,hp,⟨h1,h2,h3,h4⟩=>⟨h1,h2.mono λi hi=>hp d (by simp) i hi,h3,h4.mono λx hx i hi=>hp x (by simp[hx]) i hi⟩
 |[],_::_,_,_,h=>h
 |_::_,[],_,_,h=>h
theorem Ch.len:∀{bs:List Nat} {ds:List Dt} {r:Nat},Ch G lam ck bs ds r→bs.length=ds.length
 |[],[],_,_=>rfl
 |_::_,_::_,_,⟨_,_,_,h4⟩=>by simp[h4.len]
 |[],_::_,_,h=>h.elim
 |_::_,[],_,h=>h.elim
theorem Ch.snoc:∀{bs:List Nat} {ds:List Dt} {r r':Nat} {d:Dt},Ch G lam ck bs ds r→aJ G r=1→Wd G lam ck d [(ai G r).getD 0 0]→(ai G r).getD 1 0=r'→Ch G lam ck (bs++[r]) (ds++[d]) r'
 |[],[],r,r',d,_,h1,h2,h3=>⟨h1,h2,h3,trivial⟩
 |b::bs,x::ds,r,r',d,⟨g1,g2,g3,g4⟩,h1,h2,h3=>⟨g1,g2,by cases bs<;>simpa using g3,g4.snoc h1 h2 h3⟩
 |[],_::_,_,_,_,h,_,_,_=>h.elim
 |_::_,[],_,_,_,h,_,_,_=>h.elim
def uK (ck:Nat→Option Nat)(i:Nat)(bs:List Nat):Nat→Option Nat:=λx=>if i≤x∧x<i+bs.length then bs[bs.length-1-(x-i)]? else ck x
theorem pW {i:Nat}{bs:List Nat}{x:Nat}(h:x<i):uK ck i bs x=ck x:=by unfold uK;rw[zaa (by omega)]
theorem BZ {i b:Nat}{bs:List Nat}{x:Nat}(h:x<i+bs.length):uK ck i (b::bs) x=uK ck i bs x:=by
 unfold uK;by_cases hx:i≤x
 ·rw[zab ⟨hx,by simp;omega⟩,zab ⟨hx,h⟩];have:(b::bs).length - 1-(x-i)=(bs.length-1-(x-i))+1:=by simp;omega
  rw[this,zcw]
 ·rw[zaa (by omega),zaa (by omega)]
theorem tC {i r:Nat}{rest:Dt}:∀{bs:List Nat} {ds:List Dt},Ch G lam ck bs ds r→Wd G lam ck rest [r]→(∀d∈ds,∀j∈aY d,j<i)→(∀j∈aY rest,j<i)→Wd G lam (uK ck i bs) (aU ds rest i).1 [bs.headD r]∧∀j∈aY (aU ds rest i).1,j<i+bs.length
 |[],[],_,hr,_,h2=>⟨hr.mono λj hj=>pW (h2 j hj),λj hj=>by have:=h2 j (by simpa[aU]using hj);simpa using this⟩
 |b::bs,d::ds,⟨g1,g2,g3,g4⟩,hr,h1,h2=>by
  obtain⟨i1,i2⟩:=tC g4 hr (λx hx=>h1 x (by simp[hx])) h2;have hlen:=g4.len;simp only[aU,eI];have hd:∀j∈aY d,j<i:=h1 d (by simp);refine⟨⟨b,rfl,g1,?_,?_,?_⟩,?_⟩
  ·unfold uK;rw[zab ⟨by omega,by simp;omega⟩];have:(b::bs).length - 1-(i+ds.length-i)=0:=by simp;omega
   rw[this];rfl
  ·exact g2.mono λj hj=>pW (hd j hj)
  ·rw[g3];exact i1.mono λj hj=>BZ (i2 j hj)
  ·intro j hj;simp only[aY,zal,zaF]at hj;simp only[zar];rcases hj with rfl|hj|hj
   ·omega
   ·have:=hd j hj;omega
   ·have:=i2 j hj;omega
 |[],_::_,h,_,_,_=>h.elim
 |_::_,[],h,_,_,_=>h.elim
end
end Go.Proofs.YtlhimdjkkiflhaaGreatDoor
namespace Go.Loop
variable {t:TS}
theorem di {p:List UInt8}(h:(t.add p).long=false):t.long=false∧(t.add p).out=t.out++p:=by
 unfold TS.add at h ⊢;split at h
 ·rename_i hl;rw[hl]at h;cases h
 ·rename_i hl;rw[zaa hl];split at h
  ·cases h
  ·rename_i h4;rw[zaa h4];exact⟨by simpa using hl,rfl⟩
theorem zl {a:Nat}(h:(t.put a).long=false):t.long=false∧(t.put a).out=t.out++(35::(Δ t.next++[61])):=di (p:=35::(Δ t.next++[61])) h
def jZ (node:TS→Nat→TS):Bool→List Nat→TS→TS
 |_,[],t=>t
 |b,x::l,t=>jZ node false l (node (if b then t else t.add [32]) x)
theorem B0 (node:TS→Nat→TS):∀(l:List Nat) (b:Bool) (x:Nat) (t:TS),jZ node b (l++[x]) t=node (if b&&l.isEmpty then jZ node b l t else(jZ node b l t).add [32]) x
 |[],b,x,t=>by cases b<;>rfl
 |y::l,b,x,t=>by
  simp only[zam,jZ];rw[B0 node l false x];simp
theorem zm (node:TS→Nat→TS)(l:List Nat)(t:TS):∀k,k≤l.length→fY node l k t=jZ node true (l.take k) t
 |0,_=>rfl
 |k+1,h=>by
  rw[fY,zm node l t k (by omega),zcv (by omega),B0];have e:l.getD k 0=l[k]:=by simp[List.getD,List.getElem?_eq_getElem (show k<l.length by omega)]
  rw[e];cases k with
  |zero=>simp
  |succ k=>
   cases l with
   |nil=>simp at h
   |cons x l=>simp
theorem pX (node:TS→Nat→TS)(l:List Nat)(t:TS):fY node l l.length t=jZ node true l t:=by
 rw[zm node l t _ (zac _),List.take_length]
structure Gr (t t':TS):Prop where
 nl:t.long=false
 out:∃q,t'.out=t.out++q
 cE:∀b,0≤t.cE.getD b (-1)→t'.cE.getD b (-1)=t.cE.getD b (-1)
theorem Gr.refl {t:TS}(h:t.long=false):Gr t t:=⟨h,⟨[],by simp⟩,λ_ _=>rfl⟩
theorem Gr.trans {a b c:TS}(h:Gr a b)(k:Gr b c):Gr a c:=by
 obtain⟨q,hq⟩:=h.out;obtain⟨r,hr⟩:=k.out;refine⟨h.nl,⟨q++r,by rw[hr,hq,zbK]⟩,λx hx=>?_⟩;rw[k.cE x (by rw[h.cE x hx];exact hx),h.cE x hx]
theorem Gr.add {p:List UInt8}(h:(t.add p).long=false):Gr t (t.add p):=⟨(di h).1,⟨p,(di h).2⟩,λb _=>by rw[gX]⟩
theorem Gr.put {a:Nat}(h:(t.put a).long=false)(ha:t.cE.getD a (-1)<0):Gr t (t.put a):=by
 refine⟨(zl h).1,⟨_,(zl h).2⟩,λb hb=>?_⟩;show(t.cE.set a t.next).getD b (-1)=_;have hne:a≠b:=λe=>by subst e;omega
 simp only[List.getD,List.getElem?_set,zaa hne]
theorem Gr.len {t':TS}(h:Gr t t'):t.out.length≤t'.out.length:=by
 obtain⟨q,hq⟩:=h.out;rw[hq];simp
section
variable {K:Nat→Int}{S:Nat→List Nat}{At:Nat→List UInt8}{L:Nat→Bool}
theorem lM {node:TS→Nat→TS}(hn:∀t y,(node t y).long=false→Gr t (node t y)):∀(l:List Nat) (b:Bool) (t:TS),(jZ node b l t).long=false→Gr t (jZ node b l t)
 |[],_,t,h=>Gr.refl h
 |x::l,b,t,h=>by
  simp only[jZ]at h ⊢;have i1:=lM hn l false _ h;have i2:=hn _ _ i1.nl;refine Gr.trans ?_ (i2.trans i1);cases b with
  |true=>exact Gr.refl i2.nl
  |false=>exact Gr.add i2.nl
theorem dX:∀(f:Nat) (b:Bool) (t:TS) (a:Nat),(WF K S At L f b t a).long=false→Gr t (WF K S At L f b t a)
 |0,_,t,_,h=>Gr.refl h
 |f+1,false,t,a,h=>by
  simp only[WF]at h ⊢;by_cases hl:t.long=true
  ·rw[zab hl]at h;rw[hl]at h;cases h
  ·rw[zaa hl]at h ⊢;have hl':t.long=false:=by simpa using hl
   by_cases h0:0≤t.cE.getD a (-1)
   ·rw[zab h0]at h ⊢;exact Gr.add h
   ·rw[zaa h0]at h ⊢;have hp:∀t0,t0=(if L a then t.put a else t)→t0.long=false→Gr t t0:=λt0 e hq=>by
     subst e;cases hL:L a with
     |true=>rw[hL]at hq;exact Gr.put hq (by omega)
     |false=>exact Gr.refl hl'
    by_cases h1:K a=1
    ·rw[zab h1]at h ⊢;have i1:=dX f true _ _ h;have i2:=dX f false _ _ i1.nl;have i3:=Gr.add i2.nl;exact(hp _ rfl i3.nl).trans (i3.trans (i2.trans i1))
    ·rw[zaa h1]at h ⊢;by_cases h2:K a=2
     ·rw[zab h2,pX]at h ⊢;have i1:=Gr.add h;have i2:=lM (λt y hq=>dX f false t y hq) _ _ _ i1.nl;have i3:=Gr.add i2.nl;exact(hp _ rfl i3.nl).trans (i3.trans (i2.trans i1))
     ·rw[zaa h2]at h ⊢;have i3:=Gr.add h;exact(hp _ rfl i3.nl).trans i3
 |f+1,true,t,r,h=>by
  simp only[WF]at h ⊢;by_cases h1:K r=1∧L r=false
  ·rw[zab h1]at h ⊢;have i1:=dX f true _ _ h;have i2:=dX f false _ _ i1.nl;exact(Gr.add i2.nl).trans (i2.trans i1)
  ·rw[zaa h1]at h ⊢;by_cases h0:K r=0
   ·rw[zab h0]at h ⊢;exact Gr.add h
   ·rw[zaa h0]at h ⊢;have i1:=Gr.add h;have i2:=dX f false _ _ i1.nl;exact(Gr.add i2.nl).trans (i2.trans i1)
theorem B1 {f:Nat}{r:Nat}(h:(WF K S At L (f+1) true t r).long=false):∃c q,(c=32∨c=41)∧(WF K S At L (f+1) true t r).out=t.out++c::q:=by
 simp only[WF]at h ⊢;by_cases h1:K r=1∧L r=false
 ·rw[zab h1]at h ⊢;have i1:=dX f true _ _ h;have i2:=dX f false _ _ i1.nl;obtain⟨q,hq⟩:=(i2.trans i1).out;refine⟨32,q,.inl rfl,?_⟩;rw[hq,(di i2.nl).2];simp
 ·rw[zaa h1]at h ⊢;by_cases h0:K r=0
  ·rw[zab h0]at h ⊢;exact⟨41,[],.inr rfl,(di h).2⟩
  ·rw[zaa h0]at h ⊢;have i1:=Gr.add h;have i2:=dX f false _ _ i1.nl;obtain⟨q,hq⟩:=(i2.trans i1).out;refine⟨32,46::32::q,.inl rfl,?_⟩;rw[hq,(di i2.nl).2];simp
end
def Gu (node:TS→Nat→TS)(lg:TS→Nat→List Nat):Bool→List Nat→TS→List Nat
 |_,[],_=>[]
 |b,x::l,t=>lg (if b then t else t.add [32]) x++Gu node lg false l (node (if b then t else t.add [32]) x)
def WL (K:Nat→Int)(S:Nat→List Nat)(At:Nat→List UInt8)(L:Nat→Bool):Nat→Bool→TS→Nat→List Nat
 |0,_,_,_=>[]
 |f+1,false,t,a=>
  if 0≤t.cE.getD a (-1)then[]
  else if K a=1 then a::(WL K S At L f false ((if L a then t.put a else t).add [40]) ((S a).getD 0 0)++WL K S At L f true (WF K S At L f false ((if L a then t.put a else t).add [40]) ((S a).getD 0 0)) ((S a).getD 1 0))
  else if K a=2 then a::Gu (WF K S At L f false) (WL K S At L f false) true (S a) ((if L a then t.put a else t).add [35,40])
  else if K a=3 then[a]else[]
 |f+1,true,t,r=>
  if K r=1∧L r=false then r::(WL K S At L f false (t.add [32]) ((S r).getD 0 0)++WL K S At L f true (WF K S At L f false (t.add [32]) ((S r).getD 0 0)) ((S r).getD 1 0))
  else if K r=0 then[]
  else WL K S At L f false (t.add [32,46,32]) r
def cn (ck:Nat→Option Nat)(c:Nat)(l:List Nat):Nat:=l.countP λi=>ck i==some c
theorem pY (ck:Nat→Option Nat)(c:Nat)(l r:List Nat):cn ck c (l++r)=cn ck c l+cn ck c r:=by simp[cn]
theorem nC (ck:Nat→Option Nat)(c i:Nat)(l:List Nat):cn ck c (i::l)=(if ck i=some c then 1 else 0)+cn ck c l:=by
 simp only[cn,List.countP_cons];by_cases h:ck i=some c
 ·rw[zab h];simp[h];omega
 ·rw[zaa h];simp[h]
theorem Jk (ck:Nat→Option Nat)(c:Nat):cn ck c []=0:=rfl
theorem nD {ck je:Nat→Option Nat}(c:Nat):∀{l:List Nat},(∀i∈l,je i=ck i)→cn je c l=cn ck c l
 |[],_=>rfl
 |i::l,h=>by rw[nC,nC,h i (by simp),nD c λj hj=>h j (by simp[hj])]
theorem lN (c a:Nat)(l:List Nat):(a::l).count c=(if some a=some c then 1 else 0)+l.count c:=by
 rw[List.count_cons];by_cases h:a=c
 ·subst h;simp;omega
 ·rw[zaa (by simpa using h)];simp[h]
end Go.Loop
namespace Go.Proofs.YtlhimdjkkiflhaaGreatDoor
open Go.RowKit Go.Loop
variable {f:Nat}{t:TS}
def B2 {α:Type}(X:Nat→RR α)(P:α→eD→(Nat→Option Nat)→Prop):Prop:=(∃e,Ev λm=>X m=.fail 6 e)∨∃d σ ck,Ev (λm=>X m=.ok d σ)∧P d σ ck
theorem B2.mono {α:Type}{X:Nat→RR α}{P Q:α→eD→(Nat→Option Nat)→Prop}(h:B2 X P)(k:∀d σ ck,P d σ ck→Q d σ ck):B2 X Q:=
 h.imp id λ⟨d,σ,ck,h1,h2⟩=>⟨d,σ,ck,h1,k _ _ _ h2⟩
theorem B2.S6 {α:Type}{X Y:Nat→RR α}{P:α→eD→(Nat→Option Nat)→Prop}(h:B2 X P)(hy:Ev λm=>Y (m+1)=X m):B2 Y P:=by
 rcases h with⟨e,h⟩|⟨d,σ,ck,h1,h2⟩
 ·exact .inl ⟨e,(h.and hy).S6 λm q=>q.2.trans q.1⟩
 ·exact .inr ⟨d,σ,ck,(h1.and hy).S6 λm q=>q.2.trans q.1,h2⟩
theorem B2.bind {α β:Type}{X:Nat→RR α}{Y:Nat→RR β}{Z:α→eD→Nat→RR β}{P:α→eD→(Nat→Option Nat)→Prop}{Q:β→eD→(Nat→Option Nat)→Prop}(h:B2 X P)(hy:Ev λm=>Y (m+1)=(X m).bind λd s=>Z d s m)(hz:∀d σ ck,P d σ ck→B2 (Z d σ) Q):B2 Y Q:=by
 rcases h with⟨e,h⟩|⟨d,σ,ck,h1,h2⟩
 ·exact .inl ⟨e,(h.and hy).S6 λm q=>by rw[q.2,q.1];rfl⟩
 ·rcases hz d σ ck h2 with⟨e,k⟩|⟨d',Oc,je,k1,k2⟩
  ·exact .inl ⟨e,((h1.and hy).and k).S6 λm q=>by rw[q.1.2,q.1.1];exact q.2⟩
  ·exact .inr ⟨d',Oc,je,((h1.and hy).and k1).S6 λm q=>by rw[q.1.2,q.1.1];exact q.2,k2⟩
theorem Ev.ji {P:Nat→Prop}(h:∀m,P (m+1)):Ev P:=⟨1,λm hm=>by
 obtain⟨m,rfl⟩:∃x,m=x+1:=⟨m-1,by omega⟩;exact h m⟩
theorem Ev.XG {P:Nat→Prop}(h:∀m,P (m+2)):Ev P:=⟨2,λm hm=>by
 obtain⟨m,rfl⟩:∃x,m=x+2:=⟨m-2,by omega⟩;exact h m⟩
structure Tk (t:Tok):Prop where
 n0:t.kind≠0
 n1:t.kind≠1
 n3:t.kind≠3
 n6:t.kind≠6
 n7:t.kind≠7
section
variable {T:List Tok}{k fr:Nat}{ak:List Int}{p:Pl}{τ:Tok}{ds:List Dt}
theorem zn (hT:T[k]?=some τ)(h0:τ.kind≠0)(h1:τ.kind≠1)(h6:τ.kind≠6)(m:Nat):aM T 30 (m+1) p ⟨k,fr,ak⟩=.ok τ ⟨k+1,fr,ak⟩:=by
 unfold aM;dsimp only;rw[hT];dsimp only;rw[zaa h0,zaa h1,zaa h6]
theorem Jl (hT:T[k]?=some τ)(h:Tk τ)(m:Nat):ay T 30 (m+2) p ⟨k,fr,ak⟩=aL T 30 (m+1) τ p ⟨k+1,fr,ak⟩:=by
 rw[ay,zn hT h.n0 h.n1 h.n6];rfl
theorem QT (hT:T[k]?=some τ)(h:Tk τ)(m:Nat):bh T 30 (m+2) ds p ⟨k,fr,ak⟩=(aL T 30 (m+1) τ p ⟨k+1,fr,ak⟩).bind λd s=>bh T 30 (m+1) (ds++[d]) p s:=by
 rw[bh,zn hT h.n0 h.n1 h.n6];show(if τ.kind=3 then _ else _)=_;rw[zaa h.n3,zaa (λq=>h.n7 q.1)]
theorem ab2 (hT:T[k]?=some τ)(h:Tk τ)(hd:ds.length≠20)(m:Nat):cy T 30 (m+2) ds p ⟨k,fr,ak⟩=(aL T 30 (m+1) τ p ⟨k+1,fr,ak⟩).bind λd s=>cy T 30 (m+1) (ds++[d]) p s:=by
 rw[cy,zn hT h.n0 h.n1 h.n6];show(if τ.kind=3 then _ else _)=_;rw[zaa h.n3,zaa hd]
theorem QU (hT:T[k]?=some τ)(h:τ.kind=3)(m:Nat):bh T 30 (m+2) ds p ⟨k,fr,ak⟩=.ok (aU ds .nil fr).1 ⟨k+1,fr+ds.length,ak⟩:=by
 rw[bh,zn hT (by omega) (by omega) (by omega)];show(if τ.kind=3 then _ else _)=_;rw[zab h];simp only[eI]
theorem ab3 (hT:T[k]?=some τ)(h:τ.kind=3)(m:Nat):cy T 30 (m+2) ds p ⟨k,fr,ak⟩=.ok ds ⟨k+1,fr,ak⟩:=by
 rw[cy,zn hT (by omega) (by omega) (by omega)];show(if τ.kind=3 then _ else _)=_;rw[zab h]
theorem ZM (hT:T[k]?=some τ)(h:τ.kind=7)(hd:ds≠[])(m:Nat):bh T 30 (m+2) ds p ⟨k,fr,ak⟩=(ay T 30 (m+1) p ⟨k+1,fr,ak⟩).bind λrest s=>(aM T 30 (m+1) p s).bind λt s=>if t.kind=3 then .ok (aU ds rest s.fresh).1 { s with fresh:=(aU ds rest s.fresh).2 } else .fail 3 t.from_:=by
 rw[bh,zn hT (by omega) (by omega) (by omega)];show(if τ.kind=3 then _ else _)=_;rw[zaa (by omega),zab ⟨h,hd⟩]
end
section
variable {T:List Tok}{p:Pl}{τ:Tok}{σ:eD}{m:Nat}
theorem qU (n:Nat)(h:τ.kind=n)(hn:n≠0∧n≠1∧n≠3∧n≠6∧n≠7):Tk τ:=by
 subst h;exact⟨hn.1,hn.2.1,hn.2.2.1,hn.2.2.2.1,hn.2.2.2.2⟩
theorem mF (n:Nat)(h:τ.kind=n)(hn:n≠3∧n≠7∧n≠10∧n≠11∧n≠2∧n≠5∧n≠4):aL T 30 (m+1) τ p σ=j9 τ σ:=by
 subst h;rw[aL,zaa (by omega),zaa (by omega),zaa (by omega),zaa (by omega)]
theorem mE (h:τ.kind=2):aL T 30 (m+1) τ p σ=if p.depth=30 then .fail 6 τ.from_ else bh T 30 m [] ⟨p.depth+1,p.passed,[]⟩ σ:=by
 rw[aL,zaa (by omega),zaa (by omega),zaa (by omega),zab (by omega)];split
 ·rfl
 ·rw[zaa (by omega),zaa (by omega)]
theorem ze (h:τ.kind=5):aL T 30 (m+1) τ p σ=if p.depth=30 then .fail 6 τ.from_ else(cy T 30 m [] ⟨p.depth+1,p.passed,[]⟩ { σ with fresh:=σ.fresh+1 }).bind λl s'=> .ok (.vec σ.fresh (fX l)) s':=by
 rw[aL,zaa (by omega),zaa (by omega),zaa (by omega),zab (by omega)];split
 ·rfl
 ·rfl
theorem Gv (h:τ.kind=10)(hp:p.passed=false)(hl:τ.n∉σ.ak):aL T 30 (m+1) τ p σ=if p.depth=30 then .fail 6 τ.from_ else(ay T 30 m ⟨p.depth+1,p.passed,p.ahead++[τ.n]⟩ { σ with ak:=τ.n::σ.ak }).bind λd s=> .ok (.put τ.n d) s:=by
 rw[aL,zaa (by omega),zab h,zaa (by
  rw[hp];rintro (e|e)
  ·cases e
  ·exact hl e)]
theorem QV (h:τ.kind=11)(hp:p.passed=false)(ha:p.ahead=[])(hl:τ.n∈σ.ak):aL T 30 (m+1) τ p σ=.ok (.ask τ.n) σ:=by
 rw[aL,zaa (by omega),zaa (by omega),zab h,zaa (by
  rw[hp,ha];rintro (e|e|e)
  ·cases e
  ·exact e hl
  ·cases e)]
end
section
variable (G:List Nd)(s:List UInt8)(T:List Tok)(lam:Int→Nat)
structure AX (t:TS) (k:Nat) (ak:List Int):Prop where
 pos:Pos T s k t.out.length
 ak:∀m:Int,m∈ak↔0≤m∧m<t.next
structure Fin (t:TS):Prop where
 nl:t.long=false
 pre:∃r,s=t.out++r
 lam:∀b,0≤t.cE.getD b (-1)→lam (t.cE.getD b (-1))=b
def Lt (T:List Tok)(k:Nat)(t:TS):Prop:=∃j τ,k=j+1∧T[j]?=some τ∧τ.gw=t.out.length
structure Va (t':TS) (fr:Nat) (ck:Nat→Option Nat) (l:List Nat) (lg:List Nat) (d:Dt) (σ:eD) (je:Nat→Option Nat):Prop where
 at_:AX s T t' σ.k σ.ak
 Na:fr≤σ.fresh
 old:∀i,i<fr→je i=ck i
 wd:Wd G lam je d l
 ids:∀i∈aY d,i<σ.fresh
 last:Lt T σ.k t'
 cnt:∀c,cn je c (aY d)=lg.count c
end
section
variable {G:List Nd}{s:List UInt8}{T:List Tok}{lam:Int→Nat}{t t':TS}{k fr:Nat}{ak:List Int}{ck:Nat→Option Nat}{p:Pl}
theorem Fin.of {t t':TS}(h:Fin s lam t')(g:Gr t t'):Fin s lam t:=by
 obtain⟨q,hq⟩:=g.out;obtain⟨r,hr⟩:=h.pre;refine⟨g.nl,⟨q++r,by rw[hr,hq,zbK]⟩,λb hb=>?_⟩;have e:=g.cE b hb;have:=h.lam b (by rw[e];exact hb);rw[e]at this;exact this
theorem Fin.drop {q:List UInt8}(h:Fin s lam t')(hq:t'.out=t.out++q):s.drop t.out.length=q++s.drop t'.out.length∧t'.out.length=t.out.length+q.length:=by
 obtain⟨r,hr⟩:=h.pre;refine⟨?_,by rw[hq];simp⟩;rw[hr,hq,zbK,List.drop_left,←zbK,List.drop_left]
theorem Va.from {J0:Nat}{zo:Nat→Option Nat}{l lg:List Nat}{d:Dt}{σ:eD}{je:Nat→Option Nat}(h:Va G s T lam t' J0 zo l lg d σ je)(h1:fr≤J0)(h2:∀i,i<fr→zo i=ck i):Va G s T lam t' fr ck l lg d σ je:=
 ⟨h.at_,zag h1 h.Na,λi hi=>(h.old i (by omega)).trans (h2 i hi),h.wd,h.ids,h.last,h.cnt⟩
theorem AX.same {t t':TS}(h:AX s T t k ak)(ho:Pos T s k t'.out.length)(hn:t'.next=t.next):AX s T t' k ak:=⟨ho,λm=>by rw[h.ak,hn]⟩
theorem AX.tok {c:UInt8}{l:List UInt8}{τ:Tok}(h:AX s T t k ak)(hs:s.drop t.out.length=c::l)(h1:gH c=false)(h2:c.toNat≠59)(h3:cN (c::l)=false)(ht:cM s t.out.length=τ)(hl:τ.lastB=false):T[k]?=some τ∧Pos T s (k+1) τ.gw:=by
 obtain⟨e1,e2⟩:=h.pos.Jj hs h1 h2 h3 ht;exact⟨e1,e2 hl⟩
theorem Jm {w:List UInt8}(h:ir w=true):∃c q,w=c::q∧gH c=false∧c.toNat≠59∧c≠35:=by
 unfold ir at h;simp only[zae]at h;cases w with
 |nil=>simp at h
 |cons c q=>
  have hc:bq (c.toNat:Int)=true:=by
   have:=h.2;simp only[zap,zae]at this;exact this.1
  refine⟨c,q,rfl,?_,λe=>(by rw[e]at hc;cases hc),λe=>(by subst e;cases hc)⟩;unfold gH;rw[zaS];rintro (e|e|e)<;>(rw[e]at hc;cases hc)
theorem Nb {n d:Int}(hn:lT n d=true):∃c q,dV n d=c::q∧gH c=false∧c.toNat≠59∧c≠35:=by
 unfold lT at hn;obtain⟨_,_,n1,n2,_⟩:=of_decide_eq_true hn;obtain⟨_,_,g3,g4,_⟩:=Dy n n1 n2;cases hi:Δ n with
 |nil=>exact absurd hi g4
 |cons c q=>
  rw[hi]at g3;have hc:bq (c.toNat:Int)=true:=by
   simp only[zap,zae]at g3;exact g3.1
  have:∃q',dV n d=c::q':=by
   unfold dV;split
   ·exact⟨q,hi⟩
   ·exact⟨_,by rw[hi,zam]⟩
  obtain⟨q',hq'⟩:=this;refine⟨c,q',hq',?_,λe=>(by rw[e]at hc;cases hc),λe=>(by subst e;cases hc)⟩;unfold gH;rw[zaS];rintro (e|e|e)<;>(rw[e]at hc;cases hc)
theorem QW {a:Nat}{x:Nd}(hx:G[a]?=some x)(hk:aQ x=true)(n1:x.kind≠1)(n2:x.kind≠2)(hF:Fin s lam t')(hq:t'.out=t.out++eU x)(qa:t'.next=t.next)(hD:Dl (s.drop t'.out.length))(hA:AX s T t k ak):∃τ,T[k]?=some τ∧Tk τ∧B2 (λm=>aL T 30 m τ p ⟨k+1,fr,ak⟩) (Va G s T lam t' fr ck [a] (if x.kind=3 then[a]else[])):=by
 obtain⟨hs,hlen⟩:=hF.drop hq;have hK:aJ G a=x.kind:=by unfold aJ;rw[hx]
 have hN:qT G a=x:=by unfold qT;simp[List.getD,hx]
 unfold aQ at hk;unfold eU at hs hq hlen;by_cases k0:x.kind=0
 ·rw[zab k0]at hs hlen;have hs0:s.drop t.out.length=40::41::s.drop t'.out.length:=hs;obtain⟨e1,e2⟩:=hA.tok hs0 (by decide) (by decide) (jE (by decide)) (KI hs0) rfl;have QX:Pos T s (k+1) (t.out.length+1):=e2;have hs1:s.drop (t.out.length+1)=41::s.drop t'.out.length:=afO hs0 rfl;obtain⟨f1,f2⟩:=QX.Jj hs1 (by decide) (by decide) (jE (by decide)) (tq hs1);have f3:Pos T s (k+2) (t.out.length+2):=f2 rfl;refine⟨_,e1,qU 2 rfl (by decide),?_⟩;by_cases qz:p.depth=30
  ·exact .inl ⟨t.out.length,Ev.ji λm=>by
    show aL T 30 (m+1) _ _ _=_;rw[mE rfl,zab qz];rfl⟩
  ·refine .inr ⟨.nil,⟨k+2,fr,ak⟩,ck,⟨3,λm hm=>?_⟩,⟨⟨by rw[hlen];exact f3,λm=>by rw[hA.ak,qa]⟩,zac _,λ_ _=>rfl,⟨a,rfl,by rw[hK];exact k0⟩,λi hi=>(by cases hi),⟨k+1,_,rfl,f1,hlen.symm⟩,λc=>by rw[zaa (by omega)];rfl⟩⟩;obtain⟨m,rfl⟩:∃y,m=y+3:=⟨m-3,by omega⟩;show aL T 30 (m+2+1) _ _ _=_;rw[mE rfl,zaa qz];exact QU f1 rfl m
 ·rw[zaa k0]at hs hlen;rw[zaa k0,zaa n1,zaa n2]at hk;by_cases k3:x.kind=3
  ·rw[zab k3]at hs hlen;have ht:=QK hs;have hs0:s.drop t.out.length=34::(x.text.flatMap mB++[34]++s.drop t'.out.length):=by rw[hs];simp[lZ]
   obtain⟨e1,e2⟩:=hA.tok hs0 (by decide) (by decide) (jE (by decide)) ht rfl;have QX:Pos T s (k+1) (t.out.length+(lZ x.text).length):=e2;refine⟨_,e1,qU 8 rfl (by decide),.inr ⟨.txt fr x.text,⟨k+1,fr+1,ak⟩,λi=>if i=fr then some a else ck i,Ev.ji λm=>?_,⟨⟨by rw[hlen];exact QX,λm=>by rw[hA.ak,qa]⟩,Nat.le_succ _,λi hi=>zaa (by omega),⟨a,rfl,by rw[hK];exact k3,by rw[hN],zab rfl⟩,λi hi=>(by simp[aY]at hi;subst hi;exact Nat.lt_succ_self _),⟨k,_,rfl,e1,hlen.symm⟩,λc=>by rw[zab k3,lN];simp only[aY,nC,Jk,if_true,List.count_nil]⟩⟩⟩;show aL T 30 (m+1) _ _ _=_;rw[mF 8 rfl (by decide)];rfl
  ·rw[zaa k3]at hs hlen;rw[zaa k3]at hk;by_cases k4:x.kind=4
   ·rw[zab k4]at hs hlen hk;simp only[zae,zaK]at hk;have ht:=U2 hk.2 hs hD;obtain⟨c,q,hw,hb,Uh,h35⟩:=Jm hk.2;have hs0:s.drop t.out.length=c::(q++s.drop t'.out.length):=by rw[hs,hw];rfl
    obtain⟨e1,e2⟩:=hA.tok hs0 hb Uh (jE h35) ht rfl;have QX:Pos T s (k+1) (t.out.length+x.text.length):=e2;refine⟨_,e1,qU 14 rfl (by decide),.inr ⟨.sym x.text,⟨k+1,fr,ak⟩,ck,Ev.ji λm=>?_,⟨⟨by rw[hlen];exact QX,λm=>by rw[hA.ak,qa]⟩,zac _,λ_ _=>rfl,⟨a,rfl,by rw[hK];exact k4,by rw[hN]⟩,λi hi=>(by cases hi),⟨k,_,rfl,e1,hlen.symm⟩,λc=>by rw[zaa (by omega)];rfl⟩⟩⟩;show aL T 30 (m+1) _ _ _=_;rw[mF 14 rfl (by decide)];rfl
   ·rw[zaa k4]at hs hlen hk;by_cases k5:x.kind=5
    ·rw[zab k5]at hs hlen hk;simp only[zae,zaK]at hk;have ht:=U4 hk.1 hs hD;obtain⟨c,q,hw,hb,Uh,h35⟩:=Nb hk.1;have hs0:s.drop t.out.length=c::(q++s.drop t'.out.length):=by rw[hs,hw];rfl
     obtain⟨e1,e2⟩:=hA.tok hs0 hb Uh (jE h35) ht rfl;have QX:Pos T s (k+1) (t.out.length+(dV x.n x.d).length):=e2;refine⟨_,e1,qU 13 rfl (by decide),.inr ⟨.num x.n x.d,⟨k+1,fr,ak⟩,ck,Ev.ji λm=>?_,⟨⟨by rw[hlen];exact QX,λm=>by rw[hA.ak,qa]⟩,zac _,λ_ _=>rfl,⟨a,rfl,by rw[hK];exact k5,by rw[hN],by rw[hN]⟩,λi hi=>(by cases hi),⟨k,_,rfl,e1,hlen.symm⟩,λc=>by rw[zaa (by omega)];rfl⟩⟩⟩;show aL T 30 (m+1) _ _ _=_;rw[mF 13 rfl (by decide)];rfl
    ·rw[zaa k5]at hs hlen hk;by_cases k6:x.kind=6
     ·rw[zab k6]at hs hlen hk;obtain⟨h01,_,_,_⟩:=of_decide_eq_true hk;have key:∀c:UInt8,(c=116∨c=102)→(if c=116 then(1:Int)else 0)=x.n→s.drop t.out.length=35::c::s.drop t'.out.length→t'.out.length=t.out.length+2→∃τ,T[k]?=some τ∧Tk τ∧B2 (λm=>aL T 30 m τ p ⟨k+1,fr,ak⟩) (Va G s T lam t' fr ck [a] (if x.kind=3 then[a]else[])):=by
       intro c hc hn hs0 hlen;have ht:=M0 hc hs0 hD;have hb3:cN (35::c::s.drop t'.out.length)=false:=by
        rcases hc with rfl|rfl<;>rfl
       obtain⟨e1,e2⟩:=hA.tok hs0 (by decide) (by decide) hb3 ht rfl;have QX:Pos T s (k+1) (t.out.length+2):=e2;refine⟨_,e1,qU 12 rfl (by decide),.inr ⟨.cD x.n,⟨k+1,fr,ak⟩,ck,Ev.ji λm=>?_,⟨⟨by rw[hlen];exact QX,λm=>by rw[hA.ak,qa]⟩,zac _,λ_ _=>rfl,⟨a,rfl,by rw[hK];exact k6,by rw[hN]⟩,λi hi=>(by cases hi),⟨k,_,rfl,e1,hlen.symm⟩,λc=>by rw[zaa (by omega)];rfl⟩⟩⟩;show aL T 30 (m+1) _ _ _=_;rw[mF 12 rfl (by decide),←hn];rfl
      by_cases h1:x.n=1
      ·rw[zab h1]at hs hlen;exact key 116 (.inl rfl) (by rw[h1];rfl) hs hlen
      ·rw[zaa h1]at hs hlen;exact key 102 (.inr rfl) (by rw[show x.n=0 by omega];rfl) hs hlen
     ·rw[zaa k6]at hs hlen hk;by_cases k7:x.kind=7
      ·rw[zab k7]at hk;simp only[zae,zaK]at hk;have ht:=QL hk.1 hs hD;have hs0:s.drop t.out.length=35::92::((if hasName x.n then nameOf x.n else[UInt8.ofNat x.n.toNat])++s.drop t'.out.length):=hs;obtain⟨e1,e2⟩:=hA.tok hs0 (by decide) (by decide) rfl ht rfl;have QX:Pos T s (k+1) (t.out.length+(s7 x.n).length):=e2;refine⟨_,e1,qU 9 rfl (by decide),.inr ⟨.kB x.n,⟨k+1,fr,ak⟩,ck,Ev.ji λm=>?_,⟨⟨by rw[hlen];exact QX,λm=>by rw[hA.ak,qa]⟩,zac _,λ_ _=>rfl,⟨a,rfl,by rw[hK];exact k7,by rw[hN]⟩,λi hi=>(by cases hi),⟨k,_,rfl,e1,hlen.symm⟩,λc=>by rw[zaa (by omega)];rfl⟩⟩⟩;show aL T 30 (m+1) _ _ _=_;rw[mF 9 rfl (by decide)];rfl
      ·rw[zaa k7]at hk;cases hk
end
section
variable (G:List Nd)(L:Nat→Bool)(s:List UInt8)(T:List Tok)(lam:Int→Nat)
abbrev WG (f:Nat)(b:Bool)(t:TS)(a:Nat):TS:=WF (aJ G) (ai G) (jD G) L f b t a
abbrev LG (f:Nat)(b:Bool)(t:TS)(a:Nat):List Nat:=WL (aJ G) (ai G) (jD G) L f b t a
def FOk (f:Nat):Prop:=∀(t:TS) (a k fr:Nat) (ak:List Int) (ck:Nat→Option Nat) (p:Pl),t.Ok G.length L→a<G.length→403≤f+t.out.length→Fin s lam (WG G L f false t a)→Dl (s.drop (WG G L f false t a).out.length)→AX s T t k ak→p.passed=false→p.ahead=[]→∃τ,T[k]?=some τ∧Tk τ∧B2 (λm=>aL T 30 m τ p ⟨k+1,fr,ak⟩) (Va G s T lam (WG G L f false t a) fr ck [a] (LG G L f false t a))
def ROk (f:Nat):Prop:=∀(t:TS) (r k fr:Nat) (bs lg:List Nat) (ds:List Dt) (ak:List Int) (ck:Nat→Option Nat) (p:Pl),t.Ok G.length L→r<G.length→403≤f+t.out.length→Fin s lam (WG G L f true t r)→AX s T t k ak→p.passed=false→p.ahead=[]→ds≠[]→Ch G lam ck bs ds r→(∀d∈ds,∀j∈aY d,j<fr)→(∀c,cn ck c (ds.flatMap aY)=lg.count c)→B2 (λm=>bh T 30 m ds p ⟨k,fr,ak⟩) (Va G s T lam (WG G L f true t r) fr ck [bs.headD r] (bs++lg++LG G L f true t r))
def CG (f:Nat)(t:TS)(a:Nat):TS:=
 if aJ G a=1 then WG G L f true (WG G L f false (t.add [40]) ((ai G a).getD 0 0)) ((ai G a).getD 1 0)
 else if aJ G a=2 then(jZ (WG G L f false) true (ai G a) (t.add [35,40])).add [41]
 else t.add (jD G a)
def CL (f:Nat)(t:TS)(a:Nat):List Nat:=
 if aJ G a=1 then a::(LG G L f false (t.add [40]) ((ai G a).getD 0 0)++LG G L f true (WG G L f false (t.add [40]) ((ai G a).getD 0 0)) ((ai G a).getD 1 0))
 else if aJ G a=2 then a::Gu (WG G L f false) (LG G L f false) true (ai G a) (t.add [35,40])
 else if aJ G a=3 then[a]else[]
end
section
variable {G:List Nd}{L:Nat→Bool}{s:List UInt8}{T:List Tok}{lam:Int→Nat}
structure Rg (G:List Nd):Prop where
 kind:∀(a:Nat) x,G[a]?=some x→aQ x=true
 subs:∀a,∀y∈ai G a,y<G.length
theorem Rg.two (h:Rg G){a:Nat}(hk:aJ G a=1):(ai G a).length=2:=by
 unfold aJ at hk;unfold ai;cases hx:G[a]? with
 |none=>rw[hx]at hk;cases hk
 |some x=>
  rw[hx]at hk;have O1:x.kind=1:=hk;have:=h.kind a x hx;unfold aQ at this;rw[zaa (by omega),zab O1]at this;simpa using(of_decide_eq_true this).1
theorem Rg.ZN (h:Rg G){a:Nat}(hk:aJ G a=2):(ai G a).length≤20:=by
 unfold aJ at hk;unfold ai;cases hx:G[a]? with
 |none=>simp
 |some x=>
  rw[hx]at hk;have O1:x.kind=2:=hk;have:=h.kind a x hx;unfold aQ at this;rw[zaa (by omega),zaa (by omega),zab O1]at this;simpa using(of_decide_eq_true this).1
theorem Rg.sub (h:Rg G){a:Nat}(hk:aJ G a=1):(ai G a).getD 0 0<G.length∧(ai G a).getD 1 0<G.length:=by
 have h2:=h.two hk;have hs:=h.subs a;cases hl:ai G a with
 |nil=>rw[hl]at h2;cases h2
 |cons x l=>
  cases l with
  |nil=>rw[hl]at h2;simp at h2
  |cons y l=>
   rw[hl]at hs;exact⟨hs x (by simp),hs y (by simp)⟩
theorem KN (hR:Rg G){b:Bool}{a:Nat}(h:t.Ok G.length L)(ha:a<G.length):(WG G L f b t a).Ok G.length L:=
 nS (n:=G.length) (λx _ y hy=>hR.subs x y hy) (λ_ _ hk=>hR.two hk) f b t a h ha
theorem zq {ck:Nat→Option Nat}{i r c:Nat}{rest:Dt}:∀{bs:List Nat} {ds:List Dt},Ch G lam ck bs ds r→Wd G lam ck rest [r]→(∀d∈ds,∀j∈aY d,j<i)→(∀j∈aY rest,j<i)→cn (uK ck i bs) c (aY (aU ds rest i).1)=bs.count c+cn ck c (ds.flatMap aY)+cn ck c (aY rest)
 |[],[],_,_,_,h2=>by
  simp only[aU,List.count_nil,List.flatMap_nil,Jk];rw[nD (ck:=ck) c λj hj=>pW (h2 j hj)];omega
 |b::bs,d::ds,⟨g1,g2,g3,g4⟩,hr,h1,h2=>by
  have i0:=zq (c:=c) g4 hr (λx hx=>h1 x (by simp[hx])) h2;obtain⟨_,i2⟩:=tC g4 hr (λx hx=>h1 x (by simp[hx])) h2;have hlen:=g4.len;have hp:uK ck i (b::bs) (i+ds.length)=some b:=by
   unfold uK;rw[zab ⟨by omega,by simp;omega⟩];have:(b::bs).length - 1-(i+ds.length-i)=0:=by simp;omega
   rw[this];rfl
  simp only[aU,eI,aY];rw[nC,pY,hp,nD (ck:=ck) c (λj hj=>pW (h1 d (by simp) j hj)),nD (ck:=uK ck i bs) c (λj hj=>BZ (i2 j hj)),i0,lN,zbB,pY];omega
 |[],_::_,h,_,_,_=>h.elim
 |_::_,[],h,_,_,_=>h.elim
theorem AX.blank {k:Nat}{ak:List Int}{l:List UInt8}(h:AX s T t k ak)(hn:(t.add [32]).long=false)(hs:s.drop t.out.length=32::l):AX s T (t.add [32]) k ak:=
 h.same (by rw[(di hn).2,zaR];exact h.pos.sp hs) (fQ _ _)
theorem Vb (hR:Rg G)(hF:FOk G L s T lam f)(QY:ROk G L s T lam f):ROk G L s T lam (f+1):=by
 intro t r k fr bs lg ds ak ck p hO hr hf dU hA Gw NV hne hC qm uS;have Vc:=hO.lo;by_cases h1:aJ G r=1∧L r=false
 ·have e:WG G L (f+1) true t r=WG G L f true (WG G L f false (t.add [32]) ((ai G r).getD 0 0)) ((ai G r).getD 1 0):=by
   show WF _ _ _ _ _ _ _ _=_;simp only[WF];rw[zab h1]
  have el:LG G L (f+1) true t r=r::(LG G L f false (t.add [32]) ((ai G r).getD 0 0)++LG G L f true (WG G L f false (t.add [32]) ((ai G r).getD 0 0)) ((ai G r).getD 1 0)):=by
   show WL _ _ _ _ _ _ _ _=_;simp only[WL];rw[zab h1]
  rw[e]at dU ⊢;rw[el];obtain⟨s0,s1⟩:=hR.sub h1.1;have g3:=dX f true _ _ dU.nl;have F2:=dU.of g3;have g2:=dX f false _ _ F2.nl;have F1:=F2.of g2;have WO:=(di F1.nl).2;obtain⟨hs1,rq⟩:=F1.drop WO;have Nc:(t.add [32]).out.length=t.out.length+1:=rq;have AD:=hA.blank F1.nl hs1;have yg:=hO.add [32];have WQ:=KN hR (f:=f) (b:=false) yg s0;have AJ:=Vc (di F1.nl).1;obtain⟨f',rfl⟩:∃f',f=f'+1:=⟨f-1,by omega⟩;have hD2:Dl (s.drop (WG G L (f'+1) false (t.add [32]) ((ai G r).getD 0 0)).out.length):=by
   obtain⟨c,q,hc,hq⟩:=B1 dU.nl;have:=(dU.drop hq).1;exact .inr ⟨c,_,by rw[this];rfl,hc⟩
  obtain⟨τ,hT,Eh,hres⟩:=hF (t.add [32]) _ k fr ak ck p yg s0 (by omega) F2 hD2 AD Gw NV;refine hres.bind (Z:=λd σ m=>bh T 30 m (ds++[d]) p σ) (Ev.ji λm=>QT hT Eh m) λd σ zo hg=>?_;have hl2:(t.add [32]).out.length≤(WG G L (f'+1) false (t.add [32]) ((ai G r).getD 0 0)).out.length:=g2.len;have:=QY _ _ σ.k σ.fresh (bs++[r]) (lg++LG G L (f'+1) false (t.add [32]) ((ai G r).getD 0 0)) (ds++[d]) σ.ak zo p WQ s1 (by omega) dU hg.at_ Gw NV (by simp) ((hC.mono λx hx i hi=>hg.old i (qm x hx i hi)).snoc h1.1 hg.wd rfl) (λx hx j hj=>by
   rcases zaF.1 hx with hx|hx
   ·exact zaI (qm x hx j hj) hg.Na
   ·rw[zbA.1 hx]at hj;exact hg.ids j hj) (λc=>by
   rw[zcy,pY,nD (ck:=ck) c (λj hj=>by
    obtain⟨x,hx,hj⟩:=List.mem_flatMap.1 hj;exact hg.old j (qm x hx j hj)),uS,zcA]
   have:=hg.cnt c;simp only[zbB,List.flatMap_nil,zcz];omega)
  have eh:(bs++[r]).headD ((ai G r).getD 1 0)=bs.headD r:=by cases bs<;>rfl
  rw[eh]at this;refine this.mono λd' Oc je h'=>?_;have h2:=h'.from hg.Na hg.old;exact⟨h2.at_,h2.Na,h2.old,h2.wd,h2.ids,h2.last,λc=>by
   rw[h2.cnt c];simp only[zcA,lN,List.count_nil];omega⟩
 ·by_cases h0:aJ G r=0
  ·have e:WG G L (f+1) true t r=t.add [41]:=by
    show WF _ _ _ _ _ _ _ _=_;simp only[WF];rw[zaa h1,zab h0]
   have el:LG G L (f+1) true t r=[]:=by
    show WL _ _ _ _ _ _ _ _=_;simp only[WL];rw[zaa h1,zab h0]
   rw[e]at dU ⊢;rw[el];obtain⟨hs1,rq⟩:=dU.drop (di dU.nl).2;have l4:s.drop t.out.length=41::s.drop (t.add [41]).out.length:=hs1;obtain⟨e1,e2⟩:=hA.tok l4 (by decide) (by decide) (jE (by decide)) (tq l4) rfl;obtain⟨w1,w2⟩:=tC (i:=fr) (rest:= .nil) hC ⟨r,rfl,h0⟩ qm (λj hj=>by cases hj);refine .inr ⟨_,_,uK ck fr bs,Ev.XG λm=>QU e1 rfl m,⟨⟨by rw[rq];exact e2,λm=>by rw[fQ];exact hA.ak m⟩,Nat.le_add_right _ _,λi hi=>pW hi,w1,λj hj=>?_,⟨k,_,rfl,e1,rq.symm⟩,λc=>by
    rw[zq (r:=r) (rest:= .nil) hC ⟨r,rfl,h0⟩ qm (λj hj=>by cases hj),uS];simp only[zcA,List.count_nil,aY,Jk]⟩⟩
   have:=w2 j hj;rw[hC.len]at this;exact this
  ·have e:WG G L (f+1) true t r=(WG G L f false (t.add [32,46,32]) r).add [41]:=by
    show WF _ _ _ _ _ _ _ _=_;simp only[WF];rw[zaa h1,zaa h0]
   have el:LG G L (f+1) true t r=LG G L f false (t.add [32,46,32]) r:=by
    show WL _ _ _ _ _ _ _ _=_;simp only[WL];rw[zaa h1,zaa h0]
   rw[e]at dU ⊢;rw[el];have g3:=Gr.add dU.nl;have F2:=dU.of g3;have g2:=dX f false _ _ F2.nl;have F1:=F2.of g2;obtain⟨hs1,rq⟩:=F1.drop (di F1.nl).2;have l4:s.drop t.out.length=32::46::32::s.drop (t.add [32,46,32]).out.length:=hs1;have Nc:(t.add [32,46,32]).out.length=t.out.length+3:=rq;have p1:=hA.pos.sp l4;have d1:s.drop (t.out.length+1)=46::32::s.drop (t.add [32,46,32]).out.length:=afO l4 rfl;obtain⟨e1,e2⟩:=p1.Jj d1 (by decide) (by decide) (jE (by decide)) (ZJ d1 rfl);have p2:Pos T s (k+1) (t.out.length+2):=e2 rfl;have d2:s.drop (t.out.length+2)=32::s.drop (t.add [32,46,32]).out.length:=afO l4 rfl;have p3:Pos T s (k+1) (t.out.length+3):=p2.sp d2;have AD:AX s T (t.add [32,46,32]) (k+1) ak:=⟨by rw[Nc];exact p3,λm=>by rw[fQ];exact hA.ak m⟩;obtain⟨hs3,ZG⟩:=dU.drop (di dU.nl).2;have ZO:s.drop (WG G L f false (t.add [32,46,32]) r).out.length=41::s.drop ((WG G L f false (t.add [32,46,32]) r).add [41]).out.length:=hs3;obtain⟨τ,hT,Eh,hres⟩:=hF (t.add [32,46,32]) r (k+1) fr ak ck p (hO.add _) hr (by omega) F2 (.inr ⟨41,_,ZO,.inr rfl⟩) AD Gw NV;have Gx:B2 (λm=>ay T 30 m p ⟨k+1,fr,ak⟩) _:=hres.S6 (Ev.ji λm=>Jl hT Eh m);refine Gx.bind (Z:=λrest σ m=>(aM T 30 m p σ).bind λt s=>if t.kind=3 then .ok (aU ds rest s.fresh).1 { s with fresh:=(aU ds rest s.fresh).2 } else .fail 3 t.from_) (Ev.ji λm=>ZM e1 rfl hne m) λd σ zo hg=>?_;obtain⟨c1,c2⟩:=hg.at_.tok ZO (by decide) (by decide) (jE (by decide)) (tq ZO) rfl;have hC1:=hC.mono (je:=zo) λx hx i hi=>hg.old i (qm x hx i hi);obtain⟨w1,w2⟩:=tC (i:=σ.fresh) hC1 hg.wd (λx hx j hj=>zaI (qm x hx j hj) hg.Na) hg.ids;refine .inr ⟨_,⟨σ.k+1,σ.fresh+ds.length,σ.ak⟩,uK zo σ.fresh bs,Ev.ji λm=>?_,⟨⟨by rw[ZG];exact c2,λm=>by rw[fQ];exact hg.at_.ak m⟩,zag hg.Na (Nat.le_add_right _ _),λi hi=>(pW (zaI hi hg.Na)).trans (hg.old i hi),w1,λj hj=>?_,⟨σ.k,_,rfl,c1,ZG.symm⟩,λc=>by
    rw[zq (r:=r) hC1 hg.wd (λx hx j hj=>zaI (qm x hx j hj) hg.Na) hg.ids,nD (ck:=ck) c (λj hj=>by
     obtain⟨x,hx,hj⟩:=List.mem_flatMap.1 hj;exact hg.old j (qm x hx j hj)),uS,hg.cnt c]
    simp only[zcA]⟩⟩
   ·show(aM T 30 (m+1) p σ).bind _=_;rw[zn (fr:=σ.fresh) (ak:=σ.ak) c1 (by show(3:Nat)≠0;decide) (by show(3:Nat)≠1;decide) (by show(3:Nat)≠6;decide)];simp only[RR.bind,aH,if_true,eI]
   ·have:=w2 j hj;rw[hC.len]at this;exact this
theorem KO {ck:Nat→Option Nat}{d:Dt}{x:Nat}:∀{ds:List Dt} {QZ:List Nat},Wd G lam ck (fX ds) QZ→Wd G lam ck d [x]→Wd G lam ck (fX (ds++[d])) (QZ++[x])
 |[],QZ,h,hd=>by
  have h':QZ=[]:=h;subst h';exact⟨x,[],rfl,hd,rfl⟩
 |e::ds,QZ,⟨a,q,h1,h2,h3⟩,hd=>by
  subst h1;exact⟨a,q++[x],rfl,h2,KO h3 hd⟩
theorem Q0 {node:TS→Nat→TS}(hn:∀t y,(node t y).long=false→Gr t (node t y)):∀(l:List Nat) (t:TS),((jZ node false l t).add [41]).long=false→∃c q,(c=32∨c=41)∧((jZ node false l t).add [41]).out=t.out++c::q
 |[],t,h=>⟨41,[],.inr rfl,(di h).2⟩
 |x::l,t,h=>by
  have g1:=Gr.add h;have g2:Gr _ (jZ node false (x::l) t):=lM hn l false (node (t.add [32]) x) g1.nl;have g3:=hn _ _ g2.nl;obtain⟨q,hq⟩:=(g3.trans (g2.trans g1)).out;refine⟨32,q,.inl rfl,?_⟩;rw[hq,(di g3.nl).2];simp
theorem Gy (hR:Rg G){f:Nat}(hF:FOk G L s T lam f):∀(l:List Nat) (b:Bool) (t:TS) (k fr:Nat) (ak:List Int) (ck:Nat→Option Nat) (p:Pl) (ds:List Dt) (QZ lg:List Nat),t.Ok G.length L→(∀y∈l,y<G.length)→403≤f+t.out.length→Fin s lam ((jZ (WG G L f false) b l t).add [41])→AX s T t k ak→p.passed=false→p.ahead=[]→ds.length+l.length≤20→Wd G lam ck (fX ds) QZ→(∀i∈aY (fX ds),i<fr)→(∀c,cn ck c (aY (fX ds))=lg.count c)→B2 (λm=>cy T 30 m ds p ⟨k,fr,ak⟩) (λes σ je=>AX s T ((jZ (WG G L f false) b l t).add [41]) σ.k σ.ak∧fr≤σ.fresh∧(∀i,i<fr→je i=ck i)∧Wd G lam je (fX es) (QZ++l)∧(∀i∈aY (fX es),i<σ.fresh)∧Lt T σ.k ((jZ (WG G L f false) b l t).add [41])∧∀c,cn je c (aY (fX es))=(lg++Gu (WG G L f false) (LG G L f false) b l t).count c)
 |[],b,t,k,fr,ak,ck,p,ds,QZ,lg,hO,hl,hf,dU,hA,Gw,NV,G5,hw,qm,uS=>by
  have mG:Fin s lam (t.add [41]):=dU;obtain⟨hs1,rq⟩:=mG.drop (di mG.nl).2;have l4:s.drop t.out.length=41::s.drop (t.add [41]).out.length:=hs1;obtain⟨e1,e2⟩:=hA.tok l4 (by decide) (by decide) (jE (by decide)) (tq l4) rfl;refine .inr ⟨ds,⟨k+1,fr,ak⟩,ck,Ev.XG λm=>ab3 e1 rfl m,⟨?_,λm=>?_⟩,zac _,λ_ _=>rfl,by rw[zcz];exact hw,qm,⟨k,_,rfl,e1,rq.symm⟩,λc=>by rw[uS c];simp[Gu]⟩
  ·show Pos T s (k+1) (t.add [41]).out.length;rw[rq];exact e2
  ·show _↔0≤m∧m<((t.add [41]).next :Int);rw[fQ];exact hA.ak m
 |x::l,b,t,k,fr,ak,ck,p,ds,QZ,lg,hO,hl,hf,dU,hA,Gw,NV,G5,hw,qm,uS=>by
  have mG:Fin s lam ((jZ (WG G L f false) false l (WG G L f false (if b then t else t.add [32]) x)).add [41]):=dU;have g4:=Gr.add mG.nl;have g3:=lM (λt y hq=>dX f false t y hq) l false _ g4.nl;have F2:=mG.of (g3.trans g4);have g2:=dX f false _ _ F2.nl;have F1:=F2.of g2;have hx:x<G.length:=hl x (by simp);have h1:∃t1,t1=(if b then t else t.add [32])∧t1.Ok G.length L∧AX s T t1 k ak∧t.out.length≤t1.out.length:=by
   refine⟨_,rfl,?_⟩;cases b with
   |true=>exact⟨hO,hA,zac _⟩
   |false=>
    have F1':Fin s lam (t.add [32]):=F1;obtain⟨hs1,rq⟩:=F1'.drop (di F1'.nl).2;exact⟨hO.add _,hA.blank F1'.nl hs1,by show _≤(t.add [32]).out.length;omega⟩
  obtain⟨t1,e1,yg,AD,QN⟩:=h1;rw[←e1]at mG F2 g2 g3 g4;have hD2:Dl (s.drop (WG G L f false t1 x).out.length):=by
   obtain⟨c,q,hc,hq⟩:=Q0 (λt y hq=>dX f false t y hq) l _ mG.nl;have:=(mG.drop hq).1;exact .inr ⟨c,_,by rw[this];rfl,hc⟩
  obtain⟨τ,hT,Eh,hres⟩:=hF t1 x k fr ak ck p yg hx (by omega) F2 hD2 AD Gw NV;have Xm:t1.out.length≤(WG G L f false t1 x).out.length:=g2.len;refine hres.bind (Z:=λd σ m=>cy T 30 m (ds++[d]) p σ) (Ev.ji λm=>ab2 hT Eh (by simp at G5;omega) m) λd σ zo hg=>?_;have ab4:∀i∈aY (fX (ds++[d])),i<σ.fresh:=λi hi=>by
   rw[nA,zcy]at hi;rcases zaF.1 hi with hi|hi
   ·exact zaI (qm i (by rw[nA];exact hi)) hg.Na
   ·exact hg.ids i (by simpa using hi)
  have:=Gy hR hF l false (WG G L f false t1 x) σ.k σ.fresh σ.ak zo p (ds++[d]) (QZ++[x]) (lg++LG G L f false t1 x) (KN hR yg hx) (λy hy=>hl y (by simp[hy])) (by omega) mG hg.at_ Gw NV (by simp at G5 ⊢;omega) (KO (hw.mono λi hi=>hg.old i (qm i hi)) hg.wd) ab4 (λc=>by
   rw[nA,zcy,pY,←nA,nD (ck:=ck) c (λj hj=>hg.old j (qm j hj)),uS,zcA];have:=hg.cnt c;simp only[zbB,List.flatMap_nil,zcz];omega)
  have ev:jZ (WG G L f false) b (x::l) t=jZ (WG G L f false) false l (WG G L f false t1 x):=by rw[e1];rfl
  rw[ev];refine this.mono λes Oc je ⟨q1,q2,q3,q4,q5,q6,q7⟩=>⟨q1,zag hg.Na q2,λi hi=>(q3 i (zaI hi hg.Na)).trans (hg.old i hi),?_,q5,q6,λc=>?_⟩
  ·rw[zbK]at q4;exact q4
  ·rw[q7 c,e1];simp only[Gu,zcA];omega
theorem ab5 {a:Nat}(h:(CG G L f t a).long=false):Gr t (CG G L f t a):=by
 unfold CG at h ⊢;by_cases h1:aJ G a=1
 ·rw[zab h1]at h ⊢;have i1:=dX f true _ _ h;have i2:=dX f false _ _ i1.nl;exact(Gr.add i2.nl).trans (i2.trans i1)
 ·rw[zaa h1]at h ⊢;by_cases h2:aJ G a=2
  ·rw[zab h2]at h ⊢;have i1:=Gr.add h;have i2:=lM (λt y hq=>dX f false t y hq) _ _ _ i1.nl;exact(Gr.add i2.nl).trans (i2.trans i1)
  ·rw[zaa h2]at h ⊢;exact Gr.add h
theorem B3 (hR:Rg G)(hF:FOk G L s T lam f)(QY:ROk G L s T lam f){a k fr:Nat}{ak:List Int}{ck:Nat→Option Nat}{p:Pl}(hO:t.Ok G.length L)(ha:a<G.length)(hf:402≤f+t.out.length)(dU:Fin s lam (CG G L f t a))(hD:Dl (s.drop (CG G L f t a).out.length))(hA:AX s T t k ak)(Gw:p.passed=false):∃τ,T[k]?=some τ∧Tk τ∧B2 (λm=>aL T 30 m τ p ⟨k+1,fr,ak⟩) (Va G s T lam (CG G L f t a) fr ck [a] (CL G L f t a)):=by
 by_cases h1:aJ G a=1
 ·have e:CG G L f t a=WG G L f true (WG G L f false (t.add [40]) ((ai G a).getD 0 0)) ((ai G a).getD 1 0):=by unfold CG;rw[zab h1]
  have el:CL G L f t a=a::(LG G L f false (t.add [40]) ((ai G a).getD 0 0)++LG G L f true (WG G L f false (t.add [40]) ((ai G a).getD 0 0)) ((ai G a).getD 1 0)):=by unfold CL;rw[zab h1]
  rw[e]at dU ⊢;rw[el];obtain⟨s0,s1⟩:=hR.sub h1;have g3:=dX f true _ _ dU.nl;have F2:=dU.of g3;have g2:=dX f false _ _ F2.nl;have F1:=F2.of g2;obtain⟨hs1,rq⟩:=F1.drop (di F1.nl).2;have l4:s.drop t.out.length=40::s.drop (t.add [40]).out.length:=hs1;have Nc:(t.add [40]).out.length=t.out.length+1:=rq;obtain⟨e1,e2⟩:=hA.tok l4 (by decide) (by decide) (jE (by decide)) (KI l4) rfl;refine⟨_,e1,qU 2 rfl (by decide),?_⟩;by_cases qz:p.depth=30
  ·exact .inl ⟨t.out.length,Ev.ji λm=>by
    show aL T 30 (m+1) _ _ _=_;rw[mE rfl,zab qz];rfl⟩
  ·have AD:AX s T (t.add [40]) (k+1) ak:=⟨by rw[Nc];exact e2,λm=>by rw[fQ];exact hA.ak m⟩;have AJ:=hO.lo (di F1.nl).1;obtain⟨f',rfl⟩:∃f',f=f'+1:=⟨f-1,by omega⟩;have hD2:Dl (s.drop (WG G L (f'+1) false (t.add [40]) ((ai G a).getD 0 0)).out.length):=by
    obtain⟨c,q,hc,hq⟩:=B1 dU.nl;have:=(dU.drop hq).1;exact .inr ⟨c,_,by rw[this];rfl,hc⟩
   obtain⟨τ,hT,Eh,hres⟩:=hF (t.add [40]) _ (k+1) fr ak ck ⟨p.depth+1,p.passed,[]⟩ (hO.add _) s0 (by omega) F2 hD2 AD Gw rfl;have hl2:(t.add [40]).out.length≤(WG G L (f'+1) false (t.add [40]) ((ai G a).getD 0 0)).out.length:=g2.len;have ab6:B2 (λm=>bh T 30 m [] ⟨p.depth+1,p.passed,[]⟩ ⟨k+1,fr,ak⟩) (Va G s T lam (WG G L (f'+1) true (WG G L (f'+1) false (t.add [40]) ((ai G a).getD 0 0)) ((ai G a).getD 1 0)) fr ck [a] (a::(LG G L (f'+1) false (t.add [40]) ((ai G a).getD 0 0)++LG G L (f'+1) true (WG G L (f'+1) false (t.add [40]) ((ai G a).getD 0 0)) ((ai G a).getD 1 0)))):=by
    refine hres.bind (Z:=λd σ m=>bh T 30 m ([]++[d]) ⟨p.depth+1,p.passed,[]⟩ σ) (Ev.ji λm=>QT hT Eh m) λd σ zo hg=>?_;have:=QY _ _ σ.k σ.fresh [a] (LG G L (f'+1) false (t.add [40]) ((ai G a).getD 0 0)) [d] σ.ak zo ⟨p.depth+1,p.passed,[]⟩ (KN hR (f:=f'+1) (b:=false) (hO.add [40]) s0) s1 (by omega) dU hg.at_ Gw rfl (by simp) ⟨h1,hg.wd,rfl,trivial⟩ (λx hx j hj=>by rw[zbA.1 hx]at hj;exact hg.ids j hj) (λc=>by
     simp only[zbB,List.flatMap_nil,zcz];exact hg.cnt c)
    exact this.mono λd' Oc je h'=>h'.from hg.Na hg.old
   exact ab6.S6 (Ev.all λm=>by
    show aL T 30 (m+1) _ _ _=_;rw[mE rfl,zaa qz])
 ·by_cases h2:aJ G a=2
  ·have e:CG G L f t a=(jZ (WG G L f false) true (ai G a) (t.add [35,40])).add [41]:=by unfold CG;rw[zaa h1,zab h2]
   have el:CL G L f t a=a::Gu (WG G L f false) (LG G L f false) true (ai G a) (t.add [35,40]):=by unfold CL;rw[zaa h1,zab h2]
   rw[e]at dU ⊢;rw[el];have g3:=Gr.add dU.nl;have g2:=lM (λt y hq=>dX f false t y hq) _ _ _ g3.nl;have F1:=dU.of (g2.trans g3);obtain⟨hs1,rq⟩:=F1.drop (di F1.nl).2;have l4:s.drop t.out.length=35::40::s.drop (t.add [35,40]).out.length:=hs1;have Nc:(t.add [35,40]).out.length=t.out.length+2:=rq;obtain⟨e1,e2⟩:=hA.tok l4 (by decide) (by decide) rfl (ZI l4) rfl;refine⟨_,e1,qU 5 rfl (by decide),?_⟩;by_cases qz:p.depth=30
   ·exact .inl ⟨t.out.length,Ev.ji λm=>by
     show aL T 30 (m+1) _ _ _=_;rw[ze rfl,zab qz];rfl⟩
   ·have AD:AX s T (t.add [35,40]) (k+1) ak:=⟨by rw[Nc];exact e2,λm=>by rw[fQ];exact hA.ak m⟩;have G5:=hR.ZN h2;have hv:=Gy hR hF (ai G a) true (t.add [35,40]) (k+1) (fr+1) ak (λi=>if i=fr then some a else ck i) ⟨p.depth+1,p.passed,[]⟩ [] [] [] (hO.add _) (hR.subs a) (by omega) dU AD Gw rfl (by simpa using G5) rfl (λi hi=>by cases hi) (λc=>rfl);refine hv.bind (Z:=λl σ _=> .ok (.vec fr (fX l)) σ) (Ev.all λm=>by
     show aL T 30 (m+1) _ _ _=_;rw[ze rfl,zaa qz]) λes σ je ⟨q1,q2,q3,q4,q5,q6,q7⟩=>?_
    refine .inr ⟨_,σ,je,Ev.all λ_=>rfl,⟨q1,by omega,λi hi=>(q3 i (by omega)).trans (zaa (by omega)),⟨a,rfl,h2,(q3 fr (by omega)).trans (zab rfl),q4⟩,λi hi=>?_,q6,λc=>by
     simp only[aY];rw[nC,(q3 fr (by omega)).trans (zab rfl),q7 c,lN];rfl⟩⟩
    simp only[aY,zal]at hi;rcases hi with rfl|hi
    ·omega
    ·exact q5 i hi
  ·have e:CG G L f t a=t.add (jD G a):=by unfold CG;rw[zaa h1,zaa h2]
   rw[e]at dU hD ⊢;obtain⟨x,hx⟩:∃x,G[a]?=some x:=⟨_,zat ha⟩;have hK:aJ G a=x.kind:=by unfold aJ;rw[hx]
   have hAt:jD G a=eU x:=by unfold jD;rw[hx]
   have el:CL G L f t a=if x.kind=3 then[a]else[]:=by unfold CL;rw[zaa h1,zaa h2,hK]
   rw[el];rw[hAt]at dU hD ⊢;exact QW hx (hR.kind a x hx) (by rw[←hK];exact h1) (by rw[←hK];exact h2) dU (di dU.nl).2 (fQ _ _) hD hA
theorem Gz (m:Nat)(r:List UInt8):cN (35::(Δ m++r))=false:=by
 rw[Lib.itoa_nonneg];cases hd:Γ m with
 |nil=>exact absurd hd (nu m)
 |cons x q=>
  have hx:=gQ m x (by rw[hd];exact zaD);simp only[zam,cN];rw[zaS];rintro ⟨_,e⟩;rw[e]at hx;have:UInt8.toNat 124=124:=rfl;omega
theorem Nf (hR:Rg G)(hF:FOk G L s T lam f)(QY:ROk G L s T lam f):FOk G L s T lam (f+1):=by
 intro t a k fr ak ck p hO ha hf dU hD hA Gw NV;have cV:t.long=false:=(dX (f+1) false t a dU.nl).nl;have AJ:=hO.lo cV;by_cases h0:0≤t.cE.getD a (-1)
 ·have e:WG G L (f+1) false t a=t.add (35::(Δ (t.cE.getD a (-1))++[35])):=by
   show WF _ _ _ _ _ _ _ _=_;simp only[WF];rw[zaa (by simp[cV]),zab h0]
  have el:LG G L (f+1) false t a=[]:=by
   show WL _ _ _ _ _ _ _ _=_;simp only[WL];rw[zab h0]
  rw[e]at dU hD ⊢;rw[el];obtain⟨m,hm⟩:=zbq h0;have hb:=hO.ln a;have wJ:=hO.n2;have Q1:=dU.lam a (by rw[gX];exact h0);rw[gX]at Q1;rw[hm]at dU hD hb Q1 ⊢;obtain⟨hs1,rq⟩:=dU.drop (di dU.nl).2;generalize hR1:s.drop (t.add (35::(Δ (m:Int)++[35]))).out.length=R1 at hs1;have l4:s.drop t.out.length=35::(Δ (m:Int)++35::R1):=by rw[hs1];simp
  have ht:=BV (c:=35) (show m≤999 by omega) (.inr rfl) l4;obtain⟨e1,e2⟩:=hA.tok l4 (by decide) (by decide) (Gz m _) ht rfl;refine⟨_,e1,qU 11 rfl (by decide),.inr ⟨.ask m,⟨k+1,fr,ak⟩,ck,Ev.ji λq=>?_,⟨⟨?_,λq=>by rw[fQ];exact hA.ak q⟩,zac _,λ_ _=>rfl,⟨a,rfl,Q1⟩,λi hi=>(by cases hi),⟨k,_,rfl,e1,?_⟩,λc=>rfl⟩⟩⟩
  ·show aL T 30 (q+1) _ _ _=_;rw[QV rfl Gw NV ((hA.ak _).2 ⟨by show(0:Int)≤(m:Int);omega,by show(m:Int)<_;omega⟩)]
  ·show Pos T s (k+1) _;rw[rq];have:t.out.length+(35::(Δ (m:Int)++[35])).length=t.out.length+(Δ (m:Int)).length + 2:=by simp;omega
   rw[this];exact e2
  ·rw[rq];show t.out.length+(Δ (m:Int)).length + 2=_;simp;omega
 ·have e:WG G L (f+1) false t a=CG G L f (if L a then t.put a else t) a:=by
   show WF _ _ _ _ _ _ _ _=_;simp only[WF];rw[zaa (by simp[cV]),zaa h0];unfold CG;rw[pX]
  have el:LG G L (f+1) false t a=CL G L f (if L a then t.put a else t) a:=by
   show WL _ _ _ _ _ _ _ _=_;simp only[WL];rw[zaa h0];rfl
  rw[e]at dU hD ⊢;rw[el];cases hL:L a with
  |false=>
   rw[hL]at dU hD;exact B3 (t:=t) hR hF QY hO ha (by omega) dU hD hA Gw
  |true=>
   rw[hL]at dU hD;have mG:Fin s lam (CG G L f (t.put a) a):=dU;have g1:=ab5 mG.nl;have F1:=mG.of g1;have hput:=(zl F1.nl).2;obtain⟨hs1,rq⟩:=F1.drop hput;have qa:=hO.nx cV;generalize hR1:s.drop (t.put a).out.length=R1 at hs1;have l4:s.drop t.out.length=35::(Δ (t.next:Int)++61::R1):=by rw[hs1];simp
   have ht:=BV (c:=61) (show t.next≤999 by omega) (.inl rfl) l4;obtain⟨e1,e2⟩:=hA.tok l4 (by decide) (by decide) (Gz _ _) ht rfl;have hni:¬(t.next:Int)∈ak:=λhm=>by have:=((hA.ak _).1 hm).2;omega
   refine⟨_,e1,qU 10 rfl (by decide),?_⟩;by_cases qz:p.depth=30
   ·exact .inl ⟨t.out.length,Ev.ji λm=>by
     show aL T 30 (m+1) _ _ _=_;rw[Gv rfl Gw hni,zab qz];rfl⟩
   ·have yg:=hO.put ha hL cV;have QN:(t.put a).out.length=t.out.length+(Δ (t.next:Int)).length + 2:=by rw[rq];simp;omega
    have AD:AX s T (t.put a) (k+1) ((t.next:Int)::ak):=by
     refine⟨by rw[QN];exact e2,λm=>?_⟩;show m∈(t.next:Int)::ak↔0≤m∧m<((t.next+1:Nat):Int);rw[zal,hA.ak];omega
    obtain⟨τ,hT,Eh,hres⟩:=B3 (p:=⟨p.depth+1,p.passed,p.ahead++[(t.next:Int)]⟩) (fr:=fr) (ck:=ck) hR hF QY yg ha (by omega) mG hD AD Gw;have Gx:B2 (λm=>ay T 30 m ⟨p.depth+1,p.passed,p.ahead++[(t.next:Int)]⟩ ⟨k+1,fr,(t.next:Int)::ak⟩) _:=hres.S6 (Ev.ji λm=>Jl hT Eh m);have Q1:lam (t.next:Int)=a:=by
     have e0:(t.put a).cE.getD a (-1)=(t.next:Int):=by
      show(t.cE.set a (t.next:Int)).getD a (-1)=_;rw[cR _ _ _ _ _ (by rw[hO.ll];exact ha),zab rfl]
     have e3:=F1.lam a (by rw[e0];omega);rw[e0]at e3;exact e3
    refine Gx.bind (Z:=λd σ _=> .ok (.put (t.next:Int) d) σ) (Ev.all λm=>by
     show aL T 30 (m+1) _ _ _=_;rw[Gv rfl Gw hni,zaa qz]) λd σ je hg=>?_
    exact .inr ⟨_,σ,je,Ev.all λ_=>rfl,⟨hg.at_,hg.Na,hg.old,⟨hg.wd,a,rfl,Q1⟩,hg.ids,hg.last,hg.cnt⟩⟩
theorem pg (hR:Rg G):∀f,FOk G L s T lam f∧ROk G L s T lam f
 |0=>by
  constructor
  ·intro t a k fr ak ck p hO ha hf dU;have:=hO.lo dU.nl;omega
  ·intro t r k fr bs lg ds ak ck p hO hr hf dU;have:=hO.lo dU.nl;omega
 |f+1=>⟨Nf hR (pg hR f).1 (pg hR f).2,Vb hR (pg hR f).1 (pg hR f).2⟩
end
end Go.Proofs.YtlhimdjkkiflhaaGreatDoor
namespace Go.Loop
variable {t:TS}
def Le {α:Type}(x x':RR α):Prop:=x≠.out→x'=x
theorem Le.refl {α:Type}(x:RR α):Le x x:=λ_=>rfl
theorem Le.bind {α β:Type}{x x':RR α}{f f':α→eD→RR β}(hx:Le x x')(hf:∀a s,Le (f a s) (f' a s)):Le (x.bind f) (x'.bind f'):=by
 intro h;cases SR:x with
 |out=>rw[SR]at h;exact absurd rfl h
 |fail e a=>rw[hx (by rw[SR];simp),SR];rfl
 |ok a s=>
  rw[hx (by rw[SR];simp),SR];rw[SR]at h;exact hf a s h
theorem Le.ite {α:Type}{c:Prop} [Decidable c] {x x' y y':RR α}(hx:Le x x')(hy:Le y y'):Le (if c then x else y) (if c then x' else y'):=by
 split
 ·exact hx
 ·exact hy
section
variable (T:List Tok)(dp:Nat)
structure ab7 (n:Nat):Prop where
 datum:∀p s,Le (ay T dp n p s) (ay T dp (n+1) p s)
 take:∀p s,Le (aM T dp n p s) (aM T dp (n+1) p s)
 nY:∀t p s,Le (aL T dp n t p s) (aL T dp (n+1) t p s)
 list:∀data p s,Le (bh T dp n data p s) (bh T dp (n+1) data p s)
 vec:∀data p s,Le (cy T dp n data p s) (cy T dp (n+1) data p s)
end
section
variable {T:List Tok}{dp:Nat}
theorem Q2:∀n,ab7 T dp n
 |0=>by
  refine⟨λp s h=>?_,λp s h=>?_,λt p s h=>?_,λdata p s h=>?_,λdata p s h=>?_⟩
  ·exact absurd (by unfold ay;rfl) h
  ·exact absurd (by unfold aM;rfl) h
  ·exact absurd (by unfold aL;rfl) h
  ·exact absurd (by unfold bh;rfl) h
  ·exact absurd (by unfold cy;rfl) h
 |n+1=>by
  have ih:=Q2 n;refine⟨λp s=>?_,λp s=>?_,λt p s=>?_,λdata p s=>?_,λdata p s=>?_⟩
  ·rw[ay,ay.eq_def T dp (n+1+1)];exact(ih.take _ _).bind λt s=>ih.nY _ _ _
  ·rw[aM,aM.eq_def T dp (n+1+1)];dsimp only;cases T[s.k]? with
   |none=>exact Le.refl _
   |some t=>exact Le.ite (Le.refl _) (Le.ite (Le.refl _) (Le.ite ((ih.datum _ _).bind λ_ _=>ih.take _ _) (Le.refl _)))
  ·rw[aL,aL.eq_def T dp (n+1+1)];exact Le.ite (Le.refl _) (Le.ite (Le.ite (Le.refl _) (Le.ite (Le.refl _) ((ih.datum _ _).bind λ_ _=>Le.refl _))) (Le.ite (Le.ite (Le.refl _) (Le.refl _)) (Le.ite (Le.ite (Le.refl _) (Le.ite ((ih.vec _ _ _).bind λ_ _=>Le.refl _) (Le.ite ((ih.datum _ _).bind λ_ _=>Le.refl _) (ih.list _ _ _)))) (Le.refl _))))
  ·rw[bh,bh.eq_def T dp (n+1+1)];exact(ih.take _ _).bind λt s=>Le.ite (Le.refl _) (Le.ite ((ih.datum _ _).bind λ_ _=>(ih.take _ _).bind λ_ _=>Le.refl _) ((ih.nY _ _ _).bind λ_ _=>ih.list _ _ _))
  ·rw[cy,cy.eq_def T dp (n+1+1)];exact(ih.take _ _).bind λt s=>Le.ite (Le.refl _) (Le.ite (Le.refl _) ((ih.nY _ _ _).bind λ_ _=>ih.vec _ _ _))
theorem Jn {n m:Nat}{p:Pl}{s:eD}(h:ay T dp n p s≠.out)(hm:n≤m):ay T dp m p s=ay T dp n p s:=by
 induction m with
 |zero=>rw[show n=0 by omega]
 |succ m ih=>
  by_cases e:n=m+1
  ·rw[e]
  ·have i:=ih (by omega);rw[(Q2 m).datum p s (by rw[i];exact h),i]
end
section
variable {K:Nat→Int}{S:Nat→List Nat}{At:Nat→List UInt8}{L:Nat→Bool}
theorem nE {P:TS→Prop}(ha:∀t p,P t→P (t.add p))(hp:∀t a,P t→P (t.put a)):∀(f:Nat) (b:Bool) (t:TS) (a:Nat),P t→P (WF K S At L f b t a)
 |0,_,_,_,h=>h
 |f+1,false,t,a,h=>by
  have h0:P (if L a then t.put a else t):=by
   split
   ·exact hp _ _ h
   ·exact h
  simp only[WF];split
  ·exact h
  ·split
   ·exact ha _ _ h
   ·split
    ·exact nE ha hp f true _ _ (nE ha hp f false _ _ (ha _ _ h0))
    ·split
     ·rw[pX];refine ha _ _ ?_;have:∀(l:List Nat) (b:Bool) (t:TS),P t→P (jZ (WF K S At L f false) b l t):=by
       intro l
       induction l with
       |nil=>intro b t h;exact h
       |cons x l ih=>
        intro b t h;refine ih false _ (nE ha hp f false _ _ ?_);split
        ·exact h
        ·exact ha _ _ h
      exact this _ _ _ (ha _ _ h0)
     ·exact ha _ _ h0
 |f+1,true,t,r,h=>by
  simp only[WF];split
  ·exact nE ha hp f true _ _ (nE ha hp f false _ _ (ha _ _ h))
  ·split
   ·exact ha _ _ h
   ·exact ha _ _ (nE ha hp f false _ _ (ha _ _ h))
end
structure LJ (t:TS):Prop where
 lt:∀i,t.cE.getD i (-1)<t.next
 inj:∀b c,0≤t.cE.getD b (-1)→t.cE.getD b (-1)=t.cE.getD c (-1)→b=c
theorem LJ.add (h:LJ t)(p:List UInt8):LJ (t.add p):=⟨by rw[gX,fQ];exact h.lt,by rw[gX];exact h.inj⟩
theorem LJ.put (h:LJ t)(a:Nat):LJ (t.put a):=by
 have hg:∀i,(t.put a).cE.getD i (-1)=(if a<t.cE.length∧i=a then(t.next:Int)else t.cE.getD i (-1)):=λi=>by
  show(t.cE.set a (t.next:Int)).getD i (-1)=_;by_cases ha:a<t.cE.length
  ·rw[cR _ _ _ _ _ ha];by_cases hi:i=a
   ·rw[zab hi,zab ⟨ha,hi⟩]
   ·rw[zaa hi,zaa (λq=>hi q.2)]
  ·rw[List.set_eq_of_length_le (by omega),zaa (λq=>ha q.1)]
 refine⟨λi=>?_,λb c hb e=>?_⟩
 ·rw[hg];show _<((t.next+1:Nat):Int);have:=h.lt i;split<;>omega
 ·rw[hg,hg]at e;rw[hg]at hb;have h1:=h.lt b;have h2:=h.lt c;split at e<;>split at e
  ·rename_i q1 q2;rw[q1.2,q2.2]
  ·omega
  ·omega
  ·rename_i q1 _;rw[zaa q1]at hb;exact h.inj b c hb e
def zr (t:TS)(m:Int):Nat:=t.cE.idxOf m
theorem Ng (h:LJ t)(b:Nat)(hb:0≤t.cE.getD b (-1)):zr t (t.cE.getD b (-1))=b:=by
 have hbl:b<t.cE.length:=by
  rcases zaw b t.cE.length with q|q
  ·exact q
  ·rw[zcG,zcp q]at hb;simp at hb
 have hm:t.cE.getD b (-1)∈t.cE:=by
  rw[zcG,zat hbl];exact zbx hbl
 have hi:=List.idxOf_lt_length_of_mem hm;refine(h.inj b (zr t (t.cE.getD b (-1))) hb ?_).symm;unfold zr;generalize hx:t.cE.getD b (-1)=x at *;rw[zcG,zat hi,List.getElem_idxOf hi];rfl
end Go.Loop
namespace Go.Proofs.YtlhimdjkkiflhaaGreatDoor
open Go.RowKit Go.Loop
theorem Nh (n:Nat):LJ (bu n):=by
 have h:∀i,(bu n).cE.getD i (-1)=-1:=λi=>by
  show(List.replicate n (-1:Int)).getD i (-1)=-1;rw[zcG,zcF];split<;>rfl
 refine⟨λi=>?_,λb c hb=>?_⟩
 ·rw[h];show(-1:Int)<((0:Nat):Int);omega
 ·rw[h]at hb;omega
theorem KP {T:List Tok}{p:Pl}{s:eD}{r:RR Dt}(hne:ay T 30 2000 p s≠.out)(h:Ev λm=>ay T 30 m p s=r):ay T 30 2000 p s=r:=by
 obtain⟨m0,h⟩:=h;have h1:ay T 30 (max m0 2000) p s=r:=h (max m0 2000) (by omega);rw[Jn hne (by omega)]at h1;exact h1
theorem B4 {G:List Nd}(hR:Rg G)(hn:1≤G.length){L:Nat→Bool}(mi:(WG G L 403 false (bu G.length) 0).long=false){s:List UInt8}(hs:s=(WG G L 403 false (bu G.length) 0).out):s.length≤400∧((∃a,cS s 30=some ([],a,6))∨cS s 30=some ([],0,2)∨
 ∃d σ ck k g,ay (aw (s.length+1) s 0) 30 2000 ⟨0,false,[]⟩ ⟨0,0,[]⟩=.ok d σ∧ie d 100000 d ⟨[],[]⟩=some (k,g)∧g.nodes.length≤150∧cS s 30=some (g.nodes,s.length,0)∧Wd G (zr (WG G L 403 false (bu G.length) 0)) ck d [0]∧∀c,cn ck c (aY d)=(LG G L 403 false (bu G.length) 0).count c):=by
 have hO:=pU G.length L;have hOF:=KN (L:=L) hR (f:=403) (b:=false) hO (show 0<G.length by omega);have hlen:=hOF.lo mi;rw[←hs]at hlen;refine⟨hlen,?_⟩;have hLJ:LJ (WG G L 403 false (bu G.length) 0):=nE (λt p h=>h.add p) (λt a h=>h.put a) _ _ _ _ (Nh _);have dU:Fin s (zr (WG G L 403 false (bu G.length) 0)) (WG G L 403 false (bu G.length) 0):=⟨mi,⟨[],by rw[hs];simp⟩,λb hb=>Ng hLJ b hb⟩;have hA:AX s (aw (s.length+1) s 0) (bu G.length) 0 []:=⟨Pos.start s,λm=>by
  show m∈[]↔0≤m∧m<((0:Nat):Int);simp⟩
 have hD:Dl (s.drop (WG G L 403 false (bu G.length) 0).out.length):= .inl (by rw[←hs];simp);obtain⟨τ,hT,Eh,hres⟩:=(pg (G:=G) (L:=L) (s:=s) (T:=aw (s.length+1) s 0) (lam:=zr (WG G L 403 false (bu G.length) 0)) hR 403).1 (bu G.length) 0 0 0 [] (λ_=>none) ⟨0,false,[]⟩ hO (by omega) (by omega) dU hD hA rfl rfl;have Gx:B2 (λm=>ay (aw (s.length+1) s 0) 30 m ⟨0,false,[]⟩ ⟨0,0,[]⟩) _:=hres.S6 (Ev.ji λm=>Jl hT Eh m);have hTl:=lF (s.length+1) s 0 (zaq _) (by omega);have hle:=pO (s.length+1) s 0;have Y5:=(fuel (aw (s.length+1) s 0) 30 hTl.2 2000).datum ⟨0,false,[]⟩ ⟨0,0,[]⟩ (zbT.2 hTl.1) (by show 2*(_-0)+2≤2000;omega);have hne:ay (aw (s.length+1) s 0) 30 2000 ⟨0,false,[]⟩ ⟨0,0,[]⟩≠.out:=λh=>by rw[h]at Y5;exact Y5
 have hu:∀r,ay (aw (s.length+1) s 0) 30 2000 ⟨0,false,[]⟩ ⟨0,0,[]⟩=r→cS s 30=match r with
  |.out=>none
  |.fail e a=>some ([],a,e)
  |.ok d σ=>(ie d 100000 d ⟨[],[]⟩).map λg=>if 150<g.2.nodes.length then([],0,2)else(g.2.nodes,(((aw (s.length+1) s 0)[σ.k-1]?).map (·.gw)).getD 0,0):=λr hr=>by
  unfold cS;rw[zaa (by omega),zaa (by omega),show Int.toNat 30=30 from rfl,hr];cases r<;>rfl
 rcases Gx with⟨e,h⟩|⟨d,σ,ck,h,hg⟩
 ·exact .inl ⟨e,hu _ (KP hne h)⟩
 ·have eK:=KP hne h;obtain⟨_,k,g,cO,_⟩:=tj hlen 30 d σ eK;have hN:=hu _ eK;dsimp only at hN;rw[cO]at hN;by_cases ql:150<g.nodes.length
  ·simp only[zbp,zab ql]at hN;exact .inr (.inl hN)
  ·simp only[zbp,zaa ql]at hN;obtain⟨j,tk,hj,NK,Vd⟩:=hg.last;have hjk:σ.k-1=j:=by omega
   rw[hjk,NK]at hN;refine .inr (.inr ⟨d,σ,ck,k,g,eK,cO,by omega,?_,hg.wd,hg.cnt⟩);rw[hN];simp only[zbp,zbg,Vd];rw[←hs]
end Go.Proofs.YtlhimdjkkiflhaaGreatDoor
namespace Go.Loop
theorem iy {root d:Dt}:∀{r:Dt},bH root r=true→d∈bp r→bH root d=true
 |.pair i a b,h,hr=>by
  have h':=h;simp only[bH,zae]at h';simp only[bp,zal,zaF]at hr;rcases hr with rfl|hr|hr
  ·exact h
  ·exact iy h'.1 hr
  ·exact iy h'.2 hr
 |.br a b,h,hr=>by
  have h':=h;simp only[bH,zae]at h';simp only[bp,zal,zaF]at hr;rcases hr with rfl|hr|hr
  ·exact h
  ·exact iy h'.1 hr
  ·exact iy h'.2 hr
 |.vec i l,h,hr=>by
  have h':=h;simp only[bH,zae]at h';simp only[bp,zal]at hr;rcases hr with rfl|hr
  ·exact h
  ·exact iy h'.2 hr
 |.put i l,h,hr=>by
  have h':=h;simp only[bH,zae]at h';simp only[bp,zal]at hr;rcases hr with rfl|hr
  ·exact h
  ·exact iy h'.2 hr
 |.nil,h,hr=>by simp[bp]at hr;subst hr;exact h
 |.sym _,h,hr=>by simp[bp]at hr;subst hr;exact h
 |.num _ _,h,hr=>by simp[bp]at hr;subst hr;exact h
 |.cD _,h,hr=>by simp[bp]at hr;subst hr;exact h
 |.kB _,h,hr=>by simp[bp]at hr;subst hr;exact h
 |.txt _ _,h,hr=>by simp[bp]at hr;subst hr;exact h
 |.cZ,h,hr=>by simp[bp]at hr;subst hr;exact h
 |.ask _,h,hr=>by simp[bp]at hr;subst hr;exact h
theorem GD {root d:Dt}{n k:Nat}{g:fP}(h:ie root n d ⟨[],[]⟩=some (k,g)):k=0:=by
 cases n with
 |zero=>simp[ie]at h
 |succ n=>
  simp only[ie,List.lookup]at h;split at h
  ·obtain⟨y,_,h2⟩:=zas.1 h;cases h2;rfl
  ·obtain⟨y,_,h2⟩:=zas.1 h;cases h2;rfl
  all_goals cases h;rfl
end Go.Loop
namespace Go.Proofs.YtlhimdjkkiflhaaGreatDoor
open Go.RowKit Go.Loop
variable {x:Nd}
section
variable {G:List Nd}{lam:Int→Nat}{ck:Nat→Option Nat}
theorem pk {x:Dt}:∀{r:Dt} {l:List Nat},Wd G lam ck r l→x∈bp r→∃l',Wd G lam ck x l'
 |.pair i u v,l,h,hx=>by
  simp only[bp,zal,zaF]at hx;rcases hx with rfl|hx|hx
  ·exact⟨l,h⟩
  ·obtain⟨a,_,_,_,h4,_⟩:=h;exact pk h4 hx
  ·obtain⟨a,_,_,_,_,h5⟩:=h;exact pk h5 hx
 |.br u v,l,h,hx=>by
  simp only[bp,zal,zaF]at hx;rcases hx with rfl|hx|hx
  ·exact⟨l,h⟩
  ·obtain⟨a,q,_,h4,_⟩:=h;exact pk h4 hx
  ·obtain⟨a,q,_,_,h5⟩:=h;exact pk h5 hx
 |.vec i u,l,h,hx=>by
  simp only[bp,zal]at hx;rcases hx with rfl|hx
  ·exact⟨l,h⟩
  ·obtain⟨a,_,_,_,h4⟩:=h;exact pk h4 hx
 |.put m u,l,h,hx=>by
  simp only[bp,zal]at hx;rcases hx with rfl|hx
  ·exact⟨l,h⟩
  ·exact pk h.1 hx
 |.nil,l,h,hx=>by simp[bp]at hx;subst hx;exact⟨l,h⟩
 |.sym _,l,h,hx=>by simp[bp]at hx;subst hx;exact⟨l,h⟩
 |.num _ _,l,h,hx=>by simp[bp]at hx;subst hx;exact⟨l,h⟩
 |.cD _,l,h,hx=>by simp[bp]at hx;subst hx;exact⟨l,h⟩
 |.kB _,l,h,hx=>by simp[bp]at hx;subst hx;exact⟨l,h⟩
 |.txt _ _,l,h,hx=>by simp[bp]at hx;subst hx;exact⟨l,h⟩
 |.cZ,l,h,hx=>by simp[bp]at hx;subst hx;exact⟨l,h⟩
 |.ask _,l,h,hx=>by simp[bp]at hx;subst hx;exact⟨l,h⟩
theorem tD {root:Dt}{l0:List Nat}(h0:Wd G lam ck root l0)(hg:bH root root=true){a:Nat}:∀(f:Nat) (x:Dt),x∈bp root→Wd G lam ck x [a]→Wd G lam ck (bQ root f x) [a]
 |0,_,_,h=>h
 |f+1,.put m u,hx,h=>tD h0 hg f u (cz (by simp[bp,cX]) hx) h.1
 |f+1,.ask m,hx,h=>by
  have hgo:=iy hg hx;simp only[bH,zae]at hgo;obtain⟨u,hu⟩:=zcc.1 hgo.1;show Wd G lam ck (bQ root f ((aO m root).getD .nil)) [a];rw[hu];have hp:=lO hu;obtain⟨l',h1,b,rfl,h3⟩:=pk h0 hp;obtain⟨a',e1,e2⟩:=h;cases e1;have XI:b=a:=by rw[←h3,←e2]
  subst XI;exact tD h0 hg f u (cz (by simp[bp,cX]) hp) h1
 |f+1,.nil,_,h=>h
 |f+1,.sym _,_,h=>h
 |f+1,.num _ _,_,h=>h
 |f+1,.cD _,_,h=>h
 |f+1,.kB _,_,h=>h
 |f+1,.txt _ _,_,h=>h
 |f+1,.pair _ _ _,_,h=>h
 |f+1,.vec _ _,_,h=>h
 |f+1,.cZ,_,h=>h
 |f+1,.br _ _,_,h=>h
def Bis (G:List Nd)(H:List eO)(R:Nat→Nat→Prop):Prop:=∀a k,R a k→∃x z,G[a]?=some x∧H[k]?=some z∧x.kind=z.kind∧x.text=z.text∧x.n=z.n∧x.d=z.d∧x.subs.length=z.subs.length∧∀j,j<z.subs.length→R ((ai G a).getD j 0) (z.subs.getD j 0)
def RB (G:List Nd)(lam:Int→Nat)(ck:Nat→Option Nat)(root:Dt)(g:fP)(a k:Nat):Prop:=a<G.length∧∃x,x∈bp root∧aP false x=true∧Wd G lam ck x [a]∧Al root g x k
theorem B6 {a:Nat}(hx:G[a]?=some x):(ai G a).length=x.subs.length:=by unfold ai;rw[hx];simp
theorem Q5 {root:Dt}{g:fP}:∀{l:Dt} {az ks:List Nat},(∀a∈az,a<G.length)→(l∈bp root)→aP true l=true→Wd G lam ck l az→XH root g l ks→az.length=ks.length∧∀j,j<ks.length→RB G lam ck root g (az.getD j 0) (ks.getD j 0)
 |.cZ,az,ks,_,_,_,hw,ha=>by
  have h1:az=[]:=hw;have h2:ks=[]:=ha;subst h1 h2;exact⟨rfl,λj hj=>by simp at hj⟩
 |.br u v,az,ks,hr,ho,hp,⟨a,q,h1,h2,h3⟩,⟨k,p,e1,e2,e3⟩=>by
  subst h1 e1;simp only[aP,zae]at hp;obtain⟨i1,i2⟩:=Q5 (λb hb=>hr b (by simp[hb])) (cz (by simp[bp,cX]) ho) hp.2 h3 e3;refine⟨by simp[i1],λj hj=>?_⟩;cases j with
  |zero=>exact⟨hr a (by simp),u,cz (by simp[bp,cX]) ho,hp.1,h2,e2⟩
  |succ j=>simpa using i2 j (by simpa using hj)
 |.nil,_,_,_,_,h,_,_=>by simp[aP]at h
 |.sym _,_,_,_,_,h,_,_=>by simp[aP]at h
 |.num _ _,_,_,_,_,h,_,_=>by simp[aP]at h
 |.cD _,_,_,_,_,h,_,_=>by simp[aP]at h
 |.kB _,_,_,_,_,h,_,_=>by simp[aP]at h
 |.txt _ _,_,_,_,_,h,_,_=>by simp[aP]at h
 |.pair _ _ _,_,_,_,_,h,_,_=>by simp[aP]at h
 |.vec _ _,_,_,_,_,h,_,_=>by simp[aP]at h
 |.put _ _,_,_,_,_,h,_,_=>by simp[aP]at h
 |.ask _,_,_,_,_,h,_,_=>by simp[aP]at h
theorem jN {x:Dt}:∀{b:Bool} {r:Dt},aP b r=true→x∈bp r→∃b',aP b' x=true
 |b,.pair j u v,h,hx=>by
  cases b with
  |true=>simp[aP]at h
  |false=>
   have h':=h;simp only[aP,zae]at h';simp only[bp,zal,zaF]at hx;rcases hx with rfl|hx|hx
   ·exact⟨_,h⟩
   ·exact jN h'.1 hx
   ·exact jN h'.2 hx
 |b,.br u v,h,hx=>by
  cases b with
  |false=>simp[aP]at h
  |true=>
   have h':=h;simp only[aP,zae]at h';simp only[bp,zal,zaF]at hx;rcases hx with rfl|hx|hx
   ·exact⟨_,h⟩
   ·exact jN h'.1 hx
   ·exact jN h'.2 hx
 |b,.vec j u,h,hx=>by
  cases b with
  |true=>simp[aP]at h
  |false=>
   have h':=h;simp only[aP,zae]at h';simp only[bp,zal]at hx;rcases hx with rfl|hx
   ·exact⟨_,h⟩
   ·exact jN h'.2 hx
 |b,.put m u,h,hx=>by
  cases b with
  |true=>simp[aP]at h
  |false=>
   have h':=h;simp only[aP]at h';simp only[bp,zal]at hx;rcases hx with rfl|hx
   ·exact⟨_,h⟩
   ·exact jN h' hx
 |b,.nil,h,hx=>by simp[bp]at hx;subst hx;exact⟨b,h⟩
 |b,.sym _,h,hx=>by simp[bp]at hx;subst hx;exact⟨b,h⟩
 |b,.num _ _,h,hx=>by simp[bp]at hx;subst hx;exact⟨b,h⟩
 |b,.cD _,h,hx=>by simp[bp]at hx;subst hx;exact⟨b,h⟩
 |b,.kB _,h,hx=>by simp[bp]at hx;subst hx;exact⟨b,h⟩
 |b,.txt _ _,h,hx=>by simp[bp]at hx;subst hx;exact⟨b,h⟩
 |b,.cZ,h,hx=>by simp[bp]at hx;subst hx;exact⟨b,h⟩
 |b,.ask _,h,hx=>by simp[bp]at hx;subst hx;exact⟨b,h⟩
theorem B7 {r:Dt}(h:aP false r=true){i:Nat}{u v:Dt}(hx: .pair i u v∈bp r):aP false u=true∧aP false v=true:=by
 obtain⟨b,hb⟩:=jN h hx;cases b with
 |true=>simp[aP]at hb
 |false=>simpa[aP]using hb
theorem Q6 {r:Dt}(h:aP false r=true){i:Nat}{l:Dt}(hx: .vec i l∈bp r):aP true l=true:=by
 obtain⟨b,hb⟩:=jN h hx;cases b with
 |true=>simp[aP]at hb
 |false=>simp only[aP,zae]at hb;exact hb.2
theorem GF {root:Dt}(hg:bH root root=true){x:Dt}(hx:x∈bp root)(hp:aP false x=true):(bQ root 200000 x).hd=true:=by
 have hgo:=iy hg hx;cases x with
 |put m u=>simp only[bH,zae]at hgo;exact hgo.1
 |ask m=>simp only[bH,zae]at hgo;exact hgo.2
 |cZ=>simp[aP]at hp
 |br u v=>simp[aP]at hp
 |_=>rfl
theorem B8 {a:Nat}(hx:G[a]?=some x):aJ G a=x.kind:=by unfold aJ;rw[hx]
theorem Ni {a:Nat}(hx:G[a]?=some x):qT G a=x:=by unfold qT;simp[List.getD,hx]
theorem KQ (h:aQ x=true)(k:x.kind=1):x.subs.length=2∧x.text=[]∧x.n=0∧x.d=0:=by
 unfold aQ at h;rw[zaa (by omega),zab k]at h;exact of_decide_eq_true h
theorem Q7 (h:aQ x=true)(k:x.kind=2):x.subs.length≤20∧x.text=[]∧x.n=0∧x.d=0:=by
 unfold aQ at h;rw[zaa (by omega),zaa (by omega),zab k]at h;exact of_decide_eq_true h
theorem Jo (h:aQ x=true)(k:x.kind=0):x.text=[]∧x.n=0∧x.d=0∧x.subs.length=0:=by
 unfold aQ at h;rw[zab k]at h;exact of_decide_eq_true h
theorem Jp (h:aQ x=true)(k:x.kind=3):x.text.length≤400∧x.n=0∧x.d=0∧x.subs.length=0:=by
 unfold aQ at h;rw[zaa (by omega),zaa (by omega),zaa (by omega),zab k]at h;exact of_decide_eq_true h
theorem Jq (h:aQ x=true)(k:x.kind=4):x.n=0∧x.d=0∧x.subs.length=0:=by
 unfold aQ at h;rw[zaa (by omega),zaa (by omega),zaa (by omega),zaa (by omega),zab k,zae]at h;exact of_decide_eq_true h.1
theorem Jr (h:aQ x=true)(k:x.kind=5):x.text=[]∧x.subs.length=0:=by
 unfold aQ at h;rw[zaa (by omega),zaa (by omega),zaa (by omega),zaa (by omega),zaa (by omega),zab k,zae]at h;exact of_decide_eq_true h.2
theorem Js (h:aQ x=true)(k:x.kind=6):x.text=[]∧x.d=0∧x.subs.length=0:=by
 unfold aQ at h;rw[zaa (by omega),zaa (by omega),zaa (by omega),zaa (by omega),zaa (by omega),zaa (by omega),zab k]at h;exact(of_decide_eq_true h).2
theorem Jt (h:aQ x=true)(k:x.kind=7):x.text=[]∧x.d=0∧x.subs.length=0:=by
 unfold aQ at h;rw[zaa (by omega),zaa (by omega),zaa (by omega),zaa (by omega),zaa (by omega),zaa (by omega),zaa (by omega),zab k,zae]at h;exact of_decide_eq_true h.2
theorem Dz (hR:Rg G){root:Dt}{l0:List Nat}{g:fP}(h0:Wd G lam ck root l0)(hg:bH root root=true)(hp:aP false root=true)(hN:NX root ⟨[],[]⟩ g):Bis G g.nodes (RB G lam ck root g):=by
 rintro a k ⟨ha,x,pK,hxp,hw,hat⟩;obtain⟨X,hX⟩:∃X,G[a]?=some X:=⟨_,zat ha⟩;have XJ:=hR.kind a X hX;have hK:=B8 hX;have hNd:=Ni hX;have hSl:=B6 hX;have hm:=tD h0 hg 200000 x pK hw;have uB:=GF hg pK hxp;have Q8:∀i,g.met.lookup i=some k→B5 root g i k:=λi hi=>by
  rcases hN.new i k hi with h|h
  ·cases h
  ·exact h.2
 have DC:∀(y:Dt) (i b:Nat),y∈bp root→ck i=some a→(∀l,Wd G lam ck y l→∃c,l=[c]∧ck i=some c)→Wd G lam ck y [a]:=λy i _ hy NV hc=>by
  obtain⟨l,hl⟩:=pk h0 hy;obtain⟨c,rfl,hpc⟩:=hc l hl;rw[NV]at hpc;cases hpc;exact hl
 unfold Al at hat
 cases hy:bQ root 200000 x with
 |pair i u v=>
  rw[hy]at hat hm;obtain⟨b,e,k1,p1,_,_⟩:=hm;cases e;rw[hK]at k1;rcases Q8 i hat with⟨u',v',ka,kb,o1,n1,t1,t2⟩|⟨l,ks,o1,_,_⟩|⟨w,o1,_⟩
  ·obtain⟨b,e,_,_,w1,w2⟩:=DC _ i 0 o1 p1 (λl ⟨c,q1,_,q3,_⟩=>⟨c,q1,q3⟩);cases e;obtain⟨q1,q2,q3,q4⟩:=KQ XJ k1;obtain⟨r0,r1⟩:=hR.sub (a:=a) (by rw[hK];exact k1);refine⟨X,_,hX,n1,k1,q2,q3,q4,q1,λj hj=>?_⟩;have hj':j=0∨j=1:=by simp at hj;omega
   rcases hj' with rfl|rfl
   ·exact⟨r0,u',cz (by simp[bp,cX]) o1,(B7 hp o1).1,w1,t1⟩
   ·exact⟨r1,v',cz (by simp[bp,cX]) o1,(B7 hp o1).2,w2,t2⟩
  ·obtain⟨b,e,k2,_⟩:=DC _ i 0 o1 p1 (λl ⟨c,q1,_,q3,_⟩=>⟨c,q1,q3⟩);cases e;rw[hK]at k2;omega
  ·obtain⟨b,e,k2,_⟩:=DC _ i 0 o1 p1 (λl ⟨c,q1,_,_,q3⟩=>⟨c,q1,q3⟩);cases e;rw[hK]at k2;omega
 |vec i u=>
  rw[hy]at hat hm;obtain⟨b,e,k1,p1,_⟩:=hm;cases e;rw[hK]at k1;rcases Q8 i hat with⟨u',v',ka,kb,o1,n1,t1,t2⟩|⟨l,ks,o1,n1,t1⟩|⟨w,o1,_⟩
  ·obtain⟨b,e,k2,_⟩:=DC _ i 0 o1 p1 (λl ⟨c,q1,_,q3,_⟩=>⟨c,q1,q3⟩);cases e;rw[hK]at k2;omega
  ·obtain⟨b,e,_,_,w1⟩:=DC _ i 0 o1 p1 (λl ⟨c,q1,_,q3,_⟩=>⟨c,q1,q3⟩);cases e;obtain⟨q1,q2,q3,q4⟩:=Q7 XJ k1;obtain⟨v1,v2⟩:=Q5 (hR.subs a) (cz (by simp[bp,cX]) o1) (Q6 hp o1) w1 t1;exact⟨X,_,hX,n1,k1,q2,q3,q4,by rw[←hSl];exact v1,v2⟩
  ·obtain⟨b,e,k2,_⟩:=DC _ i 0 o1 p1 (λl ⟨c,q1,_,_,q3⟩=>⟨c,q1,q3⟩);cases e;rw[hK]at k2;omega
 |txt i w=>
  rw[hy]at hat hm;obtain⟨b,e,k1,tx,p1⟩:=hm;cases e;rw[hK]at k1;rw[hNd]at tx;rcases Q8 i hat with⟨u',v',ka,kb,o1,n1,t1,t2⟩|⟨l,ks,o1,n1,t1⟩|⟨w',o1,n1⟩
  ·obtain⟨b,e,k2,_⟩:=DC _ i 0 o1 p1 (λl ⟨c,q1,_,q3,_⟩=>⟨c,q1,q3⟩);cases e;rw[hK]at k2;omega
  ·obtain⟨b,e,k2,_⟩:=DC _ i 0 o1 p1 (λl ⟨c,q1,_,q3,_⟩=>⟨c,q1,q3⟩);cases e;rw[hK]at k2;omega
  ·obtain⟨b,e,_,tx2,_⟩:=DC _ i 0 o1 p1 (λl ⟨c,q1,_,_,q3⟩=>⟨c,q1,q3⟩);cases e;rw[hNd]at tx2;obtain⟨_,q2,q3,q4⟩:=Jp XJ k1;exact⟨X,_,hX,n1,k1,tx2,q2,q3,q4,λj hj=>by simp at hj⟩
 |sym w=>
  rw[hy]at hat hm;obtain⟨b,e,k1,tx⟩:=hm;cases e;rw[hK]at k1;rw[hNd]at tx;obtain⟨q2,q3,q4⟩:=Jq XJ k1;exact⟨X,_,hX,hat,k1,tx,q2,q3,q4,λj hj=>by simp at hj⟩
 |num n d=>
  rw[hy]at hat hm;obtain⟨b,e,k1,t1,t2⟩:=hm;cases e;rw[hK]at k1;rw[hNd]at t1 t2;obtain⟨q2,q3⟩:=Jr XJ k1;exact⟨X,_,hX,hat,k1,q2,t1,t2,q3,λj hj=>by simp at hj⟩
 |cD n=>
  rw[hy]at hat hm;obtain⟨b,e,k1,t1⟩:=hm;cases e;rw[hK]at k1;rw[hNd]at t1;obtain⟨q2,q3,q4⟩:=Js XJ k1;exact⟨X,_,hX,hat,k1,q2,t1,q3,q4,λj hj=>by simp at hj⟩
 |kB n=>
  rw[hy]at hat hm;obtain⟨b,e,k1,t1⟩:=hm;cases e;rw[hK]at k1;rw[hNd]at t1;obtain⟨q2,q3,q4⟩:=Jt XJ k1;exact⟨X,_,hX,hat,k1,q2,t1,q3,q4,λj hj=>by simp at hj⟩
 |nil=>
  rw[hy]at hat hm;obtain⟨b,e,k1⟩:=hm;cases e;rw[hK]at k1;obtain⟨q1,q2,q3,q4⟩:=Jo XJ k1;exact⟨X,_,hX,hat,k1,q1,q2,q3,q4,λj hj=>by simp at hj⟩
 |put m u=>rw[hy]at uB;cases uB
 |ask m=>rw[hy]at uB;cases uB
 |cZ=>rw[hy]at uB;cases uB
 |br u v=>rw[hy]at uB;cases uB
theorem Q9 (hR:Rg G)(hn:1≤G.length){L:Nat→Bool}(mi:(WG G L 403 false (bu G.length) 0).long=false){s:List UInt8}(hs:s=(WG G L 403 false (bu G.length) 0).out):(∃a,cS s 30=some ([],a,6))∨cS s 30=some ([],0,2)∨∃H R,cS s 30=some (H,s.length,0)∧H≠[]∧Bis G H R∧R 0 0:=by
 obtain⟨hlen,h|h|⟨d,σ,ck,k,g,eK,cO,_,hN,hw,_⟩⟩:=B4 hR hn mi hs
 ·exact .inl h
 ·exact .inr (.inl h)
 ·have hgd:=(tj hlen 30 d σ eK).1;have Ak:=((Dw (aw (s.length+1) s 0) 30 (λt ht rG=>zag (nt _ _ _ t ht rG) (by omega)) 2000).datum _ _ d σ eK).sh;obtain⟨hX,hat⟩:=(GC (root:=d) 100000).1 d ⟨[],[]⟩ k g (cX d) cO;have hk:=GD cO;subst hk;refine .inr (.inr ⟨g.nodes,RB G _ ck d g,hN,λe=>?_,Dz hR hw hgd Ak hX,by omega,d,cX d,Ak,hw,hat⟩);obtain⟨_,z,_,hz,_⟩:=Dz hR hw hgd Ak hX 0 0 ⟨by omega,d,cX d,Ak,hw,hat⟩;rw[e]at hz;cases hz
end
end Go.Proofs.YtlhimdjkkiflhaaGreatDoor
namespace Go.Loop
variable {w:WS}{t:TS}{f:Nat}
section
variable {n:Nat}{S:Nat→List Nat}
theorem DD (h:w.Ok n){a:Nat}(ha:a<n)(i:Nat):w.met.getD i 0≤(w.hit a).met.getD i 0:=by
 rw[dJ h ha];split
 ·rename_i e;rw[e];omega
 ·exact Int.le_refl _
theorem tE (hS:∀x,x<n→∀y∈S x,y<n):∀(f:Nat) (w:WS) (a:Nat),w.Ok n→a<n→∀i,w.met.getD i 0≤(bf S f w a).met.getD i 0
 |0,_,_,_,_,_=>Int.le_refl _
 |f+1,w,a,h,ha,i=>by
  simp only[bf];split
  ·exact DD h ha i
  ·have h2:((w.hit a).enter a).Ok n:=(h.hit ha).enter ha (iW h ha);have:∀(l:List Nat) (t:WS),(∀y∈l,y<n)→t.Ok n→t.met.getD i 0≤(l.foldl (bf S f) t).met.getD i 0:=by
    intro l
    induction l with
    |nil=>intro t _ _;exact Int.le_refl _
    |cons y r ih=>
     intro t hl ht;have q1:=tE hS f t y ht (hl y (by simp)) i;have q2:=ih _ (λz hz=>hl z (by simp[hz])) (Ok.meet hS f t y ht (hl y (by simp)));exact Int.le_trans q1 q2
   exact Int.le_trans (DD h ha i) (this _ _ (hS a ha) h2)
theorem wZ (hS:∀x,x<n→∀y∈S x,y<n)(f:Nat)(i:Nat):∀(l:List Nat) (t:WS),(∀y∈l,y<n)→t.Ok n→t.met.getD i 0≤(l.foldl (bf S f) t).met.getD i 0
 |[],_,_,_=>Int.le_refl _
 |y::r,t,hl,ht=>Int.le_trans (tE hS f t y ht (hl y (by simp)) i) (wZ hS f i r _ (λz hz=>hl z (by simp[hz])) (Ok.meet hS f t y ht (hl y (by simp))))
end
section
variable (n:Nat)(K:Nat→Int)(S:Nat→List Nat)(L:Nat→Bool)(fin:Nat→Int)
structure XK:Prop where
 hS:∀x,x<n→∀y∈S x,y<n
 two:∀x,x<n→K x=1→(S x).length=2
 leaf:∀x,K x≠1→K x≠2→S x=[]
 cE:∀x,L x=true↔1<fin x∧1≤K x∧K x≤3
def Rel (t:TS)(w:WS):Prop:=∀b,1≤K b→K b≤3→(0≤t.cE.getD b (-1)↔0<w.met.getD b 0∧L b=true)
structure Lk (w w':WS) (lg:List Nat):Prop where
 nd:lg.Nodup
 b:∀b∈lg,(1≤K b∧K b≤3)∧w.met.getD b 0=0∧0<w'.met.getD b 0
end
section
variable {n:Nat}{K:Nat→Int}{S:Nat→List Nat}{At:Nat→List UInt8}{L:Nat→Bool}{fin:Nat→Int}
theorem Lk.nil (w w':WS):Lk K w w' []:=⟨zcg,λ_ h=>by cases h⟩
theorem Lk.app {w1 w2:WS}{l1 l2:List Nat}(h1:Lk K w w1 l1)(h2:Lk K w1 w2 l2)(m0:∀i,0≤w.met.getD i 0)(m1:∀i,w.met.getD i 0≤w1.met.getD i 0)(m2:∀i,w1.met.getD i 0≤w2.met.getD i 0):Lk K w w2 (l1++l2):=by
 refine⟨?_,λb hb=>?_⟩
 ·rw[List.nodup_append];refine⟨h1.nd,h2.nd,λx hx y hy e=>?_⟩;subst e;have q1:=(h1.b x hx).2.2;have q2:=(h2.b x hy).2.1;omega
 ·rcases zaF.1 hb with hb|hb
  ·have q:=h1.b b hb;exact⟨q.1,q.2.1,by have:=m2 b;omega⟩
  ·have q:=h2.b b hb;have:=m0 b;have:=m1 b;exact⟨q.1,by omega,q.2.2⟩
def LkF (n:Nat)(K:Nat→Int)(S:Nat→List Nat)(At:Nat→List UInt8)(L:Nat→Bool)(fin:Nat→Int)(f:Nat)(fl:Bool):Prop:=∀(t:TS) (a:Nat) (w:WS) (f':Nat),t.Ok n L→a<n→w.Ok n→w.pQ (λ_=>1)<f'→Rel K L t w→403≤f+t.out.length→(WF K S At L f fl t a).long=false→(∀i,(bf S f' w a).met.getD i 0≤fin i)→Rel K L (WF K S At L f fl t a) (bf S f' w a)∧Lk K w (bf S f' w a) (WL K S At L f fl t a)
theorem Rel.add (h:Rel K L t w)(p:List UInt8):Rel K L (t.add p) w:=λb h1 h2=>by rw[gX];exact h b h1 h2
theorem Rel.atom (hC:XK n K S L fin){w':WS}{a:Nat}(h:Rel K L t w)(ha:¬(1≤K a∧K a≤3))(hm:∀i,i≠a→w'.met.getD i 0=w.met.getD i 0):Rel K L t w':=λb h1 h2=>by
 have:=hC.hS;rw[h b h1 h2,hm b λe=>ha (by rw[←e];exact⟨h1,h2⟩)]
theorem tF {a:Nat}(h:¬0<w.met.getD a 0):bf S (f+1) w a=((S a).foldl (bf S f) ((w.hit a).enter a)).leave a:=by simp only[bf];rw[zaa h]
theorem zu {a:Nat}(h:0<w.met.getD a 0):bf S (f+1) w a=(w.hit a).again a:=by simp only[bf];rw[zab h]
theorem nH (hC:XK n K S L fin){a:Nat}(hw:w.Ok n)(ha:a<n)(hR:Rel K L t w)(hk:1≤K a∧K a≤3)(hl:¬(0≤t.cE.getD a (-1))∨L a=false)(fU:(bf S (f+1) w a).met.getD a 0≤fin a):w.met.getD a 0=0:=by
 have hnn:=hw.nn a;by_cases hp:0<w.met.getD a 0
 ·exfalso;rw[zu hp]at fU;have e:((w.hit a).again a).met.getD a 0=w.met.getD a 0+1:=by
   show(w.hit a).met.getD a 0=_;rw[dJ hw ha,zab rfl]
  rw[e]at fU;have hLa:L a=true:=(hC.cE a).2 ⟨by omega,hk⟩;rcases hl with hl|hl
  ·exact hl ((hR a hk.1 hk.2).2 ⟨hp,hLa⟩)
  ·rw[hLa]at hl;cases hl
 ·omega
theorem Rel.first {a:Nat}(hO:t.Ok n L)(hw:w.Ok n)(ha:a<n)(hR:Rel K L t w)(h0:w.met.getD a 0=0):Rel K L (if L a then t.put a else t) ((w.hit a).enter a):=by
 intro b h1 h2;have hm:((w.hit a).enter a).met.getD b 0=if b=a then w.met.getD a 0+1 else w.met.getD b 0:=dJ hw ha b
 rw[hm];by_cases XI:b=a
 ·subst XI;rw[zab rfl,h0];cases hL:L b with
  |true=>
   have e0:(t.put b).cE.getD b (-1)=(t.next:Int):=by
    show(t.cE.set b (t.next:Int)).getD b (-1)=_;rw[cR _ _ _ _ _ (by rw[hO.ll];exact ha),zab rfl]
   show 0≤(t.put b).cE.getD b (-1)↔_;rw[e0];simp
  |false=>
   show 0≤t.cE.getD b (-1)↔_;rw[hR b h1 h2,hL];simp
 ·rw[zaa XI];have e0:(if L a then t.put a else t).cE.getD b (-1)=t.cE.getD b (-1):=by
   split
   ·show(t.cE.set a (t.next:Int)).getD b (-1)=_;rw[cR _ _ _ _ _ (by rw[hO.ll];exact ha),zaa XI]
   ·rfl
  rw[e0];exact hR b h1 h2
theorem kD (w:WS)(a i:Nat):(w.leave a).met.getD i 0=w.met.getD i 0:=rfl
theorem uL (w:WS)(a i:Nat):(w.enter a).met.getD i 0=w.met.getD i 0:=rfl
theorem B9 {a:Nat}(hw:w.Ok n)(ha:a<n)(h0:w.met.getD a 0=0)(hp:w.pQ (λ_=>1)<f+1):((w.hit a).enter a).pQ (λ_=>1)<f:=by
 have:=pS hw ha (λ_=>1);rw[zab h0]at this;show(w.hit a).pQ (λ_=>1)<f;omega
theorem Ra (hC:XK n K S L fin){f:Nat}(hF:LkF n K S At L fin f false):∀(l:List Nat) (b:Bool) (t:TS) (w:WS) (f':Nat),t.Ok n L→(∀y∈l,y<n)→w.Ok n→w.pQ (λ_=>1)<f'→Rel K L t w→403≤f+t.out.length→(jZ (WF K S At L f false) b l t).long=false→(∀i,(l.foldl (bf S f') w).met.getD i 0≤fin i)→Rel K L (jZ (WF K S At L f false) b l t) (l.foldl (bf S f') w)∧Lk K w (l.foldl (bf S f') w) (Gu (WF K S At L f false) (WL K S At L f false) b l t)
 |[],_,_,_,_,_,_,_,_,hR,_,_,_=>⟨hR,Lk.nil _ _⟩
 |x::l,b,t,w,f',hO,hl,hw,hp,hR,hf,mi,fU=>by
  have hx:x<n:=hl x (by simp);have ab8:(jZ (WF K S At L f false) false l (WF K S At L f false (if b then t else t.add [32]) x)).long=false:=mi;have g3:=lM (λt y hq=>dX f false t y hq) l false _ ab8;have g2:=dX f false _ _ g3.nl;have GZ:=Ok.meet hC.hS f' w x hw hx;have ab9:∀i,(bf S f' w x).met.getD i 0≤fin i:=λi=>Int.le_trans (wZ hC.hS f' i l _ (λz hz=>hl z (by simp[hz])) GZ) (fU i);have h1:(if b then t else t.add [32]).Ok n L∧Rel K L (if b then t else t.add [32]) w∧t.out.length≤(if b then t else t.add [32]).out.length:=by
   cases b with
   |true=>exact⟨hO,hR,zac _⟩
   |false=>
    refine⟨hO.add _,hR.add _,?_⟩;have g2':Gr (t.add [32]) _:=g2;show _≤(t.add [32]).out.length;rw[(di g2'.nl).2];simp
  obtain⟨i1,i2⟩:=hF _ x w f' h1.1 hx hw hp h1.2.1 (by omega) g3.nl ab9;have hl2:=g2.len;obtain⟨j1,j2⟩:=Ra hC hF l false _ (bf S f' w x) f' (nS hC.hS hC.two f false _ _ h1.1 hx) (λz hz=>hl z (by simp[hz])) GZ (zch (oV hC.hS _ f' w x hw hx) hp) i1 (by omega) ab8 fU;exact⟨j1,i2.app j2 hw.nn (λi=>tE hC.hS f' w x hw hx i) (λi=>wZ hC.hS f' i l _ (λz hz=>hl z (by simp[hz])) GZ)⟩
theorem Rb (hC:XK n K S L fin)(hF:LkF n K S At L fin f false)(QY:LkF n K S At L fin f true){a x y:Nat}{f':Nat}(hSa:S a=[x,y])(ha:a<n)(hk:K a=1)(hO:t.Ok n L)(hw:w.Ok n)(h0:w.met.getD a 0=0)(hp:w.pQ (λ_=>1)<f'+1)(hR:Rel K L t ((w.hit a).enter a))(hf:403≤f+t.out.length)(mi:(WF K S At L f true (WF K S At L f false t x) y).long=false)(fU:∀i,(bf S (f'+1) w a).met.getD i 0≤fin i):Rel K L (WF K S At L f true (WF K S At L f false t x) y) (bf S (f'+1) w a)∧Lk K w (bf S (f'+1) w a) (a::(WL K S At L f false t x++WL K S At L f true (WF K S At L f false t x) y)):=by
 have hx:x<n:=hC.hS a ha x (by rw[hSa];simp);have hy:y<n:=hC.hS a ha y (by rw[hSa];simp);have g3:=dX f true _ _ mi;have g2:=dX f false _ _ g3.nl;have hl2:=g2.len;have hw0:((w.hit a).enter a).Ok n:=(hw.hit ha).enter ha (iW hw ha);have hp0:=B9 hw ha h0 hp;have e:bf S (f'+1) w a=(bf S f' (bf S f' ((w.hit a).enter a) x) y).leave a:=by
  rw[tF (by omega),hSa];rfl
 rw[e]at fU ⊢;have GZ:=Ok.meet hC.hS f' _ x hw0 hx;have DN:∀i,(bf S f' (bf S f' ((w.hit a).enter a) x) y).met.getD i 0≤fin i:=λi=>fU i;have ZP:=λi=>tE hC.hS f' (bf S f' ((w.hit a).enter a) x) y GZ hy i;have aca:=λi=>tE hC.hS f' ((w.hit a).enter a) x hw0 hx i;obtain⟨i1,i2⟩:=hF t x _ f' hO hx hw0 hp0 hR hf g3.nl (λi=>Int.le_trans (ZP i) (DN i));obtain⟨j1,j2⟩:=QY _ y _ f' (nS hC.hS hC.two f false _ _ hO hx) hy GZ (zch (oV hC.hS _ f' _ x hw0 hx) hp0) i1 (by omega) mi DN;have hk2:=i2.app j2 hw0.nn aca ZP;have ha1:((w.hit a).enter a).met.getD a 0=1:=by rw[uL,dJ hw ha,zab rfl,h0];rfl
 refine⟨λb h1 h2=>by rw[kD];exact j1 b h1 h2,?_,λb hb=>?_⟩
 ·rw[zco];exact⟨λhm=>(by have:=(hk2.b a hm).2.1;omega),hk2.nd⟩
 ·rw[kD];rcases zal.1 hb with rfl|hb
  ·have q1:=aca b;have q2:=ZP b;exact⟨by omega,h0,by omega⟩
  ·have q:=hk2.b b hb;have q3:w.met.getD b 0≤((w.hit a).enter a).met.getD b 0:=DD hw ha b;have:=hw.nn b;exact⟨q.1,by omega,q.2.2⟩
theorem Ca (hC:XK n K S L fin){a:Nat}(ha:a<n)(hk:K a=1):S a=[(S a).getD 0 0,(S a).getD 1 0]:=by
 have h2:=hC.two a ha hk;cases hl:S a with
 |nil=>rw[hl]at h2;cases h2
 |cons x l=>
  cases l with
  |nil=>rw[hl]at h2;simp at h2
  |cons y l=>
   cases l with
   |nil=>rfl
   |cons z l=>rw[hl]at h2;simp at h2
theorem KR (hC:XK n K S L fin){a f':Nat}(hw:w.Ok n)(ha:a<n)(hp:w.pQ (λ_=>1)<f')(hR:Rel K L t w)(hk:¬(1≤K a∧K a≤3)):Rel K L t (bf S f' w a):=by
 obtain⟨XL,rfl⟩:∃x,f'=x+1:=⟨f'-1,by omega⟩;refine hR.atom hC hk λi hi=>?_;by_cases hm:0<w.met.getD a 0
 ·rw[zu hm];show(w.hit a).met.getD i 0=_;rw[dJ hw ha,zaa hi]
 ·rw[tF hm,hC.leaf a (by omega) (by omega)];show(w.hit a).met.getD i 0=_;rw[dJ hw ha,zaa hi]
theorem Ju (hC:XK n K S L fin):∀f,LkF n K S At L fin f false∧LkF n K S At L fin f true
 |0=>by
  constructor<;>
  ·intro t a w f' hO _ _ _ _ hf mi;have:=hO.lo mi;omega
 |f+1=>by
  have hF:=(Ju hC f).1;have QY:=(Ju hC f).2;constructor
  ·intro t a w f' hO ha hw hp hR hf mi fU;have cV:t.long=false:=(dX (f+1) false t a mi).nl;obtain⟨XL,rfl⟩:∃x,f'=x+1:=⟨f'-1,by omega⟩;simp only[WF]at mi ⊢;simp only[WL];rw[zaa (by simp[cV])]at mi ⊢;by_cases h0:0≤t.cE.getD a (-1)
   ·rw[zab h0]at mi ⊢;rw[zab h0];have hLa:=hO.lL a h0;have hka:=((hC.cE a).1 hLa).2;have hm:=((hR a hka.1 hka.2).1 h0).1;rw[zu hm];refine⟨λb h1 h2=>?_,Lk.nil _ _⟩;rw[gX,hR b h1 h2];show _↔0<(w.hit a).met.getD b 0∧_;rw[dJ hw ha];by_cases XI:b=a
    ·subst XI;rw[zab rfl];constructor
     ·rintro ⟨q1,q2⟩;exact⟨by omega,q2⟩
     ·rintro ⟨_,q2⟩;exact⟨hm,q2⟩
    ·rw[zaa XI]
   ·rw[zaa h0]at mi ⊢;rw[zaa h0];have hO0:(if L a then t.put a else t).Ok n L:=by
     cases hL:L a with
     |true=>exact hO.put ha hL cV
     |false=>exact hO
    by_cases h1:K a=1
    ·rw[zab h1]at mi ⊢;rw[zab h1];have hm:=nH hC hw ha hR (by omega) (.inl h0) (fU a);have g3:=dX f true _ _ mi;have g2:=dX f false _ _ g3.nl;have ho:=(di g2.nl).2;have XM:=Rel.first hO hw ha hR hm;have acb:t.out.length≤(if L a then t.put a else t).out.length:=by
      cases hL:L a with
      |true=>
       rw[hL]at g2;have g2':Gr ((t.put a).add [40]) _:=g2;show _≤(t.put a).out.length;rw[(zl (di g2'.nl).1).2];simp
      |false=>exact zac _
     exact Rb hC hF QY (Ca hC ha h1) ha h1 (hO0.add _) hw hm hp (XM.add _) (by rw[ho,zaR];simp only[zar,zbk];omega) mi fU
    ·rw[zaa h1]at mi ⊢;rw[zaa h1];by_cases h2:K a=2
     ·rw[zab h2,pX]at mi ⊢;rw[zab h2];have hm:=nH hC hw ha hR (by omega) (.inl h0) (fU a);have g3:=Gr.add mi;have g2:=lM (λt y hq=>dX f false t y hq) _ _ _ g3.nl;have ho:=(di g2.nl).2;have XM:=Rel.first hO hw ha hR hm;have acb:t.out.length≤(if L a then t.put a else t).out.length:=by
       cases hL:L a with
       |true=>
        rw[hL]at g2;have g2':Gr ((t.put a).add [35,40]) _:=g2;show _≤(t.put a).out.length;rw[(zl (di g2'.nl).1).2];simp
       |false=>exact zac _
      have hw0:((w.hit a).enter a).Ok n:=(hw.hit ha).enter ha (iW hw ha);have e:bf S (XL+1) w a=((S a).foldl (bf S XL) ((w.hit a).enter a)).leave a:=tF (by omega);rw[e]at fU ⊢;obtain⟨i1,i2⟩:=Ra hC hF (S a) true _ _ XL (hO0.add [35,40]) (hC.hS a ha) hw0 (B9 hw ha hm hp) (XM.add _) (by rw[ho,zaR];simp only[zar,zbk];omega) g3.nl (λi=>fU i);have ha1:((w.hit a).enter a).met.getD a 0=1:=by rw[uL,dJ hw ha,zab rfl,hm];rfl
      refine⟨λb q1 q2=>by rw[gX,kD];exact i1 b q1 q2,?_,λb hb=>?_⟩
      ·rw[zco];exact⟨λhmm=>(by have:=(i2.b a hmm).2.1;omega),i2.nd⟩
      ·rw[kD];rcases zal.1 hb with rfl|hb
       ·have q1:=wZ hC.hS XL b (S b) _ (hC.hS b ha) hw0;exact⟨by omega,hm,by omega⟩
       ·have q:=i2.b b hb;have q3:w.met.getD b 0≤((w.hit a).enter a).met.getD b 0:=DD hw ha b;have:=hw.nn b;exact⟨q.1,by omega,q.2.2⟩
     ·rw[zaa h2]at mi ⊢;rw[zaa h2];by_cases h3:K a=3
      ·rw[zab h3];have hm:=nH hC hw ha hR (by omega) (.inl h0) (fU a);have XM:=Rel.first hO hw ha hR hm;have e:bf S (XL+1) w a=((w.hit a).enter a).leave a:=by rw[tF (by omega),hC.leaf a h1 h2];rfl
       rw[e];refine⟨λb q1 q2=>by rw[gX,kD];exact XM b q1 q2,by simp,λb hb=>?_⟩;rw[zbA.1 hb];refine⟨by omega,hm,?_⟩;rw[kD,uL,dJ hw ha,zab rfl];omega
      ·rw[zaa h3];have hk:¬(1≤K a∧K a≤3):=by omega
       have hLa:L a=false:=by
        cases hL:L a with
        |false=>rfl
        |true=>exact absurd ((hC.cE a).1 hL).2 hk
       rw[hLa];exact⟨(KR hC hw ha hp hR hk).add _,Lk.nil _ _⟩
  ·intro t r w f' hO hr hw hp hR hf mi fU;obtain⟨XL,rfl⟩:∃x,f'=x+1:=⟨f'-1,by omega⟩;simp only[WF]at mi ⊢;simp only[WL];by_cases h1:K r=1∧L r=false
   ·rw[zab h1]at mi ⊢;rw[zab h1];have hm:=nH hC hw hr hR (by omega) (.inr h1.2) (fU r);have g3:=dX f true _ _ mi;have g2:=dX f false _ _ g3.nl;have ho:=(di g2.nl).2;have XM:=Rel.first hO hw hr hR hm;rw[h1.2]at XM;exact Rb hC hF QY (Ca hC hr h1.1) hr h1.1 (hO.add _) hw hm hp (Rel.add XM _) (by rw[ho,zaR];simp only[zar,zbk];omega) mi fU
   ·rw[zaa h1]at mi ⊢;rw[zaa h1];by_cases h0:K r=0
    ·rw[zab h0]at mi ⊢;rw[zab h0];exact⟨(KR hC hw hr hp hR (by omega)).add _,Lk.nil _ _⟩
    ·rw[zaa h0]at mi ⊢;rw[zaa h0];have g1:=Gr.add mi;have g2:=dX f false _ _ g1.nl;have ho:=(di g2.nl).2;obtain⟨i1,i2⟩:=hF _ r w (XL+1) (hO.add [32,46,32]) hr hw hp (hR.add _) (by rw[ho,zaR];simp only[zar,zbk];omega) g1.nl fU;exact⟨i1.add _,i2⟩
end
structure MI (g:fP):Prop where
 lt:∀i k:Nat,g.met.lookup i=some k→k<g.nodes.length
 inj:∀i j k:Nat,g.met.lookup i=some k→g.met.lookup j=some k→i=j
theorem MI.new {g:fP}(h:MI g)(i:Nat)(x:eO):MI ⟨g.nodes++[x],(i,g.nodes.length)::g.met⟩:=by
 refine⟨λj k q=>?_,λj j' k q q'=>?_⟩
 ·have q0:((i,g.nodes.length)::g.met).lookup j=some k:=q;rw[lookup_cons]at q0;show k<(g.nodes++[x]).length;rw[zaR,zar];split at q0
  ·cases q0;omega
  ·have:=h.lt j k q0;omega
 ·have q0:((i,g.nodes.length)::g.met).lookup j=some k:=q;have q1:((i,g.nodes.length)::g.met).lookup j'=some k:=q';rw[lookup_cons]at q0 q1;split at q0<;>split at q1
  ·rename_i e1 e2;rw[e1,e2]
  ·cases q0;have:=h.lt j' _ q1;omega
  ·cases q1;have:=h.lt j _ q0;omega
  ·exact h.inj j j' k q0 q1
theorem Ve {root:Dt}:∀n,(∀d g k g',MI g→ie root n d g=some (k,g')→MI g')∧(∀l acc g ks g',MI g→ahF root n l acc g=some (ks,g')→MI g'):=by
 intro n
 induction n with
 |zero=>
  constructor
  ·intro _ _ _ _ _ h;simp[ie]at h
  ·intro _ _ _ _ _ _ h;simp[ahF]at h
 |succ n ih=>
  have hold:∀{g:fP} {y:List Nat×fP} {L:Nat},MI y.2→MI { y.2 with nodes:=bE y.2.nodes L y.1 }:=λh=>
   ⟨λi k q=>by show k<(bE _ _ _).length;simp only[bE,List.length_modify];exact h.lt i k q,h.inj⟩
  have add:∀{g:fP} {x:eO},MI g→MI (g.add x):=λh=>
   ⟨λi k q=>by have:=h.lt i k q;simp only[fP.add,zaR,zar];omega,h.inj⟩
  constructor
  ·intro d g k g' hm h;simp only[ie]at h;split at h
   ·split at h
    ·cases h;exact hm
    ·obtain⟨y,h1,h2⟩:=zas.1 h;cases h2;exact hold (g:=g) (ih.2 _ _ _ _ _ (hm.new _ _) h1)
   ·split at h
    ·cases h;exact hm
    ·obtain⟨y,h1,h2⟩:=zas.1 h;cases h2;exact hold (g:=g) (ih.2 _ _ _ _ _ (hm.new _ _) h1)
   ·split at h
    ·cases h;exact hm
    ·cases h;exact hm.new _ _
   all_goals cases h;exact add hm
  ·intro l acc g ks g' hm h;cases l with
   |cZ=>simp only[ahF]at h;cases h;exact hm
   |br a l=>
    simp only[ahF]at h;obtain⟨x,h1,h2⟩:=zaO.1 h;exact ih.2 _ _ _ _ _ (ih.1 _ _ _ _ hm h1) h2
   |_=>simp only[ahF]at h;cases h
theorem Jv {ck:Nat→Option Nat}{c i:Nat}:∀{l:List Nat},i∈l→ck i=some c→1≤cn ck c l
 |x::l,h,hp=>by
  rw[nC];rcases zal.1 h with rfl|h
  ·rw[zab hp];omega
  ·have:=Jv h hp;omega
theorem Re {ck:Nat→Option Nat}{c i j:Nat}:∀{l:List Nat},cn ck c l≤1→i∈l→j∈l→ck i=some c→ck j=some c→i=j
 |x::l,h,hi,hj,pi,pj=>by
  rw[nC]at h;rcases zal.1 hi with e|hi'
  ·rcases zal.1 hj with e'|hj'
   ·rw[e,e']
   ·have:=Jv hj' pj;rw[←e,zab pi]at h;omega
  ·rcases zal.1 hj with e'|hj'
   ·have:=Jv hi' pi;rw[←e',zab pj]at h;omega
   ·exact Re (by omega) hi' hj' pi pj
theorem ky {x:Dt}{i:Nat}:∀{r:Dt},x∈bp r→i∈aY x→i∈aY r
 |.pair j u v,hx,hi=>by
  simp only[bp,zal,zaF]at hx;rcases hx with rfl|hx|hx
  ·exact hi
  ·simp[aY,ky hx hi]
  ·simp[aY,ky hx hi]
 |.br u v,hx,hi=>by
  simp only[bp,zal,zaF]at hx;rcases hx with rfl|hx|hx
  ·exact hi
  ·simp[aY,ky hx hi]
  ·simp[aY,ky hx hi]
 |.vec j u,hx,hi=>by
  simp only[bp,zal]at hx;rcases hx with rfl|hx
  ·exact hi
  ·simp[aY,ky hx hi]
 |.put m u,hx,hi=>by
  simp only[bp,zal]at hx;rcases hx with rfl|hx
  ·exact hi
  ·simpa[aY]using ky hx hi
 |.nil,hx,hi=>by simp[bp]at hx;subst hx;exact hi
 |.sym _,hx,hi=>by simp[bp]at hx;subst hx;exact hi
 |.num _ _,hx,hi=>by simp[bp]at hx;subst hx;exact hi
 |.cD _,hx,hi=>by simp[bp]at hx;subst hx;exact hi
 |.kB _,hx,hi=>by simp[bp]at hx;subst hx;exact hi
 |.txt _ _,hx,hi=>by simp[bp]at hx;subst hx;exact hi
 |.cZ,hx,hi=>by simp[bp]at hx;subst hx;exact hi
 |.ask _,hx,hi=>by simp[bp]at hx;subst hx;exact hi
end Go.Loop
namespace Go.Proofs.YtlhimdjkkiflhaaGreatDoor
open Go.RowKit Go.Loop
section
variable {G:List Nd}{lam:Int→Nat}{ck:Nat→Option Nat}
theorem Rg.leaf (hR:Rg G){a:Nat}(h1:aJ G a≠1)(h2:aJ G a≠2):ai G a=[]:=by
 cases hx:G[a]? with
 |none=>unfold ai;rw[hx]
 |some x=>
  have hk:=hR.kind a x hx;have hK:=B8 hx;rw[hK]at h1 h2;have hl:x.subs.length=0:=by
   by_cases k0:x.kind=0
   ·exact(Jo hk k0).2.2.2
   by_cases k3:x.kind=3
   ·exact(Jp hk k3).2.2.2
   by_cases k4:x.kind=4
   ·exact(Jq hk k4).2.2
   by_cases k5:x.kind=5
   ·exact(Jr hk k5).2
   by_cases k6:x.kind=6
   ·exact(Js hk k6).2.2
   by_cases k7:x.kind=7
   ·exact(Jt hk k7).2.2
   exfalso;unfold aQ at hk;rw[zaa k0,zaa h1,zaa h2,zaa k3,zaa k4,zaa k5,zaa k6,zaa k7]at hk;cases hk
  have:=B6 hx;rw[hl]at this;exact zcf this
theorem ZQ (hR:Rg G)(hn:1≤G.length)(mi:(WG G (iY G 2) 403 false (bu G.length) 0).long=false):(LG G (iY G 2) 403 false (bu G.length) 0).Nodup:=by
 have hC:XK G.length (aJ G) (ai G) (iY G 2) (λi=>(fj (ai G) G.length).met.getD i 0):=by
  refine⟨λx _ y hy=>hR.subs x y hy,λx _ hk=>hR.two hk,λx h1 h2=>hR.leaf h1 h2,λx=>?_⟩;unfold iY;rw[zaa (by decide),zab rfl,zae,zaK,zaK]
 have hm:∀i,(WS.start G.length).met.getD i 0=0:=λi=>by
  show(List.replicate G.length (0:Int)).getD i 0=0;exact ez _ _ _
 have hl:∀i,(bu G.length).cE.getD i (-1)=-1:=λi=>ez G.length i (-1);exact((Ju (At:=jD G) hC 403).1 (bu G.length) 0 (WS.start G.length) (G.length+1) (pU _ _) (by omega) (kY _) (by show sW (λ_=>1) 0 (List.replicate G.length 0)<_;rw[yT];omega) (λb _ _=>by rw[hl,hm];simp) (by omega) mi (λi=>Int.le_refl _)).2.nd
theorem KS {root:Dt}{l0:List Nat}{g:fP}(h0:Wd G lam ck root l0)(hg:bH root root=true){a k:Nat}(hr:RB G lam ck root g a k)(hk:1≤aJ G a∧aJ G a≤3):∃i,i∈aY root∧ck i=some a∧g.met.lookup i=some k:=by
 obtain⟨ha,x,pK,hxp,hw,hat⟩:=hr;have hm:=tD h0 hg 200000 x pK hw;have uB:=GF hg pK hxp;have ho:=Q3 pK 200000;unfold Al at hat
 cases hy:bQ root 200000 x with
 |pair i u v=>
  rw[hy]at hat hm ho;obtain⟨b,e,_,p1,_,_⟩:=hm;cases e;exact⟨i,ky (ho.resolve_right (by simp)) (by simp[aY]),p1,hat⟩
 |vec i u=>
  rw[hy]at hat hm ho;obtain⟨b,e,_,p1,_⟩:=hm;cases e;exact⟨i,ky (ho.resolve_right (by simp)) (by simp[aY]),p1,hat⟩
 |txt i w=>
  rw[hy]at hat hm ho;obtain⟨b,e,_,_,p1⟩:=hm;cases e;exact⟨i,ky (ho.resolve_right (by simp)) (by simp[aY]),p1,hat⟩
 |sym w=>rw[hy]at hm;obtain⟨b,e,k1,_⟩:=hm;cases e;omega
 |num n d=>rw[hy]at hm;obtain⟨b,e,k1,_⟩:=hm;cases e;omega
 |cD n=>rw[hy]at hm;obtain⟨b,e,k1,_⟩:=hm;cases e;omega
 |kB n=>rw[hy]at hm;obtain⟨b,e,k1,_⟩:=hm;cases e;omega
 |nil=>rw[hy]at hm;obtain⟨b,e,k1⟩:=hm;cases e;omega
 |put m u=>rw[hy]at uB;cases uB
 |ask m=>rw[hy]at uB;cases uB
 |cZ=>rw[hy]at uB;cases uB
 |br u v=>rw[hy]at uB;cases uB
def One (G:List Nd)(R:Nat→Nat→Prop):Prop:=(∀a k k',R a k→R a k'→1≤aJ G a∧aJ G a≤3→k=k')∧∀a a' k,R a k→R a' k→1≤aJ G a∧aJ G a≤3→1≤aJ G a'∧aJ G a'≤3→a=a'
theorem Rf (hR:Rg G)(hn:1≤G.length)(mi:(WG G (iY G 2) 403 false (bu G.length) 0).long=false){s:List UInt8}(hs:s=(WG G (iY G 2) 403 false (bu G.length) 0).out):(∃a,cS s 30=some ([],a,6))∨cS s 30=some ([],0,2)∨∃H R,cS s 30=some (H,s.length,0)∧H≠[]∧Bis G H R∧R 0 0∧One G R:=by
 obtain⟨hlen,h|h|⟨d,σ,ck,k,g,eK,cO,_,hN,hw,aeb⟩⟩:=B4 hR hn mi hs
 ·exact .inl h
 ·exact .inr (.inl h)
 ·have hgd:=(tj hlen 30 d σ eK).1;have Ak:=((Dw (aw (s.length+1) s 0) 30 (λt ht rG=>zag (nt _ _ _ t ht rG) (by omega)) 2000).datum _ _ d σ eK).sh;obtain⟨hX,hat⟩:=(GC (root:=d) 100000).1 d ⟨[],[]⟩ k g (cX d) cO;have hk:=GD cO;subst hk;have hMI:=(Ve (root:=d) 100000).1 d ⟨[],[]⟩ 0 g ⟨λ_ _ q=>(by cases q),λ_ _ _ q=>(by cases q)⟩ cO;have hnd:=ZQ hR hn mi;have hc1:∀c,cn ck c (aY d)≤1:=λc=>by rw[aeb];exact List.nodup_iff_count.1 hnd c
  have h00:RB G (zr (WG G (iY G 2) 403 false (bu G.length) 0)) ck d g 0 0:=⟨by omega,d,cX d,Ak,hw,hat⟩;refine .inr (.inr ⟨g.nodes,RB G _ ck d g,hN,λe=>?_,Dz hR hw hgd Ak hX,h00,λa k k' r r' hh=>?_,λa a' k r r' hh NF=>?_⟩)
  ·obtain⟨_,z,_,hz,_⟩:=Dz hR hw hgd Ak hX 0 0 h00;rw[e]at hz;cases hz
  ·obtain⟨i,i1,i2,i3⟩:=KS hw hgd r hh;obtain⟨j,j1,j2,j3⟩:=KS hw hgd r' hh;have e:=Re (hc1 a) i1 j1 i2 j2;subst e;rw[i3]at j3;exact zaM j3
  ·obtain⟨i,i1,i2,i3⟩:=KS hw hgd r hh;obtain⟨j,j1,j2,j3⟩:=KS hw hgd r' NF;have e:=hMI.inj i j k i3 j3;subst e;rw[i2]at j2;exact zaM j2
end
end Go.Proofs.YtlhimdjkkiflhaaGreatDoor
