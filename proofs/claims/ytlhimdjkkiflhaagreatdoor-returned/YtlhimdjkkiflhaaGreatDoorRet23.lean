import Derived.Test.YtlhimdjkkiflhaaGreatDoorRet22
set_option maxHeartbeats 8000000
set_option maxRecDepth 100000
open List renaming length→Γ
namespace Go.Loop
def aea (a:Nat)(w:List UInt8):Tok:={ aH 14 a (a+w.length)with text:=w }
section
variable {s:List UInt8}{a:Nat}
theorem afO {l r:List UInt8}{k:Nat}(h:s.drop a=l)(e:l.drop k=r):s.drop (a+k)=r:=by rw[←zcn,h,e]
theorem MZ {l:List UInt8}{k:Nat}(h:s.drop a=l)(hs:(dB l.length true l).1=k):aR s a=cM s (a+k):=by simp only[aR,jg,h,hs]
theorem jE {c:UInt8}{r:List UInt8}(h:c≠35):cN (c::r)=false:=by cases r<;>simp[cN,h]
theorem KI {r:List UInt8}(h:s.drop a=40::r):cM s a=aH 2 a (a+1):=by simp[cM,h]
theorem tq {r:List UInt8}(h:s.drop a=41::r):cM s a=aH 3 a (a+1):=by simp[cM,h]
theorem ZI {r:List UInt8}(h:s.drop a=35::40::r):cM s a=aH 5 a (a+2):=by
 have h1:s.drop (a+1)=40::r:=afO h rfl;simp[cM,h,ed,h1]
theorem U1 {w r:List UInt8}(hw:w≠[])(h:s.drop a=w++r)(hall:w.all sF=true)(hn:aT bq w=w.length)(hr:aT bq (w++r)=w.length)(hm:bX w=false)(hd:w≠[46]):cM s a=aea a w:=by
 cases w with
 |nil=>exact absurd rfl hw
 |cons c w=>
  have hc:bq (c.toNat:Int)=true:=by
   simp only[zap,zae]at hall;exact hall.1
  have n40:c.toNat≠40:=λe=>by rw[e]at hc;cases hc
  have n41:c.toNat≠41:=λe=>by rw[e]at hc;cases hc
  have n39:c.toNat≠39:=λe=>by rw[e]at hc;cases hc
  have n34:c.toNat≠34:=λe=>by rw[e]at hc;cases hc
  have n35:c.toNat≠35:=λe=>by rw[e]at hc;cases hc
  unfold cM;rw[h,zam];dsimp only;rw[zaa n40,zaa n41,zaa n39,zaa n34,zaa n35,zab hc];have hcut:dL s a (a+(c::w).length)=c::w:=by
   simp only[dL,h];rw[show a+(c::w).length - a=(c::w).length by omega];simp
  unfold fN;dsimp only;rw[h,hr,hcut,zaa hd,hm];rfl
theorem ZJ {r:List UInt8}(h:s.drop a=46::r)(hr:aT bq r=0):cM s a=aH 7 a (a+1):=by
 have h1:aT bq (46::r)=1:=by simp[aT,hr,bq,fA,cF,ER]
 have hcut:dL s a (a+1)=[46]:=by simp[dL,h]
 simp[cM,h,fN,h1,hcut,bq,fA,cF,ER]
end
theorem jx:∀(n:Nat) (b:Bool) (l:List UInt8),l.length≤n→dB n b l=dB l.length b l:=by
 intro n
 induction n using Nat.strongRecOn with
 |ind n ih=>
  intro b l hl;cases l with
  |nil=>cases n<;>simp[dB]
  |cons c r=>
   obtain⟨m,rfl⟩:∃m,n=m+1:=⟨n-1,by simp at hl;omega⟩;simp only[zar]at hl ⊢;simp only[dB];have e1:∀b (q:List UInt8),q.length≤r.length→dB m b q=dB r.length b q:=λb q hq=>by
    rw[ih m (by omega) b q (by omega)];by_cases h:r.length=m
    ·rw[h,ih m (by omega) b q (by omega)]
    ·rw[ih r.length (by omega) b q hq]
   by_cases h2:cN (c::r)=true
   ·have hp:=uj 0 (c::r) h2;rw[e1 b r (zac _),e1 b (r.drop (dP r)) (by simp),e1 _ ((c::r).drop (bI 0 (c::r)).1) (by simp;omega)]
   ·rw[e1 b r (zac _),e1 b (r.drop (dP r)) (by simp),zaa h2,zaa h2]
def Goes (s:List UInt8)(a:Nat)(ts:List Tok)(b:Nat):Prop:=∀n,aw (n+ts.length) s a=ts++aw n s b
section
variable {T:List Tok}{dp:Nat}
theorem mE {n:Nat}{p:Pl}{s:eD}{a b:Nat}(hd:p.depth≠dp):aL T dp (n+1) (aH 2 a b) p s=bh T dp n [] ⟨p.depth+1,p.passed,[]⟩ s:=by
 rw[aL];simp[aH,hd]
theorem ze {n:Nat}{p:Pl}{s:eD}{a b:Nat}(hd:p.depth≠dp):aL T dp (n+1) (aH 5 a b) p s=(cy T dp n [] ⟨p.depth+1,p.passed,[]⟩ { s with fresh:=s.fresh+1 }).bind λl s'=> .ok (.vec s.fresh (fX l)) s':=by
 rw[aL];simp[aH,hd]
end
section
variable {T:List Tok}
end
section
variable (P Q:List Tok)(e:Tok)(dp:Nat)
end
structure rE (N:Nat) (t:Tok):Prop where
 kind:t.kind≤14
 txt:t.kind=8→t.text.length≤N
 kB:t.kind=9→jf t.n=true
 tru:t.kind=12→t.n=0∨t.n=1
 sym:t.kind=14→ir t.text=true∧t.text.length≤N
 num:t.kind=13→t.fault=0→lT t.n t.d=true
theorem lJ {N:Nat}{t:Tok}(k:Nat)(hk:t.kind=k)(h:k≤14)(c8:k=8→t.text.length≤N)(c9:k=9→jf t.n=true)(c12:k=12→t.n=0∨t.n=1)(c14:k=14→ir t.text=true∧t.text.length≤N)(c13:k=13→t.fault=0→lT t.n t.d=true):rE N t:=by
 subst hk;exact⟨h,c8,c9,c12,c14,c13⟩
theorem nz {N k a e:Nat}(h:k≤14)(h8:k≠8)(h9:k≠9)(h13:k≠13)(rG:k≠14):rE N (aH k a e):=
 ⟨h,λq=>absurd q h8,λq=>absurd q h9,λ_=> .inl rfl,λq=>absurd q rG,λq=>absurd q h13⟩
theorem Gt {N:Nat}(s:List UInt8):rE N (nW s):=nz (by decide) (by decide) (by decide) (by decide) (by decide)
theorem ij {N:Nat}(a:Nat):rE N (bt a):=nz (by decide) (by decide) (by decide) (by decide) (by decide)
theorem uJ:∀(i:Nat) (acc l:List UInt8) (e:Nat) (b:List UInt8),dD i acc l=.ok e b→b.length≤acc.length+l.length
 |_,_,[],_,_,h=>by simp[dD]at h
 |i,acc,[c],e,b,h=>by
  simp only[dD]at h;split at h
  ·cases h;simp
  ·cases h
 |i,acc,c::x::r,e,b,h=>by
  simp only[dD]at h;split at h
  ·cases h;simp
  ·split at h
   ·split at h
    ·cases h
    ·have:=uJ _ _ _ _ _ h;simp at this ⊢;omega
   ·have:=uJ _ _ _ _ _ h;simp at this ⊢;omega
theorem M3 (s:List UInt8)(a:Nat):rE s.length (jh s a):=by
 unfold jh;cases h:dD (a+1) [] (s.drop (a+1))with
 |fin=>exact Gt s
 |bad=>exact ij a
 |ok e b=>
  have:=uJ _ _ _ _ _ h;simp at this;exact lJ 8 rfl (by decide) (λ_=>show b.length≤s.length by omega) (λq=>absurd q (by decide)) (λq=>absurd q (by decide)) (λq=>absurd q (by decide)) (λq=>absurd q (by decide))
theorem U7 {l:List UInt8}(h:0≤gG l):jf (gG l)=true:=by
 unfold gG at h ⊢;repeat' split
 all_goals first|decide|(exfalso;simp_all)
theorem M4 {N:Nat}(s:List UInt8)(a:Nat):rE N (fM s a):=by
 unfold fM;split
 ·unfold nN;split
  ·exact ij a
  ·rename_i k hk;split at hk
   ·rename_i h0;cases hk;exact lJ 9 rfl (by decide) (λq=>absurd q (by decide)) (λ_=>U7 h0) (λq=>absurd q (by decide)) (λq=>absurd q (by decide)) (λq=>absurd q (by decide))
   ·cases hk
 ·split
  ·exact ij a
  ·split
   ·rename_i c _ _ h;refine lJ 9 rfl (by decide) (λq=>absurd q (by decide)) (λ_=>?_) (λq=>absurd q (by decide)) (λq=>absurd q (by decide)) (λq=>absurd q (by decide));show jf (c.toNat:Int)=true;unfold jf;rw[zaY (show(33:Int)≤(c.toNat:Int)∧(c.toNat:Int)≤126 by omega),Bool.or_true]
   ·exact ij a
theorem Jf {N:Nat}(s:List UInt8)(a:Nat):rE N (bW s a):=by
 unfold bW;dsimp only;split
 ·exact lJ 12 rfl (by decide) (λq=>absurd q (by decide)) (λq=>absurd q (by decide)) (λ_=> .inr rfl) (λq=>absurd q (by decide)) (λq=>absurd q (by decide))
 ·split
  ·exact nz (by decide) (by decide) (by decide) (by decide) (by decide)
  ·exact ij a
theorem Jg {N:Nat}{s:List UInt8}{a:Nat}{t:Tok}(h:bZ s a=some t):rE N t:=by
 unfold bZ at h;dsimp only at h;split at h
 ·cases h
 ·split at h
  ·cases h
  ·split at h
   ·cases h;exact lJ 10 rfl (by decide) (λq=>absurd q (by decide)) (λq=>absurd q (by decide)) (λq=>absurd q (by decide)) (λq=>absurd q (by decide)) (λq=>absurd q (by decide))
   ·split at h
    ·cases h;exact lJ 11 rfl (by decide) (λq=>absurd q (by decide)) (λq=>absurd q (by decide)) (λq=>absurd q (by decide)) (λq=>absurd q (by decide)) (λq=>absurd q (by decide))
    ·cases h
theorem KJ {N:Nat}(s:List UInt8)(a:Nat):rE N ((bZ s a).getD (bW s a)):=by
 cases h:bZ s a with
 |none=>exact Jf s a
 |some t=>exact Jg h
theorem M5 {N:Nat}(s:List UInt8)(a:Nat):rE N (ed s a):=by
 unfold ed;split
 ·exact KJ s a
 ·split
  ·exact nz (by decide) (by decide) (by decide) (by decide) (by decide)
  ·split
   ·exact nz (by decide) (by decide) (by decide) (by decide) (by decide)
   ·split
    ·exact M4 s a
    ·exact KJ s a
theorem zi {l:List UInt8}(h:dE l=true):0≤aK l:=BW l 0 (by omega) (by
 unfold dE at h;rw[zae]at h;exact h.2)
theorem ZL (m d:Int)(h1: -1000000≤m)(h2:m≤1000000)(h3:1≤d)(h4:d≤1000000):lT (m.tdiv (Int.gcd m d)) (d/(Int.gcd m d))=true:=by
 have hp:0<Int.gcd m d:=zcC _ (by omega);have h5:=Int.gcd_dvd_left m d;have h6:=Int.gcd_dvd_right m d;have e1:m.tdiv (Int.gcd m d)=m/(Int.gcd m d):=Int.tdiv_eq_ediv_of_dvd h5;rw[e1];have hg:=Int.gcd_ediv_gcd_ediv_gcd (i:=m) (j:=d) hp;generalize hG:Int.gcd m d=g at *;obtain⟨x,rfl⟩:=h5;obtain⟨y,rfl⟩:=h6;have EG:(0:Int)<(g:Int):=by omega
 rw[Int.mul_ediv_cancel_left _ (by omega)]at hg ⊢;rw[Int.mul_ediv_cancel_left _ (by omega)]at hg ⊢;have y1:1≤y:=by
  rcases(show 0<y∨y≤0 by omega)with h|h
  ·omega
  ·have:=Int.mul_nonpos_of_nonneg_of_nonpos (Int.le_of_lt EG) h;omega
 have y2:y≤g*y:=by
  have:=Int.mul_le_mul_of_nonneg_right (show(1:Int)≤g by omega) (show 0≤y by omega);omega
 have x2: -1000000≤x∧x≤1000000:=by
  constructor
  ·rcases(show x<0∨0≤x by omega)with h|h
   ·have:=Int.mul_le_mul_of_nonpos_right (show(1:Int)≤g by omega) (show x≤0 by omega);omega
   ·omega
  ·rcases(show x<0∨0≤x by omega)with h|h
   ·omega
   ·have:=Int.mul_le_mul_of_nonneg_right (show(1:Int)≤g by omega) h;omega
 unfold lT;exact zaY ⟨y1,by omega,x2.1,x2.2,hg⟩
theorem zj {neg:Bool}{l:List UInt8}{n d:Int}(h:numberOf neg l=some (n,d,0)):lT n d=true:=by
 unfold numberOf at h;dsimp only at h;split at h
 ·rename_i hd;rw[zae]at hd;have a1:=zi hd.1;have a2:=zi hd.2;split at h
  ·cases h
  ·rename_i hb;split at h
   ·cases h
   ·rename_i h0;cases h;refine ZL _ _ ?_ ?_ (by omega) (by omega)
    ·split<;>omega
    ·split<;>omega
 ·cases h
theorem U8 {l:List UInt8}{n d:Int}(h:dH l=some (n,d,0)):lT n d=true:=by
 cases l with
 |nil=>cases h
 |cons c r=>
  simp only[dH]at h;split at h
  ·exact zj h
  ·split at h
   ·exact zj h
   ·exact zj h
theorem oK (p:Int→Bool):∀l:List UInt8,(l.take (aT p l)).all (λc=>p (c.toNat:Int))=true
 |[]=>rfl
 |c::r=>by
  simp only[aT];split
  ·rename_i h;simp only[List.take_succ_cons,zap,h,zbI];exact oK p r
  ·rfl
theorem M6 (s:List UInt8)(a:Nat)(c:UInt8)(r:List UInt8)(hs:s.drop a=c::r)(hc:bq (c.toNat:Int)=true):rE s.length (fN s a):=by
 unfold fN;dsimp only;have hw:dL s a (a+aT bq (s.drop a))=(s.drop a).take (aT bq (s.drop a)):=by unfold dL;rw[Nat.add_sub_cancel_left]
 have hne:(s.drop a).take (aT bq (s.drop a))≠[]:=by rw[hs];simp[aT,hc]
 have hall:=oK bq (s.drop a);rw[hw];split
 ·exact nz (by decide) (by decide) (by decide) (by decide) (by decide)
 ·rename_i h46;split
  ·rename_i hm;refine lJ 14 rfl (by decide) (λq=>absurd q (by decide)) (λq=>absurd q (by decide)) (λq=>absurd q (by decide)) (λ_=>?_) (λq=>absurd q (by decide));refine⟨?_,?_⟩
   ·show ir _=true;unfold ir;simp only[zae];refine⟨⟨⟨?_,?_⟩,hm⟩,hall⟩
    ·simpa using hne
    ·simpa using h46
   ·show((s.drop a).take _).length≤s.length;rw[List.length_take,zau];omega
  ·split
   ·exact ij a
   ·rename_i n d f hn;refine lJ 13 rfl (by decide) (λq=>absurd q (by decide)) (λq=>absurd q (by decide)) (λq=>absurd q (by decide)) (λq=>absurd q (by decide)) (λ_ hf=>?_);have hf':f=0:=hf;subst hf';exact U8 hn
theorem KL (s:List UInt8)(a:Nat):rE s.length (cM s a):=by
 unfold cM;split
 ·exact Gt s
 ·rename_i c r hs;split
  ·exact nz (by decide) (by decide) (by decide) (by decide) (by decide)
  ·split
   ·exact nz (by decide) (by decide) (by decide) (by decide) (by decide)
   ·split
    ·exact nz (by decide) (by decide) (by decide) (by decide) (by decide)
    ·split
     ·exact M3 s a
     ·split
      ·exact M5 s a
      ·split
       ·rename_i hc;exact M6 s a c r hs hc
       ·exact ij a
theorem KM:∀(n:Nat) (s:List UInt8) (a:Nat) (t:Tok),t∈aw n s a→rE s.length t
 |0,_,_,_,h=>by cases h
 |n+1,s,a,t,h=>by
  simp only[aw]at h;split at h
  ·rw[zbA.1 h];exact KL s _
  ·rcases zal.1 h with rfl|h
   ·exact KL s _
   ·exact KM n s _ t h
def nT (N:Nat):Dt→Bool
 |.sym s=>ir s&&decide (s.length≤N+5)
 |.num n d=>lT n d
 |.cD n=>decide (n=0∨n=1)
 |.kB n=>jf n
 |.txt _ s=>decide (s.length≤N)
 |.pair _ a b=>nT N a&&nT N b
 |.vec _ l=>nT N l&&decide (l.mX≤20)
 |.br a l=>nT N a&&nT N l
 |.put _ d=>nT N d
 |_=>true
structure DI (N lo hi:Nat) (d:Dt):Prop where
 b:nT N d=true
 nd:(aY d).Nodup
 rg:∀i∈aY d,lo≤i∧i<hi
structure LI (N lo hi:Nat) (l:List Dt):Prop where
 b:∀d∈l,nT N d=true
 nd:(l.flatMap aY).Nodup
 rg:∀i∈l.flatMap aY,lo≤i∧i<hi
theorem DI.wide {N lo hi Fp hi':Nat}{d:Dt}(h:DI N lo hi d)(h1:Fp≤lo)(h2:hi≤hi'):DI N Fp hi' d:=⟨h.b,h.nd,λi hi=>by have:=h.rg i hi;omega⟩
theorem LI.wide {N lo hi Fp hi':Nat}{l:List Dt}(h:LI N lo hi l)(h1:Fp≤lo)(h2:hi≤hi'):LI N Fp hi' l:=⟨h.b,h.nd,λi hi=>by have:=h.rg i hi;omega⟩
theorem LI.nil (N lo hi:Nat):LI N lo hi []:=⟨λ_ h=>(by cases h),zcg,λ_ h=>(by cases h)⟩
theorem LI.snoc {N lo mid hi:Nat}{l:List Dt}{d:Dt}(h:LI N lo mid l)(k:DI N mid hi d)(h2:lo≤mid)(h1:mid≤hi):LI N lo hi (l++[d]):=by
 refine⟨λx hx=>?_,?_,λi hi'=>?_⟩
 ·rcases zaF.1 hx with hx|hx
  ·exact h.b x hx
  ·rw[zbA.1 hx];exact k.b
 ·rw[zcy,List.nodup_append];refine⟨h.nd,by simpa using k.nd,λa ha b hb=>?_⟩;have p:=h.rg a ha;have q:=k.rg b (by simpa using hb);omega
 ·rw[zcy]at hi';rcases zaF.1 hi' with hx|hx
  ·have:=h.rg i hx;omega
  ·have:=k.rg i (by simpa using hx);omega
theorem tB {N lo i:Nat}{r:Dt}:∀{l:List Dt},(∀d∈l,nT N d=true)→nT N r=true→(l.flatMap aY++aY r).Nodup→(∀x∈l.flatMap aY++aY r,lo≤x∧x<i)→lo≤i→DI N lo (i+l.length) (aU l r i).1∧∀x∈aY (aU l r i).1,x<i→x∈l.flatMap aY++aY r
 |[],hb,hr,nd,rg,AJ=>⟨⟨hr,by simpa[aU]using nd,λx hx=>rg x (by simpa[aU]using hx)⟩,λx hx _=>by simpa[aU]using hx⟩
 |d::l,hb,hr,nd,rg,AJ=>by
  rw[zbB,zbK,List.nodup_append]at nd;obtain⟨n1,n2,n3⟩:=nd;have rg':∀x∈aY d++(l.flatMap aY++aY r),lo≤x∧x<i:=λx hx=>rg x (by rw[zbB,zbK];exact hx);obtain⟨i1,i2⟩:=tB (l:=l) (λx hx=>hb x (by simp[hx])) hr n2 (λx hx=>rg' x (List.mem_append_right _ hx)) AJ;simp only[aU,eI];refine⟨⟨?_,?_,?_⟩,?_⟩
  ·simp only[nT,zae];exact⟨hb d (by simp),i1.b⟩
  ·simp only[aY,zco,List.nodup_append];refine⟨λhm=>?_,n1,i1.nd,λa ha b hb'=>?_⟩
   ·rcases zaF.1 hm with hm|hm
    ·have:=rg' _ (zcx _ hm);omega
    ·have:=i1.rg _ hm;omega
   ·have p:=rg' a (zcx _ ha);intro e;subst e;exact n3 a ha a (i2 a hb' p.2) rfl
  ·intro x hx;simp only[aY,zal,zaF]at hx;simp only[zar];rcases hx with rfl|hx|hx
   ·omega
   ·have:=rg' x (zcx _ hx);omega
   ·have:=i1.rg x hx;omega
  ·intro x hx hlt;simp only[aY,zal,zaF]at hx;rw[zbB,zbK];rcases hx with rfl|hx|hx
   ·omega
   ·exact zcx _ hx
   ·exact List.mem_append_right _ (i2 x hx hlt)
theorem XF {N:Nat}:∀{l:List Dt},(∀d∈l,nT N d=true)→nT N (fX l)=true
 |[],_=>rfl
 |d::l,h=>by
  simp only[fX,nT,zae];exact⟨h d (by simp),XF λx hx=>h x (by simp[hx])⟩
theorem nA:∀(l:List Dt),aY (fX l)=l.flatMap aY
 |[]=>rfl
 |d::l=>by simp only[fX,aY,zbB,nA l]
theorem U9 {N:Nat}{t:Tok}{s s':eD}{d:Dt}(ht:rE N t)(h2:¬(t.kind=3∨t.kind=7))(h3:t.kind≠10)(h4:t.kind≠11)(h5:¬(t.kind=2∨t.kind=5∨t.kind=4))(h0:t.kind≠0)(h1:t.kind≠1)(h6:t.kind≠6)(h:j9 t s=.ok d s'):DI N s.fresh s'.fresh d∧s.fresh≤s'.fresh:=by
 unfold j9 at h;split at h
 ·rename_i hk;cases h;exact⟨⟨zaY (ht.txt hk),by simp[aY],λi hi=>by simp[aY]at hi;subst hi;simp⟩,by simp⟩
 ·split at h
  ·rename_i hk;cases h;exact⟨⟨ht.kB hk,zcg,λi hi=>(by cases hi)⟩,zac _⟩
  ·split at h
   ·rename_i hk;cases h;exact⟨⟨zaY (ht.tru hk),zcg,λi hi=>(by cases hi)⟩,zac _⟩
   ·split at h
    ·rename_i hk;cases h;exact⟨⟨(by have:=ht.sym hk;simp[nT,this.1];omega),zcg,λi hi=>(by cases hi)⟩,zac _⟩
    ·split at h
     ·cases h
     ·rename_i q1 q2 q3 q4 q5;cases h;have hk:=ht.kind;have h13:t.kind=13:=by omega
      exact⟨⟨ht.num h13 (by simpa using q5),zcg,λi hi=>(by cases hi)⟩,zac _⟩
section
variable (T:List Tok)(dp N:Nat)
structure ab1 (n:Nat):Prop where
 datum:∀p s d s',ay T dp n p s=.ok d s'→DI N s.fresh s'.fresh d∧s.fresh≤s'.fresh
 take:∀p s t s',aM T dp n p s=.ok t s'→(t∈T∧t.kind≠0∧t.kind≠1∧t.kind≠6)∧s.fresh≤s'.fresh
 nY:∀t p s d s',t∈T∧t.kind≠0∧t.kind≠1∧t.kind≠6→aL T dp n t p s=.ok d s'→DI N s.fresh s'.fresh d∧s.fresh≤s'.fresh
 list:∀lo data p s d s',LI N lo s.fresh data→lo≤s.fresh→bh T dp n data p s=.ok d s'→DI N lo s'.fresh d∧s.fresh≤s'.fresh
 vec:∀lo data p s l s',LI N lo s.fresh data→lo≤s.fresh→data.length≤20→cy T dp n data p s=.ok l s'→LI N lo s'.fresh l∧s.fresh≤s'.fresh∧l.length≤20
end
section
variable {T:List Tok}{dp N:Nat}
theorem M7:ir [113,117,111,116,101]=true:=by decide
theorem QO (hT:∀t∈T,rE N t):∀n,ab1 T dp N n
 |0=>by
  refine⟨λp s d s' h=>?_,λp s t s' h=>?_,λt p s d s' _ h=>?_,λlo data p s d s' _ _ h=>?_,λlo data p s d s' _ _ _ h=>?_⟩;all_goals first
   |(unfold ay at h;cases h)
   |(unfold aM at h;cases h)
   |(unfold aL at h;cases h)
   |(unfold bh at h;cases h)
   |(unfold cy at h;cases h)
 |n+1=>by
  have ih:=QO hT n;refine⟨λp s d s' h=>?_,λp s t s' h=>?_,λt p s d s' ht h=>?_,λlo data p s d s' hL AJ h=>?_,λlo data p s l s' hL AJ hlen h=>?_⟩
  ·unfold ay at h;obtain⟨t,s1,h1,h2⟩:=RR.bk h;have i1:=ih.take p s t s1 h1;have i2:=ih.nY t p s1 d s' i1.1 h2;exact⟨i2.1.wide i1.2 (zac _),zag i1.2 i2.2⟩
  ·unfold aM at h;split at h
   ·cases h
   ·rename_i t0 ID;split at h
    ·cases h
    ·rename_i k0;split at h
     ·cases h
     ·rename_i k1;split at h
      ·obtain⟨d,s1,h1,h2⟩:=RR.bk h;have i1:=ih.datum _ _ d s1 h1;have i2:=ih.take p s1 t s' h2;exact⟨i2.1,zag i1.2 i2.2⟩
      ·rename_i k6;cases h;exact⟨⟨zbr ID,k0,k1,k6⟩,zac _⟩
  ·unfold aL at h;split at h
   ·cases h
   ·rename_i q37;split at h
    ·split at h
     ·cases h
     ·split at h
      ·cases h
      ·obtain⟨d1,s1,h1,h2⟩:=RR.bk h;cases h2;have i1:=ih.datum _ _ d1 s' h1;exact⟨⟨i1.1.b,i1.1.nd,i1.1.rg⟩,i1.2⟩
    ·rename_i Ur;split at h
     ·split at h
      ·cases h
      ·cases h;exact⟨⟨rfl,zcg,λi hi=>(by cases hi)⟩,zac _⟩
     ·rename_i Xf;split at h
      ·split at h
       ·cases h
       ·split at h
        ·obtain⟨l,s1,h1,h2⟩:=RR.bk h;cases h2;obtain⟨i1,i2,i3⟩:=ih.vec (s.fresh+1) [] _ { s with fresh:=s.fresh+1 } l s' (LI.nil _ _ _) (zac _) (by simp) h1;have i2':s.fresh+1≤s'.fresh:=i2;refine⟨⟨?_,?_,?_⟩,by omega⟩
         ·simp only[nT,zae,zaK,Dv];exact⟨XF i1.b,i3⟩
         ·simp only[aY,nA,zco];exact⟨λhm=>(by have:=i1.rg _ hm;omega),i1.nd⟩
         ·intro i hi;simp only[aY,nA,zal]at hi;rcases hi with rfl|hi
          ·omega
          ·have:=i1.rg i hi;omega
        ·split at h
         ·obtain⟨d1,s1,h1,h2⟩:=RR.bk h;cases h2;have i1:=ih.datum _ _ d1 s1 h1;have hc:=(tB (N:=N) (lo:=s.fresh) (i:=s1.fresh) (r:= .nil) (l:=[.sym [113,117,111,116,101],d1]) (λx hx=>by
           simp at hx;rcases hx with rfl|rfl
           ·exact zbV.2 ⟨M7,zaY (Nat.le_add_left 5 N)⟩
           ·exact i1.1.b) rfl (by simpa[aY]using i1.1.nd) (λx hx=>i1.1.rg x (by simpa[aY]using hx)) i1.2).1
          exact⟨hc,by have:=i1.2;show s.fresh≤s1.fresh+2;omega⟩
         ·exact ih.list s.fresh [] _ s d s' (LI.nil _ _ _) (zac _) h
      ·rename_i QP;exact U9 (hT t ht.1) q37 Ur Xf QP ht.2.1 ht.2.2.1 ht.2.2.2 h
  ·unfold bh at h;obtain⟨t,s1,h1,h2⟩:=RR.bk h;have i1:=ih.take p s t s1 h1;have QQ:=hL.wide (zac lo) i1.2;have M8:=zag AJ i1.2;split at h2
   ·cases h2;have hc:=(tB (N:=N) (lo:=lo) (i:=s1.fresh) (r:= .nil) (l:=data) QQ.b rfl (by simpa[aY]using QQ.nd) (λx hx=>QQ.rg x (by simpa[aY]using hx)) M8).1;rw[eI];exact⟨hc,by have:=i1.2;show s.fresh≤s1.fresh+data.length;omega⟩
   ·split at h2
    ·obtain⟨rest,s2,h3,h4⟩:=RR.bk h2;obtain⟨t2,s3,h5,h6⟩:=RR.bk h4;have i2:=ih.datum p s1 rest s2 h3;have i3:=ih.take p s2 t2 s3 h5;split at h6
     ·cases h6;have hc:=(tB (N:=N) (lo:=lo) (i:=s3.fresh) (r:=rest) (l:=data) QQ.b i2.1.b (by
       rw[List.nodup_append];refine⟨QQ.nd,i2.1.nd,λa ha b hb=>?_⟩;have:=QQ.rg a ha;have:=i2.1.rg b hb;omega) (λx hx=>by
       have h7:=i2.2;have h8:=i3.2;rcases zaF.1 hx with hx|hx
       ·have:=QQ.rg x hx;omega
       ·have:=i2.1.rg x hx;omega) (by have:=i2.2;have:=i3.2;omega)).1
      rw[eI];exact⟨hc,by have:=i1.2;have:=i2.2;have:=i3.2;show s.fresh≤s3.fresh+data.length;omega⟩
     ·cases h6
    ·obtain⟨d1,s2,h3,h4⟩:=RR.bk h2;have i2:=ih.nY t p s1 d1 s2 i1.1 h3;have i3:=ih.list lo (data++[d1]) p s2 d s' (QQ.snoc i2.1 M8 i2.2) (zag M8 i2.2) h4;exact⟨i3.1,by have:=i1.2;have:=i2.2;have:=i3.2;omega⟩
  ·unfold cy at h;obtain⟨t,s1,h1,h2⟩:=RR.bk h;have i1:=ih.take p s t s1 h1;have QQ:=hL.wide (zac lo) i1.2;have M8:=zag AJ i1.2;split at h2
   ·cases h2;exact⟨QQ,i1.2,hlen⟩
   ·split at h2
    ·cases h2
    ·rename_i G5;obtain⟨d1,s2,h3,h4⟩:=RR.bk h2;have i2:=ih.nY t p s1 d1 s2 i1.1 h3;have i3:=ih.vec lo (data++[d1]) p s2 l s' (QQ.snoc i2.1 M8 i2.2) (zag M8 i2.2) (by simp;omega) h4;exact⟨i3.1,by have:=i1.2;have:=i2.2;have:=i3.2.1;omega,i3.2.2⟩
end
theorem wW {s:List UInt8}{dp:Nat}{d:Dt}{s':eD}(h:ay (aw (s.length+1) s 0) dp 2000 ⟨0,false,[]⟩ ⟨0,0,[]⟩=.ok d s'):DI s.length 0 s'.fresh d:=
 ((QO (N:=s.length) (λt ht=>KM _ _ _ t ht) 2000).datum _ _ d s' h).1
theorem zk {N:Nat}{m:Int}:∀{r d:Dt},nT N r=true→aO m r=some d→nT N d=true
 |.put n x,d,h,hl=>by
  unfold aO at hl;have h':nT N x=true:=h;split at hl
  ·cases hl;exact h'
  ·exact zk h' hl
 |.pair _ a b,d,h,hl=>by
  unfold aO at hl;simp only[nT,zae]at h;cases hq:aO m a with
  |some x=>rw[hq]at hl;cases hl;exact zk h.1 hq
  |none=>rw[hq]at hl;exact zk h.2 hl
 |.vec _ l,d,h,hl=>by
  unfold aO at hl;simp only[nT,zae]at h;exact zk h.1 hl
 |.br a l,d,h,hl=>by
  unfold aO at hl;simp only[nT,zae]at h;cases hq:aO m a with
  |some x=>rw[hq]at hl;cases hl;exact zk h.1 hq
  |none=>rw[hq]at hl;exact zk h.2 hl
 |.nil,d,_,hl=>by simp[aO]at hl
 |.sym _,d,_,hl=>by simp[aO]at hl
 |.num _ _,d,_,hl=>by simp[aO]at hl
 |.cD _,d,_,hl=>by simp[aO]at hl
 |.kB _,d,_,hl=>by simp[aO]at hl
 |.txt _ _,d,_,hl=>by simp[aO]at hl
 |.cZ,d,_,hl=>by simp[aO]at hl
 |.ask _,d,_,hl=>by simp[aO]at hl
theorem wY {N:Nat}{root:Dt}(hr:nT N root=true):∀(f:Nat) (d:Dt),nT N d=true→nT N (bQ root f d)=true
 |0,d,h=>h
 |f+1,.put n x,h=>wY hr f x h
 |f+1,.ask m,_=>by
  show nT N (bQ root f ((aO m root).getD .nil))=true;cases hl:aO m root with
  |none=>exact wY hr f .nil rfl
  |some x=>exact wY hr f x (zk hr hl)
 |f+1,.nil,h=>h
 |f+1,.sym _,h=>h
 |f+1,.num _ _,h=>h
 |f+1,.cD _,h=>h
 |f+1,.kB _,h=>h
 |f+1,.txt _ _,h=>h
 |f+1,.pair _ _ _,h=>h
 |f+1,.vec _ _,h=>h
 |f+1,.cZ,h=>h
 |f+1,.br _ _,h=>h
def pc (x:eO):Bool:=
 if x.kind=0 then decide (x.text=[]∧x.n=0∧x.d=0∧x.subs.length=0)
 else if x.kind=1 then decide (x.subs.length=2∧x.text=[]∧x.n=0∧x.d=0)
 else if x.kind=2 then decide (x.subs.length≤20∧x.text=[]∧x.n=0∧x.d=0)
 else if x.kind=3 then decide (x.text.length≤400∧x.n=0∧x.d=0∧x.subs.length=0)
 else if x.kind=4 then decide (x.n=0∧x.d=0∧x.subs.length=0)&&ir x.text
 else if x.kind=5 then lT x.n x.d&&decide (x.text=[]∧x.subs.length=0)
 else if x.kind=6 then decide ((x.n=0∨x.n=1)∧x.text=[]∧x.d=0∧x.subs.length=0)
 else if x.kind=7 then jf x.n&&decide (x.text=[]∧x.d=0∧x.subs.length=0)
 else false
def vV (x:eO):Bool:=pc x&&decide (x.text.length≤405)
def M9 (g:fP):Prop:=∀p∈g.met,p.2<g.nodes.length
theorem Jh {g:fP}(h:M9 g){i k:Nat}(hl:g.met.lookup i=some k):k<g.nodes.length:=by
 have:∀(l:List (Nat×Nat)),l.lookup i=some k→(i,k)∈l:=by
  intro l
  induction l with
  |nil=>intro h;cases h
  |cons p l ih=>
   intro h;simp only[List.lookup]at h;split at h
   ·rename_i e;cases h;rw[(beq_iff_eq.1 e)];exact zaD
   ·exact zaQ _ (ih h)
 exact h _ (this _ hl)
structure NI (g g':fP):Prop where
 len:g.nodes.length≤g'.nodes.length
 old:∀j:Nat,j<g.nodes.length→g'.nodes[j]?=g.nodes[j]?
 met:M9 g'
 new:∀(j:Nat) x,g.nodes.length≤j→g'.nodes[j]?=some x→vV x=true∧∀q∈x.subs,q<g'.nodes.length
theorem NI.refl {g:fP}(h:M9 g):NI g g:=⟨zac _,λ_ _=>rfl,h,λj x hj hx=>by rw[zcp hj]at hx;cases hx⟩
theorem NI.trans {a b c:fP}(h:NI a b)(k:NI b c):NI a c:=by
 refine⟨zag h.len k.len,λj hj=>(k.old j (zaI hj h.len)).trans (h.old j hj),k.met,λj x hj hx=>?_⟩;by_cases hb:j<b.nodes.length
 ·rw[k.old j hb]at hx;have:=h.new j x hj hx;exact⟨this.1,λq hq=>zaI (this.2 q hq) k.len⟩
 ·exact k.new j x (by omega) hx
theorem NI.add {g:fP}(h:M9 g){x:eO}(hx:vV x=true)(hs:x.subs=[])(p:List (Nat×Nat))(hp:p=g.met∨∃i,p=(i,g.nodes.length)::g.met):NI g ⟨g.nodes++[x],p⟩∧g.nodes.length<(g.nodes++[x]).length:=by
 refine⟨⟨by simp,λj hj=>zbi hj,λq hq=>?_,λj y hj hy=>?_⟩,by simp⟩
 ·show q.2<(g.nodes++[x]).length;rw[zaR];rcases hp with rfl|⟨i,rfl⟩
  ·have:=h q hq;omega
  ·rcases zal.1 hq with rfl|hq
   ·simp
   ·have:=h q hq;omega
 ·obtain⟨hj2,XA⟩:=zbh.1 hy;have hj3:j=g.nodes.length:=by simp at hj2;omega
  subst hj3;simp at XA;subst XA;exact⟨hx,λq hq=>by rw[hs]at hq;cases hq⟩
section
variable {root:Dt}{N:Nat}
theorem NI.hold {g:fP}{kind:Int}{i:Nat}{y:List Nat×fP}(h:NI ⟨g.nodes++[⟨kind,[],0,0,[]⟩],(i,g.nodes.length)::g.met⟩ y.2)(hq:∀q∈y.1,q<y.2.nodes.length)(hk:vV ⟨kind,[],0,0,y.1⟩=true):NI g { y.2 with nodes:=bE y.2.nodes g.nodes.length y.1 }∧g.nodes.length<(bE y.2.nodes g.nodes.length y.1).length:=by
 have hl:(bE y.2.nodes g.nodes.length y.1).length=y.2.nodes.length:=by simp[bE]
 have h1:g.nodes.length+1≤y.2.nodes.length:=by have:=h.len;simpa using this
 have hne:∀j,j≠g.nodes.length→(bE y.2.nodes g.nodes.length y.1)[j]?=y.2.nodes[j]?:=λj hj=>by
  have hk:¬g.nodes.length=j:=λe=>hj e.symm;unfold bE;rw[zcE];simp[hk]
 refine⟨⟨by show _≤(bE _ _ _).length;omega,λj hj=>?_,λp hp=>?_,λj x hj hx=>?_⟩,by omega⟩
 ·show(bE y.2.nodes g.nodes.length y.1)[j]?=_;rw[hne j (by omega),h.old j (by simp;omega)];exact zbi hj
 ·show p.2<(bE _ _ _).length;rw[hl];exact h.met p hp
 ·have tJ:(bE y.2.nodes g.nodes.length y.1)[j]?=some x:=hx;show vV x=true∧∀q∈x.subs,q<(bE _ _ _).length;rw[hl];by_cases hj3:j=g.nodes.length
  ·subst hj3;have e0:=h.old g.nodes.length (by simp);rw[zbv (zac _)]at e0;simp at e0;unfold bE at tJ;rw[zcE,e0]at tJ;simp at tJ;subst tJ;exact⟨hk,hq⟩
  ·rw[hne j hj3]at tJ;exact h.new j x (by simp;omega) tJ
theorem BX (hN:N≤400)(hr:nT N root=true):∀n,(∀d g k g',nT N d=true→M9 g→ie root n d g=some (k,g')→NI g g'∧k<g'.nodes.length)∧(∀l acc g ks g',nT N l=true→M9 g→(∀q∈acc,q<g.nodes.length)→dV root n l acc g=some (ks,g')→NI g g'∧(∀q∈ks,q<g'.nodes.length)∧ks.length=acc.length+l.mX):=by
 intro n
 induction n with
 |zero=>
  constructor
  ·intro _ _ _ _ _ _ h;simp[ie]at h
  ·intro _ _ _ _ _ _ _ _ h;simp[dV]at h
 |succ n ih=>
  constructor
  ·intro d g k g' hd hm h;have hb:=wY hr 200000 d hd;simp only[ie]at h;split at h
   ·rename_i i a b e;rw[e]at hb;split at h
    ·rename_i k0 hl;cases h;exact⟨NI.refl hm,Jh hm hl⟩
    ·obtain⟨y,h1,h2⟩:=zas.1 h;cases h2;simp only[nT,zae]at hb;obtain⟨i1,i2,i3⟩:=ih.2 _ _ _ _ _ (by simp[nT,hb.1,hb.2]) (by
      intro p hp;rcases zal.1 hp with rfl|hp
      ·simp
      ·have:=hm p hp;simp;omega) (λ_ hq=>by cases hq) h1
     exact NI.hold i1 i2 (by simp[Dt.mX]at i3;simp[vV,pc,i3])
   ·rename_i i l e;rw[e]at hb;split at h
    ·rename_i k0 hl;cases h;exact⟨NI.refl hm,Jh hm hl⟩
    ·obtain⟨y,h1,h2⟩:=zas.1 h;cases h2;simp only[nT,zae,zaK]at hb;obtain⟨i1,i2,i3⟩:=ih.2 _ _ _ _ _ hb.1 (by
      intro p hp;rcases zal.1 hp with rfl|hp
      ·simp
      ·have:=hm p hp;simp;omega) (λ_ hq=>by cases hq) h1
     exact NI.hold i1 i2 (by simp at i3;simp[vV,pc,i3,hb.2])
   ·rename_i i s e;rw[e]at hb;split at h
    ·rename_i k0 hl;cases h;exact⟨NI.refl hm,Jh hm hl⟩
    ·cases h;simp only[nT,zaK]at hb;exact NI.add hm (by simp[vV,pc];omega) rfl _ (.inr ⟨i,rfl⟩)
   ·rename_i s e;rw[e]at hb;cases h;exact NI.add hm (by simp only[nT,zae,zaK]at hb;simp[vV,pc,hb.1];omega) rfl _ (.inl rfl)
   ·rename_i a b e;rw[e]at hb;cases h;exact NI.add hm (by simp only[nT]at hb;simp[vV,pc,hb]) rfl _ (.inl rfl)
   ·rename_i a e;rw[e]at hb;cases h;exact NI.add hm (by simpa[vV,pc,nT]using hb) rfl _ (.inl rfl)
   ·rename_i a e;rw[e]at hb;cases h;exact NI.add hm (by simp only[nT]at hb;simp[vV,pc,hb]) rfl _ (.inl rfl)
   ·cases h;exact NI.add hm (by decide) rfl _ (.inl rfl)
  ·intro l acc g ks g' hd hm ha h;cases l with
   |cZ=>
    simp only[dV]at h;cases h;exact⟨NI.refl hm,ha,by simp[Dt.mX]⟩
   |br a l=>
    simp only[dV]at h;simp only[nT,zae]at hd;obtain⟨x,h1,h2⟩:=zaO.1 h;obtain⟨i1,i2⟩:=ih.1 a g x.1 x.2 hd.1 hm h1;obtain⟨j1,j2,j3⟩:=ih.2 l _ x.2 ks g' hd.2 i1.met (λq hq=>by
     rcases zaF.1 hq with hq|hq
     ·exact zaI (ha q hq) i1.len
     ·rw[zbA.1 hq];exact i2) h2
    exact⟨i1.trans j1,j2,by rw[j3];simp[Dt.mX];omega⟩
   |_=>simp only[dV]at h;cases h
end
theorem lK {t:List UInt8}{dep:Int}{nodes:List eO}{a:Nat}(h:cS t dep=some (nodes,a,0))(hne:nodes≠[]):nodes.length≤150∧∀x∈nodes,vV x=true∧∀q∈x.subs,q<nodes.length:=by
 unfold cS at h;split at h
 ·cases h
 ·split at h
  ·cases h
  ·rename_i h4;split at h
   ·cases h
   ·cases h;exact absurd rfl hne
   ·rename_i d s eK;obtain⟨g,h1,h2⟩:=zas.1 h;split at h2
    ·cases h2
    ·rename_i ql;cases h2;have hi:=((BX (N:=t.length) (root:=d) (by omega) (wW eK).b 100000).1 d ⟨[],[]⟩ g.1 g.2 (wW eK).b (λ_ hp=>by cases hp) h1).1;refine⟨by omega,λx hx=>?_⟩;obtain⟨j,hj⟩:=List.mem_iff_getElem?.1 hx;exact hi.new j x (zaq _) hj
theorem Ji {t:List UInt8}{dep:Int}{nodes:List eO}{a:Nat}(h:cS t dep=some (nodes,a,0))(hne:nodes≠[]):nodes.length≤150∧∀x∈nodes,pc x=true∧∀q∈x.subs,q<nodes.length:=
 ⟨(lK h hne).1,λx hx=>⟨(zbV.1 ((lK h hne).2 x hx).1).1,((lK h hne).2 x hx).2⟩⟩
theorem QR {t:List UInt8}{dep:Int}{nodes:List eO}{a:Nat}(h:cS t dep=some (nodes,a,0))(hne:nodes≠[]):∀x∈nodes,x.text.length≤405:=λx hx=>of_decide_eq_true (zbV.1 ((lK h hne).2 x hx).1).2
def bp:Dt→List Dt
 |.pair i a b=> .pair i a b::(bp a++bp b)
 |.vec i l=> .vec i l::bp l
 |.br a l=> .br a l::(bp a++bp l)
 |.put n d=> .put n d::bp d
 |d=>[d]
theorem cX (d:Dt):d∈bp d:=by cases d<;>simp[bp]
theorem cz {d e:Dt}(h:d∈bp e):∀{r:Dt},e∈bp r→d∈bp r
 |.pair i a b,hr=>by
  simp only[bp,zal,zaF]at hr ⊢;rcases hr with rfl|hr|hr
  ·simpa[bp]using h
  ·exact .inr (.inl (cz h hr))
  ·exact .inr (.inr (cz h hr))
 |.br a b,hr=>by
  simp only[bp,zal,zaF]at hr ⊢;rcases hr with rfl|hr|hr
  ·simpa[bp]using h
  ·exact .inr (.inl (cz h hr))
  ·exact .inr (.inr (cz h hr))
 |.vec i l,hr=>by
  simp only[bp,zal]at hr ⊢;rcases hr with rfl|hr
  ·simpa[bp]using h
  ·exact .inr (cz h hr)
 |.put i l,hr=>by
  simp only[bp,zal]at hr ⊢;rcases hr with rfl|hr
  ·simpa[bp]using h
  ·exact .inr (cz h hr)
 |.nil,hr=>by simp[bp]at hr;subst hr;exact h
 |.sym _,hr=>by simp[bp]at hr;subst hr;exact h
 |.num _ _,hr=>by simp[bp]at hr;subst hr;exact h
 |.cD _,hr=>by simp[bp]at hr;subst hr;exact h
 |.kB _,hr=>by simp[bp]at hr;subst hr;exact h
 |.txt _ _,hr=>by simp[bp]at hr;subst hr;exact h
 |.cZ,hr=>by simp[bp]at hr;subst hr;exact h
 |.ask _,hr=>by simp[bp]at hr;subst hr;exact h
theorem lO {m:Int}:∀{r d:Dt},aO m r=some d→ .put m d∈bp r
 |.put n x,d,hl=>by
  unfold aO at hl;simp only[bp,zal];split at hl
  ·rename_i e;cases hl;exact .inl (by rw[e])
  ·exact .inr (lO hl)
 |.pair _ a b,d,hl=>by
  unfold aO at hl;simp only[bp,zal,zaF];cases hq:aO m a with
  |some x=>rw[hq]at hl;cases hl;exact .inr (.inl (lO hq))
  |none=>rw[hq]at hl;exact .inr (.inr (lO hl))
 |.vec _ l,d,hl=>by
  unfold aO at hl;simp only[bp,zal];exact .inr (lO hl)
 |.br a l,d,hl=>by
  unfold aO at hl;simp only[bp,zal,zaF];cases hq:aO m a with
  |some x=>rw[hq]at hl;cases hl;exact .inr (.inl (lO hq))
  |none=>rw[hq]at hl;exact .inr (.inr (lO hl))
 |.nil,d,hl=>by simp[aO]at hl
 |.sym _,d,hl=>by simp[aO]at hl
 |.num _ _,d,hl=>by simp[aO]at hl
 |.cD _,d,hl=>by simp[aO]at hl
 |.kB _,d,hl=>by simp[aO]at hl
 |.txt _ _,d,hl=>by simp[aO]at hl
 |.cZ,d,hl=>by simp[aO]at hl
 |.ask _,d,hl=>by simp[aO]at hl
section
variable (root:Dt)
def Al (g:fP)(x:Dt)(k:Nat):Prop:=
 match bQ root 200000 x with
 |.pair i _ _=>g.met.lookup i=some k
 |.vec i _=>g.met.lookup i=some k
 |.txt i _=>g.met.lookup i=some k
 |.sym w=>g.nodes[k]?=some ⟨4,w,0,0,[]⟩
 |.num a b=>g.nodes[k]?=some ⟨5,[],a,b,[]⟩
 |.cD a=>g.nodes[k]?=some ⟨6,[],a,0,[]⟩
 |.kB a=>g.nodes[k]?=some ⟨7,[],a,0,[]⟩
 |_=>g.nodes[k]?=some ⟨0,[],0,0,[]⟩
def XH (g:fP):Dt→List Nat→Prop
 |.br a r,l=>∃k q,l=k::q∧Al root g a k∧XH g r q
 |_,l=>l=[]
def B5 (g:fP)(i k:Nat):Prop:=
 (∃a b ka kb,.pair i a b∈bp root∧g.nodes[k]?=some ⟨1,[],0,0,[ka,kb]⟩∧Al root g a ka∧Al root g b kb)∨
 (∃l ks,.vec i l∈bp root∧g.nodes[k]?=some ⟨2,[],0,0,ks⟩∧XH root g l ks)∨
 (∃w,.txt i w∈bp root∧g.nodes[k]?=some ⟨3,w,0,0,[]⟩)
structure NX (g g':fP):Prop where
 len:g.nodes.length≤g'.nodes.length
 old:∀j:Nat,j<g.nodes.length→g'.nodes[j]?=g.nodes[j]?
 ext:∀i k:Nat,g.met.lookup i=some k→g'.met.lookup i=some k
 new:∀i k:Nat,g'.met.lookup i=some k→g.met.lookup i=some k∨(g.nodes.length≤k∧B5 root g' i k)
structure XX (g g':fP) (L:Option Nat):Prop where
 nodes:∀(j:Nat) x,g.nodes[j]?=some x→L≠some j→g'.nodes[j]?=some x
 ext:∀i k:Nat,g.met.lookup i=some k→g'.met.lookup i=some k
 hold:∀L0,L=some L0→∃x,g.nodes[L0]?=some x∧1≤x.kind∧x.kind≤2
end
section
variable {root:Dt}
theorem Al.on {g g':fP}{L:Option Nat}(h:XX g g' L){x:Dt}{k:Nat}(ha:Al root g x k):Al root g' x k:=by
 have key:∀y:eO,g.nodes[k]?=some y→(y.kind=0∨4≤y.kind)→g'.nodes[k]?=some y:=λy hy hk=>by
  refine h.nodes k y hy λe=>?_;obtain⟨z,hz,h1,h2⟩:=h.hold k e;rw[hy]at hz;cases hz;omega
 unfold Al at ha ⊢;split at ha
 ·exact h.ext _ _ ha
 ·exact h.ext _ _ ha
 ·exact h.ext _ _ ha
 ·exact key _ ha (.inr (show(4:Int)≤4 by decide))
 ·exact key _ ha (.inr (show(4:Int)≤5 by decide))
 ·exact key _ ha (.inr (show(4:Int)≤6 by decide))
 ·exact key _ ha (.inr (show(4:Int)≤7 by decide))
 ·exact key _ ha (.inl rfl)
theorem XH.on {g g':fP}{L:Option Nat}(h:XX g g' L):∀{l:Dt} {ks:List Nat},XH root g l ks→XH root g' l ks
 |.br _ _,_,⟨k,q,h1,h2,h3⟩=>⟨k,q,h1,h2.on h,XH.on h h3⟩
 |.cZ,_,e=>e
 |.nil,_,e=>e
 |.sym _,_,e=>e
 |.num _ _,_,e=>e
 |.cD _,_,e=>e
 |.kB _,_,e=>e
 |.txt _ _,_,e=>e
 |.pair _ _ _,_,e=>e
 |.vec _ _,_,e=>e
 |.put _ _,_,e=>e
 |.ask _,_,e=>e
theorem B5.on {g g':fP}{L:Option Nat}(h:XX g g' L){i k:Nat}(hk:L≠some k)(hh:B5 root g i k):B5 root g' i k:=by
 rcases hh with⟨a,b,ka,kb,h1,h2,h3,h4⟩|⟨l,ks,h1,h2,h3⟩|⟨w,h1,h2⟩
 ·exact .inl ⟨a,b,ka,kb,h1,h.nodes _ _ h2 hk,h3.on h,h4.on h⟩
 ·exact .inr (.inl ⟨l,ks,h1,h.nodes _ _ h2 hk,h3.on h⟩)
 ·exact .inr (.inr ⟨w,h1,h.nodes _ _ h2 hk⟩)
theorem NX.xx {g g':fP}(h:NX root g g'):XX g g' none:=⟨λj x hx _=>by
 rw[h.old j (zbh.1 hx).1];exact hx,h.ext,λL0 e=>by cases e⟩
theorem NX.refl (g:fP):NX root g g:=⟨zac _,λ_ _=>rfl,λ_ _ h=>h,λ_ _ h=> .inl h⟩
theorem NX.trans {a b c:fP}(h:NX root a b)(k:NX root b c):NX root a c:=by
 refine⟨zag h.len k.len,λj hj=>(k.old j (zaI hj h.len)).trans (h.old j hj),λi q hq=>k.ext i q (h.ext i q hq),λi q hq=>?_⟩;rcases k.new i q hq with h1|⟨h1,h2⟩
 ·rcases h.new i q h1 with h3|⟨h3,h4⟩
  ·exact .inl h3
  ·exact .inr ⟨h3,h4.on k.xx (by simp)⟩
 ·exact .inr ⟨zag h.len h1,h2⟩
theorem NX.atom (g:fP)(x:eO):NX root g (g.add x):=⟨by simp[fP.add],λj hj=>zbi hj,λ_ _ h=>h,λ_ _ h=> .inl h⟩
theorem zt (g:fP)(x:eO):(g.add x).nodes[g.nodes.length]?=some x:=by simp[fP.add]
theorem Q3 {d:Dt}(hd:d∈bp root):∀f,bQ root f d∈bp root∨bQ root f d=.nil:=by
 intro f
 induction f generalizing d with
 |zero=>exact .inl hd
 |succ f ih=>
  cases d with
  |put n x=>exact ih (cz (by simp[bp,cX]) hd)
  |ask m=>
   show bQ root f ((aO m root).getD .nil)∈bp root∨bQ root f ((aO m root).getD .nil)=.nil;cases hl:aO m root with
   |none=>
    refine .inr ?_;show bQ root f .nil=.nil;cases f<;>rfl
   |some x=>exact ih (cz (by simp[bp,cX]) (lO hl))
  |_=>exact .inl hd
def OcL (root:Dt):Dt→Prop
 |.br a r=>a∈bp root∧OcL root r
 |_=>True
theorem Q4:∀{l:Dt},l∈bp root→OcL root l
 |.br a r,h=>⟨cz (by simp[bp,cX]) h,Q4 (cz (by simp[bp,cX]) h)⟩
 |.cZ,_=>trivial
 |.nil,_=>trivial
 |.sym _,_=>trivial
 |.num _ _,_=>trivial
 |.cD _,_=>trivial
 |.kB _,_=>trivial
 |.txt _ _,_=>trivial
 |.pair _ _ _,_=>trivial
 |.vec _ _,_=>trivial
 |.put _ _,_=>trivial
 |.ask _,_=>trivial
theorem lookup_cons {i j k:Nat}{l:List (Nat×Nat)}:((i,k)::l).lookup j=if j=i then some k else l.lookup j:=by
 by_cases h:j=i
 ·subst h;simp[List.lookup]
 ·rw[zaa h];have hb:(j==i)=false:=by simpa using h
  simp only[List.lookup,hb]
theorem NX.hold {g:fP}{kind:Int}{i:Nat}{y:List Nat×fP}(hk:kind=1∨kind=2)(hl:g.met.lookup i=none)(h:NX root ⟨g.nodes++[⟨kind,[],0,0,[]⟩],(i,g.nodes.length)::g.met⟩ y.2)
 (hh:∀g':fP,XX y.2 g' (some g.nodes.length)→g'.nodes[g.nodes.length]?=some ⟨kind,[],0,0,y.1⟩→B5 root g' i g.nodes.length):NX root g { y.2 with nodes:=bE y.2.nodes g.nodes.length y.1 }∧({ y.2 with nodes:=bE y.2.nodes g.nodes.length y.1 }:fP).met.lookup i=some g.nodes.length:=by
 have h1:g.nodes.length+1≤y.2.nodes.length:=by have:=h.len;simpa using this
 have hne:∀j,j≠g.nodes.length→(bE y.2.nodes g.nodes.length y.1)[j]?=y.2.nodes[j]?:=λj hj=>by
  have hk:¬g.nodes.length=j:=λe=>hj e.symm;unfold bE;rw[zcE];simp[hk]
 have e0:=h.old g.nodes.length (by simp);rw[zbv (zac _)]at e0;simp at e0;have hat:(bE y.2.nodes g.nodes.length y.1)[g.nodes.length]?=some ⟨kind,[],0,0,y.1⟩:=by
  unfold bE;rw[zcE,e0];simp
 have hX:XX y.2 { y.2 with nodes:=bE y.2.nodes g.nodes.length y.1 } (some g.nodes.length):=
  ⟨λj x hx hj=>(hne j λe=>hj (by rw[e])).trans hx,λ_ _ q=>q,λL0 e=>by
    cases e;exact⟨_,e0,by rcases hk with rfl|rfl<;>decide,by rcases hk with rfl|rfl<;>decide⟩⟩
 have hmi:y.2.met.lookup i=some g.nodes.length:=h.ext i _ (by rw[lookup_cons,zab rfl]);refine⟨⟨by show _≤(bE _ _ _).length;simp[bE];omega,λj hj=>?_,λj k q=>?_,λj k q=>?_⟩,hmi⟩
 ·show(bE y.2.nodes g.nodes.length y.1)[j]?=_;rw[hne j (by omega),h.old j (by simp;omega)];exact zbi hj
 ·have xK:j≠i:=λe=>by subst e;rw[hl]at q;cases q
  exact h.ext j k (by rw[lookup_cons,zaa xK];exact q)
 ·rcases h.new j k q with q1|⟨q1,q2⟩
  ·rw[lookup_cons]at q1;split at q1
   ·rename_i e;subst e;cases q1;exact .inr ⟨zac _,hh _ hX hat⟩
   ·exact .inl q1
  ·have q1':g.nodes.length+1≤k:=by simpa using q1
   exact .inr ⟨by omega,q2.on hX (by simp;omega)⟩
theorem GC:∀n,(∀d g k g',d∈bp root→ie root n d g=some (k,g')→NX root g g'∧Al root g' d k)∧(∀l acc g ks g',OcL root l→dV root n l acc g=some (ks,g')→NX root g g'∧∃q,ks=acc++q∧XH root g' l q):=by
 intro n
 induction n with
 |zero=>
  constructor
  ·intro _ _ _ _ _ h;simp[ie]at h
  ·intro _ _ _ _ _ _ h;simp[dV]at h
 |succ n ih=>
  constructor
  ·intro d g k g' hd h;have ho:=Q3 hd 200000;simp only[ie]at h;split at h
   ·rename_i i a b e;rw[e]at ho;have Nw: .pair i a b∈bp root:=ho.resolve_right (by simp);split at h
    ·rename_i k0 hl;cases h;exact⟨NX.refl _,by unfold Al;rw[e];exact hl⟩
    ·rename_i hl;obtain⟨y,h1,h2⟩:=zas.1 h;cases h2;obtain⟨i1,q,i2,i3⟩:=ih.2 (.br a (.br b .cZ)) _ _ _ _ (show _∧_∧True from⟨cz (by simp[bp,cX]) Nw,cz (by simp[bp,cX]) Nw,trivial⟩) h1;obtain⟨ka,q1,rfl,a1,kb,q2,rfl,a2,rfl⟩:=i3;have:=NX.hold (.inl rfl) hl i1 λg' hX hat=> .inl ⟨a,b,ka,kb,Nw,by rw[hat,i2];rfl,a1.on hX,a2.on hX⟩;exact⟨this.1,by unfold Al;rw[e];exact this.2⟩
   ·rename_i i l e;rw[e]at ho;have Nw: .vec i l∈bp root:=ho.resolve_right (by simp);split at h
    ·rename_i k0 hl;cases h;exact⟨NX.refl _,by unfold Al;rw[e];exact hl⟩
    ·rename_i hl;obtain⟨y,h1,h2⟩:=zas.1 h;cases h2;obtain⟨i1,q,i2,i3⟩:=ih.2 _ _ _ _ _ (Q4 (cz (by simp[bp,cX]) Nw)) h1;have:=NX.hold (.inr rfl) hl i1 λg' hX hat=> .inr (.inl ⟨l,y.1,Nw,hat,by rw[i2];exact i3.on hX⟩);exact⟨this.1,by unfold Al;rw[e];exact this.2⟩
   ·rename_i i w e;rw[e]at ho;have Nw: .txt i w∈bp root:=ho.resolve_right (by simp);split at h
    ·rename_i k0 hl;cases h;exact⟨NX.refl _,by unfold Al;rw[e];exact hl⟩
    ·rename_i hl;cases h;refine⟨⟨by simp,λj hj=>zbi hj,λj k q=>?_,λj k q=>?_⟩,by unfold Al;rw[e];show List.lookup _ (_::_)=_;rw[lookup_cons,zab rfl]⟩
     ·have xK:j≠i:=λe=>by subst e;rw[hl]at q;cases q
      show List.lookup _ (_::_)=_;rw[lookup_cons,zaa xK];exact q
     ·have q':((i,g.nodes.length)::g.met).lookup j=some k:=q;rw[lookup_cons]at q';split at q'
      ·rename_i e;subst e;cases q';exact .inr ⟨zac _,.inr (.inr ⟨w,Nw,by simp⟩)⟩
      ·exact .inl q'
   ·rename_i w e;cases h;exact⟨NX.atom _ _,by unfold Al;rw[e];exact zt _ _⟩
   ·rename_i a b e;cases h;exact⟨NX.atom _ _,by unfold Al;rw[e];exact zt _ _⟩
   ·rename_i a e;cases h;exact⟨NX.atom _ _,by unfold Al;rw[e];exact zt _ _⟩
   ·rename_i a e;cases h;exact⟨NX.atom _ _,by unfold Al;rw[e];exact zt _ _⟩
   ·rename_i y n1 n2 n3 n4 n5 n6 n7;cases h;refine⟨NX.atom _ _,?_⟩;unfold Al;split
    ·rename_i i a b e;exact absurd e (n1 i a b)
    ·rename_i i l e;exact absurd e (n2 i l)
    ·rename_i i w e;exact absurd e (n3 i w)
    ·rename_i w e;exact absurd e (n4 w)
    ·rename_i a b e;exact absurd e (n5 a b)
    ·rename_i a e;exact absurd e (n6 a)
    ·rename_i a e;exact absurd e (n7 a)
    ·exact zt _ _
  ·intro l acc g ks g' hO h;cases l with
   |cZ=>
    simp only[dV]at h;cases h;exact⟨NX.refl _,[],by simp,rfl⟩
   |br a l=>
    simp only[dV]at h;obtain⟨x,h1,h2⟩:=zaO.1 h;obtain⟨i1,i2⟩:=ih.1 a g x.1 x.2 hO.1 h1;obtain⟨j1,q,j2,j3⟩:=ih.2 l _ x.2 ks g' hO.2 h2;exact⟨i1.trans j1,x.1::q,by rw[j2];simp,x.1,q,rfl,i2.on j1.xx,j3⟩
   |_=>simp only[dV]at h;cases h
end
end Go.Loop
namespace Go.Loop
open Go.Proofs.YtlhimdjkkiflhaaGreatDoor (ru C9 oL pN)
theorem GM:∀(l r:List UInt8),dP (l++r)<l.length→dP l=dP (l++r)
 |[],_,h=>by simp at h
 |c::l,r,h=>by
  simp only[zam,dP]at h ⊢;split
  ·rfl
  ·rename_i hc;rw[zaa hc]at h;rw[GM l r (by simp at h;omega)]
theorem tH:∀(l r:List UInt8) (o:Nat),(bI o (l++r)).1<l.length→bI o l=bI o (l++r)
 |[],_,_,h=>by simp at h
 |[c],r,o,h=>by
  exfalso;cases r with
  |nil=>simp[bI]at h
  |cons d r=>
   simp only[zam,zbm,bI]at h;split at h
   ·simp at h
   ·split at h
    ·split at h<;>simp at h
    ·simp at h
 |c::d::l,r,o,h=>by
  simp only[zam,bI]at h ⊢;split at h
  ·rename_i q;rw[zab q,zab q,tH l r _ (by simp at h;omega)]
  ·rename_i q;rw[zaa q,zaa q];split at h
   ·rename_i q2;rw[zab q2,zab q2];split at h
    ·rename_i q3;rw[zab q3,zab q3]
    ·rename_i q3;rw[zaa q3,zaa q3,tH l r _ (by simp at h;omega)]
   ·rename_i q2;rw[zaa q2,zaa q2];have:=tH (d::l) r o (by simp at h ⊢;omega);rw[this];rfl
termination_by l=>l.length
theorem oI (c:UInt8)(l r:List UInt8)(h:l≠[]):cN (c::l)=cN (c::(l++r)):=by
 cases l with
 |nil=>exact absurd rfl h
 |cons d l=>rfl
theorem Nn {c:UInt8}{l:List UInt8}(h:cN (c::l)=true):1≤(bI 0 (c::l)).1:=by
 have:=uj 0 (c::l) h;omega
theorem tI:∀(n:Nat) (b:Bool) (l r:List UInt8),(dB n b (l++r)).1<l.length→dB n b l=dB n b (l++r)
 |0,_,_,_,_=>rfl
 |n+1,b,[],r,h=>by simp at h
 |n+1,b,c::l,r,h=>by
  simp only[zam,dB]at h ⊢;split at h
  ·rename_i q;rw[zab q,zab q,tI n b l r (by simp at h;omega)]
  ·rename_i q;rw[zaa q,zaa q];split at h
   ·rename_i q2;rw[zab q2,zab q2];have h':(dB n b ((l++r).drop (dP (l++r)))).1+(dP (l++r)+1)<l.length+1:=by simpa using h
    have hl:dP (l++r)<l.length:=by omega
    have e1:=GM l r hl;have e2:(l++r).drop (dP (l++r))=l.drop (dP l)++r:=by rw[←e1,List.drop_append_of_le_length (by omega)]
    rw[e2]at h' ⊢;rw[←e1]at h' ⊢;rw[tI n b (l.drop (dP l)) r (by simp;omega)]
   ·rename_i q2;rw[zaa q2,zaa q2];split at h
    ·rename_i q3;have h':(dB n (bI 0 (c::(l++r))).2 ((c::(l++r)).drop (bI 0 (c::(l++r))).1)).1+(bI 0 (c::(l++r))).1<l.length+1:=by simpa using h
     have hp:=Nn q3;have hne:l≠[]:=λe=>by subst e;simp at h';simp at hp;omega
     rw[oI c l r hne,zab q3,zab q3];have e1:bI 0 (c::l)=bI 0 (c::(l++r)):=tH (c::l) r 0 (by show(bI 0 (c::(l++r))).1<_;simp;omega);have e2:(c::(l++r)).drop (bI 0 (c::(l++r))).1=(c::l).drop (bI 0 (c::l)).1++r:=by
      rw[←e1];exact List.drop_append_of_le_length (l₁:=c::l) (by rw[e1];simp;omega)
     rw[e2]at h' ⊢;rw[←e1]at h' ⊢;rw[tI n _ ((c::l).drop (bI 0 (c::l)).1) r (by simp;omega)]
    ·rename_i q3;rw[zaa q3];have q4:¬cN (c::l)=true:=by
      cases l with
      |nil=>simp[cN]
      |cons d l=>exact q3
     rw[zaa q4]
theorem pZ (q:Int→Bool):∀(l r:List UInt8),aT q (l++r)≤l.length→aT q l=aT q (l++r)
 |[],r,h=>by simp[aT]at h ⊢;omega
 |c::l,r,h=>by
  simp only[zam,aT]at h ⊢;split
  ·rename_i e;rw[zab e]at h;rw[pZ q l r (by simp at h;omega)]
  ·rfl
theorem Aa:∀(i:Nat) (acc l r:List UInt8) (e:Nat) (b:List UInt8),dD i acc (l++r)=.ok e b→e≤i+l.length→dD i acc l=.ok e b
 |i,acc,[],r,e,b,h,he=>by
  have:=(mn i acc r e b (by simpa using h)).1;simp at he;omega
 |i,acc,[c],r,e,b,h,he=>by
  by_cases h1:c=34
  ·rw[List.singleton_append,ru h1]at h;rw[ru h1];exact h
  ·by_cases h2:c=92
   ·subst h2;exfalso;cases r with
    |nil=>simp[dD]at h
    |cons x r=>
     rw[List.singleton_append]at h;cases hx:AB x with
     |none=>rw[C9 hx]at h;cases h
     |some y=>
      rw[oL hx]at h;have:=(mn _ _ _ _ _ h).1;simp at he;omega
   ·rw[List.singleton_append,pN h1 h2]at h;have:=(mn _ _ _ _ _ h).1;simp at he;omega
 |i,acc,c::x::l,r,e,b,h,he=>by
  by_cases h1:c=34
  ·rw[zam,ru h1]at h;rw[ru h1];exact h
  ·by_cases h2:c=92
   ·subst h2;rw[zam,zam]at h;cases hx:AB x with
    |none=>rw[C9 hx]at h;cases h
    |some y=>
     rw[oL hx]at h ⊢;exact Aa (i+2) _ l r e b h (by simp at he;omega)
   ·rw[zam,pN h1 h2]at h;rw[pN h1 h2];exact Aa (i+1) _ (x::l) r e b h (by simp at he ⊢;omega)
section
variable {p r:List UInt8}{a:Nat}
theorem gS (h:a≤p.length):(p++r).drop a=p.drop a++r:=List.drop_append_of_le_length h
theorem xb {e:Nat}(h:e≤p.length):dL p a e=dL (p++r) a e:=by
 unfold dL;by_cases ha:a≤p.length
 ·rw[gS ha,List.take_append_of_le_length (by simp;omega)]
 ·rw[show e-a=0 by omega];simp
theorem Np (h:(bW (p++r) a).lastB=false)(ht:(bW (p++r) a).gw≤p.length)(ha:a+1≤p.length):bW p a=bW (p++r) a:=by
 have Vd:a+1+aT bq ((p++r).drop (a+1))≤p.length:=by
  unfold bW at h ht;dsimp only at h ht;split at ht
  ·exact ht
  ·split at ht
   ·exact ht
   ·rename_i q1 q2;rw[zaa q1,zaa q2]at h;simp[bt,aH,Tok.lastB]at h
 have e1:aT bq (p.drop (a+1))=aT bq ((p++r).drop (a+1)):=by
  rw[gS ha]at Vd ⊢;exact pZ _ _ _ (by simp;omega)
 unfold bW;dsimp only;rw[e1,xb (r:=r) Vd]
theorem Ck (ha:a+1≤p.length)(hk:a+1+aT cF ((p++r).drop (a+1))≤p.length)(h:∀t,bZ (p++r) a=some t→t.gw≤p.length):bZ p a=bZ (p++r) a:=by
 have e1:aT cF (p.drop (a+1))=aT cF ((p++r).drop (a+1)):=by
  rw[gS ha]at hk ⊢;exact pZ _ _ _ (by simp;omega)
 unfold bZ at h ⊢;dsimp only at h ⊢;rw[e1];split
 ·rfl
 ·rename_i q;rw[zaa q]at h;rw[gS hk]at h ⊢;rw[xb hk];cases hd:p.drop (a+1+aT cF ((p++r).drop (a+1)))with
  |cons c l=>rfl
  |nil=>
   rw[hd]at h;have hle:p.length≤a+1+aT cF ((p++r).drop (a+1)):=by
    have:=zak Γ hd;simp at this;omega
   cases r with
   |nil=>rfl
   |cons c r=>
    dsimp only[List.nil_append]at h ⊢;split at h
    ·have:=h _ rfl;simp[aH]at this;omega
    ·rename_i c1;split at h
     ·have:=h _ rfl;simp[aH]at this;omega
     ·rename_i c2;rw[zaa c1,zaa c2]
theorem GN:∀l:List UInt8,aT cF l≤aT bq l
 |[]=>zac _
 |c::l=>by
  simp only[aT];split
  ·rename_i h;rw[zab (by unfold bq;rw[h];simp)];have:=GN l;omega
  ·exact zaq _
theorem Sl (h:((bZ (p++r) a).getD (bW (p++r) a)).lastB=false)(ht:((bZ (p++r) a).getD (bW (p++r) a)).gw≤p.length)(ha:a+1≤p.length):(bZ p a).getD (bW p a)=(bZ (p++r) a).getD (bW (p++r) a):=by
 cases hl:bZ (p++r) a with
 |some t=>
  rw[hl]at h ht;have hk:a+1+aT cF ((p++r).drop (a+1))≤p.length:=by
   have hl':=hl;unfold bZ at hl';dsimp only at hl';have Ie:t.gw≤p.length:=ht;split at hl'
   ·cases hl'
   ·split at hl'
    ·cases hl'
    ·split at hl'
     ·cases hl';simp[aH]at Ie;omega
     ·split at hl'
      ·cases hl';simp[aH]at Ie;omega
      ·cases hl'
  rw[Ck (r:=r) ha hk (λt' h'=>by rw[hl]at h';cases h';exact ht),hl];rfl
 |none=>
  rw[hl]at h ht;have h':(bW (p++r) a).lastB=false:=h;have Ie:(bW (p++r) a).gw≤p.length:=ht;have hw:a+1+aT bq ((p++r).drop (a+1))≤p.length:=by
   unfold bW at h' Ie;dsimp only at h' Ie;split at Ie
   ·exact Ie
   ·split at Ie
    ·exact Ie
    ·rename_i q1 q2;rw[zaa q1,zaa q2]at h';simp[bt,aH,Tok.lastB]at h'
  have hd:=GN ((p++r).drop (a+1));rw[Ck (r:=r) ha (by omega) (λt' h'=>by rw[hl]at h';cases h'),hl];exact Np h' Ie ha
theorem Sm (h:(fM (p++r) a).lastB=false)(ht:(fM (p++r) a).gw≤p.length)(ha:a+2≤p.length):fM p a=fM (p++r) a:=by
 unfold fM at h ht ⊢;rw[gS ha]at h ht ⊢;by_cases hr:1<aT fA (p.drop (a+2)++r)
 ·rw[zab hr]at h ht ⊢;have Vd:a+2+aT fA (p.drop (a+2)++r)≤p.length:=by
   split at ht
   ·rename_i e;rw[e]at h;simp[bt,aH,Tok.lastB]at h
   ·exact ht
  have e1:aT fA (p.drop (a+2))=aT fA (p.drop (a+2)++r):=pZ _ _ _ (by simp;omega);rw[e1,zab hr,xb Vd]
 ·rw[zaa hr]at h ht ⊢;cases hd:p.drop (a+2)with
  |nil=>
   exfalso;rw[hd]at h ht;have hle:p.length≤a+2:=by
    have:=zak Γ hd;simp at this;omega
   cases r with
   |nil=>simp[bt,aH,Tok.lastB]at h
   |cons c r=>
    simp only[zbm]at h ht;split at ht
    ·simp[aH]at ht;omega
    ·rename_i q;rw[zaa q]at h;simp[bt,aH,Tok.lastB]at h
  |cons c l=>
   rw[hd]at hr;have e1:aT fA (c::l)=aT fA (c::l++r):=pZ _ _ _ (by simp only[zar];omega);rw[e1,zaa hr];rfl
theorem Nq (h:(ed (p++r) a).lastB=false)(ht:(ed (p++r) a).gw≤p.length)(ha:a<p.length):ed p a=ed (p++r) a:=by
 unfold ed at h ht ⊢;rw[gS (show a+1≤p.length from ha)]at h ht ⊢;cases hd:p.drop (a+1)with
 |cons c l=>
  rw[hd]at h ht;have hal:a+2≤p.length:=by
   have:=zak Γ hd;simp at this;omega
  simp only[zam]at h ht ⊢;split
  ·rfl
  ·rename_i q1;rw[zaa q1]at h ht;split
   ·rfl
   ·rename_i q2;rw[zaa q2]at h ht;split
    ·rename_i q3;rw[zab q3]at h ht;exact Sm h ht hal
    ·rename_i q3;rw[zaa q3]at h ht;exact Sl h ht ha
 |nil=>
  rw[hd]at h ht;have hle:p.length≤a+1:=by
   have:=zak Γ hd;simp at this;omega
  cases r with
  |nil=>simp
  |cons c r=>
   simp only[zbm]at h ht ⊢;split at h
   ·rename_i q;rw[zab q]at ht;simp[aH]at ht;omega
   ·rename_i q1;rw[zaa q1]at ht ⊢;split at h
    ·rename_i q;rw[zab q]at ht;simp[aH]at ht;omega
    ·rename_i q2;rw[zaa q2]at ht ⊢;split at h
     ·rename_i q;rw[zab q]at ht;exfalso;have hf:=(Bv (s:=p++c::r) (a:=a) (by simp;omega)).2.2 h;unfold fM at h ht;by_cases q5:1<aT fA (List.drop (a+2) (p++c::r))
      ·rw[zab q5]at h ht;split at ht
       ·rename_i e;rw[e]at h;simp[bt,aH,Tok.lastB]at h
       ·simp[aH]at ht;omega
      ·rw[zaa q5]at h ht;split at ht
       ·rename_i e;rw[e]at h;simp[bt,aH,Tok.lastB]at h
       ·rename_i e;rw[e]at h;simp only at h;split at ht
        ·simp[aH]at ht;omega
        ·rename_i q6;rw[zaa q6]at h;simp[bt,aH,Tok.lastB]at h
     ·rename_i q3;rw[zaa q3]at ht ⊢;exact Sl h ht ha
theorem Sn (ht:a+aT bq ((p++r).drop a)≤p.length)(ha:a≤p.length):fN p a=fN (p++r) a:=by
 have e1:aT bq (p.drop a)=aT bq ((p++r).drop a):=by
  rw[gS ha]at ht ⊢;exact pZ _ _ _ (by simp;omega)
 unfold fN;dsimp only;rw[e1,xb (r:=r) ht]
theorem Vo (h:(cM (p++r) a).lastB=false)(ht:(cM (p++r) a).gw≤p.length):cM p a=cM (p++r) a:=by
 have ha:a<p.length:=by
  have:=(CV (s:=p++r) (a:=a)).2.2 h;omega
 unfold cM at h ht ⊢;rw[gS (zci ha)]at h ht ⊢;cases hd:p.drop a with
 |nil=>
  have:=zak Γ hd;simp at this;omega
 |cons c l=>
  rw[hd]at h ht;simp only[zam]at h ht ⊢;split
  ·rfl
  ·rename_i q1;rw[zaa q1]at h ht;split
   ·rfl
   ·rename_i q2;rw[zaa q2]at h ht;split
    ·rfl
    ·rename_i q3;rw[zaa q3]at h ht;split
     ·rename_i q4;rw[zab q4]at h ht;unfold jh at h ht ⊢;rw[gS (show a+1≤p.length from ha)]at h ht ⊢;cases hx:dD (a+1) [] (p.drop (a+1)++r)with
      |fin=>rw[hx]at h;simp[nW,aH,Tok.lastB]at h
      |bad=>rw[hx]at h;simp[bt,aH,Tok.lastB]at h
      |ok e b=>
       rw[hx]at ht;have Ie:e≤p.length:=ht;rw[Aa _ _ _ _ _ _ hx (by simp;omega)]
     ·rename_i q4;rw[zaa q4]at h ht;split
      ·rename_i q5;rw[zab q5]at h ht;exact Nq h ht ha
      ·rename_i q5;rw[zaa q5]at h ht;split
       ·rename_i q6;rw[zab q6]at h ht;refine Sn ?_ (zci ha);unfold fN at h ht;dsimp only at h ht;split at ht
        ·exact ht
        ·rename_i q7;rw[zaa q7]at h;split at ht
         ·exact ht
         ·rename_i q8;rw[zaa q8]at h;split at ht
          ·rename_i e;rw[e]at h;simp[bt,aH,Tok.lastB]at h
          ·exact ht
       ·rfl
theorem GQ (ha:a≤p.length)(h:(aR (p++r) a).lastB=false)(ht:(aR (p++r) a).gw≤p.length):aR p a=aR (p++r) a:=by
 unfold aR at h ht ⊢;have hlt:jg (p++r) a<p.length:=by
  have:=(CV (s:=p++r) (a:=jg (p++r) a)).2.2 h;omega
 have e:jg p a=jg (p++r) a:=by
  unfold jg at hlt ⊢;rw[gS ha]at hlt ⊢;have h1:=tI (p.drop a++r).length true (p.drop a) r (by simp only[zau];omega);rw[←h1,jx (p.drop a++r).length _ (p.drop a) (by simp)]
 rw[e];exact Vo h ht
end
theorem Ab {p r:List UInt8}:∀(n n' a k:Nat) (t:Tok),a≤p.length→p.length-a<n'→(aw n (p++r) a)[k]?=some t→t.lastB=false→t.gw≤p.length→(aw n' p a)[k]?=some t∧a<t.gw
 |0,_,_,_,_,_,_,h,_,_=>by simp[aw]at h
 |n+1,0,a,_,_,_,hn,_,_,_=>by omega
 |n+1,n'+1,a,k,t,ha,hn,h,hl,ht=>by
  simp only[aw]at h ⊢;by_cases h0:(aR (p++r) a).lastB=true
  ·rw[zab h0]at h;cases k with
   |zero=>simp at h;subst h;rw[hl]at h0;cases h0
   |succ k=>simp at h
  ·have Au:(aR (p++r) a).lastB=false:=by simpa using h0
   rw[zaa h0]at h;have hf:=(ju (s:=p++r) (a:=a) (by simp;omega));have hlt:=(hf.2.2 Au).1;cases k with
   |zero=>
    simp at h;subst h;have e:=GQ ha Au ht;rw[e,zaa h0];exact⟨rfl,hlt⟩
   |succ k=>
    simp only[zcw]at h;have Vd:(aR (p++r) a).gw≤p.length:=by
     rcases zaw p.length (aR (p++r) a).gw with hx|hx
     ·exfalso;have hm:∀(n a:Nat) (k:Nat),p.length<a→a≤(p++r).length→(aw n (p++r) a)[k]?=some t→False:=by
       intro n
       induction n with
       |zero=>intro a k _ _ h;simp[aw]at h
       |succ n ih=>
        intro a k NV hal h;simp only[aw]at h;have hf:=(ju (s:=p++r) (a:=a) hal);by_cases h0:(aR (p++r) a).lastB=true
        ·rw[zab h0]at h;cases k with
         |zero=>simp at h;subst h;rw[hl]at h0;cases h0
         |succ k=>simp at h
        ·rw[zaa h0]at h;have hlt:=(hf.2.2 (by simpa using h0)).1;cases k with
         |zero=>simp at h;subst h;omega
         |succ k=>exact ih _ k (by omega) hf.2.1 (by simpa using h)
      exact hm n _ k hx hf.2.1 h
     ·exact hx
    have e:=GQ ha Au Vd;rw[e,zaa h0,zcw];have i:=Ab n n' _ k t Vd (by omega) h hl ht;exact⟨i.1,by omega⟩
end Go.Loop
