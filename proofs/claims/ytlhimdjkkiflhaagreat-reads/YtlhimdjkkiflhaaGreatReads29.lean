import Derived.Test.YtlhimdjkkiflhaaGreatReads28
set_option maxHeartbeats 8000000
set_option maxRecDepth 100000
open Go renaming Calls→Γ,World→Δ
namespace Go.Proofs.YtlhimdjkkiflhaaGreat
open Go.Proofs.Tryz
open Go.RowKit Go.Loop
section
variable {l:List UInt8}{a k:Nat}{n:Int}{c:UInt8}
theorem ZA {r:List UInt8}(hd:l.drop (a+1)=c::r):(c.toNat=40→cF l a=⟨118,a,a+2,[],0,0⟩)∧(c.toNat≠40→c.toNat=59→cF l a=⟨59,a,a+2,[],0,0⟩)∧(c.toNat≠40→c.toNat≠59→c.toNat=92→cF l a=en l a)∧(c.toNat≠40→c.toNat≠59→c.toNat≠92→cF l a=jH l a):=by
 unfold cF;rw[hd];refine⟨λh=>by dsimp only;rw[zac h],λh1 h=>by dsimp only;rw[zaa h1,zac h],λh1 h2 h=>by dsimp only;rw[zaa h1,zaa h2,zac h],λh1 h2 h=>by dsimp only;rw[zaa h1,zaa h2,zaa h]⟩
theorem Uy (h:l.length≤a+1):cF l a=jH l a:=by
 unfold cF;rw[zaW h]
theorem Uz (h:ij 0 l (a+1)=(n,k))(h1:a+1<k∧k<a+5)(hc:l[k]?=some c)(h2:c.toNat=61):jH l a=⟨112,a,k+1,[],n,0⟩:=by
 unfold jH;rw[h];dsimp only;rw[hc];rw[zac ⟨h1.1,h1.2,h2⟩]
theorem UA (h:ij 0 l (a+1)=(n,k))(h1:a+1<k∧k<a+5)(hc:l[k]?=some c)(h2:c.toNat=35):jH l a=⟨97,a,k+1,[],n,0⟩:=by
 unfold jH;rw[h];dsimp only;rw[hc];rw[zaa (λq=>by have:c.toNat=61:=q.2.2;omega),zac ⟨h1.1,h1.2,h2⟩]
theorem Ii (h:ij 0 l (a+1)=(n,k))(h1:¬(a+1<k∧k<a+5∧k<l.length)∨∃c,l[k]?=some c∧c.toNat≠61∧c.toNat≠35):jH l a=fF l a (a+1+au aX (l.drop (a+1))):=by
 unfold jH;rw[h];dsimp only;rcases h1 with h1|⟨c,hc,h2,h3⟩
 ·by_cases hk:k<l.length
  ·rw[zaa (λq=>h1 ⟨q.1,q.2.1,hk⟩),zaa (λq=>h1 ⟨q.1,q.2.1,hk⟩)]
  ·rw[zbC (by omega),zaa (λq=>by have:0=61:=q.2.2;omega),zaa (λq=>by have:0=35:=q.2.2;omega)]
 ·rw[hc,zaa (λq=>h2 q.2.2),zaa (λq=>h3 q.2.2)]
theorem ZB {e:Nat}(h:cq l (a+1) e=[116]∨cq l (a+1) e=[116,114,117,101]):fF l a e=⟨98,a,e,[],1,0⟩:=by unfold fF;rw[zac h]
theorem ZC {e:Nat}(h1:¬(cq l (a+1) e=[116]∨cq l (a+1) e=[116,114,117,101]))(h:cq l (a+1) e=[102]∨cq l (a+1) e=[102,97,108,115,101]):fF l a e=⟨98,a,e,[],0,0⟩:=by unfold fF;rw[zaa h1,zac h]
theorem ads {e:Nat}(h1:¬(cq l (a+1) e=[116]∨cq l (a+1) e=[116,114,117,101]))(h:¬(cq l (a+1) e=[102]∨cq l (a+1) e=[102,97,108,115,101])):fF l a e=vw a:=by unfold fF;rw[zaa h1,zaa h]
end
theorem Gi (s:ByteArray)(a:Int)(w:Δ)(hs:s.size≤1000000)(h0:0≤a)(ha:a≤s.size){n:Int}{k:Nat}(e:ij 0 s.data.toList a.toNat=(n,k)):Γ prog 86 #[.string s,.int .i64 a] w λe w'=>e=.returned (.tuple #[.int .i64 n,.int .i64 (k:Nat)])∧w'=w:=by
 obtain⟨m,rfl⟩:=zbu h0;have h:=Ec s m w hs (show m≤s.size by omega);rw[zbn]at e;rw[e]at h;exact h
theorem UB (s:ByteArray)(a:Nat)(w:Δ)(hs:s.size≤1000000)(ha:a+1≤s.size):Γ prog 61 #[.string s,.int .i64 a] w λe w'=>e=.returned (uA (cF s.data.toList a))∧Below w.heap.size w w':=by
 have hsz:s.data.toList.length=s.size:=by simp
 have h2:(a+1<s.size∧∃h:a+1<s.size,((s[a+1].toNat :Int)==40)=true∧Hid (cF s.data.toList a=⟨118,a,a+2,[],0,0⟩))∨(a+1<s.size∧∃h:a+1<s.size,((s[a+1].toNat :Int)==40)=false∧((s[a+1].toNat :Int)==59)=true∧Hid (cF s.data.toList a=⟨59,a,a+2,[],0,0⟩))∨(a+1<s.size∧∃h:a+1<s.size,((s[a+1].toNat :Int)==40)=false∧((s[a+1].toNat :Int)==59)=false∧((s[a+1].toNat :Int)==92)=true∧Hid (cF s.data.toList a=en s.data.toList a))
  ∨(a+1<s.size∧∃h:a+1<s.size,((s[a+1].toNat :Int)==40)=false∧((s[a+1].toNat :Int)==59)=false∧((s[a+1].toNat :Int)==92)=false∧Hid (cF s.data.toList a=jH s.data.toList a))∨(¬a+1<s.size∧Hid (cF s.data.toList a=jH s.data.toList a)):=by
  by_cases h:a+1<s.size
  ·obtain⟨q1,q2,q3,q4⟩:=ZA (drop_cons s (a+1) h);cases h1:((s[a+1].toNat :Int)==40)
   ·have n1:s[a+1].toNat≠40:=by simp at h1;omega
    cases h2:((s[a+1].toNat :Int)==59)
    ·have n2:s[a+1].toNat≠59:=by simp at h2;omega
     cases h3:((s[a+1].toNat :Int)==92)
     ·exact Or.inr (Or.inr (Or.inr (Or.inl ⟨h,h,h1,h2,h3,q4 n1 n2 (by simp at h3;omega)⟩)))
     ·exact Or.inr (Or.inr (Or.inl ⟨h,h,h1,h2,h3,q3 n1 n2 (by simp at h3;omega)⟩))
    ·exact Or.inr (Or.inl ⟨h,h,h1,h2,q2 n1 (by simp at h2;omega)⟩)
   ·exact Or.inl ⟨h,h,h1,q1 (by simp at h1;omega)⟩
  ·exact Or.inr (Or.inr (Or.inr (Or.inr ⟨h,Uy (by omega)⟩)))
 rcases h2 with⟨hlt,_,Mt,hJ⟩|⟨hlt,_,Mt,vq,hJ⟩|⟨hlt,_,Mt,vq,Ms,hJ⟩|h2
 ·go_enter func61,ntmps61;go_wp2_with fail;refine zak (by simp[results,results61,go_sem];rfl) rfl ?_;exact⟨by rw[hJ.out];rfl,(zad _ _).alloc (zab _) _⟩
 ·go_enter func61,ntmps61;go_wp2_with fail;refine zak (by simp[results,results61,go_sem];rfl) rfl ?_;exact⟨by rw[hJ.out];rfl,(zad _ _).alloc (zab _) _⟩
 ·have HC:Hid _:=λw=>Uv s a w hs (by omega);go_enter func61,ntmps61;go_wp2_with fail;refine(HC.out _).mono ?_;rintro e w1 ⟨rfl,hb⟩;clear HC;generalize en s.data.toList a=R at hJ ⊢;obtain⟨hcell,EP,hb2⟩:=pq hb;have HB:Hid _:=hb2;clear hb hb2;simp only[uA,aK];go_wp2_with fail;refine zak (by simp[results,results61,go_sem,hcell];rfl) rfl ?_;exact⟨by rw[hJ.out];rfl,jk HB.out _ _ _ _ _ _⟩
 ·obtain⟨⟨n,k⟩,Jx⟩:∃p,ij 0 s.data.toList (a+1)=p:=⟨_,rfl⟩;have qW:=xT s.data.toList (a+1) (by omega);rw[Jx,hsz]at qW;obtain⟨b1,b2,b3,b4⟩:=qW;dsimp only at b1 b2 b3 b4;have Ih:Hid _:=Jx;clear Jx;have HL:Hid (cF s.data.toList a=jH s.data.toList a):=by
   rcases h2 with⟨_,_,_,_,_,hJ⟩|⟨_,hJ⟩<;>exact hJ
  have HEX:Hid (∀m,(s.extract (a+1) m).data.toList=cq s.data.toList (a+1) m):=λm=>r8 s (a+1) m;rcases h2 with⟨hlt,_,Mt,vq,Ms,_⟩|⟨ft,_⟩
  all_goals
   go_enter func61,ntmps61;go_wp2_with fail;refine(Gi s ((a:Int)+1) _ hs (by omega) (by omega) (n:=n) (k:=k) (by rw[show((a:Int)+1).toNat=a+1 by omega];exact Ih.out)).mono ?_;rintro e w1 ⟨rfl,rfl⟩
   go_upto_region 10 with fail
   go_cut [6,57] (λx c wc=>x=.int .i64 k∧c=.bool (decide (a+1<k)&&(decide (k<a+5)&&decide (k<s.size)))∧wc=w.alloc (.cells #[.int .u8 0,.int .i64 0,.int .i64 0,.string ⟨#[]⟩,.int .i64 0,.int .i64 0] 57))
   case first=>
    go_wp2_with fail;all_goals
     go_meet
     case rel=>
      refine⟨rfl,?_,rfl⟩
      congr 1
      rw[zbh];simp only[zai,zbj,zaN,false_iff];omega
   case rest=>
    obtain⟨rfl,hc,rfl⟩:=hcut;have hR:((decide (a+1<k)&&(decide (k<a+5)&&decide (k<s.size)))=false∧Hid (cF s.data.toList a=fF s.data.toList a (a+1+au aX (s.data.toList.drop (a+1)))))∨((decide (a+1<k)&&(decide (k<a+5)&&decide (k<s.size)))=true∧∃h:k<s.size,((s[k].toNat :Int)==61)=true∧Hid (cF s.data.toList a=⟨112,a,k+1,[],n,0⟩))∨((decide (a+1<k)&&(decide (k<a+5)&&decide (k<s.size)))=true∧∃h:k<s.size,((s[k].toNat :Int)==61)=false∧((s[k].toNat :Int)==35)=true∧Hid (cF s.data.toList a=⟨97,a,k+1,[],n,0⟩))∨((decide (a+1<k)&&(decide (k<a+5)&&decide (k<s.size)))=true∧∃h:k<s.size,((s[k].toNat :Int)==61)=false∧((s[k].toNat :Int)==35)=false∧Hid (cF s.data.toList a=fF s.data.toList a (a+1+au aX (s.data.toList.drop (a+1))))):=by
     by_cases hb:a+1<k∧k<a+5∧k<s.size
     ·have eb:(decide (a+1<k)&&(decide (k<a+5)&&decide (k<s.size)))=true:=by simp;omega
      have hg:s.data.toList[k]?=some s[k]:=by
       have:=zal (·[0]?) (drop_cons s k hb.2.2);simpa using this
      right;by_cases q1:s[k].toNat=61
      ·exact .inl ⟨eb,hb.2.2,by simp;omega,HL.out.trans (Uz Ih.out ⟨hb.1,hb.2.1⟩ hg q1)⟩
      ·by_cases q2:s[k].toNat=35
       ·exact .inr (.inl ⟨eb,hb.2.2,by simp;omega,by simp;omega,HL.out.trans (UA Ih.out ⟨hb.1,hb.2.1⟩ hg q2)⟩)
       ·exact .inr (.inr ⟨eb,hb.2.2,by simp;omega,by simp;omega,HL.out.trans (Ii Ih.out (.inr ⟨_,hg,q1,q2⟩))⟩)
     ·exact .inl ⟨by rw[Bool.eq_false_iff];simp;omega,HL.out.trans (Ii Ih.out (.inl (by rw[hsz];exact hb)))⟩
    clear Ih HL;rcases hR with⟨eb,hT⟩|⟨eb,RF,e61,hT⟩|⟨eb,RF,e61,e35,hT⟩|⟨eb,RF,e61,e35,hT⟩
    all_goals rw[eb]at hc
    all_goals clear eb
    all_goals subst hc
    all_goals first|(exfalso;omega)|skip
    all_goals go_wp2_with fail
    all_goals first|(refine zak (by simp[results,results61,go_sem];rfl) rfl ?_;exact⟨by rw[hT.out];rfl,(zad _ _).alloc (zab _) _⟩)|skip
    all_goals
     go_loop [7] (λi=>∃k:Nat,a+1≤k∧k≤s.size∧i=.int .i64 k∧Hid (a+1+au aX (s.data.toList.drop (a+1))=k+au aX (s.data.toList.drop k))) (λi=>s.size-(intOf i).toNat)
     case atStart=>exact⟨a+1,zab _,ha,by go_num,rfl⟩
     case round=>
      obtain⟨m,Ur,hm,rfl,hI⟩:=hrel;by_cases jJ:∃h:m<s.size,aX (s[m].toNat :Int)=true
      ·obtain⟨Gg,hw⟩:=jJ;have hJ:Hid _:=hI.out.trans (xR (drop_cons s m Gg) hw);clear hI;go_wp2_with fail;refine(lq _ _).mono ?_;rw[hw];rintro e w' ⟨rfl,rfl⟩;go_wp2_with fail
       go_round
       case rel=>exact⟨m+1,by omega,by omega,by go_num,hJ⟩
       case measure=>simp[intOf];omega
      ·have hK:a+1+au aX (s.data.toList.drop (a+1))=m:=by
        by_cases Gg:m<s.size
        ·have hd:aX (s[m].toNat :Int)=false:=by
          cases h:aX (s[m].toNat :Int)with
          |false=>rfl
          |true=>exact absurd ⟨Gg,h⟩ jJ
         exact hI.out.trans (xS (drop_cons s m Gg) hd)
        ·exact hI.out.trans (BP (by omega))
       have qY:Hid (cF s.data.toList a=fF s.data.toList a m):=by show _=_;rw[hT.out,hK]
       have ex:(s.extract (a+1) m).toList=cq s.data.toList (a+1) m:=by rw[Ie];exact HEX.out m
       have lD:(((s.extract (a+1) m).toList==[116])=true∧Hid (cF s.data.toList a=⟨98,a,m,[],1,0⟩))∨(((s.extract (a+1) m).toList==[116])=false∧((s.extract (a+1) m).toList==[116,114,117,101])=true∧Hid (cF s.data.toList a=⟨98,a,m,[],1,0⟩))∨(((s.extract (a+1) m).toList==[116])=false∧((s.extract (a+1) m).toList==[116,114,117,101])=false∧((s.extract (a+1) m).toList==[102])=true∧Hid (cF s.data.toList a=⟨98,a,m,[],0,0⟩))∨(((s.extract (a+1) m).toList==[116])=false∧((s.extract (a+1) m).toList==[116,114,117,101])=false∧((s.extract (a+1) m).toList==[102])=false∧((s.extract (a+1) m).toList==[102,97,108,115,101])=true∧Hid (cF s.data.toList a=⟨98,a,m,[],0,0⟩))∨(((s.extract (a+1) m).toList==[116])=false∧((s.extract (a+1) m).toList==[116,114,117,101])=false∧((s.extract (a+1) m).toList==[102])=false∧((s.extract (a+1) m).toList==[102,97,108,115,101])=false∧Hid (cF s.data.toList a=vw a)):=by
        rw[ex];by_cases q1:cq s.data.toList (a+1) m=[116]
        ·exact .inl ⟨by simpa using q1,qY.out.trans (ZB (.inl q1))⟩
        ·by_cases q2:cq s.data.toList (a+1) m=[116,114,117,101]
         ·exact .inr (.inl ⟨by simpa using q1,by simpa using q2,qY.out.trans (ZB (.inr q2))⟩)
         ·by_cases q3:cq s.data.toList (a+1) m=[102]
          ·exact .inr (.inr (.inl ⟨by simpa using q1,by simpa using q2,by simpa using q3,qY.out.trans (ZC (λq=>q.elim q1 q2) (.inl q3))⟩))
          ·by_cases q4:cq s.data.toList (a+1) m=[102,97,108,115,101]
           ·exact .inr (.inr (.inr (.inl ⟨by simpa using q1,by simpa using q2,by simpa using q3,by simpa using q4,qY.out.trans (ZC (λq=>q.elim q1 q2) (.inr q4))⟩)))
           ·exact .inr (.inr (.inr (.inr ⟨by simpa using q1,by simpa using q2,by simpa using q3,by simpa using q4,qY.out.trans (ads (λq=>q.elim q1 q2) (λq=>q.elim q3 q4))⟩)))
       clear hI hK hT qY ex HEX;by_cases Gg:m<s.size
       case' pos=>
        first
        |(exfalso;omega)
        |skip
        all_goals
         have hd:aX (s[m].toNat :Int)=false:=by
          cases h:aX (s[m].toNat :Int)with
          |false=>rfl
          |true=>exact absurd ⟨Gg,h⟩ jJ
         clear jJ;go_wp2_with fail;refine(lq _ _).mono ?_;rw[hd];rintro e w' ⟨rfl,rfl⟩;clear hd
       case' neg=>clear jJ
       all_goals
        rcases lD with⟨q1,hT⟩|⟨q1,q2,hT⟩|⟨q1,q2,q3,hT⟩|⟨q1,q2,q3,q4,hT⟩|⟨q1,q2,q3,q4,hT⟩
        all_goals
         go_wp2_with fail;all_goals
          refine zak (by simp[results,results61,go_sem];rfl) rfl ?_;exact⟨by rw[hT.out];rfl,(zad _ _).alloc (zab _) _⟩
theorem NA (t:ByteArray)(a:Int)(w:Δ)(hs:t.size≤1000000)(h0:0≤a)(ha:a≤1000000):Γ prog 63 #[.string t,.int .i64 a] w λe w'=>e=.returned (uA (fj t.data.toList a.toNat))∧Below w.heap.size w w':=by
 obtain⟨k,rfl⟩:=zbu h0;exact Ux t.data.toList k w hs (by omega)
section
variable {l:List UInt8}{a r:Nat}{ok:Bool}
theorem UC (hb:oz l a=(r,ok))(h:ok=false∨l.length≤r):fN l a=OJ l:=by
 have h1:a+(cV (l.drop a).length true (l.drop a)).1=r:=zal Prod.fst hb;have h2:(cV (l.drop a).length true (l.drop a)).2=ok:=zal Prod.snd hb;unfold fN;rw[h1,h2,zac h]
theorem UD (hb:oz l a=(r,ok))(h:ok=true)(h3:r<l.length):fN l a=oo l r:=by
 have h1:a+(cV (l.drop a).length true (l.drop a)).1=r:=zal Prod.fst hb;have h2:(cV (l.drop a).length true (l.drop a)).2=ok:=zal Prod.snd hb;unfold fN
 rw[h1,h2,zaa (λq=>by rcases q with q|q;· rw[h]at q;cases q
                      ·omega)]
theorem ZE {c:UInt8}{t:List UInt8}(hd:l.drop r=c::t):(c.toNat=40∨c.toNat=41∨c.toNat=39→oo l r=⟨c.toNat,r,r+1,[],0,0⟩)∧(¬(c.toNat=40∨c.toNat=41∨c.toNat=39)→c.toNat=34→oo l r=lJ l r)∧(¬(c.toNat=40∨c.toNat=41∨c.toNat=39)→c.toNat≠34→c.toNat=35→oo l r=cF l r)∧(¬(c.toNat=40∨c.toNat=41∨c.toNat=39)→c.toNat≠34→c.toNat≠35→oo l r=fj (cq l r (r+au aX (l.drop r))) r):=by
 unfold oo;refine⟨λh=>?_,λh h2=>?_,λh h2 h3=>?_,λh h2 h3=>?_⟩
 ·rw[hd];dsimp only;rw[zac h]
 ·rw[hd];dsimp only;rw[zaa h,zac h2]
 ·rw[hd];dsimp only;rw[zaa h,zaa h2,zac h3]
 ·split
  ·rename_i e;rw[hd]at e;cases e
  ·rename_i e;rw[hd]at e;cases e;rw[zaa h,zaa h2,zaa h3]
end
theorem UE (l:List UInt8)(a:Nat)(h:a≤l.length):a≤(oz l a).1∧(oz l a).1≤l.length:=by
 have:=nS (l.drop a).length true (l.drop a);rw[zan]at this;exact⟨Nat.le_add_right _ _,by show a+(cV (l.drop a).length true (l.drop a)).1≤_;rw[zan];omega⟩
theorem UF (s:ByteArray)(a:Nat)(w:Δ)(hs:s.size≤1000000)(ha:a≤s.size):Γ prog 29 #[.string s,.int .i64 a] w λe w'=>e=.returned (uA (fN s.data.toList a))∧Below w.heap.size w w':=by
 have hsz:s.data.toList.length=s.size:=by simp
 obtain⟨⟨r,ok⟩,hbl⟩:∃p,oz s.data.toList a=p:=⟨_,rfl⟩;have qW:=UE s.data.toList a (by omega);rw[hbl,hsz]at qW;obtain⟨sD,hr⟩:=qW;dsimp only at sD hr;have HBL:Hid (∀w,Γ prog 59 #[.string s,.int .i64 a] w λe w'=>e=.returned (.tuple #[.int .i64 (r:Nat),.bool ok])∧w'=w):=λw=>by
  have:=Nw s a w hs ha;rw[hbl]at this;exact this
 have HE:Hid (ok=false∨s.data.toList.length≤r→fN s.data.toList a=OJ s.data.toList):=UC hbl;have HT:Hid (ok=true→r<s.data.toList.length→fN s.data.toList a=oo s.data.toList r):=UD hbl;clear hbl;go_enter func29,ntmps29;go_wp2_with fail;refine(HBL.out _).mono ?_;rintro e w1 ⟨rfl,rfl⟩;clear HBL;by_cases hlt:r<s.size
 ·cases ok
  ·have hJ:Hid _:=HE.out (.inl rfl);clear HE HT;go_wp2_with fail;refine zak (by simp[results,results29,go_sem];rfl) rfl ?_;exact⟨by rw[hJ.out];simp[OJ,uA,aK],(zad _ _).alloc (zab _) _⟩
  ·have hI:Hid _:=HT.out rfl (by omega);have hK:Hid _:=ZE (drop_cons s r hlt);clear HE HT;cases Mt:((s[r].toNat :Int)==40)
   rotate_left
   ·have hJ:Hid _:=hI.out.trans (hK.out.1 (by simp at Mt;omega));clear hI hK;go_wp2_with fail;refine zak (by simp[results,results29,go_sem];rfl) rfl ?_;exact⟨by rw[hJ.out];rfl,(zad _ _).alloc (zab _) _⟩
   cases uQ:((s[r].toNat :Int)==41)
   rotate_left
   ·have hJ:Hid _:=hI.out.trans (hK.out.1 (by simp at uQ;omega));clear hI hK;go_wp2_with fail;refine zak (by simp[results,results29,go_sem];rfl) rfl ?_;exact⟨by rw[hJ.out];rfl,(zad _ _).alloc (zab _) _⟩
   cases h39:((s[r].toNat :Int)==39)
   rotate_left
   ·have hJ:Hid _:=hI.out.trans (hK.out.1 (by simp at h39;omega));clear hI hK;go_wp2_with fail;refine zak (by simp[results,results29,go_sem];rfl) rfl ?_;exact⟨by rw[hJ.out];rfl,(zad _ _).alloc (zab _) _⟩
   have hn:¬(s[r].toNat=40∨s[r].toNat=41∨s[r].toNat=39):=by simp at Mt uQ h39;omega
   have HN:Hid _:=hn;clear hn;cases KH:((s[r].toNat :Int)==34)
   ·cases Yk:((s[r].toNat :Int)==35)
    ·have hJ:Hid _:=hI.out.trans (hK.out.2.2.2 HN.out (by simp at KH;omega) (by simp at Yk;omega));have hdec:decide (s.size≤r)=false:=by simp;omega
     clear hI hK HN;go_wp2_with fail;go_loop [7] (λi=>∃k:Nat,r≤k∧k≤s.size∧i=.int .i64 k∧Hid (r+au aX (s.data.toList.drop r)=k+au aX (s.data.toList.drop k))) (λi=>s.size-(intOf i).toNat)
     case atStart=>exact⟨r,zab _,hr,rfl,rfl⟩
     case round=>
      obtain⟨m,Ur,hm,rfl,hI⟩:=hrel;have Le:(s.extract r m).size≤1000000:=by simp;omega
      have HSZ:Hid _:=Le;clear Le;by_cases jJ:∃h:m<s.size,aX (s[m].toNat :Int)=true
      ·obtain⟨Gg,hw⟩:=jJ;have Ex:Hid _:=hI.out.trans (xR (drop_cons s m Gg) hw);clear hI;go_wp2_with fail;refine(lq _ _).mono ?_;rw[hw];rintro e w' ⟨rfl,rfl⟩;go_wp2_with fail
       go_round
       case rel=>exact⟨m+1,by omega,by omega,by go_num,Ex⟩
       case measure=>simp[intOf];omega
      ·have hQ:Hid (fN s.data.toList a=fj (s.extract r m).data.toList ((r:Nat):Int).toNat):=by
        have hK:r+au aX (s.data.toList.drop r)=m:=by
         by_cases Gg:m<s.size
         ·have hd:aX (s[m].toNat :Int)=false:=by
           cases h:aX (s[m].toNat :Int)with
           |false=>rfl
           |true=>exact absurd ⟨Gg,h⟩ jJ
          exact hI.out.trans (xS (drop_cons s m Gg) hd)
         ·exact hI.out.trans (BP (by omega))
        show _=_;rw[hJ.out,hK,r8,zbn];rfl
       clear hI hJ;by_cases Gg:m<s.size
       case' pos=>
        have hd:aX (s[m].toNat :Int)=false:=by
         cases h:aX (s[m].toNat :Int)with
         |false=>rfl
         |true=>exact absurd ⟨Gg,h⟩ jJ
        clear jJ;go_wp2_with fail;refine(lq _ _).mono ?_;rw[hd];rintro e w' ⟨rfl,rfl⟩;clear hd
       case' neg=>clear jJ
       all_goals
        go_wp2_with fail;refine(NA _ _ _ HSZ.out (by omega) (by omega)).mono ?_;rintro e w1 ⟨rfl,hb⟩;generalize fj (s.extract r m).data.toList ((r:Nat):Int).toNat=R at hQ ⊢;obtain⟨hcell,EP,hb2⟩:=pq hb;have HB:Hid _:=hb2;clear hb hb2;simp only[uA,aK];go_wp2_with fail;refine zak (by simp[results,results29,go_sem,hcell];rfl) rfl ?_;exact⟨by rw[hQ.out];rfl,jk HB.out _ _ _ _ _ _⟩
    ·have hJ:Hid _:=hI.out.trans (hK.out.2.2.1 HN.out (by simp at KH;omega) (by simp at Yk;omega));clear hI hK HN;have HC:Hid _:=λw=>UB s r w hs (by omega);go_wp2_with fail;refine(HC.out _).mono ?_;rintro e w1 ⟨rfl,hb⟩;clear HC;generalize cF s.data.toList r=R at hJ ⊢;obtain⟨hcell,EP,hb2⟩:=pq hb;have HB:Hid _:=hb2;clear hb hb2;simp only[uA,aK];go_wp2_with fail;refine zak (by simp[results,results29,go_sem,hcell];rfl) rfl ?_;exact⟨by rw[hJ.out];rfl,jk HB.out _ _ _ _ _ _⟩
   ·have hJ:Hid _:=hI.out.trans (hK.out.2.1 HN.out (by simp at KH;omega));clear hI hK HN;have HC:Hid _:=λw=>Ut s r w hs (by omega);go_wp2_with fail;refine(HC.out _).mono ?_;rintro e w1 ⟨rfl,hb⟩;clear HC;generalize lJ s.data.toList r=R at hJ ⊢;obtain⟨hcell,EP,hb2⟩:=pq hb;have HB:Hid _:=hb2;clear hb hb2;simp only[uA,aK];go_wp2_with fail;refine zak (by simp[results,results29,go_sem,hcell];rfl) rfl ?_;exact⟨by rw[hJ.out];rfl,jk HB.out _ _ _ _ _ _⟩
 ·have hJ:Hid _:=HE.out (.inr (by omega));clear HE HT;cases ok;all_goals
   go_wp2_with fail;refine zak (by simp[results,results29,go_sem];rfl) rfl ?_;exact⟨by rw[hJ.out];simp[OJ,uA,aK],(zad _ _).alloc (zab _) _⟩
end Go.Proofs.YtlhimdjkkiflhaaGreat
