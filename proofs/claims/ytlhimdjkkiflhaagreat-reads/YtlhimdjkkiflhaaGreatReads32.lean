import Derived.Test.YtlhimdjkkiflhaaGreatReads31
set_option maxHeartbeats 8000000
set_option maxRecDepth 100000
open Go.Value renaming int→Γ
open Go.IntKind renaming i64→Δ
open Go renaming Value→Θ,World→Λ,Calls→Ξ,TypeId→Φ
namespace Go.Proofs.YtlhimdjkkiflhaaGreat
open Go.Proofs.Tryz
open Go.RowKit Go.Loop
section
variable {w0 w:Λ}{R:Nat}{src:ByteArray}{dp:Nat}{s:FS}{nv sv bv:Θ}{ay:List Θ}
theorem BV (h:bw w0 w R src dp s 0 0 nv sv bv ay)(hw:Fw src.size s)(deep:Nat)(over:Bool)(rf rt:Nat)(rx:List UInt8)(rn rd:Int):Ξ prog 19 #[ai R,aK 101 rf rt rx rn rd,Γ Δ deep,.bool over] w (dL w0 w R src dp nv sv bv s 0 (.fail 4 rf)):=by
 have hlt:=h.ko;have e1:¬R=w.heap.size:=by omega
 have e2:R<w.heap.size+1:=by omega
 have e3:¬R=w.heap.size+1:=by omega
 have HT:Hid _:=se h hw ⟨101,rf,rt,rx,rn,rd⟩ fq 4 (by decide);clear h hw;unfold ai tR dU at HT;unfold ai aK;go_enter func19,ntmps19;go_wp2_with fail;refine zae HT.out ?_;rintro e w3 ⟨rfl,hq⟩;have HQ:Hid _:=hq;clear hq HT;go_wp2_with fail;go_ret;exact HQ.out
theorem xZ (h:bw w0 w R src dp s 0 0 nv sv bv ay)(hw:Fw src.size s)(deep:Nat)(over:Bool)(rk rf rt:Nat)(rx:List UInt8)(rn rd:Int)(k1:((rk:Int)==115)=false)(k2:((rk:Int)==119)=false)(k3:((rk:Int)==98)=false)(k4:((rk:Int)==99)=false)(k5:((rk:Int)==110)=false)(k6:((rk:Int)==40)=false)(k7:((rk:Int)==118)=false)(k8:((rk:Int)==39)=false)(k9:((rk:Int)==101)=false):Ξ prog 19 #[ai R,aK rk rf rt rx rn rd,Γ Δ deep,.bool over] w (dL w0 w R src dp nv sv bv s 0 (.fail 3 rf)):=by
 have hlt:=h.ko;have e1:¬R=w.heap.size:=by omega
 have e2:R<w.heap.size+1:=by omega
 have e3:¬R=w.heap.size+1:=by omega
 have HT:Hid _:=se h hw ⟨rk,rf,rt,rx,rn,rd⟩ fq 3 (by decide);clear h hw;unfold ai tR dU at HT;unfold ai aK;go_enter func19,ntmps19;go_wp2_with fail;refine zae HT.out ?_;rintro e w3 ⟨rfl,hq⟩;have HQ:Hid _:=hq;clear hq HT;go_wp2_with fail;go_ret;exact HQ.out
theorem Rc {c:Nat}{X:FR Nat}{e:Ending}{w':Λ}(h:dL w0 w R src dp nv sv bv s c X e w'):∃k:Nat,e=.returned (Γ Δ k):=by
 cases X with
 |out=>exact h.elim
 |fail er a=>obtain⟨_,k,_,h,_⟩:=h;exact⟨k,h⟩
 |ok k s'=>exact⟨k,h.1⟩
theorem Ke {w3 w':Λ}{KR KS KT:Θ}{xX:List Θ}{s3:FS}{rt:Nat}{X:FR Nat}{e:Ending}(hlt:s.at_<rt)(hle:rt≤src.size)(hf:bw w0 w3 R src dp s3 0 0 KR KS KT xX)(hk:Kf R nv sv bv w w3)(h1:dN w nv KR)(h2:dN w sv KS)(h3:rZ w0 w R src dp nv sv bv KT xX)(h:dL w0 w3 R src dp KR KS KT (s.to rt) 4 X e w'):dL w0 w R src dp nv sv bv s 0 X e w':=by
 cases X with
 |out=>exact h
 |fail er a=>
  obtain⟨q1,k,s',q2,q3,q4,q5,q6⟩:=h;have q5:s.nodes.length≤s'.nodes.length:=q5;have q6:s'.nodes.length≤s.nodes.length+505*(src.size+1-rt)+4:=q6;exact⟨q1,k,s',q2,bA.trans hf hk h1 h2 h3 q3,q4,q5,by omega⟩
 |ok k s'=>exact⟨h.1,bA.trans hf hk h1 h2 h3 h.2⟩
theorem yT (h:bw w0 w R src dp s 0 0 nv sv bv ay)(hw:Fw src.size s)(deep:Nat)(qa:dp≤1000)(hdd:deep≤dp)(hd:dp<deep+1)(over:Bool)(rk rf rt:Nat)(rx:List UInt8)(rn rd:Int)(hk:rk=40∨rk=118∨rk=39):Ξ prog 19 #[ai R,aK rk rf rt rx rn rd,Γ Δ deep,.bool over] w (dL w0 w R src dp nv sv bv s 0 (.fail 6 rf)):=by
 have hlt:=h.ko;have e1:¬R=w.heap.size:=by omega
 have e2:R<w.heap.size+1:=by omega
 have e3:¬R=w.heap.size+1:=by omega
 obtain⟨_,c1,_,_,_,_,_,_,_⟩:=bu h.blk;have HT:Hid _:=se h hw ⟨rk,rf,rt,rx,rn,rd⟩ fq 6 (by decide);clear h hw;unfold ai tR dU at HT;unfold ai aK;rcases hk with rfl|rfl|rfl
 all_goals
  go_enter func19,ntmps19;go_wp2_with fail;refine zae HT.out ?_;rintro e w3 ⟨rfl,hq⟩;have HQ:Hid _:=hq;clear hq HT;go_wp2_with fail;go_ret;exact HQ.out
theorem yU {m:Nat}(ih:OM w0 R src dp m)(h:bw w0 w R src dp s 0 0 nv sv bv ay)(hw:Fw src.size s)(hn:s.nodes.length+505*(src.size+1-s.at_)≤300000)(deep:Nat)(qa:dp≤1000)(hd:¬dp<deep+1)(over:Bool)(rk rf rt:Nat)(rx:List UInt8)(rn rd:Int)(hgo:s.at_<rt)(hle:rt≤src.size)(hk:rk=40∨rk=118∨rk=39)(ho:cC (ck src) dp m rk (deep+1) over (s.to rt)≠.out):Ξ prog 19 #[ai R,aK rk rf rt rx rn rd,Γ Δ deep,.bool over] w (dL w0 w R src dp nv sv bv s 0 (cC (ck src) dp m rk (deep+1) over (s.to rt))):=by
 have hlt:=h.ko;have e1:¬R=w.heap.size:=by omega
 have e2:R<w.heap.size+1:=by omega
 have e3:¬R=w.heap.size+1:=by omega
 obtain⟨_,c1,_,_,_,_,_,_,_⟩:=bu h.blk;have lO:Hid (Ξ prog 17 #[ai R,aK rk rf rt rx rn rd] (tR w ⟨rk,rf,rt,rx,rn,rd⟩ fq) λe w'=>e=.returned (.tuple #[])∧bA w0 (tR w ⟨rk,rf,rt,rx,rn,rd⟩ fq) R src dp nv sv bv (s.to rt) 0 0 w'):=js (h.keep (jK w ⟨rk,rf,rt,rx,rn,rd⟩ fq)) ⟨rk,rf,rt,rx,rn,rd⟩;have HHD:Hid (∀w3,bA w0 (tR w ⟨rk,rf,rt,rx,rn,rd⟩ fq) R src dp nv sv bv (s.to rt) 0 0 w3→w3.cell? ⟨w.heap.size,0,none⟩=some (.int .u8 rk)∧Ξ prog 31 #[ai R,.int .u8 rk,Γ Δ ((deep:Int)+1),.bool over] w3 (dL w0 w R src dp nv sv bv s 0 (cC (ck src) dp m rk (deep+1) over (s.to rt)))):=λw3 hq=>by
  obtain⟨KR,KS,KT,xX,f1,f2,f3,f4,f5⟩:=hq;have hb:w3.heap[w.heap.size]?=some (.cells (dU ⟨rk,rf,rt,rx,rn,rd⟩) 57):=Kf.tok (h.keep (jK w ⟨rk,rf,rt,rx,rn,rd⟩ fq)) f2 (UL w ⟨rk,rf,rt,rx,rn,rd⟩ fq);have hB:=jK w ⟨rk,rf,rt,rx,rn,rd⟩ fq;have LP:Kf R nv sv bv w w3:=(Kf.below hB).trans (.refl _ _) (.refl _ _) (.refl _ _) f2;refine⟨(oA hb).1,?_⟩;have hc:=ih.hold w3 (s.to rt) KR KS KT xX rk (deep+1) over hk f1 (hw.to hle) (by show s.nodes.length+505*(src.size+1-rt)≤299900;omega) (by omega) ho;rw[show((deep+1:Nat):Int)=(deep:Int)+1 by omega]at hc;exact hc.mono λe w' hr=>Ke hgo hle f1 LP (dN.trans (.refl _ _) hB.size f3) (dN.trans (.refl _ _) hB.size f4) (rZ.trans (h.keep hB) ⟨.refl _ _,λ_ _ h0=>h0 _ _ _ _ h⟩ hB.size f5) hr
 clear h hw ih ho;unfold ai aK tR dU at lO;unfold tR dU ai at HHD;unfold ai aK;rcases hk with rfl|rfl|rfl
 all_goals
  go_enter func19,ntmps19;go_wp2_with fail;refine zae lO.out ?_;rintro e w3 ⟨rfl,hq⟩;obtain⟨t0,fP⟩:=HHD.out w3 hq;have HC:Hid _:=fP;clear fP hq lO HHD;go_wp2_with fail;refine zae HC.out ?_;intro e w4 hr;obtain⟨k,rfl⟩:=Rc hr;have HR:Hid _:=hr;clear hr HC;go_wp2_with fail;go_ret;exact HR.out
theorem NI (hL:Lk (ck src) src.size)(hD:∀a,(ck src a).k=110→0≤(ck src a).d){m:Nat}(ih:∀j,j≤m→OM w0 R src dp j)(h:bw w0 w R src dp s 0 0 nv sv bv ay)(hw:Fw src.size s)(hn:s.nodes.length+505*(src.size+1-s.at_)≤300000)(deep:Nat)(over:Bool)(hd:deep≤dp)(qa:dp≤1000)(ho:bK (ck src) dp (m+1) (ck src s.at_) deep over s≠.out):Ξ prog 19 #[ai R,uA (ck src s.at_),Γ Δ deep,.bool over] w (dL w0 w R src dp nv sv bv s 0 (bK (ck src) dp (m+1) (ck src s.at_) deep over s)):=by
 by_cases hat:(ck src s.at_).k=115∨(ck src s.at_).k=119∨(ck src s.at_).k=98∨(ck src s.at_).k=99
 ·exact yR h hw hn deep over hat
 have hgo:=hL.go s.at_ hw.an;have Pv:=hD s.at_;generalize ck src s.at_=r at *;obtain⟨rk,rf,rt,rx,rn,rd⟩:=r;have Ol:s.nodes.length≤300000:=by omega
 have n1:rk≠115:=λe=>hat (.inl e);have n2:rk≠119:=λe=>hat (.inr (.inl e));have n3:rk≠98:=λe=>hat (.inr (.inr (.inl e)));have n4:rk≠99:=λe=>hat (.inr (.inr (.inr e)));simp only[bK]at ho ⊢;rw[zaa n1,zaa n2,zaa n3,zaa n4]at ho ⊢;show Ξ prog _ #[ai R,aK rk rf rt rx rn rd,_,_] w _;by_cases h5:rk=110
 ·subst h5;rw[zac rfl]at ho ⊢;by_cases vX:(RT.mk 110 rf rt rx rn rd).big
  ·rw[zac vX];refine BS h hw deep over rf rt rx rn rd ?_;have:1000000<rn∨rn< -1000000∨1000000<rd:=vX;omega
  ·rw[zaa vX];have hb:¬(1000000<rn∨rn< -1000000∨1000000<rd):=vX;by_cases hz:rd=0
   ·subst hz;rw[zac rfl];exact yS h hw deep over rf rt rx rn (by omega) (by omega)
   ·rw[zaa hz];have hp:0≤rd:=Pv rfl;exact BU h hw Ol deep over rf rt rx rn rd _ _ (by omega) (by omega) (by omega) (by simpa using hz) λW=>yA rn rd W (by omega) (by omega) (by omega) (by omega)
 rw[zaa h5]at ho ⊢;by_cases h6:rk=40∨rk=118∨rk=39
 ·rw[zac h6]at ho ⊢;by_cases hdd:dp<deep+1
  ·rw[zac hdd];exact yT h hw deep qa hd hdd over rk rf rt rx rn rd h6
  ·rw[zaa hdd]at ho ⊢;obtain⟨g1,g2⟩:=hgo (by show rk≠101;omega) (by show rk≠120;omega);exact yU (ih m (zab _)) h hw hn deep qa hdd over rk rf rt rx rn rd g1 g2 h6 ho
 rw[zaa h6]at ho ⊢;by_cases h7:rk=101
 ·subst h7;rw[zac rfl];exact BV h hw deep over rf rt rx rn rd
 ·rw[zaa h7];exact xZ h hw deep over rk rf rt rx rn rd (by simp;omega) (by simp;omega) (by simp;omega) (by simp;omega) (by simp;omega) (by simp;omega) (by simp;omega) (by simp;omega) (by simp;omega)
end
section
variable {w0 w:Λ}{R:Nat}{src:ByteArray}{dp:Nat}{s:FS}{nv sv bv:Θ}{ay:List Θ}
theorem Eh {N:Nat}{s:FS}(h:Fw N s)(l:List Nat)(r:Nat):Fw N (aR l r s).2:=(Sz.chain l r h).fw
def OO:dF:=⟨4,[113,117,111,116,101],0,0,[]⟩
theorem yV (hL:Lk (ck src) src.size){m:Nat}(ih:OM w0 R src dp m)(h:bw w0 w R src dp s 0 0 nv sv bv ay)(hw:Fw src.size s)(hsz:src.size≤400)(hn:s.nodes.length+505*(src.size+1-s.at_)≤299900)(deep:Nat)(over:Bool)(hd:deep≤dp)(ho:cC (ck src) dp (m+1) 39 deep over s≠.out):Ξ prog 31 #[ai R,.int .u8 39,Γ Δ deep,.bool over] w (dL w0 w R src dp nv sv bv s 4 (cC (ck src) dp (m+1) 39 deep over s)):=by
 simp only[cC,if_true]at ho ⊢;have hwq:Fw src.size (s.add OO):=hw.add _;have hlq:(s.add OO).nodes.length=s.nodes.length+1:=by simp[FS.add]
 have V2:=hw.an;have NJ:bz (ck src) dp m deep over (s.add OO)≠.out:=dV ho;have HQ:Hid _:=xN h OO rfl (by omega) (by rw[hw.sl];omega) (by rw[hw.bl];omega);have pG:Hid (∀(w2:Λ) iT iY iV cK,bw w0 w2 R src dp (s.add OO) 0 0 iT iY iV cK→Ξ prog 9 #[ai R,Γ Δ deep,.bool over] w2 (dL w0 w2 R src dp iT iY iV (s.add OO) 0 (bz (ck src) dp m deep over (s.add OO)))):=λw2 iT iY iV cK hq=>ih.mj w2 _ iT iY iV cK deep over hq hwq (by rw[hlq];show s.nodes.length+1+505*(src.size+1-s.at_)≤300000;omega) hd NJ;have BQ:Hid _:=λk s' e=>((eB (dp:=dp) hL m).mj deep over (s.add OO) k s' hwq e).1;have V5:Hid _:=NJ;have hwl:=hw.sl;clear h ih hL ho NJ hw hwq;unfold ai fV at HQ;unfold ai at pG;unfold ai;go_enter func31,ntmps31;go_wp2_with fail;refine zae HQ.out ?_;rintro e w1 ⟨rfl,hq⟩;obtain⟨fU,gR,ik,cA,g1,g2,g3,g4,g5⟩:=hq;have KU:Hid _:=And.intro g1 (And.intro g2 (And.intro g3 (And.intro g4 g5)));clear g1 g2 g3 g4 g5 HQ;go_wp2_with fail;refine zae (pG.out w1 fU gR ik cA KU.out.1) ?_;intro e w2 hres;obtain⟨er,a,s2,k,rfl,hR,bM,hno⟩:=mh (c:=1) V5.out hres BQ.out;clear hres pG BQ V5;obtain⟨⟨iT,iY,iV,cK,g1,g2,g3,g4,g5⟩,hw2,ft,hz0,hz1⟩:=hR;have qW:s2.nodes.length≤s.nodes.length+1+505*(src.size+1-s.at_):=by
  by_cases her:er=0
  ·obtain⟨_,hS⟩:=hz0 her;have q1:=hS.nn;have q2:=hS.at_;have q3:=hS.fw.an;rw[hlq]at q1;have q2:s.at_≤s2.at_:=q2;have q1:s2.nodes.length+1≤s.nodes.length+1+5*(s2.at_-s.at_)+0:=q1;omega
  ·have:=hz1 her;rw[hlq]at this;exact this
 have HAD:Hid _:=xN g1 fq rfl (by omega) (by rw[hw2.sl];omega) (by rw[hw2.bl];omega);have HG2:Hid (∀(w5:Λ) s5,bA w0 w2 R src dp iT iY iV s5 er a w5→bA w0 w R src dp nv sv bv s5 er a w5):=λw5 s5 hq=>bA.trans KU.out.1 KU.out.2.1 KU.out.2.2.1 KU.out.2.2.2.1 KU.out.2.2.2.2 (bA.trans g1 g2 g3 g4 g5 hq);have OA:Hid _:=hw2;have HOK:Hid _:=And.intro bM hno;have Hs:Hid (er=0→a=0):=λe=>(hz0 e).1;rw[hlq]at ft;clear g1 g2 g3 g4 g5 hz0 hz1 hw2 bM hno KU;unfold ai fV at HAD;go_wp2_with fail;refine zae HAD.out ?_;rintro e w3 ⟨rfl,hq⟩;obtain⟨KR,KS,KT,xX,g1,g2,g3,g4,g5⟩:=hq;have hw3:=OA.out.add fq;have Uh:(s2.add fq).nodes.length=s2.nodes.length+1:=by simp[FS.add]
 have NK:Hid _:=xP (g1.keep ((zad _ w3).alloc (zab _) (.cells #[Γ Δ s.nodes.length,Γ Δ k] 3))) [s.nodes.length,k] (.slice (some ⟨w3.heap.size,0,none⟩) 2 2) (Ic w3 g1.low.size s.nodes.length k) (λb e e'=>by cases e;exact Nat.lt_irrefl _ (ba g1.jI e').2.1) s2.nodes.length (by rw[Uh];simp;omega) (by rw[hw3.sl,Uh];simp;omega) (by rw[hw3.bl,Uh];simp;omega);have pC:Hid (∀w5,bA w0 (w3.alloc (.cells #[Γ Δ s.nodes.length,Γ Δ k] 3)) R src dp KR KS KT (aR [s.nodes.length,k] s2.nodes.length (s2.add fq)).2 er a w5→bA w0 w R src dp nv sv bv (aR [s.nodes.length,k] s2.nodes.length (s2.add fq)).2 er a w5):=λw5 hq=>HG2.out _ _ (bA.trans g1 g2 g3 g4 g5 (bA.from g1 ((zad _ w3).alloc (zab _) _) hq));have HWF:Hid (Fw src.size (aR [s.nodes.length,k] s2.nodes.length (s2.add fq)).2∧s.nodes.length≤(aR [s.nodes.length,k] s2.nodes.length (s2.add fq)).2.nodes.length∧(aR [s.nodes.length,k] s2.nodes.length (s2.add fq)).2.nodes.length≤s.nodes.length+505*(src.size+1-s.at_)+4):=by
  have:=(mO [s.nodes.length,k] s2.nodes.length (s2.add fq)).1;rw[Uh]at this;simp only[zas,zbp]at this;exact⟨Eh hw3 _ _,by omega,by omega⟩
 clear g1 g2 g3 g4 g5 HAD HG2 hw3 OA;unfold ai at NK;go_wp2_with fail;refine zae NK.out ?_;rintro e w4 ⟨rfl,hq⟩;have HF:Hid _:=pC.out _ hq;clear hq NK pC;go_wp2_with fail;go_ret;by_cases her:er=0
 ·subst her;have hX:=HOK.out.1 rfl;have ha:a=0:=Hs.out rfl;subst ha;show dL w0 w R src dp nv sv bv s 4 ((bz (ck src) dp m deep over (s.add OO)).bind _) _ _;rw[hX];exact⟨rfl,HF.out⟩
 ·have hX:=HOK.out.2 her;show dL w0 w R src dp nv sv bv s 4 ((bz (ck src) dp m deep over (s.add OO)).bind _) _ _;rw[hX];exact⟨her,_,_,rfl,HF.out,HWF.out.1,HWF.out.2.1,HWF.out.2.2⟩
end
end Go.Proofs.YtlhimdjkkiflhaaGreat
namespace Go.Proofs.YtlhimdjkkiflhaaGreat
open Go.RowKit Go.Loop
section
variable {w0 w wr w2:Λ}{R:Nat}{src:ByteArray}{dp:Nat}{s s1 s2:FS}{er V4:Int}{a a2:Nat}{nv sv bv fU gR ik lv:Θ}{ay cA:List Θ}{l:List Nat}
structure jO (w0 w:Λ) (R:Nat) (src:ByteArray) (dp:Nat) (nv sv bv:Θ) (wr:Λ) (s1:FS) (er:Int) (a:Nat) (lv:Θ) (l:List Nat) (fU gR ik:Θ) (cA:List Θ):Prop where
 fr:bw w0 wr R src dp s1 er a fU gR ik cA
 kf:Kf R nv sv bv w wr
 n:dN w nv fU
 s:dN w sv gR
 b:rZ w0 w R src dp nv sv bv ik cA
 sub:mN wr w0.heap.size lv l
 sep:∀b,lv.ownBlock=some b→gR.ownBlock≠some b∧w.heap.size≤b
 own:Av (λb=>lv.ownBlock=some b) cA
theorem jO.go (h:jO w0 w R src dp nv sv bv wr s1 er a lv l fU gR ik cA):bA w0 w R src dp nv sv bv s1 er a wr:=⟨fU,gR,ik,cA,h.fr,h.kf,h.n,h.s,h.b⟩
theorem jO.call (h:jO w0 w R src dp nv sv bv wr s1 er a lv l fU gR ik cA)(hq:bA w0 wr R src dp fU gR ik s2 V4 a2 w2):∃iT iY iV cK,jO w0 w R src dp nv sv bv w2 s2 V4 a2 lv l iT iY iV cK:=by
 obtain⟨iT,iY,iV,cK,g1,g2,g3,g4,g5⟩:=hq;have uX:∀b,lv.ownBlock=some b→gR.ownBlock≠some b:=λb e=>(h.sep b e).1;exact⟨iT,iY,iV,cK,g1,h.kf.trans h.n h.s h.b.n g2,h.n.trans h.kf.size g3,h.s.trans h.kf.size g4,rZ.trans h.fr h.b h.kf.size g5,Eb h.fr g2 h.sub uX,λb e=>⟨g4.ne (ba h.sub e).2.1 (uX b e),(h.sep b e).2⟩,g5.av _ (λb e=>(ba h.sub e).2.1) λ_ _ _ _ hq=>by rw[xL h.fr hq];exact h.own⟩
theorem jO.below (h:jO w0 w R src dp nv sv bv wr s1 er a lv l fU gR ik cA)(hb:Below wr.heap.size wr w2):jO w0 w R src dp nv sv bv w2 s1 er a lv l fU gR ik cA:=
 ⟨h.fr.keep hb,h.kf.trans h.n h.s h.b.n (Kf.below hb),h.n,h.s,h.b,bo h.sub λb e=>hb.block b (ba h.sub e).2.1,h.sep,h.own⟩
theorem jO.start (h:bw w0 w R src dp s 0 0 nv sv bv ay):jO w0 w R src dp nv sv bv w s 0 0 (.slice none 0 0) [] nv sv bv ay:=
 ⟨h,.refl _ _ _ _ _,.refl _ _,.refl _ _,.refl h,BR _ _,(λb e=>by cases e),λv _ b _ e=>by cases e⟩
theorem jO.more {w6:Λ}{v':Θ}{k:Nat}{o:Obj}(h:jO w0 w R src dp nv sv bv wr s1 er a lv l fU gR ik cA)(hrow:w6.ownsRow w0.heap.size 3 1 v' (l.length+1) ((l.map λk:Nat=>Θ.int .i64 (k:Int))++[Γ Δ (k:Nat)]))(hg:(wr.alloc o).grownBy w6 lv.ownBlock)(cG:v'.ownBlock=lv.ownBlock∨∃b,v'.ownBlock=some b∧(wr.alloc o).heap.size≤b):jO w0 w R src dp nv sv bv w6 s1 er a v' (l++[k]) fU gR ik cA:=by
 have hs:(wr.alloc o).heap.size=wr.heap.size+1:=by simp
 have hsz:=hg.size;have EC:∀b,b<wr.heap.size→some b≠lv.ownBlock→w6.heap[b]?=wr.heap[b]?:=λb h1 h2=>(hg.block b (by omega) h2).trans (zaK _ _ _ h1);have hne:∀{e:Φ} {z:Nat} {v:Θ} {n:Nat} {xs:List Θ},e≠3→wr.ownsRow w0.heap.size e z v n xs→w6.ownsRow w0.heap.size e z v n xs:=λhe hr=>bo hr λb e=>EC b (ba hr e).2.1 (fA hr h.sub he e);have hl:=h.fr.low.size;have hR:some R≠lv.ownBlock:=λe=>by
  obtain⟨_,_,cur,hc⟩:=ba h.sub e.symm;rw[h.fr.blk]at hc;simp at hc
 have KE:∀b,b<w.heap.size→some b≠lv.ownBlock:=λb hb e=>by have:=(h.sep b e.symm).2;omega
 have TL:w6.os=wr.os:=hg.os;have Zr:w6.tape=wr.tape:=hg.tape;have I8:w6.output=wr.output:=hg.output;have hws:=h.kf.size;refine⟨⟨h.fr.J6,⟨TL.trans h.fr.low.os,Zr.trans h.fr.low.tape,I8.trans h.fr.low.output,by omega,λb hb=>?_⟩,(EC R h.fr.ko hR).trans h.fr.blk,hne (by decide) h.fr.iM,bo h.fr.jI λb e=>EC b (ba h.fr.jI e).2.1 λe'=>(h.sep b e'.symm).1 e,hne (by decide) h.fr.jX,h.fr.len,?_,h.fr.sep⟩,?_,h.n,h.s,h.b,?_,λb e=>?_,λv hv b e=>?_⟩
 ·rw[EC b (by omega) (λe=>by have:=(ba h.sub e.symm).1;omega)];exact h.fr.low.block b hb
 ·intro j x v h1 h2;exact bo (h.fr.subs j x v h1 h2) λb e=>EC b (ba (h.fr.subs j x v h1 h2) e).2.1 λe'=>h.own v (zbo h2) b e e'.symm
 ·exact⟨TL.trans h.kf.os,Zr.trans h.kf.tape,I8.trans h.kf.output,by omega,λb b1 b2 b3 b4 b5=>(EC b (by omega) (KE b b1)).trans (h.kf.block b b1 b2 b3 b4 b5)⟩
 ·show w6.ownsRow _ _ _ _ (l++[k]).length ((l++[k]).map _);rw[zbI,zaT];exact hrow
 ·rcases cG with hb|⟨c,h1,h2⟩
  ·rw[hb]at e;exact h.sep b e
  ·rw[h1]at e;cases e;exact⟨λe'=>by have:=(ba h.fr.jI e').2.1;omega,by omega⟩
 ·rcases cG with hb|⟨c,h1,h2⟩
  ·show ¬v'.ownBlock=some b;rw[hb];exact h.own v hv b e
  ·show ¬v'.ownBlock=some b;rw[h1];intro e';cases e';obtain⟨j,hj⟩:=List.getElem?_of_mem hv;have:j<s1.nodes.length:=by rw[←h.fr.len];exact(zaD.1 hj).1
   have:=(ba (h.fr.subs j _ v (zaP this) hj) e).2.1;omega
end
end Go.Proofs.YtlhimdjkkiflhaaGreat
namespace Go.Proofs.YtlhimdjkkiflhaaGreat
open Go.Proofs.Tryz
open Go.RowKit Go.Loop
section
variable {w0 w:Λ}{R:Nat}{src:ByteArray}{dp:Nat}{s:FS}{nv sv bv:Θ}{ay:List Θ}
def ZO (w0 w:Λ)(R:Nat)(src:ByteArray)(dp:Nat)(s:FS)(nv sv bv:Θ)(kind deep:Nat)(over:Bool)(m:Nat)(X:FR Nat)(lv:Θ)(wr:Λ):Prop:=
 ∃(er:Int) (a:Nat) (s1:FS) (l:List Nat) (fU gR ik:Θ) (cA:List Θ),jO w0 w R src dp nv sv bv wr s1 er a lv l fU gR ik cA∧Fw src.size s1∧s.nodes.length≤s1.nodes.length∧
  ((er=0∧a=0∧s.at_+l.length≤s1.at_∧s1.nodes.length+l.length≤s.nodes.length+5*(s1.at_-s.at_)∧∃j,j≤m∧X=bZ (ck src) dp j kind deep over l s1)∨(er≠0∧X=.fail er a∧s1.nodes.length≤s.nodes.length+505*(src.size+1-s.at_)))
theorem jO.adA {wr w5:Λ}{s1:FS}{er:Int}{a:Nat}{lv fU gR ik:Θ}{cA:List Θ}{l:List Nat}{x:dF}(h:jO w0 w R src dp nv sv bv wr s1 er a lv l fU gR ik cA)(hq:∃lM pY pc,bw w0 w5 R src dp (s1.add x) er a lM pY pc (cA++[lv])∧Kf R fU gR ik wr w5∧dN wr fU lM∧dN wr gR pY∧dN wr ik pc):bA w0 w R src dp nv sv bv (s1.add x) er a w5:=by
 obtain⟨lM,pY,pc,g1,g2,g3,g4,g5⟩:=hq;refine⟨lM,pY,pc,_,g1,h.kf.trans h.n h.s h.b.n g2,h.n.trans h.kf.size g3,h.s.trans h.kf.size g4,h.b.n.trans h.kf.size g5,λF hF h0 v hv b hb=>?_⟩;rcases zaQ.1 hv with q|q
 ·exact h.b.av F hF h0 v q b hb
 ·simp at q;subst q;intro hF';have:=hF b hF';have:=(h.sep b hb).2;omega
theorem vC {w6:Λ}{s1 s2 s4:FS}{OP:Int}{a4 k kind deep m j:Nat}{over:Bool}{X:FR Nat}{l:List Nat}{v6 sf si sj:Θ}{gS:List Θ}(hsz:src.size≤400)(sG:s.at_+l.length≤s1.at_)(hl2:s1.nodes.length+l.length≤s.nodes.length+5*(s1.at_-s.at_))(ft:s.nodes.length≤s1.nodes.length)(sk:s1.nodes.length≤s2.nodes.length)(p1:s2.nodes.length+0≤s1.nodes.length+5*(s2.at_-s1.at_)+0)(p2:s1.at_≤s2.at_)(p3:s2.at_≤src.size)(hj:j+1≤m)(hE:X=(bz (ck src) dp j deep over s2).bind λk s=>bZ (ck src) dp j kind deep over (l++[k]) s)(hsd:∀k s',bz (ck src) dp j deep over s2=.ok k s'→Sz src.size 1 0 s2 s'∧s2.at_<s'.at_)(bM:OP=0→bz (ck src) dp j deep over s2=.ok k s4)(hno:OP≠0→bz (ck src) dp j deep over s2=.fail OP a4)(hw4:Fw src.size s4)(Kg:s2.nodes.length≤s4.nodes.length)(hz0:OP=0→a4=0∧Sz src.size 1 0 s2 s4)(hz1:OP≠0→s4.nodes.length≤s2.nodes.length+505*(src.size+1-s2.at_)+0)(hS:jO w0 w R src dp nv sv bv w6 s4 OP a4 v6 (l++[k]) sf si sj gS):ZO w0 w R src dp s nv sv bv kind deep over m X v6 w6∧Kb R w6<1001-s1.at_:=by
 have aeE:=hw4.an;rw[qw hS.fr];by_cases her:OP=0
 ·subst her;have hd:=bM rfl;obtain⟨t1,t2⟩:=hsd k s4 hd;have q1:=t1.nn;have ha:=(hz0 rfl).1;rw[zac rfl];refine⟨⟨0,a4,s4,l++[k],sf,si,sj,gS,hS,hw4,by omega,.inl ⟨rfl,ha,?_,?_,j,by omega,?_⟩⟩,by omega⟩
  ·simp;omega
  ·simp;omega
  ·rw[hE,hd];rfl
 ·rw[zaa her];have hd:=hno her;have q1:=hz1 her;refine⟨⟨OP,a4,s4,l++[k],sf,si,sj,gS,hS,hw4,by omega,.inr ⟨her,?_,by omega⟩⟩,by omega⟩;rw[hE,hd];rfl
theorem Ei (hL:Lk (ck src) src.size)(hsz:src.size≤400){m:Nat}(ih:∀j,j≤m→OM w0 R src dp j)(h:bw w0 w R src dp s 0 0 nv sv bv ay)(hw:Fw src.size s)(hn:s.nodes.length+505*(src.size+1-s.at_)≤299900)(deep:Nat)(over:Bool)(hd:deep≤dp)(ho:bZ (ck src) dp m 118 deep over [] s≠.out):Ξ prog 31 #[ai R,.int .u8 118,Γ Δ deep,.bool over] w (dL w0 w R src dp nv sv bv s 0 (bZ (ck src) dp m 118 deep over [] s)):=by
 have HI:Hid (ZO w0 w R src dp s nv sv bv 118 deep over m (bZ (ck src) dp m 118 deep over [] s) (.slice none 0 0) w):=⟨0,0,s,[],nv,sv,bv,ay,.start h,hw,zab _,.inl ⟨rfl,rfl,by simp,by simp,m,zab _,rfl⟩⟩;have HO:Hid _:=ho;have lI:Hid _:=ih;have lN:Hid _:=hL;have hlt:=h.ko;have V2:=hw.an;have Gj:=h.low.size;clear h hw ih hL ho;generalize bZ (ck src) dp m 118 deep over [] s=X at *;unfold ai;go_enter func31,ntmps31;go_wp2_with fail;go_loopw [12] (λlv wr=>Hid (ZO w0 w R src dp s nv sv bv 118 deep over m X lv wr)) (λ_ wr=>Kb R wr)
 case atStart=>exact HI
 case round=>
  obtain⟨er,a,s1,l,fU,gR,ik,cA,hS,ku,ft,fT⟩:=hrel.out;have HM:Hid _:=qw hS.fr;obtain⟨_,_,_,_,c4,_,_,_,_⟩:=bu hS.fr.blk;have adB:=hS.fr.ko;obtain⟨la,lc,rfl⟩:=aw hS.sub;rcases fT with⟨rfl,rfl,sG,hl2,j,hj,hX⟩|⟨hne,hX,hb⟩
  ·obtain⟨j',rfl⟩:∃j',j=j'+1:=by
    cases j with
    |zero=>simp only[bZ]at hX;exact absurd hX HO.out
    |succ j=>exact⟨j,rfl⟩
   simp only[bZ]at hX;have UJ:=ku.an;have yP:cX (ck src) dp j' deep s1≠.out:=dV (by rw[←hX];exact HO.out);have HT:Hid _:=(lI.out j' (by omega)).tok _ s1 fU gR ik cA deep hS.fr ku (by omega) hd yP;have yQ:Hid _:=yP;have HST:Hid _:=λr s' e=>(eB (dp:=dp) lN.out j').tok deep s1 r s' ku e;have HX:Hid _:=hX;have HS:Hid _:=hS;clear hX hS yP hrel HI ku;unfold ai at HT;go_wp2_with fail;refine zae HT.out ?_;intro e w2 hres;obtain⟨er,a,s2,r,rfl,hR,bM,hno⟩:=oB yQ.out hres (λr s' e=>(HST.out r s' e).1);clear hres HT;simp only[aK];obtain⟨hgo,hw2,sk,hz0,hz1⟩:=hR;obtain⟨iT,iY,iV,cK,wy⟩:=HS.out.call hgo;clear hgo HS;have rq:=wy.below ((zad _ w2).alloc (zab _) (.cells #[.int .u8 r.k,Γ Δ r.f,Γ Δ r.t,.string ⟨⟨r.x⟩⟩,Γ Δ r.n,Γ Δ r.d] 57));obtain⟨_,_,_,_,d4,_,_,_,_⟩:=bu wy.fr.blk;have T6:=wy.fr.ko;have ZP:¬R=w2.heap.size:=by omega
   clear wy;have Kc:Hid (Kb R wr=1001-s1.at_):=HM.out;by_cases her:er=0
   ·subst her;obtain⟨rfl,nu⟩:=hz0 rfl;have nt:=bM rfl;have hr2:=(HST.out r s2 nt).2;have p1:=nu.nn;have p2:=nu.at_;have p3:=hw2.an;have vD:X=(if r.k=41 then(if True then FR.ok s2.nodes.length ((s2.to r.t).add ⟨2,[],0,0,l⟩)else .ok (aR l s2.nodes.length ((s2.to r.t).add fq)).1 (aR l s2.nodes.length ((s2.to r.t).add fq)).2)else if 118=40∧r.k=46∧l≠[]then(cN (ck src) dp j' deep over (s2.to r.t)).bind λrest s=> .ok (aR l rest s).1 (aR l rest s).2 else if True∧l.length=20∧r.k≠101 then .fail 3 r.f else(bz (ck src) dp j' deep over s2).bind λk s=>bZ (ck src) dp j' 118 deep over (l++[k]) s):=by
     rw[HX.out,nt];rfl
    have JX:Hid _:=rq;by_cases uQ:r.k=41
    ·have NG:((r.k:Int)==41)=true:=by simp;omega
     rw[zac uQ,zac trivial]at vD;have HE:Hid _:=vD;have lO:Hid _:=js rq.fr r;have HAD:Hid (∀w4,bA w0 (w2.alloc (.cells #[.int .u8 r.k,Γ Δ r.f,Γ Δ r.t,.string ⟨⟨r.x⟩⟩,Γ Δ r.n,Γ Δ r.d] 57)) R src dp iT iY iV (s2.to r.t) 0 0 w4→Ξ prog 18 #[ai R,fV ⟨2,[],0,0,l⟩ (.slice la l.length lc)] w4 λe w'=>e=.returned (Γ Δ s2.nodes.length)∧bA w0 w R src dp nv sv bv ((s2.to r.t).add ⟨2,[],0,0,l⟩) 0 0 w'):=λw4 hq=>by
      obtain⟨sf,si,sj,gS,lL⟩:=JX.out.call hq;refine(BK lL.fr ⟨2,[],0,0,l⟩ (.slice la l.length lc) lL.sub (λb e=>(lL.sep b e).1) (by show s2.nodes.length+1≤1000000;omega) (by show s2.same.length+1≤1000000;rw[hw2.sl];omega) (by show s2.begun.length+1≤1000000;rw[hw2.bl];omega)).mono ?_;rintro e w5 ⟨rfl,hg⟩;exact⟨rfl,lL.adA hg⟩
     clear vD nt bM hno hz0 hz1 nu HST yQ HX rq JX uQ hr2 hw2 sk lI lN HM Kc HO;unfold ai aK at lO;unfold ai fV at HAD;go_wp2_with fail;refine zae lO.out ?_;rintro e w4 ⟨rfl,hq⟩;have HC:Hid _:=HAD.out w4 hq;clear hq lO HAD;go_wp2_with fail;refine zae HC.out ?_;rintro e w5 ⟨rfl,hg⟩;have HG:Hid _:=hg;clear hg HC;go_wp2_with fail;go_ret;rw[HE.out];exact⟨rfl,HG.out⟩
    ·have NG:((r.k:Int)==41)=false:=by simp;omega
     rw[zaa uQ,zaa (λq=>absurd q.1 (by decide))]at vD;by_cases Gd:l.length=20∧r.k≠101
     ·have ZQ:((l.length:Int)==20)=true:=by simp;omega
      have ZR:((r.k:Int) != 101)=true:=by simp;omega
      rw[zac ⟨trivial,Gd.1,Gd.2⟩]at vD;have HE:Hid _:=vD;have HF:Hid _:=pg rq.fr 3 r.f;have vB:Hid (∀w4,bA w0 (w2.alloc (.cells #[.int .u8 r.k,Γ Δ r.f,Γ Δ r.t,.string ⟨⟨r.x⟩⟩,Γ Δ r.n,Γ Δ r.d] 57)) R src dp iT iY iV s2 3 r.f w4→bA w0 w R src dp nv sv bv s2 3 r.f w4):=λw4 hq=>by
       obtain⟨sf,si,sj,gS,lL⟩:=JX.out.call hq;exact lL.go
      have HP:Hid _:=And.intro hw2 (And.intro (show s.nodes.length≤s2.nodes.length by omega) (show s2.nodes.length≤s.nodes.length+505*(src.size+1-s.at_)+0 by omega));clear vD nt bM hno hz0 hz1 nu HST yQ HX rq JX uQ Gd hr2 hw2 sk lI lN HM Kc HO;unfold ai at HF;go_wp2_with fail;refine zae HF.out ?_;rintro e w4 ⟨rfl,hq⟩;have HG:Hid _:=vB.out w4 hq;clear hq HF vB;go_wp2_with fail;go_ret;rw[HE.out];exact⟨by decide,0,s2,rfl,HG.out,HP.out.1,HP.out.2.1,HP.out.2.2⟩
     ·rw[zaa (λq=>Gd q.2)]at vD;have NJ:bz (ck src) dp j' deep over s2≠.out:=dV (by rw[←vD];exact HO.out);have pG:Hid _:=(lI.out j' (by omega)).mj _ s2 iT iY iV cK deep over rq.fr hw2 (by omega) hd NJ;have V5:Hid _:=NJ;have BQ:Hid _:=λk s' e=>(eB (dp:=dp) lN.out j').mj deep over s2 k s' hw2 e;have HE:Hid _:=vD;obtain⟨iI,QT,BL,BM,BN⟩:=info_parts ox;have mb:(((l.length:Int)==20)=true∧((r.k:Int) != 101)=false)∨((l.length:Int)==20)=false:=by
       by_cases hl:l.length=20
       ·left;have:r.k=101:=Classical.byContradiction λe=>Gd ⟨hl,e⟩;exact⟨by simp;omega,by simp;omega⟩
       ·right;simp;omega
      clear vD nt bM hno hz0 hz1 nu HST yQ HX rq uQ Gd hr2 hw2 lI lN HM NJ;unfold ai at pG;rcases mb with⟨ZQ,ZR⟩|ZQ
      all_goals
       go_wp2_with fail;refine zae pG.out ?_;intro e w4 hres;obtain⟨OP,a4,s4,k,rfl,hR,bM,hno⟩:=mh (c:=1) V5.out hres (λk s' e=>(BQ.out k s' e).1);clear hres;obtain⟨hgo,hw4,Kg,hz0,hz1⟩:=hR;obtain⟨sf,si,sj,gS,lL⟩:=JX.out.call hgo;clear hgo;have Sw:Hid _:=lL;have HL:Hid (w0.heap.size≤(w4.alloc (.cells #[Γ Δ k] 3)).heap.size):=by have:=lL.fr.low.size;show _≤_;simp;omega
       have hlen:l.length+1≤1000000:=by omega
       have pV:Hid _:=And.intro bM (And.intro hno (And.intro hw4 (And.intro Kg (And.intro hz0 hz1))));clear lL bM hno hw4 Kg hz0 hz1;go_wp2_with (at_builtin;refine cj rfl _ _ 40 rfl w0.heap.size 3 iI (Γ Δ 0) 8 kU QT BL BM BN (by decide) rfl _ l.length (l.map λk:Nat=>Θ.int .i64 (k:Int)) rfl (zbL Sw.out.sub _) ⟨w4.heap.size,0,none⟩ 1 1 [Γ Δ k] rfl (by decide) rfl (pj w4 _ _) (po rfl) hlen HL.out ?_;intro v6 w6 hown hgrow cG;have NL:Hid _:=Sw.out.more hown hgrow cG;clear hown hgrow cG);go_roundw
       case rel=>exact(vC hsz sG hl2 ft sk p1 p2 p3 hj HE.out BQ.out pV.out.1 pV.out.2.1 pV.out.2.2.1 pV.out.2.2.2.1 pV.out.2.2.2.2.1 pV.out.2.2.2.2.2 NL.out).1
       case measure=>
        rw[Kc.out];exact(vC hsz sG hl2 ft sk p1 p2 p3 hj HE.out BQ.out pV.out.1 pV.out.2.1 pV.out.2.2.1 pV.out.2.2.2.1 pV.out.2.2.2.2.1 pV.out.2.2.2.2.2 NL.out).2
   ·have NH:(er != 0)=true:=by simpa using her
    have nt:=hno her;have p1:=hz1 her;have HE:Hid (X=.fail er a):=by show _=_;rw[HX.out,nt];rfl
    have HP:Hid _:=And.intro her (And.intro hw2 (And.intro (show s.nodes.length≤s2.nodes.length by omega) (show s2.nodes.length≤s.nodes.length+505*(src.size+1-s.at_)+0 by omega)));have HG:Hid _:=rq.go;clear nt bM hno hz0 hz1 HST yQ HX rq hw2 sk lI lN HM Kc HO her p1;go_wp2_with fail;go_ret;rw[HE.out];exact⟨HP.out.1,0,s2,rfl,HG.out,HP.out.2.1,HP.out.2.2.1,HP.out.2.2.2⟩
  ·have Bd:(er==0)=false:=by simpa using hne
   have HP:Hid _:=And.intro hne (And.intro ku (And.intro ft hb));have HX:Hid _:=hX;have HG:Hid _:=hS.go;clear hne ku ft hb hX hS hrel HI lI lN HM HO;go_wp2_with fail;go_ret;rw[HX.out];exact⟨HP.out.1,0,s1,rfl,HG.out,HP.out.2.1,HP.out.2.2.1,HP.out.2.2.2⟩
end
section
variable {w0 w:Λ}{R:Nat}{src:ByteArray}{dp:Nat}{s:FS}{nv sv bv:Θ}{ay:List Θ}
theorem Ej (hL:Lk (ck src) src.size)(hsz:src.size≤400){m:Nat}(ih:∀j,j≤m→OM w0 R src dp j)(h:bw w0 w R src dp s 0 0 nv sv bv ay)(hw:Fw src.size s)(hn:s.nodes.length+505*(src.size+1-s.at_)≤299900)(deep:Nat)(over:Bool)(hd:deep≤dp)(ho:bZ (ck src) dp m 40 deep over [] s≠.out):Ξ prog 31 #[ai R,.int .u8 40,Γ Δ deep,.bool over] w (dL w0 w R src dp nv sv bv s 0 (bZ (ck src) dp m 40 deep over [] s)):=by
 have HI:Hid (ZO w0 w R src dp s nv sv bv 40 deep over m (bZ (ck src) dp m 40 deep over [] s) (.slice none 0 0) w):=⟨0,0,s,[],nv,sv,bv,ay,.start h,hw,zab _,.inl ⟨rfl,rfl,by simp,by simp,m,zab _,rfl⟩⟩;have HO:Hid _:=ho;have lI:Hid _:=ih;have lN:Hid _:=hL;have hlt:=h.ko;have V2:=hw.an;have Gj:=h.low.size;clear h hw ih hL ho;generalize bZ (ck src) dp m 40 deep over [] s=X at *;unfold ai;go_enter func31,ntmps31;go_wp2_with fail;go_loopw [12] (λlv wr=>Hid (ZO w0 w R src dp s nv sv bv 40 deep over m X lv wr)) (λ_ wr=>Kb R wr)
 case atStart=>exact HI
 case round=>
  obtain⟨er,a,s1,l,fU,gR,ik,cA,hS,ku,ft,fT⟩:=hrel.out;have HM:Hid _:=qw hS.fr;obtain⟨_,_,_,_,c4,_,_,_,_⟩:=bu hS.fr.blk;have adB:=hS.fr.ko;obtain⟨la,lc,rfl⟩:=aw hS.sub;rcases fT with⟨rfl,rfl,sG,hl2,j,hj,hX⟩|⟨hne,hX,hb⟩
  ·obtain⟨j',rfl⟩:∃j',j=j'+1:=by
    cases j with
    |zero=>simp only[bZ]at hX;exact absurd hX HO.out
    |succ j=>exact⟨j,rfl⟩
   simp only[bZ]at hX;have UJ:=ku.an;have yP:cX (ck src) dp j' deep s1≠.out:=dV (by rw[←hX];exact HO.out);have HT:Hid _:=(lI.out j' (by omega)).tok _ s1 fU gR ik cA deep hS.fr ku (by omega) hd yP;have yQ:Hid _:=yP;have HST:Hid _:=λr s' e=>(eB (dp:=dp) lN.out j').tok deep s1 r s' ku e;have HX:Hid _:=hX;have HS:Hid _:=hS;clear hX hS yP hrel HI ku;unfold ai at HT;go_wp2_with fail;refine zae HT.out ?_;intro e w2 hres;obtain⟨er,a,s2,r,rfl,hR,bM,hno⟩:=oB yQ.out hres (λr s' e=>(HST.out r s' e).1);clear hres HT;simp only[aK];obtain⟨hgo,hw2,sk,hz0,hz1⟩:=hR;obtain⟨iT,iY,iV,cK,wy⟩:=HS.out.call hgo;clear hgo HS;have rq:=wy.below ((zad _ w2).alloc (zab _) (.cells #[.int .u8 r.k,Γ Δ r.f,Γ Δ r.t,.string ⟨⟨r.x⟩⟩,Γ Δ r.n,Γ Δ r.d] 57));obtain⟨_,_,_,_,d4,_,_,_,_⟩:=bu wy.fr.blk;have T6:=wy.fr.ko;have ZP:¬R=w2.heap.size:=by omega
   clear wy;have Kc:Hid (Kb R wr=1001-s1.at_):=HM.out;by_cases her:er=0
   ·subst her;obtain⟨rfl,nu⟩:=hz0 rfl;have nt:=bM rfl;have hr2:=(HST.out r s2 nt).2;have p1:=nu.nn;have p2:=nu.at_;have p3:=hw2.an;have vD:X=(if r.k=41 then(if 40=118 then FR.ok s2.nodes.length ((s2.to r.t).add ⟨2,[],0,0,l⟩)else .ok (aR l s2.nodes.length ((s2.to r.t).add fq)).1 (aR l s2.nodes.length ((s2.to r.t).add fq)).2)else if True∧r.k=46∧l≠[]then(cN (ck src) dp j' deep over (s2.to r.t)).bind λrest s=> .ok (aR l rest s).1 (aR l rest s).2 else if 40=118∧l.length=20∧r.k≠101 then .fail 3 r.f else(bz (ck src) dp j' deep over s2).bind λk s=>bZ (ck src) dp j' 40 deep over (l++[k]) s):=by
     rw[HX.out,nt];rfl
    have JX:Hid _:=rq;by_cases uQ:r.k=41
    ·have NG:((r.k:Int)==41)=true:=by simp;omega
     rw[zac uQ,zaa (by decide)]at vD;have HE:Hid _:=vD;have lO:Hid _:=js rq.fr r;have HAD:Hid (∀w4,bA w0 (w2.alloc (.cells #[.int .u8 r.k,Γ Δ r.f,Γ Δ r.t,.string ⟨⟨r.x⟩⟩,Γ Δ r.n,Γ Δ r.d] 57)) R src dp iT iY iV (s2.to r.t) 0 0 w4→Ξ prog 18 #[ai R,fV fq (.slice none 0 0)] w4 λe w'=>e=.returned (Γ Δ s2.nodes.length)∧∃Ik Il Im sr,jO w0 w R src dp nv sv bv w' ((s2.to r.t).add fq) 0 0 (.slice la l.length lc) l Ik Il Im sr):=λw4 hq=>by
      obtain⟨sf,si,sj,gS,lL⟩:=JX.out.call hq;refine(xN lL.fr fq rfl (by show s2.nodes.length+1≤1000000;omega) (by show s2.same.length+1≤1000000;rw[hw2.sl];omega) (by show s2.begun.length+1≤1000000;rw[hw2.bl];omega)).mono ?_;rintro e w5 ⟨rfl,hg⟩;exact⟨rfl,lL.call hg⟩
     have hl5:((s2.to r.t).add fq).nodes.length=s2.nodes.length+1:=by simp[FS.add,FS.to]
     have NM:Fw src.size ((s2.to r.t).add fq):=(hw2.to (lN.out.go s2.at_ hw2.an (by rw[←hr2,uQ];decide) (by rw[←hr2,uQ];decide) |>.2 |>λh=>by rw[←hr2]at h;exact h)).add fq;have NK:Hid (∀w5 Ik Il Im sr,jO w0 w R src dp nv sv bv w5 ((s2.to r.t).add fq) 0 0 (.slice la l.length lc) l Ik Il Im sr→Ξ prog 64 #[ai R,.slice la l.length lc,Γ Δ s2.nodes.length] w5 λe w'=>e=.returned (Γ Δ (aR l s2.nodes.length ((s2.to r.t).add fq)).1)∧bA w0 w R src dp nv sv bv (aR l s2.nodes.length ((s2.to r.t).add fq)).2 0 0 w'):=λw5 Ik Il Im sr vp=>by
      refine(xP vp.fr l _ vp.sub (λb e=>(vp.sep b e).1) s2.nodes.length (by rw[hl5];omega) (by rw[NM.sl,hl5];omega) (by rw[NM.bl,hl5];omega)).mono ?_;rintro e w6 ⟨rfl,hg⟩;obtain⟨nv6,sv6,bv6,ZT,Ot⟩:=vp.call hg;exact⟨rfl,Ot.go⟩
     clear vD nt bM hno hz0 hz1 nu HST yQ HX rq JX uQ hr2 hw2 sk lI lN HM Kc HO NM;unfold ai aK at lO;unfold ai fV at HAD;unfold ai at NK;go_wp2_with fail;refine zae lO.out ?_;rintro e w4 ⟨rfl,hq⟩;have HC:Hid _:=HAD.out w4 hq;clear hq lO HAD;go_wp2_with fail;refine zae HC.out ?_;rintro e w5 ⟨rfl,Ik,Il,Im,sr,vp⟩;have ZU:Hid _:=NK.out w5 Ik Il Im sr vp;clear vp HC NK;go_wp2_with fail;refine zae ZU.out ?_;rintro e w6 ⟨rfl,hg⟩;have HG:Hid _:=hg;clear hg ZU;go_wp2_with fail;go_ret;rw[HE.out];exact⟨rfl,HG.out⟩
    ·have NG:((r.k:Int)==41)=false:=by simp;omega
     rw[zaa uQ]at vD;by_cases Gd:r.k=46∧l≠[]
     ·obtain⟨KP,hne⟩:=Gd;have aeF:((r.k:Int)==46)=true:=by simp;omega
      have hlp:(0:Int)<l.length:=by have:=zbS.2 hne;omega
      rw[zac ⟨trivial,KP,hne⟩]at vD;obtain⟨g1,g2⟩:=lN.out.go s2.at_ hw2.an (by rw[←hr2,KP];decide) (by rw[←hr2,KP];decide);rw[←hr2]at g1 g2;have hbo:cN (ck src) dp j' deep over (s2.to r.t)≠.out:=dV (by rw[←vD];exact HO.out);have HBO:Hid _:=hbo;have HE:Hid _:=vD;have lO:Hid _:=js rq.fr r;have HSB:Hid _:=λk s' e=>(eB (dp:=dp) lN.out j').V0 deep over (s2.to r.t) k s' (hw2.to g2) e;have HBE:Hid (∀w4,bA w0 (w2.alloc (.cells #[.int .u8 r.k,Γ Δ r.f,Γ Δ r.t,.string ⟨⟨r.x⟩⟩,Γ Δ r.n,Γ Δ r.d] 57)) R src dp iT iY iV (s2.to r.t) 0 0 w4→∃sf si sj gS,jO w0 w R src dp nv sv bv w4 (s2.to r.t) 0 0 (.slice la l.length lc) l sf si sj gS∧Ξ prog 65 #[ai R,Γ Δ deep,.bool over] w4 (dL w0 w4 R src dp sf si sj (s2.to r.t) 0 (cN (ck src) dp j' deep over (s2.to r.t)))):=λw4 hq=>by
       obtain⟨sf,si,sj,gS,lL⟩:=JX.out.call hq;exact⟨sf,si,sj,gS,lL,(lI.out j' (by omega)).V0 w4 _ sf si sj gS deep over lL.fr (hw2.to g2) (by show s2.nodes.length+505*(src.size+1-r.t)≤300000;omega) hd hbo⟩
      have NK:Hid (∀w5 s5 UN a5 (k5:Nat) Ik Il Im sr,jO w0 w R src dp nv sv bv w5 s5 UN a5 (.slice la l.length lc) l Ik Il Im sr→Fw src.size s5→s5.nodes.length≤400000→Ξ prog 64 #[ai R,.slice la l.length lc,Γ Δ k5] w5 λe w'=>e=.returned (Γ Δ (aR l k5 s5).1)∧bA w0 w R src dp nv sv bv (aR l k5 s5).2 UN a5 w'):=λw5 s5 UN a5 k5 Ik Il Im sr vp NM hn5=>by
       refine(xP vp.fr l _ vp.sub (λb e=>(vp.sep b e).1) k5 (by omega) (by rw[NM.sl];omega) (by rw[NM.bl];omega)).mono ?_;rintro e w6 ⟨rfl,hg⟩;obtain⟨nv6,sv6,bv6,ZT,Ot⟩:=vp.call hg;exact⟨rfl,Ot.go⟩
      clear vD nt bM hno hz0 hz1 nu HST yQ HX rq JX uQ hr2 hw2 lI lN HM Kc HO hbo KP hne;unfold ai aK at lO;unfold ai at HBE NK;go_wp2_with fail;refine zae lO.out ?_;rintro e w4 ⟨rfl,hq⟩;obtain⟨sf,si,sj,gS,lL,fP⟩:=HBE.out w4 hq;have Sw:Hid _:=lL;have HC:Hid _:=fP;clear hq lO HBE lL fP;go_wp2_with fail;refine zae HC.out ?_;intro e w5 hres;obtain⟨UN,a5,s5,k5,rfl,hR,bM,hno⟩:=mh (c:=0) HBO.out hres HSB.out;clear hres HC;obtain⟨hgo,NM,ZV,hz0,hz1⟩:=hR;obtain⟨Ik,Il,Im,sr,vp⟩:=Sw.out.call hgo;have ZV:s2.nodes.length≤s5.nodes.length:=ZV;have qA:s5.nodes.length≤s2.nodes.length+505*(src.size+1-r.t):=by
       by_cases her:UN=0
       ·obtain⟨_,nu⟩:=hz0 her;have q1:=nu.nn;have q2:=nu.at_;have q3:=NM.an;have q2:r.t≤s5.at_:=q2;have q1:s5.nodes.length+0≤s2.nodes.length+5*(s5.at_-r.t)+0:=q1;omega
       ·exact hz1 her
      have ZU:Hid _:=NK.out w5 s5 UN a5 k5 Ik Il Im sr vp NM (by omega);have JN:Hid _:=And.intro bM (And.intro hno (And.intro NM (λe=>(hz0 e).1)));clear hgo bM hno hz0 hz1 vp NM Sw NK;go_wp2_with fail;refine zae ZU.out ?_;rintro e w6 ⟨rfl,hg⟩;have HG:Hid _:=hg;clear hg ZU;go_wp2_with fail;go_ret;rw[HE.out];by_cases her:UN=0
      ·subst her;obtain rfl:a5=0:=JN.out.2.2.2 rfl;rw[JN.out.1 rfl];exact⟨rfl,HG.out⟩
      ·rw[JN.out.2.1 her];have gz:=(mO l k5 s5).1;exact⟨her,_,_,rfl,HG.out,Eh JN.out.2.2.1 _ _,by omega,by omega⟩
     ·rw[zaa (λq=>Gd q.2),zaa (λq=>absurd q.1 (by decide))]at vD;have NJ:bz (ck src) dp j' deep over s2≠.out:=dV (by rw[←vD];exact HO.out);have pG:Hid _:=(lI.out j' (by omega)).mj _ s2 iT iY iV cK deep over rq.fr hw2 (by omega) hd NJ;have V5:Hid _:=NJ;have BQ:Hid _:=λk s' e=>(eB (dp:=dp) lN.out j').mj deep over s2 k s' hw2 e;have HE:Hid _:=vD;obtain⟨iI,QT,BL,BM,BN⟩:=info_parts ox;have mb:(((r.k:Int)==46)=true∧(l.length:Int)=0)∨((r.k:Int)==46)=false:=by
       by_cases hl:r.k=46
       ·left;have:l=[]:=Classical.byContradiction λe=>Gd ⟨hl,e⟩;exact⟨by simp;omega,by rw[this];rfl⟩
       ·right;simp;omega
      clear vD nt bM hno hz0 hz1 nu HST yQ HX rq uQ Gd hr2 hw2 lI lN HM NJ;unfold ai at pG;rcases mb with⟨KP,hl0⟩|KP
      all_goals
       go_wp2_with fail;refine zae pG.out ?_;intro e w4 hres;obtain⟨OP,a4,s4,k,rfl,hR,bM,hno⟩:=mh (c:=1) V5.out hres (λk s' e=>(BQ.out k s' e).1);clear hres;obtain⟨hgo,hw4,Kg,hz0,hz1⟩:=hR;obtain⟨sf,si,sj,gS,lL⟩:=JX.out.call hgo;clear hgo;have Sw:Hid _:=lL;have HL:Hid (w0.heap.size≤(w4.alloc (.cells #[Γ Δ k] 3)).heap.size):=by have:=lL.fr.low.size;show _≤_;simp;omega
       have hlen:l.length+1≤1000000:=by omega
       have pV:Hid _:=And.intro bM (And.intro hno (And.intro hw4 (And.intro Kg (And.intro hz0 hz1))));clear lL bM hno hw4 Kg hz0 hz1;go_wp2_with (at_builtin;refine cj rfl _ _ 40 rfl w0.heap.size 3 iI (Γ Δ 0) 8 kU QT BL BM BN (by decide) rfl _ l.length (l.map λk:Nat=>Θ.int .i64 (k:Int)) rfl (zbL Sw.out.sub _) ⟨w4.heap.size,0,none⟩ 1 1 [Γ Δ k] rfl (by decide) rfl (pj w4 _ _) (po rfl) hlen HL.out ?_;intro v6 w6 hown hgrow cG;have NL:Hid _:=Sw.out.more hown hgrow cG;clear hown hgrow cG);go_roundw
       case rel=>exact(vC hsz sG hl2 ft sk p1 p2 p3 hj HE.out BQ.out pV.out.1 pV.out.2.1 pV.out.2.2.1 pV.out.2.2.2.1 pV.out.2.2.2.2.1 pV.out.2.2.2.2.2 NL.out).1
       case measure=>
        rw[Kc.out];exact(vC hsz sG hl2 ft sk p1 p2 p3 hj HE.out BQ.out pV.out.1 pV.out.2.1 pV.out.2.2.1 pV.out.2.2.2.1 pV.out.2.2.2.2.1 pV.out.2.2.2.2.2 NL.out).2
   ·have NH:(er != 0)=true:=by simpa using her
    have nt:=hno her;have p1:=hz1 her;have HE:Hid (X=.fail er a):=by show _=_;rw[HX.out,nt];rfl
    have HP:Hid _:=And.intro her (And.intro hw2 (And.intro (show s.nodes.length≤s2.nodes.length by omega) (show s2.nodes.length≤s.nodes.length+505*(src.size+1-s.at_)+0 by omega)));have HG:Hid _:=rq.go;clear nt bM hno hz0 hz1 HST yQ HX rq hw2 sk lI lN HM Kc HO her p1;go_wp2_with fail;go_ret;rw[HE.out];exact⟨HP.out.1,0,s2,rfl,HG.out,HP.out.2.1,HP.out.2.2.1,HP.out.2.2.2⟩
  ·have Bd:(er==0)=false:=by simpa using hne
   have HP:Hid _:=And.intro hne (And.intro ku (And.intro ft hb));have HX:Hid _:=hX;have HG:Hid _:=hS.go;clear hne ku ft hb hX hS hrel HI lI lN HM HO;go_wp2_with fail;go_ret;rw[HX.out];exact⟨HP.out.1,0,s1,rfl,HG.out,HP.out.2.1,HP.out.2.2.1,HP.out.2.2.2⟩
end
end Go.Proofs.YtlhimdjkkiflhaaGreat
namespace Go.Proofs.YtlhimdjkkiflhaaGreat
open Go.RowKit Go.Loop
section
variable {w0 w:Λ}{R:Nat}{src:ByteArray}{dp:Nat}{s:FS}{er:Int}{wh:Nat}{nv sv bv:Θ}{ay:List Θ}
theorem bw.UO (h:bw w0 w R src dp s er wh nv sv bv ay){n:Nat}(hn:n<1000)(k:Nat):bA w0 w R src dp nv sv bv { s with label:=λm=>if m=(n:Int)then k else s.label m } er wh (w.setCell ⟨R,8+n,none⟩ (Γ Δ (k:Nat))):=
 h.own rfl rfl rfl rfl rfl rfl (by simp) (λb hb=>bL _ _ _ _ b hb) (by rw[bk h.blk (8+n) _,Zq hn])
theorem Io {base:Nat}{e:Φ}{n cap g:Nat}{xs:List Θ}{i:Nat}{u:Θ}(h:w.ownsRow base e 1 (.slice (some ⟨g,0,none⟩) n cap) n xs):(w.setCell ⟨g,i,none⟩ u).ownsRow base e 1 (.slice (some ⟨g,0,none⟩) n cap) n (xs.set i u):=by
 refine⟨by rw[zcj];exact h.1,.inr ?_⟩;rcases h.2 with⟨e1,_⟩|⟨g',cap',cur,e1,h2,h3,h4,h5,h6,h7⟩
 ·cases e1
 ·cases e1;refine⟨g,cap,cur.setIfInBounds i u,rfl,h2,bk h3 i u,h4,h5,by rw[Array.size_setIfInBounds];exact h6,?_⟩;rw[Array.toList_setIfInBounds,←h7,List.take_set]
theorem bw.UQ (h:bw w0 w R src dp s er wh nv sv bv ay){g cap i:Nat}(hb:bv=.slice (some ⟨g,0,none⟩) s.begun.length cap):bw w0 (w.setCell ⟨g,i,none⟩ (.bool true)) R src dp { s with begun:=s.begun.set i true } er wh nv sv bv ay:=by
 subst hb;have hg:=ba h.jX (b:=g) rfl;have ho:=bL w g i (.bool true);have hne:∀{e:Φ} {z:Nat} {v:Θ} {n:Nat} {xs:List Θ},e≠4→w.ownsRow w0.heap.size e z v n xs→(w.setCell ⟨g,i,none⟩ (.bool true)).ownsRow w0.heap.size e z v n xs:=λhe hr=>bo hr λb e=>ho b λe'=>by subst e';exact fA hr h.jX he e rfl
 refine⟨h.J6,h.low.trans ((zad w0.heap.size w).setCell (p:=⟨g,i,none⟩) hg.1 _),(ho R (λe=>by have:=h.bR;rw[e]at this;exact this rfl)).trans h.blk,hne (by decide) h.iM,hne (by decide) h.jI,?_,h.len,λj x v h1 h2=>hne (by decide) (h.subs j x v h1 h2),h.sep⟩;have:=Io (i:=i) (u:= .bool true) h.jX;show(w.setCell ⟨g,i,none⟩ (.bool true)).ownsRow _ _ _ _ (s.begun.set i true).length ((s.begun.set i true).map .bool);rw[zcj,List.map_set];exact this
theorem bw.Re (h:bw w0 w R src dp s er wh nv sv bv ay){g cap i:Nat}(hb:sv=.slice (some ⟨g,0,none⟩) s.same.length cap)(k:Nat):bw w0 (w.setCell ⟨g,i,none⟩ (Γ Δ (k:Nat))) R src dp { s with same:=s.same.set i (some k) } er wh nv sv bv ay:=by
 subst hb;have hg:=ba h.jI (b:=g) rfl;have ho:=bL w g i (Γ Δ (k:Nat));have hne:∀{e:Φ} {z:Nat} {v:Θ} {n:Nat} {xs:List Θ},(∀b,v.ownBlock=some b→b≠g)→w.ownsRow w0.heap.size e z v n xs→(w.setCell ⟨g,i,none⟩ (Γ Δ (k:Nat))).ownsRow w0.heap.size e z v n xs:=λhe hr=>bo hr λb e=>ho b (he b e);refine⟨h.J6,h.low.trans ((zad w0.heap.size w).setCell (p:=⟨g,i,none⟩) hg.1 _),(ho R (λe=>by have:=h.sR;rw[e]at this;exact this rfl)).trans h.blk,hne (λb e e'=>by subst e';exact fA h.iM h.jI (by decide) e rfl) h.iM,?_,hne (λb e e'=>by subst e';exact fA h.jX h.jI (by decide) e rfl) h.jX,h.len,λj x v h1 h2=>hne (λb e e'=>by subst e';exact h.sep v (zbo h2) b e rfl) (h.subs j x v h1 h2),h.sep⟩;have:=Io (i:=i) (u:= Γ Δ (k:Nat)) h.jI;show(w.setCell ⟨g,i,none⟩ (Γ Δ (k:Nat))).ownsRow _ _ _ _ (s.same.set i (some k)).length ((s.same.set i (some k)).map KQ);rw[zcj,List.map_set];exact this
end
end Go.Proofs.YtlhimdjkkiflhaaGreat
