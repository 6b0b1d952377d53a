import Derived.Test.YtlhimdjkkiflhaaGreatReads32
set_option maxHeartbeats 8000000
set_option maxRecDepth 100000
open Go.Value renaming int→Γ
open Go.IntKind renaming i64→Δ
open Go renaming Value→Θ,World→Λ,Calls→Ξ
namespace Go.Proofs.YtlhimdjkkiflhaaGreat
open Go.Proofs.Tryz
open Go.RowKit Go.Loop
section
variable {w0 w:Λ}{R:Nat}{src:ByteArray}{dp:Nat}{s:FS}{nv sv bv:Θ}{ay:List Θ}
theorem jO.il {wr:Λ}{s1:FS}{er:Int}{a b:Nat}{lv fU gR ik:Θ}{cA:List Θ}{l:List Nat}{cs:Array Θ}(h:jO w0 w R src dp nv sv bv wr s1 er a lv l fU gR ik cA)(hb:wr.heap[b]?=some (.cells cs 57))(h0:w0.heap.size≤w.heap.size)(hl:w.heap.size≤b)(r:RT):jO w0 w R src dp nv sv bv (Proofs.YtlhimdjkkiflhaaGreat.il wr b r) s1 er a lv l fU gR ik cA:=by
 have hB:=mP wr b w.heap.size hl r;refine⟨h.fr.il hb (by omega) r,⟨hB.os.trans h.kf.os,hB.tape.trans h.kf.tape,hB.output.trans h.kf.output,zaj h.kf.size hB.size,λc a1 a2 a3 a4 a5=>(jl wr b r (by omega)).trans (h.kf.block c a1 a2 a3 a4 a5)⟩,h.n,h.s,h.b,bo h.sub λc e=>jl wr b r λe'=>?_,h.sep,h.own⟩;subst e';obtain⟨_,_,cur,hc⟩:=ba h.sub e;rw[hb]at hc;simp at hc
theorem jO.bT {wr:Λ}{s1:FS}{er:Int}{a n k:Nat}{lv fU gR ik:Θ}{cA:List Θ}{l:List Nat}(h:jO w0 w R src dp nv sv bv wr s1 er a lv l fU gR ik cA)(hn:n<1000):∃iT iY iV cK,jO w0 w R src dp nv sv bv (wr.drew.setCell ⟨R,8+n,none⟩ (Γ Δ (k:Nat))) { s1 with label:=λm=>if m=(n:Int)then k else s1.label m } er a lv l iT iY iV cK:=
 jO.call (h.below ((zad _ wr).drew)) (bw.UO (h.below ((zad _ wr).drew)).fr hn k)
theorem jO.Rf {wr w6:Λ}{s1:FS}{er:Int}{a b:Nat}{lv fU gR ik:Θ}{cA:List Θ}{l:List Nat}{cs:Array Θ}{o:Obj}(h:jO w0 w R src dp nv sv bv wr s1 er a lv l fU gR ik cA)(hb:wr.heap[b]?=some (.cells cs 57))(hg:(wr.alloc o).grownBy w6 lv.ownBlock):w6.heap[b]?=some (.cells cs 57):=by
 have hbl:b<wr.heap.size:=(zag.1 hb).1;have hs:(wr.alloc o).heap.size=wr.heap.size+1:=by simp
 rw[hg.block b (by omega) (λe=>?_),zaK _ _ _ hbl]
 ·exact hb
 ·obtain⟨_,_,cur,hc⟩:=ba h.sub e.symm;rw[hb]at hc;simp at hc
theorem qx {e:TypeId}{v:Θ}{n:Nat}{xs:List Θ}{wr:Λ}{lo:Nat}(h:wr.ownsRow lo e 1 v n xs){i:Nat}{u:Θ}(hi:xs[i]?=some u):∃g cap,v=.slice (some ⟨g,0,none⟩) n cap∧wr.cell? ⟨g,i,none⟩=some u∧wr.frozen? ⟨g,i,none⟩=false:=by
 rcases h.2 with⟨_,h0⟩|⟨g,cap,cur,rfl,_,h2,_⟩
 ·have h1:=h.1;have:=(zaD.1 hi).1;omega
 ·refine⟨g,cap,rfl,?_,by simp[Λ.frozen?,h2]⟩;have:=h.cells (g:=g) rfl i u hi;rw[addr_add]at this;exact this
theorem jO.M9 {wr:Λ}{s1:FS}{er:Int}{a b i:Nat}{lv fU gR ik:Θ}{cA:List Θ}{l:List Nat}{cs:Array Θ}(h:jO w0 w R src dp nv sv bv wr s1 er a lv l fU gR ik cA)(hb:wr.heap[b]?=some (.cells cs 57))(hi:i<s1.begun.length):∃g cap u,ik=.slice (some ⟨g,0,none⟩) s1.begun.length cap∧wr.cell? ⟨g,i,none⟩=some u∧wr.frozen? ⟨g,i,none⟩=false∧jO w0 w R src dp nv sv bv (wr.drew.setCell ⟨g,i,none⟩ (.bool true)) { s1 with begun:=s1.begun.set i true } er a lv l fU gR ik cA∧(wr.drew.setCell ⟨g,i,none⟩ (.bool true)).heap[b]?=some (.cells cs 57):=by
 obtain⟨g,cap,Kh,hc,hf⟩:=qx h.fr.jX (i:=i) (u:= .bool s1.begun[i]) (by simp[hi]);have hd:=h.below ((zad _ wr).drew);have ho:=bL wr.drew g i (.bool true);have V6:ik.ownBlock=some g:=by rw[Kh];rfl
 refine⟨g,cap,_,Kh,hc,hf,⟨bw.UQ hd.fr Kh,⟨hd.kf.os,hd.kf.tape,hd.kf.output,zaj hd.kf.size (by simp),λc a1 a2 a3 a4 a5=>(ho c λe=>?_).trans (hd.kf.block c a1 a2 a3 a4 a5)⟩,hd.n,hd.s,⟨hd.b.n,hd.b.av⟩,bo hd.sub λc e=>ho c λe'=>?_,hd.sep,hd.own⟩,(ho b λe=>?_).trans hb⟩
 ·exact hd.b.n.ne a1 a5 (e▸V6)
 ·exact fA hd.sub hd.fr.jX (by decide) e (e'▸V6.symm)
 ·obtain⟨_,_,cur,hcc⟩:=ba h.fr.jX (e▸V6);rw[hb]at hcc;simp at hcc
theorem jO.sam {wr:Λ}{s1:FS}{er:Int}{a i:Nat}{lv fU gR ik:Θ}{cA:List Θ}{l:List Nat}(h:jO w0 w R src dp nv sv bv wr s1 er a lv l fU gR ik cA)(hi:i<s1.same.length)(k:Nat):∃g cap u,gR=.slice (some ⟨g,0,none⟩) s1.same.length cap∧wr.cell? ⟨g,i,none⟩=some u∧wr.frozen? ⟨g,i,none⟩=false∧jO w0 w R src dp nv sv bv (wr.drew.setCell ⟨g,i,none⟩ (Γ Δ (k:Nat))) { s1 with same:=s1.same.set i (some k) } er a lv l fU gR ik cA:=by
 obtain⟨g,cap,Kh,hc,hf⟩:=qx h.fr.jI (i:=i) (u:=KQ s1.same[i]) (by simp[hi]);have hd:=h.below ((zad _ wr).drew);have ho:=bL wr.drew g i (Γ Δ (k:Nat));have V6:gR.ownBlock=some g:=by rw[Kh];rfl
 refine⟨g,cap,_,Kh,hc,hf,bw.Re hd.fr Kh k,⟨hd.kf.os,hd.kf.tape,hd.kf.output,zaj hd.kf.size (by simp),λc a1 a2 a3 a4 a5=>(ho c λe=>?_).trans (hd.kf.block c a1 a2 a3 a4 a5)⟩,hd.n,hd.s,⟨hd.b.n,hd.b.av⟩,bo hd.sub λc e=>ho c λe'=>?_,hd.sep,hd.own⟩
 ·exact hd.s.ne a1 a4 (e▸V6)
 ·exact(hd.sep c e).1 (e'▸V6)
def su (s:FS)(M:List Nat)(k:Nat):FS:={ s with begun:=(M.take k).foldl (λl i=>l.set i true) s.begun }
def Ip (s:FS)(M:List Nat)(n k:Nat):FS:={ s with same:=(M.take k).foldl (λl i=>l.set i (some n)) s.same }
theorem Ki {s:FS}{M:List Nat}{k i:Nat}(h:M[k]?=some i):su s M (k+1)={ su s M k with begun:=(su s M k).begun.set i true }:=by
 have hk:k<M.length:=(zaD.1 h).1;have hi:M[k]=i:=(zaD.1 h).2;unfold su;rw[List.take_succ_eq_append_getElem hk,List.foldl_append,hi];rfl
theorem NP {s:FS}{M:List Nat}{n k i:Nat}(h:M[k]?=some i):Ip s M n (k+1)={ Ip s M n k with same:=(Ip s M n k).same.set i (some n) }:=by
 have hk:k<M.length:=(zaD.1 h).1;have hi:M[k]=i:=(zaD.1 h).2;unfold Ip;rw[List.take_succ_eq_append_getElem hk,List.foldl_append,hi];rfl
theorem NQ (s:FS)(M:List Nat):su s M M.length=s.aZ M:=by unfold su;rw[List.take_length];rfl
theorem Rg (s:FS)(M:List Nat)(n:Nat):Ip s M n M.length=s.is M n:=by unfold Ip;rw[List.take_length];rfl
theorem NR (s:FS)(M:List Nat)(k:Nat):(su s M k).begun.length=s.begun.length:=by unfold su;exact kR _ _ _
theorem Rh (s:FS)(M:List Nat)(n k:Nat):(Ip s M n k).same.length=s.same.length:=by unfold Ip;exact kR _ _ _
theorem jO.at_ {wr:Λ}{s1:FS}{er:Int}{a k i:Nat}{lv fU gR ik:Θ}{cA:List Θ}{l:List Nat}(h:jO w0 w R src dp nv sv bv wr s1 er a lv l fU gR ik cA)(hk:l[k]?=some i):∃g cap,lv=.slice (some ⟨g,0,none⟩) l.length cap∧wr.cell? ⟨g,k,none⟩=some (Γ Δ (i:Int)):=by
 obtain⟨g,cap,h1,h2,_⟩:=qx h.sub (i:=k) (u:= Γ Δ (i:Int)) (by simp[hk]);exact⟨g,cap,h1,h2⟩
def DaI (w0 w:Λ)(R:Nat)(src:ByteArray)(dp:Nat)(s:FS)(nv sv bv:Θ)(over:Bool)(m b:Nat)(X:FR Nat)(dv lv:Θ)(wr:Λ):Prop:=
 ∃(s1:FS) (deep:Nat) (r1:RT) (M:List Nat) (fU gR ik:Θ) (cA:List Θ),dv=Γ Δ deep∧deep≤dp∧r1=ck src s1.at_∧wr.heap[b]?=some (.cells (dU r1) 57)∧jO w0 w R src dp nv sv bv wr s1 0 0 lv M fU gR ik cA∧Fw src.size s1∧s.nodes.length≤s1.nodes.length∧(∀i∈M,i<s1.nodes.length)∧s.at_+M.length≤s1.at_∧Sz src.size 0 0 s s1∧∃j,j≤m∧X=dS (ck src) dp j r1 deep over M s1
def DaJ (w0 w:Λ)(R:Nat)(src:ByteArray)(dp:Nat)(nv sv bv:Θ)(b:Nat)(r1:RT)(M:List Nat)(lv:Θ)(X:FR Nat)(s1:FS)(x:Θ)(wc:Λ):Prop:=
 ∃(sA:FS) (iT iY iV:Θ) (cK:List Θ),jO w0 w R src dp nv sv bv wc sA 0 0 lv M iT iY iV cK∧wc.heap[b]?=some (.cells (dU r1) 57)∧Fw src.size sA∧sA.nodes.length=s1.nodes.length∧((r1.k=97∧∃n:Nat,x=Γ Δ (n:Int)∧X=.ok n ((sA.aZ M).is M n))∨(r1.k≠97∧sA=s1∧x=Γ Δ 0))
def DaK (w0 w:Λ)(R:Nat)(src:ByteArray)(dp:Nat)(nv sv bv:Θ)(M:List Nat)(lv:Θ)(X:FR Nat)(s s1:FS)(x:Θ)(wc:Λ):Prop:=
 ∃(er:Int) (a:Nat) (sB:FS) (n:Nat) (iT iY iV:Θ) (cK:List Θ),x=Γ Δ (n:Int)∧jO w0 w R src dp nv sv bv wc sB er a lv M iT iY iV cK∧Fw src.size sB∧s1.nodes.length≤sB.nodes.length∧(er=0→a=0∧X=.ok n (sB.is M n))∧(er≠0→X=.fail er a∧sB.nodes.length≤s.nodes.length+505*(src.size+1-s.at_))
theorem Iq {s1 s3:FS}{r1 r:RT}{M:List Nat}{m j b uZ:Nat}{X:FR Nat}{v7 nv8 sv8 bv8:Θ}{UR:List Θ}{w8:Λ}{n:Int}(Gj:w0.heap.size≤w.heap.size)(F2:w.heap.size≤b)(nu:Sz src.size 0 0 s s1)(ku:Fw src.size s1)(l1:s1.at_<r1.t)(l2:r1.t≤src.size)(hsz:src.size≤400)(hM:∀i∈M,i<s1.nodes.length)(Oz:s.at_+M.length≤s1.at_)(hdd:uZ+1≤dp)(hj:j+1≤m)
 (hX:X=(cX (ck src) dp j (uZ+1) ((s1.to r1.t).bT n)).bind λt' s'=>dS (ck src) dp j t' (uZ+1) false (M++[s1.nodes.length]) s')(nt:cX (ck src) dp j (uZ+1) ((s1.to r1.t).bT n)=.ok r s3)(hr:r=ck src s3.at_)(BW:Sz src.size 0 0 ((s1.to r1.t).bT n) s3)(KB:jO w0 w R src dp nv sv bv w8 s3 0 0 v7 (M++[s1.nodes.length]) nv8 sv8 bv8 UR)(KO:w8.heap[b]?=some (.cells (dU r1) 57)):
 DaI w0 w R src dp s nv sv bv false m b X (Γ Δ ((uZ:Int)+1)) v7 (il w8 b r)∧Kb R (il w8 b r)<1001-s1.at_:=by
 have X0:=KB.il KO Gj F2 r;have t0:=Sz.to ku l2 l1;have t1:=Sz.Na t0.fw n;have a1:=t1.at_;have a2:=BW.at_;have a3:=BW.ge;have a4:=t1.ge;have e1:((s1.to r1.t).bT n).nodes.length=s1.nodes.length+1:=by show(s1.nodes++[fq]).length=_;simp
 have e2:((s1.to r1.t).bT n).at_=r1.t:=rfl;have e3:(s1.to r1.t).at_=r1.t:=rfl;have a5:=BW.fw.an;refine⟨⟨s3,uZ+1,r,M++[s1.nodes.length],nv8,sv8,bv8,UR,by rw[show((uZ+1:Nat):Int)=(uZ:Int)+1 by omega],hdd,hr,r9 KO r,X0,BW.fw,?_,λi hi=>?_,?_,((nu.trans t0 (c2:=5) (d2:=0) (by omega)).trans t1 (c2:=0) (d2:=0) (by omega)).trans BW (by omega),j,by omega,?_⟩,?_⟩
 ·have:=nu.ge;omega
 ·rcases zaQ.1 hi with h1|h1
  ·have:=hM i h1;omega
  ·rw[zcq.1 h1];omega
 ·rw[zaT];simp only[zas,zbp];omega
 ·rw[hX,nt];rfl
 ·rw[qw X0.fr,zac rfl];have:=ku.an;omega
theorem NT (hL:Lk (ck src) src.size)(hsz:src.size≤400){m:Nat}(ih:∀j,j≤m→OM w0 R src dp j)(h:bw w0 w R src dp s 0 0 nv sv bv ay)(hw:Fw src.size s)(hn:s.nodes.length+505*(src.size+1-s.at_)≤300000)(deep:Nat)(over:Bool)(hd:deep≤dp)(qa:dp≤1000)(ho:bz (ck src) dp (m+1) deep over s≠.out):Ξ prog 9 #[ai R,Γ Δ deep,.bool over] w (dL w0 w R src dp nv sv bv s 0 (bz (ck src) dp (m+1) deep over s)):=by
 simp only[bz]at ho ⊢;have yP:cX (ck src) dp m deep s≠.out:=dV ho;have HT:Hid _:=(ih m (zab _)).tok w s nv sv bv ay deep h hw hn hd yP;have yQ:Hid _:=yP;have HST:Hid _:=λr s' e=>(eB (dp:=dp) hL m).tok deep s r s' hw e;have HX:Hid (∃X,X=(cX (ck src) dp m deep s).bind λt s=>dS (ck src) dp m t deep over [] s):=⟨_,rfl⟩;obtain⟨X,hX⟩:=HX.out;rw[←hX]at ho ⊢;have HO:Hid _:=ho;have Sx:Hid _:=hX;have lI:Hid _:=ih;have lN:Hid _:=hL;have HH:Hid _:=h;have hlt:=h.ko;have V2:=hw.an;have Gj:=h.low.size;clear h hw ih hL ho yP hX HX;unfold ai at HT;unfold ai;go_enter func9,ntmps9;go_wp2_with fail;refine zae HT.out ?_;intro e w2 hres;obtain⟨er,a,s2,r,rfl,hR,bM,hno⟩:=oB yQ.out hres (λr s' e=>(HST.out r s' e).1);clear hres HT;simp only[aK];obtain⟨hgo,hw2,sk,hz0,hz1⟩:=hR;obtain⟨iT,iY,iV,cK,g1,g2,g3,g4,g5⟩:=hgo;have T6:=g1.ko;have Ow:=g2.size;have ZP:¬R=w2.heap.size:=by omega
 obtain⟨_,_,_,_,d4,_,_,_,_⟩:=bu g1.blk;have wy:jO w0 w R src dp nv sv bv (w2.alloc (.cells #[.int .u8 r.k,Γ Δ r.f,Γ Δ r.t,.string ⟨⟨r.x⟩⟩,Γ Δ r.n,Γ Δ r.d] 57)) s2 er a (.slice none 0 0) [] iT iY iV cK:=jO.below ⟨g1,g2,g3,g4,g5,BR _ _,(λb e=>by cases e),λv _ b _ e=>by cases e⟩ ((zad _ w2).alloc (zab _) _);by_cases her:er=0
 ·subst her;obtain⟨rfl,nu⟩:=hz0 rfl;have nt:=bM rfl;have hr2:=(HST.out r s2 nt).2;have HI:Hid (DaI w0 w R src dp s nv sv bv over m w2.heap.size X (Γ Δ deep) (.slice none 0 0) (w2.alloc (.cells #[.int .u8 r.k,Γ Δ r.f,Γ Δ r.t,.string ⟨⟨r.x⟩⟩,Γ Δ r.n,Γ Δ r.d] 57))):=by
   refine⟨s2,deep,r,[],iT,iY,iV,cK,rfl,hd,hr2,?_,wy,hw2,nu.ge,(λi hi=>by cases hi),by simpa using nu.at_,nu,m,zab _,?_⟩
   ·show(w2.heap.push _)[w2.heap.size]?=_;simp[dU]
   ·rw[Sx.out,nt];rfl
  clear nt bM hno hz0 hz1 nu HST yQ Sx wy hr2 hw2 sk g1 g2 g3 g4 g5 HH;go_wp2_with fail;generalize w2.heap.size=b at *;go_loopw [1,8] (λdv lv wr=>Hid (DaI w0 w R src dp s nv sv bv over m b X dv lv wr)) (λ_ _ wr=>Kb R wr)
  case atStart=>exact HI
  case round=>
   obtain⟨s1,uZ,r1,M,fU,gR,ik,cA,rfl,yL,hr1,B7,hS,ku,ft,hM,Oz,nu,j,hj,hX⟩:=hrel.out;obtain⟨c0,c1,c2,_,c4,_,_,_,_⟩:=bu hS.fr.blk;obtain⟨t0,t1,t2,t3,t4,t5⟩:=oA B7;have HM:Hid _:=qw hS.fr;obtain⟨la,lc,rfl⟩:=aw hS.sub;by_cases Kj:r1.k=112
   ·have ZW:((r1.k:Int)==112)=true:=by simp;omega
    obtain⟨j',rfl⟩:∃j',j=j'+1:=by
     cases j with
     |zero=>simp only[dS]at hX;exact absurd hX HO.out
     |succ j=>exact⟨j,rfl⟩
    simp only[dS]at hX;rw[zac Kj]at hX;have F2:=lN.out.bT s1.at_ (by rw[←hr1];exact .inl Kj);rw[←hr1]at F2;obtain⟨nn,zi⟩:=zbu F2.1;have yc:nn<1000:=by omega
    have Ek:=Ge hS.fr.blk yc;have hni:(nn:Int)<1000:=by omega
    have ED:=hS.below ((zad _ wr).drew);rw[zi]at t4 hX;have q1:=nu.nn;have q2:=nu.at_;have q3:=ku.an;by_cases fM:0<s1.label nn∨over=true
    ·rw[zac fM]at hX;have HE:Hid _:=hX;have HF:Hid _:=pg ED.fr 5 r1.f;have vB:Hid (∀w4,bA w0 wr.drew R src dp fU gR ik s1 5 r1.f w4→bA w0 w R src dp nv sv bv s1 5 r1.f w4):=λw4 hq=>by
      obtain⟨sf,si,sj,gS,lL⟩:=ED.call hq;exact lL.go
     have HP:Hid _:=And.intro ku (And.intro ft (show s1.nodes.length≤s.nodes.length+505*(src.size+1-s.at_)+0 by omega));have ZX:0<s1.label nn∨(s1.label nn=0∧over=true):=by
      by_cases hp:0<s1.label nn
      ·exact .inl hp
      ·exact .inr ⟨by omega,fM.resolve_left hp⟩
     clear hrel HI lI lN HO hX fM hS ED ku nu hM hr1 B7 HM F2 zi;unfold ai at HF;rcases ZX with hl0|⟨hl0,rfl⟩
     all_goals
      go_wp2_with fail
      go_cut [34] (λx wc=>x=.bool true∧wc=wr.drew)
      case first=>
       go_region;all_goals
        go_wp2_with fail
        go_meet
        case rel=>exact⟨rfl,rfl⟩
      case rest=>
       obtain⟨rfl,rfl⟩:=hcut;clear c0 c1 c2 c4 Ek;go_wp2_with fail;refine zae HF.out ?_;rintro e w4 ⟨rfl,hq⟩;have HG:Hid _:=vB.out w4 hq;clear hq HF vB;go_wp2_with fail;go_ret;rw[HE.out];exact⟨by decide,0,s1,rfl,HG.out,HP.out.1,HP.out.2.1,HP.out.2.2⟩
    ·rw[zaa fM]at hX;have NU:over=false:=by cases over with|false=>rfl|true=>exact absurd (.inr rfl) fM
     have hl0:s1.label nn=0:=by have:¬0<s1.label nn:=λq=>fM (.inl q);omega
     subst NU;by_cases hdd:dp<uZ+1
     ·rw[zac hdd]at hX;have HE:Hid _:=hX;have HF:Hid _:=pg ED.fr 6 r1.f;have vB:Hid (∀w4,bA w0 wr.drew R src dp fU gR ik s1 6 r1.f w4→bA w0 w R src dp nv sv bv s1 6 r1.f w4):=λw4 hq=>by
       obtain⟨sf,si,sj,gS,lL⟩:=ED.call hq;exact lL.go
      have HP:Hid _:=And.intro ku (And.intro ft (show s1.nodes.length≤s.nodes.length+505*(src.size+1-s.at_)+0 by omega));clear hrel HI lI lN HO hX fM hS ED ku nu hM hr1 B7 HM F2 zi;unfold ai at HF;go_wp2_with fail
      go_cut [34] (λx wc=>x=.bool false∧wc=wr.drew)
      case first=>
       go_region;all_goals
        go_wp2_with fail
        go_meet
        case rel=>exact⟨rfl,rfl⟩
      case rest=>
       obtain⟨rfl,rfl⟩:=hcut;clear c0 c2 c4 Ek;go_wp2_with fail;refine zae HF.out ?_;rintro e w4 ⟨rfl,hq⟩;have HG:Hid _:=vB.out w4 hq;clear hq HF vB;go_wp2_with fail;go_ret;rw[HE.out];exact⟨by decide,0,s1,rfl,HG.out,HP.out.1,HP.out.2.1,HP.out.2.2⟩
     ·rw[zaa hdd]at hX;obtain⟨l1,l2⟩:=lN.out.go s1.at_ ku.an (by rw[←hr1,Kj];decide) (by rw[←hr1,Kj];decide);rw[←hr1]at l1 l2;have yP:cX (ck src) dp j' (uZ+1) ((s1.to r1.t).bT nn)≠.out:=dV (by rw[←hX];exact HO.out);have lO:Hid _:=js ED.fr r1;have UT:Hid (∀w4,bA w0 wr.drew R src dp fU gR ik (s1.to r1.t) 0 0 w4→w4.heap[b]?=some (.cells (dU r1) 57)∧Ξ prog 18 #[ai R,fV fq (.slice none 0 0)] w4 λe w'=>e=.returned (Γ Δ s1.nodes.length)∧w'.heap[b]?=some (.cells (dU r1) 57)∧∃Ik Il Im sr,jO w0 w R src dp nv sv bv w' ((s1.to r1.t).add fq) 0 0 (.slice la M.length lc) M Ik Il Im sr):=λw4 hq=>by
       obtain⟨sf,si,sj,gS,f1,f2,f3,f4,f5⟩:=hq;have hb4:=Kf.tok ED.fr f2 (show wr.drew.heap[b]?=_ from B7);obtain⟨sf,si,sj,gS,lL⟩:=ED.call ⟨sf,si,sj,gS,f1,f2,f3,f4,f5⟩;refine⟨hb4,(xN lL.fr fq rfl (by show s1.nodes.length+1≤1000000;omega) (by show s1.same.length+1≤1000000;rw[ku.sl];omega) (by show s1.begun.length+1≤1000000;rw[ku.bl];omega)).mono ?_⟩;rintro e w5 ⟨rfl,hg⟩;refine⟨rfl,?_,lL.call hg⟩;obtain⟨_,_,_,_,_,k2,_⟩:=hg;exact Kf.tok lL.fr k2 hb4
      clear hrel HI ED hS;unfold ai aK at lO;rw[zi]at lO;unfold ai fV at UT;have kV:Hid _:=And.intro hX (And.intro yP (And.intro ku (And.intro nu (And.intro hM (And.intro hr1 B7)))));have HNN:Hid _:=zi;clear hX yP ku nu hM hr1 B7 fM F2 zi Kj;go_wp2_with fail
      go_cut [34] (λx wc=>x=.bool false∧wc=wr.drew)
      case first=>
       go_region;all_goals
        go_wp2_with fail
        go_meet
        case rel=>exact⟨rfl,rfl⟩
      case rest=>
       obtain⟨rfl,rfl⟩:=hcut;clear c0 c2 c4 Ek;go_wp2_with fail;refine zae lO.out ?_;rintro e w4 ⟨rfl,hq⟩;obtain⟨hb4,fP⟩:=UT.out w4 hq;have HC:Hid _:=fP;clear fP hq lO UT c1 t0 t1 t2 t3 t4 t5;go_wp2_with fail;refine zae HC.out ?_;rintro e w5 ⟨rfl,qA,Ik,Il,Im,sr,vp⟩;clear HC hb4;obtain⟨t0,t1,t2,t3,t4,t5⟩:=oA qA;rw[HNN.out]at t4;have ZY:=Ge vp.fr.blk yc;have adC:=ky vp.fr.blk (8+nn);have hbR:=(vp.fr.UG qA).1;have aeG:¬R=b:=λe=>hbR e.symm;obtain⟨iI,QT,BL,BM,BN⟩:=info_parts ox;obtain⟨nv6,sv6,bv6,ZT,Ot⟩:=vp.bT (k:=s1.nodes.length+1) yc;have uq:(w5.drew.setCell ⟨R,8+nn,none⟩ (Γ Δ ((s1.nodes.length+1:Nat):Int))).heap[b]?=some (.cells (dU r1) 57):=(bL _ _ _ _ b hbR).trans qA;rw[show((s1.nodes.length+1:Nat):Int)=(s1.nodes.length:Int)+1 by omega]at Ot uq;have NL:Hid _:=Ot;have Bu:Hid _:=uq;clear Ot uq vp qA;go_wp2_with fail
       go_cut [] (λwc=>wc=w5.drew.setCell ⟨R,8+nn,none⟩ (Γ Δ ((s1.nodes.length:Int)+1)))
       case first=>
        go_region;all_goals
         go_wp2_with fail
         go_meet
         case rel=>rfl
       case rest=>
        clear t0 t1 t2 t3 t4 t5 ZY adC;generalize w5.drew.setCell ⟨R,8+nn,none⟩ (Γ Δ ((s1.nodes.length:Int)+1))=w6 at *;subst hcut;have hlen:M.length+1≤1000000:=by omega
        have HL6:Hid (w0.heap.size≤(wc.alloc (.cells #[Γ Δ (s1.nodes.length:Int)] 3)).heap.size):=by have:=NL.out.fr.low.size;show _≤_;simp;omega
        have Gk:Hid (∀(w7:Λ) v7 nv7 sv7 bv7 UU,jO w0 w R src dp nv sv bv w7 ((s1.to r1.t).bT nn) 0 0 v7 (M++[s1.nodes.length]) nv7 sv7 bv7 UU→Ξ prog 15 #[ai R,Γ Δ ((uZ:Int)+1)] w7 (Ed w0 w7 R src dp nv7 sv7 bv7 ((s1.to r1.t).bT nn) (cX (ck src) dp j' (uZ+1) ((s1.to r1.t).bT nn)))):=λw7 v7 nv7 sv7 bv7 UU hq=>by
         have hc:=(lI.out j' (by omega)).tok w7 ((s1.to r1.t).bT nn) nv7 sv7 bv7 UU (uZ+1) hq.fr ((kV.out.2.2.1.to l2).bT nn) (by
          show(s1.nodes++[fq]).length + 505*(src.size+1-r1.t)≤300000;simp;omega) (by omega) kV.out.2.1
         rw[show((uZ+1:Nat):Int)=(uZ:Int)+1 by omega]at hc;exact hc
        unfold ai at Gk;go_wp2_with (at_builtin;refine cj rfl _ _ 40 rfl w0.heap.size 3 iI (Γ Δ 0) 8 kU QT BL BM BN (by decide) rfl _ M.length (M.map λk:Nat=>Θ.int .i64 (k:Int)) rfl (zbL NL.out.sub _) ⟨wc.heap.size,0,none⟩ 1 1 [Γ Δ (s1.nodes.length:Int)] rfl (by decide) rfl (pj wc _ _) (po rfl) hlen HL6.out ?_;intro v7 w7 hown hgrow cG;have KM:Hid _:=NL.out.more hown hgrow cG;have MW:Hid _:=NL.out.Rf Bu.out hgrow;clear hown hgrow cG);refine zae (Gk.out _ _ _ _ _ _ KM.out) ?_;intro e w8 hres;obtain⟨er,a,s3,r,rfl,hR,bM,hno⟩:=oB kV.out.2.1 hres (λr s' e=>((eB (dp:=dp) lN.out j').tok (uZ+1) ((s1.to r1.t).bT nn) r s' ((kV.out.2.2.1.to l2).bT nn) e).1);clear hres Gk;simp only[aK];obtain⟨hgo,hw3,Ee,hz0,hz1⟩:=hR;have KO:w8.heap[b]?=some (.cells (dU r1) 57):=by
         obtain⟨_,_,_,_,_,k2,_⟩:=hgo;exact Kf.tok KM.out.fr k2 MW.out
        obtain⟨nv8,sv8,bv8,UR,KB⟩:=KM.out.call hgo;obtain⟨t0,t1,t2,t3,t4,t5⟩:=oA KO;have H7:∀o,w8.frozen? ⟨b,o,none⟩=false:=λo=>by simp[Λ.frozen?,KO]
        obtain⟨_,_,_,_,d4,_,_,_,_⟩:=bu KB.fr.blk;have tI:Hid _:=And.intro bM (And.intro hno (And.intro hw3 (And.intro Ee (And.intro hz0 (And.intro hz1 (And.intro KO KB))))));have p1:s1.nodes.length+1≤s3.nodes.length:=by
         have h1:(s1.nodes++[fq]).length≤s3.nodes.length:=Ee;simp at h1;omega
        have Kc:Hid (Kb R wr=1001-s1.at_):=HM.out;clear hgo bM hno hw3 Ee hz0 hz1 KO KB HM KM MW NL Bu;by_cases her:er=0
        ·subst her;go_wp2_with fail;go_roundw
         case rel=>
          obtain⟨rfl,BW⟩:=tI.out.2.2.2.2.1 rfl;exact(Iq Gj Ow kV.out.2.2.2.1 kV.out.2.2.1 l1 l2 hsz kV.out.2.2.2.2.1 Oz (by omega) hj kV.out.1 (tI.out.1 rfl) ((eB (dp:=dp) lN.out j').tok (uZ+1) ((s1.to r1.t).bT nn) r s3 ((kV.out.2.2.1.to l2).bT nn) (tI.out.1 rfl)).2 BW tI.out.2.2.2.2.2.2.2 tI.out.2.2.2.2.2.2.1).1
         case measure=>
          obtain⟨rfl,BW⟩:=tI.out.2.2.2.2.1 rfl;rw[Kc.out];exact(Iq Gj Ow kV.out.2.2.2.1 kV.out.2.2.1 l1 l2 hsz kV.out.2.2.2.2.1 Oz (by omega) hj kV.out.1 (tI.out.1 rfl) ((eB (dp:=dp) lN.out j').tok (uZ+1) ((s1.to r1.t).bT nn) r s3 ((kV.out.2.2.1.to l2).bT nn) (tI.out.1 rfl)).2 BW tI.out.2.2.2.2.2.2.2 tI.out.2.2.2.2.2.2.1).2
        ·have NH:(er != 0)=true:=by simpa using her
         go_wp2_with fail;go_ret;have hz:=tI.out.2.2.2.2.2.1 her;have e1:((s1.to r1.t).bT nn).nodes.length=s1.nodes.length+1:=by show(s1.nodes++[fq]).length=_;simp
         have e2:((s1.to r1.t).bT nn).at_=r1.t:=rfl;rw[kV.out.1,tI.out.2.1 her];exact⟨her,0,s3,rfl,(tI.out.2.2.2.2.2.2.2.il tI.out.2.2.2.2.2.2.1 Gj Ow r).go,tI.out.2.2.1,by omega,by omega⟩
   ·have ZW:((r1.k:Int)==112)=false:=by simp;omega
    obtain⟨j',rfl⟩:∃j',j=j'+1:=by
     cases j with
     |zero=>simp only[dS]at hX;exact absurd hX HO.out
     |succ j=>exact⟨j,rfl⟩
    simp only[dS]at hX;rw[zaa Kj]at hX;have q1:=nu.nn;have q2:=nu.at_;have q3:=ku.an;have aeg:=ku.sl;have aeh:=ku.bl;have HX:Hid _:=hX;have HS:Hid _:=hS;have V3:Hid _:=B7;have ZZ:Hid _:=ku;have HMM:Hid _:=hM;have sH:Hid _:=hr1;clear hX hS B7 ku hrel HI nu hM hr1 c0 c1 c2 c4 HM
    go_upto_if 80 with fail
    go_cut [10] (λx wc=>Hid (DaJ w0 w R src dp nv sv bv b r1 M (.slice la M.length lc) X s1 x wc))
    case first=>
     by_cases Ri:r1.k=97
     ·have UW:((r1.k:Int)==97)=true:=by simp;omega
      have hX:=HX.out;rw[zac Ri]at hX;have F2:=lN.out.bT s1.at_ (by rw[←sH.out];exact .inr Ri);rw[←sH.out]at F2;obtain⟨nn,zi⟩:=zbu F2.1;have yc:nn<1000:=by omega
      have Ek:=Ge HS.out.fr.blk yc;have hni:(nn:Int)<1000:=by omega
      rw[zi]at t4 hX;have ED:=HS.out.below ((zad _ wr).drew);have HF:Hid _:=pg ED.fr 5 r1.f;have vB:Hid (∀w4,bA w0 wr.drew R src dp fU gR ik s1 5 r1.f w4→bA w0 w R src dp nv sv bv s1 5 r1.f w4):=λw4 hq=>by
       obtain⟨sf,si,sj,gS,lL⟩:=ED.call hq;exact lL.go
      have HP:Hid _:=And.intro ZZ.out (And.intro ft (show s1.nodes.length≤s.nodes.length+505*(src.size+1-s.at_)+0 by omega));have BQ:Hid _:=ED;obtain⟨_,_,_,_,_,_,_,_,c8⟩:=bu ED.fr.blk;unfold ai at HF;clear ED F2;cases JK:s1.label nn with
      |zero=>
       rw[JK]at Ek hX;rw[zac (.inl rfl)]at hX;have HE:Hid _:=hX;clear hX zi;go_wp2_with fail
       go_cut [10] (λx wc=>x=Γ Δ (-1)∧wc=wr.drew)
       case first=>
        go_region;all_goals
         go_wp2_with fail
         go_meet
         case rel=>exact⟨by go_num,rfl⟩
       case rest=>
        obtain⟨rfl,rfl⟩:=hcut;clear Ek;go_wp2_with fail;refine zae HF.out ?_;rintro e w4 ⟨rfl,hq⟩;have HG:Hid _:=vB.out w4 hq;clear hq HF vB;go_wp2_with fail;go_ret;rw[HE.out];exact⟨by decide,0,s1,rfl,HG.out,HP.out.1,HP.out.2.1,HP.out.2.2⟩
      |succ i=>
       have hil:=ZZ.out.lr nn;rw[JK]at Ek hX hil;have hib:i<s1.begun.length:=by omega
       obtain⟨gb,cb,Kh,Z0,_⟩:=qx BQ.out.fr.jX (i:=i) (u:= .bool s1.begun[i]) (by simp[hib]);have hbi:s1.begun[i+1-1]?=some s1.begun[i]:=by simp[hib]
       rw[hbi]at hX;subst Kh;have aeH:(i:Int)<(s1.begun.length:Int):=by omega
       have hX':X=if over=true∨s1.begun[i]=false then .fail 5 r1.f else .ok i (((s1.to r1.t).aZ M).is M i):=by
        rw[hX];cases over<;>cases s1.begun[i]<;>simp
       have HE:Hid _:=hX';have lO:Hid _:=js BQ.out.fr r1;obtain⟨g1,g2⟩:=lN.out.go s1.at_ ZZ.out.an (by rw[←sH.out,Ri];decide) (by rw[←sH.out,Ri];decide);rw[←sH.out]at g1 g2;have HJ:Hid (∀w4,bA w0 wr.drew R src dp fU gR (.slice (some ⟨gb,0,none⟩) s1.begun.length cb) (s1.to r1.t) 0 0 w4→X=.ok i (((s1.to r1.t).aZ M).is M i)→DaJ w0 w R src dp nv sv bv b r1 M (.slice la M.length lc) X s1 (Γ Δ (i:Int)) w4):=λw4 hq hx=>by
        have hb4:w4.heap[b]?=some (.cells (dU r1) 57):=by
         obtain⟨_,_,_,_,_,k2,_⟩:=hq;exact Kf.tok BQ.out.fr k2 (show wr.drew.heap[b]?=_ from V3.out)
        obtain⟨sf,si,sj,gS,lL⟩:=BQ.out.call hq;exact⟨s1.to r1.t,sf,si,sj,gS,lL,hb4,ZZ.out.to g2,rfl,.inl ⟨Ri,i,rfl,hx⟩⟩
       generalize s1.begun[i]=bg at *;unfold ai aK at lO;rw[zi,show((r1.k:Nat):Int)=97 by omega]at lO;clear hX hX' hbi zi;go_wp2_with fail
       go_cut [10] (λx wc=>x=Γ Δ (i:Int)∧wc=wr.drew)
       case first=>
        go_region;all_goals
         go_wp2_with fail
         go_meet
         case rel=>exact⟨by go_num,rfl⟩
       case rest=>
        obtain⟨rfl,rfl⟩:=hcut;clear Ek;have fT:(over=true∨bg=false)∨(over=false∧bg=true):=by
         cases over with
         |true=>exact .inl (.inl rfl)
         |false=>
          cases bg with
          |true=>exact .inr ⟨rfl,rfl⟩
          |false=>exact .inl (.inr rfl)
        rcases fT with fM|⟨rfl,rfl⟩
        ·have jG:Hid (X=.fail 5 r1.f):=by show _=_;rw[HE.out,zac fM]
         have NU:over=true∨(over=false∧bg=false):=by
          cases over with
          |true=>exact .inl rfl
          |false=>exact .inr ⟨rfl,fM.resolve_left (λq=>by cases q)⟩
         clear HE lO HJ;rcases NU with rfl|⟨rfl,rfl⟩
         all_goals
          go_wp2_with fail;refine zae HF.out ?_;rintro e w4 ⟨rfl,hq⟩;have HG:Hid _:=vB.out w4 hq;clear hq HF vB;go_wp2_with fail;go_ret;rw[jG.out];exact⟨by decide,0,s1,rfl,HG.out,HP.out.1,HP.out.2.1,HP.out.2.2⟩
        ·have jG:Hid (X=.ok i (((s1.to r1.t).aZ M).is M i)):=by show _=_;rw[HE.out,zaa (by simp)]
         clear HE HF vB;go_wp2_with fail;refine zae lO.out ?_;rintro e w4 ⟨rfl,hq⟩;have HJ2:Hid _:=HJ.out w4 hq jG.out;clear hq lO HJ;go_wp2_with fail
         go_meet
         case rel=>exact HJ2
     ·have UW:((r1.k:Int)==97)=false:=by simp;omega
      have HJ2:Hid (DaJ w0 w R src dp nv sv bv b r1 M (.slice la M.length lc) X s1 (Γ Δ 0) wr):=⟨s1,fU,gR,ik,cA,HS.out,V3.out,ZZ.out,rfl,.inr ⟨Ri,rfl,rfl⟩⟩;go_wp2_with fail
      go_meet
      case rel=>exact HJ2
    case rest=>
     obtain⟨sA,iT,iY,iV,cK,hSA,hbA,hwA,hnA,fT⟩:=hcut.out;have adD:=hwA.bl;have H0:Hid (∃k:Nat,(Γ Δ 0:Θ)=Γ Δ (k:Int)∧k≤M.length∧jO w0 w R src dp nv sv bv wc (su sA M k) 0 0 (.slice la M.length lc) M iT iY iV cK∧wc.heap[b]?=some (.cells (dU r1) 57)):=⟨0,rfl,zap _,hSA,hbA⟩;have HWA:Hid _:=hwA;have HC:Hid _:=fT;clear hcut hSA hbA hwA fT t0 t1 t2 t3 t4 t5 HS V3;go_wp2_with fail;go_loopw [11] (λiv wl=>Hid (∃k:Nat,iv=Γ Δ (k:Int)∧k≤M.length∧jO w0 w R src dp nv sv bv wl (su sA M k) 0 0 (.slice la M.length lc) M iT iY iV cK∧wl.heap[b]?=some (.cells (dU r1) 57))) (λiv _=>M.length-(intOf iv).toNat)
     case atStart=>exact H0
     case round=>
      obtain⟨k,rfl,hk,Gl,hbl⟩:=hrel.out;by_cases hlt:k<M.length
      ·have VZ:(k:Int)<(M.length:Int):=by omega
       have hi:M[k]?=some M[k]:=zaP hlt;have hib:M[k]<(su sA M k).begun.length:=by rw[NR,adD,hnA];exact HMM.out _ (zci hlt)
       obtain⟨gl,cl,hlv,cM⟩:=Gl.at_ hi;obtain⟨gb,cb,u,Kh,Z0,adE,Z1,hbn⟩:=Gl.M9 hbl hib;obtain⟨_,_,_,_,_,_,_,_,c8⟩:=bu Gl.fr.blk;rw[Kh]at c8;have hbI:(M[k]:Int)<((su sA M k).begun.length :Int):=by omega
       have rN:Hid (∃k':Nat,(Γ Δ ((k:Int)+1):Θ)=Γ Δ (k':Int)∧k'≤M.length∧jO w0 w R src dp nv sv bv (wr.drew.setCell ⟨gb,M[k],none⟩ (.bool true)) (su sA M k') 0 0 (.slice la M.length lc) M iT iY iV cK∧(wr.drew.setCell ⟨gb,M[k],none⟩ (.bool true)).heap[b]?=some (.cells (dU r1) 57)):=⟨k+1,by go_num,hlt,by rw[Ki hi];exact Z1,hbn⟩;obtain rfl:la=some ⟨gl,0,none⟩:=by cases hlv;rfl
       clear hrel Gl hbl hlv Z1 hbn hi;generalize M[k]=i at *;generalize (su sA M k).begun.length=bn at *;go_wp2_with fail;go_region;all_goals
        go_wp2_with fail;go_roundw
        case rel=>exact rN
        case measure=>simp[intOf];omega
      ·have VZ:¬((k:Int)<(M.length:Int)):=by omega
       obtain rfl:k=M.length:=by omega
       rw[NQ]at Gl;obtain⟨t0,t1,t2,t3,t4,t5⟩:=oA hbl;have V7:Hid _:=Gl;clear hrel Gl hbl
       go_upto_if 128 with fail
       go_cut [10] (λx wc=>Hid (DaK w0 w R src dp nv sv bv M (.slice la M.length lc) X s s1 x wc))
       case first=>
        rcases HC.out with⟨Ri,n,rfl,hXn⟩|⟨Ri,rfl,rfl⟩
        ·have UW:((r1.k:Int) != 97)=false:=by simp;omega
         have HK:Hid (DaK w0 w R src dp nv sv bv M (.slice la M.length lc) X s s1 (Γ Δ (n:Int)) wr):=⟨0,0,sA.aZ M,n,iT,iY,iV,cK,rfl,V7.out,HWA.out.aZ M,by show _≤sA.nodes.length;omega,λ_=>⟨rfl,hXn⟩,λh=>absurd rfl h⟩;clear hXn HC V7 HX;go_wp2_with fail
         go_meet
         case rel=>exact HK
        ·have UW:((r1.k:Int) != 97)=true:=by simp;omega
         have hX:=HX.out;rw[zaa Ri]at hX;have hpo:bK (ck src) dp j' r1 uZ over (sA.aZ M)≠.out:=dV (by rw[←hX];exact HO.out);have hat:r1=ck src (sA.aZ M).at_:=sH.out;have HPL:Hid (Ξ prog 19 #[ai R,uA r1,Γ Δ uZ,.bool over] wr (dL w0 wr R src dp iT iY iV (sA.aZ M) 0 (bK (ck src) dp j' r1 uZ over (sA.aZ M)))):=by
          have hc:=(lI.out j' (by omega)).plain wr (sA.aZ M) iT iY iV cK uZ over V7.out.fr (HWA.out.aZ M) (by show sA.nodes.length+505*(src.size+1-sA.at_)≤300000;omega) yL (by rw[←hat];exact hpo);rw[←hat]at hc;exact hc
         have HPO:Hid _:=hpo;have HSP:Hid (∀k s',bK (ck src) dp j' r1 uZ over (sA.aZ M)=.ok k s'→Sz src.size 1 0 (sA.aZ M) s'):=λk s' e=>((eB (dp:=dp) lN.out j').plain uZ over (sA.aZ M) k s' (HWA.out.aZ M) (by rw[←hat];exact e)).1;have Sx:Hid _:=hX;clear hX hpo hat HX HC;unfold ai uA aK at HPL;go_wp2_with fail;refine zae HPL.out ?_;intro e w4 hres;obtain⟨er,a,sB,n,rfl,hR,bM,hno⟩:=mh (c:=1) HPO.out hres HSP.out;clear hres;obtain⟨hgo,V8,Z2,hz0,hz1⟩:=hR;obtain⟨sf,si,sj,gS,lL⟩:=V7.out.call hgo;have e1:(sA.aZ M).nodes.length=sA.nodes.length:=rfl;have e2:(sA.aZ M).at_=sA.at_:=rfl;have HK:Hid (DaK w0 w R src dp nv sv bv M (.slice la M.length lc) X s sA (Γ Δ (n:Int)) w4):=⟨er,a,sB,n,sf,si,sj,gS,rfl,lL,V8,Z2,λh=>⟨(hz0 h).1,by rw[Sx.out,bM h];rfl⟩,λh=>⟨by rw[Sx.out,hno h];rfl,by have:=hz1 h;omega⟩⟩;clear hgo V8 Z2 hz0 hz1 bM hno lL HPL HPO HSP Sx V7;go_wp2_with fail
         go_meet
         case rel=>exact HK
       case rest=>
        obtain⟨er,a,sB,n,sf,si,sj,gS,rfl,hSB,V8,hgB,hx0,hx1⟩:=hcut.out;have adF:=V8.sl;have H1:Hid (∃k:Nat,(Γ Δ 0:Θ)=Γ Δ (k:Int)∧k≤M.length∧jO w0 w R src dp nv sv bv wc (Ip sB M n k) er a (.slice la M.length lc) M sf si sj gS):=⟨0,rfl,zap _,hSB⟩;have HF:Hid _:=And.intro V8 (And.intro hx0 hx1);clear hcut hSB V8 hx0 hx1 t0 t1 t2 t3 t4 t5 HC V7 HX H0;go_wp2_with fail;go_loopw [12] (λiv wm=>Hid (∃k:Nat,iv=Γ Δ (k:Int)∧k≤M.length∧jO w0 w R src dp nv sv bv wm (Ip sB M n k) er a (.slice la M.length lc) M sf si sj gS)) (λiv _=>M.length-(intOf iv).toNat)
        case atStart=>exact H1
        case round=>
         obtain⟨k,rfl,hk,Gl⟩:=hrel.out;by_cases hlt:k<M.length
         ·have VZ:(k:Int)<(M.length:Int):=by omega
          have hi:M[k]?=some M[k]:=zaP hlt;have hib:M[k]<(Ip sB M n k).same.length:=by rw[Rh,adF];exact zaH (HMM.out _ (zci hlt)) hgB
          obtain⟨gl,cl,hlv,cM⟩:=Gl.at_ hi;obtain⟨gb,cb,u,Kh,Z0,adE,Z1⟩:=Gl.sam hib n;obtain⟨_,_,_,_,_,_,_,c7,_⟩:=bu Gl.fr.blk;rw[Kh]at c7;have hbI:(M[k]:Int)<((Ip sB M n k).same.length :Int):=by omega
          have rN:Hid (∃k':Nat,(Γ Δ ((k:Int)+1):Θ)=Γ Δ (k':Int)∧k'≤M.length∧jO w0 w R src dp nv sv bv (wr.drew.setCell ⟨gb,M[k],none⟩ (Γ Δ (n:Int))) (Ip sB M n k') er a (.slice la M.length lc) M sf si sj gS):=⟨k+1,by go_num,hlt,by rw[NP hi];exact Z1⟩;obtain rfl:la=some ⟨gl,0,none⟩:=by cases hlv;rfl
          clear hrel Gl hlv Z1 hi;generalize M[k]=i at *;generalize (Ip sB M n k).same.length=bn at *;go_wp2_with fail;go_region;all_goals
           go_wp2_with fail;go_roundw
           case rel=>exact rN
           case measure=>simp[intOf];omega
         ·have VZ:¬((k:Int)<(M.length:Int)):=by omega
          obtain rfl:k=M.length:=by omega
          rw[Rg]at Gl;have HG:Hid _:=Gl.go;clear hrel Gl;go_wp2_with fail;go_ret;by_cases her:er=0
          ·obtain⟨rfl,hx⟩:=HF.out.2.1 her;subst her;rw[hx];exact⟨rfl,HG.out⟩
          ·obtain⟨hx,hb⟩:=HF.out.2.2 her;rw[hx];exact⟨her,n,sB.is M n,rfl,HG.out,HF.out.1.is M n,by show s.nodes.length≤sB.nodes.length;omega,hb⟩
 ·have NH:(er != 0)=true:=by simpa using her
  have nt:=hno her;have p1:=hz1 her;have HE:Hid (X=.fail er a):=by show _=_;rw[Sx.out,nt];rfl
  have HP:Hid _:=And.intro her (And.intro hw2 (And.intro (show s.nodes.length≤s2.nodes.length by omega) (show s2.nodes.length≤s.nodes.length+505*(src.size+1-s.at_)+0 by omega)));have HG:Hid _:=wy.go;clear nt bM hno hz0 hz1 HST yQ Sx wy hw2 sk lI lN HO her p1 g1 g2 g3 g4 g5 HH;go_wp2_with fail;go_ret;rw[HE.out];exact⟨HP.out.1,0,s2,rfl,HG.out,HP.out.2.1,HP.out.2.2.1,HP.out.2.2.2⟩
end
end Go.Proofs.YtlhimdjkkiflhaaGreat
namespace Go.Proofs.YtlhimdjkkiflhaaGreat
open Go.RowKit Go.Loop
theorem UZ (src:ByteArray):Lk (ck src) src.size:=by
 have h:=BX src.data.toList;rw[show src.data.toList.length=src.size by simp]at h;exact h
theorem U0 (src:ByteArray)(a:Nat)(h:(ck src a).k=110):0≤(ck src a).d:=(Ir src.data.toList a).2 h
section
variable {w0 w:Λ}{R:Nat}{src:ByteArray}{dp:Nat}{s:FS}{nv sv bv:Θ}
theorem dL.more {c d:Nat}(hc:c≤d){X:FR Nat}{e:Ending}{w':Λ}(h:dL w0 w R src dp nv sv bv s c X e w'):dL w0 w R src dp nv sv bv s d X e w':=by
 cases X with
 |out=>exact h
 |fail er a=>
  obtain⟨h1,k,s',h2,h3,h4,h5,h6⟩:=h;exact⟨h1,k,s',h2,h3,h4,h5,by omega⟩
 |ok k s'=>exact h
theorem Rl (hsz:src.size≤400)(qa:dp≤1000):∀m j,j≤m→OM w0 R src dp j:=by
 intro m
 induction m with
 |zero=>
  intro j hj;obtain rfl:j=0:=by omega
  refine⟨λ_ _ _ _ _ _ _ _ _ _ _ h=>?_,λ_ _ _ _ _ _ _ _ _ _ _ _ h=>?_,λ_ _ _ _ _ _ _ _ _ _ _ _ h=>?_,λ_ _ _ _ _ _ _ _ _ _ _ _ _ _ h=>?_,λ_ _ _ _ _ _ _ _ _ _ _ _ h=>?_⟩
  ·exact absurd (by simp only[cX]) h
  ·exact absurd (by simp only[bz]) h
  ·exact absurd (by simp only[bK]) h
  ·exact absurd (by simp only[cC]) h
  ·exact absurd (by simp only[cN]) h
 |succ m ih=>
  intro j hj;by_cases hjm:j≤m
  ·exact ih j hjm
  obtain rfl:j=m+1:=by omega
  have hL:=UZ src;refine⟨λw s nv sv bv ay deep h hw hn hd ho=>ND hsz hL ih h hw hn deep hd ho,λw s nv sv bv ay deep over h hw hn hd ho=>NT hL hsz ih h hw hn deep over hd qa ho,λw s nv sv bv ay deep over h hw hn hd ho=>NI hL (U0 src) ih h hw hn deep over hd qa ho,λw s nv sv bv ay kind deep over hk h hw hn hd ho=>?_,λw s nv sv bv ay deep over h hw hn hd ho=>Kd hL ih h hw hn deep over hd ho⟩;rcases hk with rfl|rfl|rfl
  ·have e:cC (ck src) dp (m+1) 40 deep over s=bZ (ck src) dp m 40 deep over [] s:=by simp[cC]
   rw[e]at ho ⊢;exact(Ej hL hsz ih h hw hn deep over hd ho).mono λ_ _ q=>q.more (by omega)
  ·have e:cC (ck src) dp (m+1) 118 deep over s=bZ (ck src) dp m 118 deep over [] s:=by simp[cC]
   rw[e]at ho ⊢;exact(Ei hL hsz ih h hw hn deep over hd ho).mono λ_ _ q=>q.more (by omega)
  ·exact yV hL (ih m (zab _)) h hw hsz hn deep over hd ho
end
end Go.Proofs.YtlhimdjkkiflhaaGreat
