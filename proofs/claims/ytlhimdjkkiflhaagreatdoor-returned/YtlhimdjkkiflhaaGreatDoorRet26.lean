import Derived.Test.YtlhimdjkkiflhaaGreatDoorRet25
set_option maxHeartbeats 8000000
set_option maxRecDepth 100000
open Go.Lib renaming itoa→Γ
namespace Go.Proofs.YtlhimdjkkiflhaaGreatDoor
open Go.RowKit Go.Loop
section
variable (G:List Nd)(L:Nat→Bool)(s:List UInt8)(T:List Tok)(lam:Int→Nat)
abbrev WG (f:Nat)(b:Bool)(t:TS)(a:Nat):TS:=WF (aJ G) (ai G) (jD G) L f b t a
abbrev LG (f:Nat)(b:Bool)(t:TS)(a:Nat):List Nat:=WL (aJ G) (ai G) (jD G) L f b t a
def FOk (f:Nat):Prop:=∀(t:TS) (a k fr:Nat) (ak:List Int) (ck:Nat→Option Nat) (p:Pl),t.Ok G.length L→a<G.length→403≤f+t.out.length→Fin s lam (WG G L f false t a)→Dl (s.drop (WG G L f false t a).out.length)→AX s T t k ak→p.passed=false→p.ahead=[]→∃τ,T[k]?=some τ∧Tk τ∧B2 (λm=>aL T 30 m τ p ⟨k+1,fr,ak⟩) (Va G s T lam (WG G L f false t a) fr ck [a] (LG G L f false t a))
def ROk (f:Nat):Prop:=∀(t:TS) (r k fr:Nat) (bs lg:List Nat) (ds:List Dt) (ak:List Int) (ck:Nat→Option Nat) (p:Pl),t.Ok G.length L→r<G.length→403≤f+t.out.length→Fin s lam (WG G L f true t r)→AX s T t k ak→p.passed=false→p.ahead=[]→ds≠[]→Ch G lam ck bs ds r→(∀d∈ds,∀j∈aY d,j<fr)→(∀c,cn ck c (ds.flatMap aY)=lg.count c)→B2 (λm=>bh T 30 m ds p ⟨k,fr,ak⟩) (Va G s T lam (WG G L f true t r) fr ck [bs.headD r] (bs++lg++LG G L f true t r))
def CG (f:Nat)(t:TS)(a:Nat):TS:=
 if aJ G a=1 then WG G L f true (WG G L f false (t.add [40]) ((ai G a).getD 0 0)) ((ai G a).getD 1 0)
 else if aJ G a=2 then(jZ (WG G L f false) true (ai G a) (t.add [35,40])).add [41]
 else t.add (jD G a)
def CL (f:Nat)(t:TS)(a:Nat):List Nat:=
 if aJ G a=1 then a::(LG G L f false (t.add [40]) ((ai G a).getD 0 0)++LG G L f true (WG G L f false (t.add [40]) ((ai G a).getD 0 0)) ((ai G a).getD 1 0))
 else if aJ G a=2 then a::Gu (WG G L f false) (LG G L f false) true (ai G a) (t.add [35,40])
 else if aJ G a=3 then[a]else[]
end
section
variable {G:List Nd}{L:Nat→Bool}{s:List UInt8}{T:List Tok}{lam:Int→Nat}
structure Rg (G:List Nd):Prop where
 kind:∀(a:Nat) x,G[a]?=some x→aQ x=true
 subs:∀a,∀y∈ai G a,y<G.length
theorem Rg.two (h:Rg G){a:Nat}(hk:aJ G a=1):(ai G a).length=2:=by
 unfold aJ at hk;unfold ai;cases hx:G[a]? with
 |none=>rw[hx]at hk;cases hk
 |some x=>
  rw[hx]at hk;have O1:x.kind=1:=hk;have:=h.kind a x hx;unfold aQ at this;rw[zaa (by omega),zab O1]at this;simpa using(of_decide_eq_true this).1
theorem Rg.ZN (h:Rg G){a:Nat}(hk:aJ G a=2):(ai G a).length≤20:=by
 unfold aJ at hk;unfold ai;cases hx:G[a]? with
 |none=>simp
 |some x=>
  rw[hx]at hk;have O1:x.kind=2:=hk;have:=h.kind a x hx;unfold aQ at this;rw[zaa (by omega),zaa (by omega),zab O1]at this;simpa using(of_decide_eq_true this).1
theorem Rg.sub (h:Rg G){a:Nat}(hk:aJ G a=1):(ai G a).getD 0 0<G.length∧(ai G a).getD 1 0<G.length:=by
 have h2:=h.two hk;have hs:=h.subs a;cases hl:ai G a with
 |nil=>rw[hl]at h2;cases h2
 |cons x l=>
  cases l with
  |nil=>rw[hl]at h2;simp at h2
  |cons y l=>
   rw[hl]at hs;exact⟨hs x (by simp),hs y (by simp)⟩
theorem KN (hR:Rg G){f:Nat}{b:Bool}{t:TS}{a:Nat}(h:t.Ok G.length L)(ha:a<G.length):(WG G L f b t a).Ok G.length L:=
 nS (n:=G.length) (λx _ y hy=>hR.subs x y hy) (λ_ _ hk=>hR.two hk) f b t a h ha
theorem zq {ck:Nat→Option Nat}{i r c:Nat}{rest:Dt}:∀{bs:List Nat} {ds:List Dt},Ch G lam ck bs ds r→Wd G lam ck rest [r]→(∀d∈ds,∀j∈aY d,j<i)→(∀j∈aY rest,j<i)→cn (uK ck i bs) c (aY (aU ds rest i).1)=bs.count c+cn ck c (ds.flatMap aY)+cn ck c (aY rest)
 |[],[],_,_,_,h2=>by
  simp only[aU,List.count_nil,List.flatMap_nil,Jk];rw[nD (ck:=ck) c λj hj=>pW (h2 j hj)];omega
 |b::bs,d::ds,⟨g1,g2,g3,g4⟩,hr,h1,h2=>by
  have i0:=zq (c:=c) g4 hr (λx hx=>h1 x (by simp[hx])) h2;obtain⟨_,i2⟩:=tC g4 hr (λx hx=>h1 x (by simp[hx])) h2;have hlen:=g4.len;have hp:uK ck i (b::bs) (i+ds.length)=some b:=by
   unfold uK;rw[zab ⟨by omega,by simp;omega⟩];have:(b::bs).length - 1-(i+ds.length-i)=0:=by simp;omega
   rw[this];rfl
  simp only[aU,eI,aY];rw[nC,pY,hp,nD (ck:=ck) c (λj hj=>pW (h1 d (by simp) j hj)),nD (ck:=uK ck i bs) c (λj hj=>BZ (i2 j hj)),i0,lN,zbB,pY];omega
 |[],_::_,h,_,_,_=>h.elim
 |_::_,[],h,_,_,_=>h.elim
theorem AX.blank {t:TS}{k:Nat}{ak:List Int}{l:List UInt8}(h:AX s T t k ak)(hn:(t.add [32]).long=false)(hs:s.drop t.out.length=32::l):AX s T (t.add [32]) k ak:=
 h.same (by rw[(di hn).2,zaR];exact h.pos.sp hs) (fQ _ _)
theorem Vb (hR:Rg G){f:Nat}(hF:FOk G L s T lam f)(QY:ROk G L s T lam f):ROk G L s T lam (f+1):=by
 intro t r k fr bs lg ds ak ck p hO hr hf dU hA Gw NV hne hC qm uS;have Vc:=hO.lo;by_cases h1:aJ G r=1∧L r=false
 ·have e:WG G L (f+1) true t r=WG G L f true (WG G L f false (t.add [32]) ((ai G r).getD 0 0)) ((ai G r).getD 1 0):=by
   show WF _ _ _ _ _ _ _ _=_;simp only[WF];rw[zab h1]
  have el:LG G L (f+1) true t r=r::(LG G L f false (t.add [32]) ((ai G r).getD 0 0)++LG G L f true (WG G L f false (t.add [32]) ((ai G r).getD 0 0)) ((ai G r).getD 1 0)):=by
   show WL _ _ _ _ _ _ _ _=_;simp only[WL];rw[zab h1]
  rw[e]at dU ⊢;rw[el];obtain⟨s0,s1⟩:=hR.sub h1.1;have g3:=dX f true _ _ dU.nl;have F2:=dU.of g3;have g2:=dX f false _ _ F2.nl;have F1:=F2.of g2;have WO:=(di F1.nl).2;obtain⟨hs1,rq⟩:=F1.drop WO;have Nc:(t.add [32]).out.length=t.out.length+1:=rq;have AD:=hA.blank F1.nl hs1;have yg:=hO.add [32];have WQ:=KN hR (f:=f) (b:=false) yg s0;have AJ:=Vc (di F1.nl).1;obtain⟨f',rfl⟩:∃f',f=f'+1:=⟨f-1,by omega⟩;have hD2:Dl (s.drop (WG G L (f'+1) false (t.add [32]) ((ai G r).getD 0 0)).out.length):=by
   obtain⟨c,q,hc,hq⟩:=B1 dU.nl;have:=(dU.drop hq).1;exact .inr ⟨c,_,by rw[this];rfl,hc⟩
  obtain⟨τ,hT,Eh,hres⟩:=hF (t.add [32]) _ k fr ak ck p yg s0 (by omega) F2 hD2 AD Gw NV;refine hres.bind (Z:=λd σ m=>bh T 30 m (ds++[d]) p σ) (Ev.ji λm=>QT hT Eh m) λd σ zo hg=>?_;have hl2:(t.add [32]).out.length≤(WG G L (f'+1) false (t.add [32]) ((ai G r).getD 0 0)).out.length:=g2.len;have:=QY _ _ σ.k σ.fresh (bs++[r]) (lg++LG G L (f'+1) false (t.add [32]) ((ai G r).getD 0 0)) (ds++[d]) σ.ak zo p WQ s1 (by omega) dU hg.at_ Gw NV (by simp) ((hC.mono λx hx i hi=>hg.old i (qm x hx i hi)).snoc h1.1 hg.wd rfl) (λx hx j hj=>by
   rcases zaF.1 hx with hx|hx
   ·exact zaI (qm x hx j hj) hg.Na
   ·rw[zbA.1 hx]at hj;exact hg.ids j hj) (λc=>by
   rw[zcy,pY,nD (ck:=ck) c (λj hj=>by
    obtain⟨x,hx,hj⟩:=List.mem_flatMap.1 hj;exact hg.old j (qm x hx j hj)),uS,zcA]
   have:=hg.cnt c;simp only[zbB,List.flatMap_nil,zcz];omega)
  have eh:(bs++[r]).headD ((ai G r).getD 1 0)=bs.headD r:=by cases bs<;>rfl
  rw[eh]at this;refine this.mono λd' Oc je h'=>?_;have h2:=h'.from hg.Na hg.old;exact⟨h2.at_,h2.Na,h2.old,h2.wd,h2.ids,h2.last,λc=>by
   rw[h2.cnt c];simp only[zcA,lN,List.count_nil];omega⟩
 ·by_cases h0:aJ G r=0
  ·have e:WG G L (f+1) true t r=t.add [41]:=by
    show WF _ _ _ _ _ _ _ _=_;simp only[WF];rw[zaa h1,zab h0]
   have el:LG G L (f+1) true t r=[]:=by
    show WL _ _ _ _ _ _ _ _=_;simp only[WL];rw[zaa h1,zab h0]
   rw[e]at dU ⊢;rw[el];obtain⟨hs1,rq⟩:=dU.drop (di dU.nl).2;have l4:s.drop t.out.length=41::s.drop (t.add [41]).out.length:=hs1;obtain⟨e1,e2⟩:=hA.tok l4 (by decide) (by decide) (jE (by decide)) (tq l4) rfl;obtain⟨w1,w2⟩:=tC (i:=fr) (rest:= .nil) hC ⟨r,rfl,h0⟩ qm (λj hj=>by cases hj);refine .inr ⟨_,_,uK ck fr bs,Ev.XG λm=>QU e1 rfl m,⟨⟨by rw[rq];exact e2,λm=>by rw[fQ];exact hA.ak m⟩,Nat.le_add_right _ _,λi hi=>pW hi,w1,λj hj=>?_,⟨k,_,rfl,e1,rq.symm⟩,λc=>by
    rw[zq (r:=r) (rest:= .nil) hC ⟨r,rfl,h0⟩ qm (λj hj=>by cases hj),uS];simp only[zcA,List.count_nil,aY,Jk]⟩⟩
   have:=w2 j hj;rw[hC.len]at this;exact this
  ·have e:WG G L (f+1) true t r=(WG G L f false (t.add [32,46,32]) r).add [41]:=by
    show WF _ _ _ _ _ _ _ _=_;simp only[WF];rw[zaa h1,zaa h0]
   have el:LG G L (f+1) true t r=LG G L f false (t.add [32,46,32]) r:=by
    show WL _ _ _ _ _ _ _ _=_;simp only[WL];rw[zaa h1,zaa h0]
   rw[e]at dU ⊢;rw[el];have g3:=Gr.add dU.nl;have F2:=dU.of g3;have g2:=dX f false _ _ F2.nl;have F1:=F2.of g2;obtain⟨hs1,rq⟩:=F1.drop (di F1.nl).2;have l4:s.drop t.out.length=32::46::32::s.drop (t.add [32,46,32]).out.length:=hs1;have Nc:(t.add [32,46,32]).out.length=t.out.length+3:=rq;have p1:=hA.pos.sp l4;have d1:s.drop (t.out.length+1)=46::32::s.drop (t.add [32,46,32]).out.length:=afO l4 rfl;obtain⟨e1,e2⟩:=p1.Jj d1 (by decide) (by decide) (jE (by decide)) (ZJ d1 rfl);have p2:Pos T s (k+1) (t.out.length+2):=e2 rfl;have d2:s.drop (t.out.length+2)=32::s.drop (t.add [32,46,32]).out.length:=afO l4 rfl;have p3:Pos T s (k+1) (t.out.length+3):=p2.sp d2;have AD:AX s T (t.add [32,46,32]) (k+1) ak:=⟨by rw[Nc];exact p3,λm=>by rw[fQ];exact hA.ak m⟩;obtain⟨hs3,ZG⟩:=dU.drop (di dU.nl).2;have ZO:s.drop (WG G L f false (t.add [32,46,32]) r).out.length=41::s.drop ((WG G L f false (t.add [32,46,32]) r).add [41]).out.length:=hs3;obtain⟨τ,hT,Eh,hres⟩:=hF (t.add [32,46,32]) r (k+1) fr ak ck p (hO.add _) hr (by omega) F2 (.inr ⟨41,_,ZO,.inr rfl⟩) AD Gw NV;have Gx:B2 (λm=>ay T 30 m p ⟨k+1,fr,ak⟩) _:=hres.S6 (Ev.ji λm=>Jl hT Eh m);refine Gx.bind (Z:=λrest σ m=>(aM T 30 m p σ).bind λt s=>if t.kind=3 then .ok (aU ds rest s.fresh).1 { s with fresh:=(aU ds rest s.fresh).2 } else .fail 3 t.from_) (Ev.ji λm=>ZM e1 rfl hne m) λd σ zo hg=>?_;obtain⟨c1,c2⟩:=hg.at_.tok ZO (by decide) (by decide) (jE (by decide)) (tq ZO) rfl;have hC1:=hC.mono (je:=zo) λx hx i hi=>hg.old i (qm x hx i hi);obtain⟨w1,w2⟩:=tC (i:=σ.fresh) hC1 hg.wd (λx hx j hj=>zaI (qm x hx j hj) hg.Na) hg.ids;refine .inr ⟨_,⟨σ.k+1,σ.fresh+ds.length,σ.ak⟩,uK zo σ.fresh bs,Ev.ji λm=>?_,⟨⟨by rw[ZG];exact c2,λm=>by rw[fQ];exact hg.at_.ak m⟩,zag hg.Na (Nat.le_add_right _ _),λi hi=>(pW (zaI hi hg.Na)).trans (hg.old i hi),w1,λj hj=>?_,⟨σ.k,_,rfl,c1,ZG.symm⟩,λc=>by
    rw[zq (r:=r) hC1 hg.wd (λx hx j hj=>zaI (qm x hx j hj) hg.Na) hg.ids,nD (ck:=ck) c (λj hj=>by
     obtain⟨x,hx,hj⟩:=List.mem_flatMap.1 hj;exact hg.old j (qm x hx j hj)),uS,hg.cnt c]
    simp only[zcA]⟩⟩
   ·show(aM T 30 (m+1) p σ).bind _=_;rw[zn (fr:=σ.fresh) (ak:=σ.ak) c1 (by show(3:Nat)≠0;decide) (by show(3:Nat)≠1;decide) (by show(3:Nat)≠6;decide)];simp only[RR.bind,aH,if_true,eI]
   ·have:=w2 j hj;rw[hC.len]at this;exact this
theorem KO {ck:Nat→Option Nat}{d:Dt}{x:Nat}:∀{ds:List Dt} {QZ:List Nat},Wd G lam ck (fX ds) QZ→Wd G lam ck d [x]→Wd G lam ck (fX (ds++[d])) (QZ++[x])
 |[],QZ,h,hd=>by
  have h':QZ=[]:=h;subst h';exact⟨x,[],rfl,hd,rfl⟩
 |e::ds,QZ,⟨a,q,h1,h2,h3⟩,hd=>by
  subst h1;exact⟨a,q++[x],rfl,h2,KO h3 hd⟩
theorem Q0 {node:TS→Nat→TS}(hn:∀t y,(node t y).long=false→Gr t (node t y)):∀(l:List Nat) (t:TS),((jZ node false l t).add [41]).long=false→∃c q,(c=32∨c=41)∧((jZ node false l t).add [41]).out=t.out++c::q
 |[],t,h=>⟨41,[],.inr rfl,(di h).2⟩
 |x::l,t,h=>by
  have g1:=Gr.add h;have g2:Gr _ (jZ node false (x::l) t):=lM hn l false (node (t.add [32]) x) g1.nl;have g3:=hn _ _ g2.nl;obtain⟨q,hq⟩:=(g3.trans (g2.trans g1)).out;refine⟨32,q,.inl rfl,?_⟩;rw[hq,(di g3.nl).2];simp
theorem Gy (hR:Rg G){f:Nat}(hF:FOk G L s T lam f):∀(l:List Nat) (b:Bool) (t:TS) (k fr:Nat) (ak:List Int) (ck:Nat→Option Nat) (p:Pl) (ds:List Dt) (QZ lg:List Nat),t.Ok G.length L→(∀y∈l,y<G.length)→403≤f+t.out.length→Fin s lam ((jZ (WG G L f false) b l t).add [41])→AX s T t k ak→p.passed=false→p.ahead=[]→ds.length+l.length≤20→Wd G lam ck (fX ds) QZ→(∀i∈aY (fX ds),i<fr)→(∀c,cn ck c (aY (fX ds))=lg.count c)→B2 (λm=>cy T 30 m ds p ⟨k,fr,ak⟩) (λes σ je=>AX s T ((jZ (WG G L f false) b l t).add [41]) σ.k σ.ak∧fr≤σ.fresh∧(∀i,i<fr→je i=ck i)∧Wd G lam je (fX es) (QZ++l)∧(∀i∈aY (fX es),i<σ.fresh)∧Lt T σ.k ((jZ (WG G L f false) b l t).add [41])∧∀c,cn je c (aY (fX es))=(lg++Gu (WG G L f false) (LG G L f false) b l t).count c)
 |[],b,t,k,fr,ak,ck,p,ds,QZ,lg,hO,hl,hf,dU,hA,Gw,NV,G5,hw,qm,uS=>by
  have mG:Fin s lam (t.add [41]):=dU;obtain⟨hs1,rq⟩:=mG.drop (di mG.nl).2;have l4:s.drop t.out.length=41::s.drop (t.add [41]).out.length:=hs1;obtain⟨e1,e2⟩:=hA.tok l4 (by decide) (by decide) (jE (by decide)) (tq l4) rfl;refine .inr ⟨ds,⟨k+1,fr,ak⟩,ck,Ev.XG λm=>ab3 e1 rfl m,⟨?_,λm=>?_⟩,zac _,λ_ _=>rfl,by rw[zcz];exact hw,qm,⟨k,_,rfl,e1,rq.symm⟩,λc=>by rw[uS c];simp[Gu]⟩
  ·show Pos T s (k+1) (t.add [41]).out.length;rw[rq];exact e2
  ·show _↔0≤m∧m<((t.add [41]).next :Int);rw[fQ];exact hA.ak m
 |x::l,b,t,k,fr,ak,ck,p,ds,QZ,lg,hO,hl,hf,dU,hA,Gw,NV,G5,hw,qm,uS=>by
  have mG:Fin s lam ((jZ (WG G L f false) false l (WG G L f false (if b then t else t.add [32]) x)).add [41]):=dU;have g4:=Gr.add mG.nl;have g3:=lM (λt y hq=>dX f false t y hq) l false _ g4.nl;have F2:=mG.of (g3.trans g4);have g2:=dX f false _ _ F2.nl;have F1:=F2.of g2;have hx:x<G.length:=hl x (by simp);have h1:∃t1,t1=(if b then t else t.add [32])∧t1.Ok G.length L∧AX s T t1 k ak∧t.out.length≤t1.out.length:=by
   refine⟨_,rfl,?_⟩;cases b with
   |true=>exact⟨hO,hA,zac _⟩
   |false=>
    have F1':Fin s lam (t.add [32]):=F1;obtain⟨hs1,rq⟩:=F1'.drop (di F1'.nl).2;exact⟨hO.add _,hA.blank F1'.nl hs1,by show _≤(t.add [32]).out.length;omega⟩
  obtain⟨t1,e1,yg,AD,QN⟩:=h1;rw[←e1]at mG F2 g2 g3 g4;have hD2:Dl (s.drop (WG G L f false t1 x).out.length):=by
   obtain⟨c,q,hc,hq⟩:=Q0 (λt y hq=>dX f false t y hq) l _ mG.nl;have:=(mG.drop hq).1;exact .inr ⟨c,_,by rw[this];rfl,hc⟩
  obtain⟨τ,hT,Eh,hres⟩:=hF t1 x k fr ak ck p yg hx (by omega) F2 hD2 AD Gw NV;have Xm:t1.out.length≤(WG G L f false t1 x).out.length:=g2.len;refine hres.bind (Z:=λd σ m=>cy T 30 m (ds++[d]) p σ) (Ev.ji λm=>ab2 hT Eh (by simp at G5;omega) m) λd σ zo hg=>?_;have ab4:∀i∈aY (fX (ds++[d])),i<σ.fresh:=λi hi=>by
   rw[nA,zcy]at hi;rcases zaF.1 hi with hi|hi
   ·exact zaI (qm i (by rw[nA];exact hi)) hg.Na
   ·exact hg.ids i (by simpa using hi)
  have:=Gy hR hF l false (WG G L f false t1 x) σ.k σ.fresh σ.ak zo p (ds++[d]) (QZ++[x]) (lg++LG G L f false t1 x) (KN hR yg hx) (λy hy=>hl y (by simp[hy])) (by omega) mG hg.at_ Gw NV (by simp at G5 ⊢;omega) (KO (hw.mono λi hi=>hg.old i (qm i hi)) hg.wd) ab4 (λc=>by
   rw[nA,zcy,pY,←nA,nD (ck:=ck) c (λj hj=>hg.old j (qm j hj)),uS,zcA];have:=hg.cnt c;simp only[zbB,List.flatMap_nil,zcz];omega)
  have ev:jZ (WG G L f false) b (x::l) t=jZ (WG G L f false) false l (WG G L f false t1 x):=by rw[e1];rfl
  rw[ev];refine this.mono λes Oc je ⟨q1,q2,q3,q4,q5,q6,q7⟩=>⟨q1,zag hg.Na q2,λi hi=>(q3 i (zaI hi hg.Na)).trans (hg.old i hi),?_,q5,q6,λc=>?_⟩
  ·rw[zbK]at q4;exact q4
  ·rw[q7 c,e1];simp only[Gu,zcA];omega
theorem ab5 {f:Nat}{t:TS}{a:Nat}(h:(CG G L f t a).long=false):Gr t (CG G L f t a):=by
 unfold CG at h ⊢;by_cases h1:aJ G a=1
 ·rw[zab h1]at h ⊢;have i1:=dX f true _ _ h;have i2:=dX f false _ _ i1.nl;exact(Gr.add i2.nl).trans (i2.trans i1)
 ·rw[zaa h1]at h ⊢;by_cases h2:aJ G a=2
  ·rw[zab h2]at h ⊢;have i1:=Gr.add h;have i2:=lM (λt y hq=>dX f false t y hq) _ _ _ i1.nl;exact(Gr.add i2.nl).trans (i2.trans i1)
  ·rw[zaa h2]at h ⊢;exact Gr.add h
theorem B3 (hR:Rg G){f:Nat}(hF:FOk G L s T lam f)(QY:ROk G L s T lam f){t:TS}{a k fr:Nat}{ak:List Int}{ck:Nat→Option Nat}{p:Pl}(hO:t.Ok G.length L)(ha:a<G.length)(hf:402≤f+t.out.length)(dU:Fin s lam (CG G L f t a))(hD:Dl (s.drop (CG G L f t a).out.length))(hA:AX s T t k ak)(Gw:p.passed=false):∃τ,T[k]?=some τ∧Tk τ∧B2 (λm=>aL T 30 m τ p ⟨k+1,fr,ak⟩) (Va G s T lam (CG G L f t a) fr ck [a] (CL G L f t a)):=by
 by_cases h1:aJ G a=1
 ·have e:CG G L f t a=WG G L f true (WG G L f false (t.add [40]) ((ai G a).getD 0 0)) ((ai G a).getD 1 0):=by unfold CG;rw[zab h1]
  have el:CL G L f t a=a::(LG G L f false (t.add [40]) ((ai G a).getD 0 0)++LG G L f true (WG G L f false (t.add [40]) ((ai G a).getD 0 0)) ((ai G a).getD 1 0)):=by unfold CL;rw[zab h1]
  rw[e]at dU ⊢;rw[el];obtain⟨s0,s1⟩:=hR.sub h1;have g3:=dX f true _ _ dU.nl;have F2:=dU.of g3;have g2:=dX f false _ _ F2.nl;have F1:=F2.of g2;obtain⟨hs1,rq⟩:=F1.drop (di F1.nl).2;have l4:s.drop t.out.length=40::s.drop (t.add [40]).out.length:=hs1;have Nc:(t.add [40]).out.length=t.out.length+1:=rq;obtain⟨e1,e2⟩:=hA.tok l4 (by decide) (by decide) (jE (by decide)) (KI l4) rfl;refine⟨_,e1,qU 2 rfl (by decide),?_⟩;by_cases qz:p.depth=30
  ·exact .inl ⟨t.out.length,Ev.ji λm=>by
    show aL T 30 (m+1) _ _ _=_;rw[mE rfl,zab qz];rfl⟩
  ·have AD:AX s T (t.add [40]) (k+1) ak:=⟨by rw[Nc];exact e2,λm=>by rw[fQ];exact hA.ak m⟩;have AJ:=hO.lo (di F1.nl).1;obtain⟨f',rfl⟩:∃f',f=f'+1:=⟨f-1,by omega⟩;have hD2:Dl (s.drop (WG G L (f'+1) false (t.add [40]) ((ai G a).getD 0 0)).out.length):=by
    obtain⟨c,q,hc,hq⟩:=B1 dU.nl;have:=(dU.drop hq).1;exact .inr ⟨c,_,by rw[this];rfl,hc⟩
   obtain⟨τ,hT,Eh,hres⟩:=hF (t.add [40]) _ (k+1) fr ak ck ⟨p.depth+1,p.passed,[]⟩ (hO.add _) s0 (by omega) F2 hD2 AD Gw rfl;have hl2:(t.add [40]).out.length≤(WG G L (f'+1) false (t.add [40]) ((ai G a).getD 0 0)).out.length:=g2.len;have ab6:B2 (λm=>bh T 30 m [] ⟨p.depth+1,p.passed,[]⟩ ⟨k+1,fr,ak⟩) (Va G s T lam (WG G L (f'+1) true (WG G L (f'+1) false (t.add [40]) ((ai G a).getD 0 0)) ((ai G a).getD 1 0)) fr ck [a] (a::(LG G L (f'+1) false (t.add [40]) ((ai G a).getD 0 0)++LG G L (f'+1) true (WG G L (f'+1) false (t.add [40]) ((ai G a).getD 0 0)) ((ai G a).getD 1 0)))):=by
    refine hres.bind (Z:=λd σ m=>bh T 30 m ([]++[d]) ⟨p.depth+1,p.passed,[]⟩ σ) (Ev.ji λm=>QT hT Eh m) λd σ zo hg=>?_;have:=QY _ _ σ.k σ.fresh [a] (LG G L (f'+1) false (t.add [40]) ((ai G a).getD 0 0)) [d] σ.ak zo ⟨p.depth+1,p.passed,[]⟩ (KN hR (f:=f'+1) (b:=false) (hO.add [40]) s0) s1 (by omega) dU hg.at_ Gw rfl (by simp) ⟨h1,hg.wd,rfl,trivial⟩ (λx hx j hj=>by rw[zbA.1 hx]at hj;exact hg.ids j hj) (λc=>by
     simp only[zbB,List.flatMap_nil,zcz];exact hg.cnt c)
    exact this.mono λd' Oc je h'=>h'.from hg.Na hg.old
   exact ab6.S6 (Ev.all λm=>by
    show aL T 30 (m+1) _ _ _=_;rw[mE rfl,zaa qz])
 ·by_cases h2:aJ G a=2
  ·have e:CG G L f t a=(jZ (WG G L f false) true (ai G a) (t.add [35,40])).add [41]:=by unfold CG;rw[zaa h1,zab h2]
   have el:CL G L f t a=a::Gu (WG G L f false) (LG G L f false) true (ai G a) (t.add [35,40]):=by unfold CL;rw[zaa h1,zab h2]
   rw[e]at dU ⊢;rw[el];have g3:=Gr.add dU.nl;have g2:=lM (λt y hq=>dX f false t y hq) _ _ _ g3.nl;have F1:=dU.of (g2.trans g3);obtain⟨hs1,rq⟩:=F1.drop (di F1.nl).2;have l4:s.drop t.out.length=35::40::s.drop (t.add [35,40]).out.length:=hs1;have Nc:(t.add [35,40]).out.length=t.out.length+2:=rq;obtain⟨e1,e2⟩:=hA.tok l4 (by decide) (by decide) rfl (ZI l4) rfl;refine⟨_,e1,qU 5 rfl (by decide),?_⟩;by_cases qz:p.depth=30
   ·exact .inl ⟨t.out.length,Ev.ji λm=>by
     show aL T 30 (m+1) _ _ _=_;rw[ze rfl,zab qz];rfl⟩
   ·have AD:AX s T (t.add [35,40]) (k+1) ak:=⟨by rw[Nc];exact e2,λm=>by rw[fQ];exact hA.ak m⟩;have G5:=hR.ZN h2;have hv:=Gy hR hF (ai G a) true (t.add [35,40]) (k+1) (fr+1) ak (λi=>if i=fr then some a else ck i) ⟨p.depth+1,p.passed,[]⟩ [] [] [] (hO.add _) (hR.subs a) (by omega) dU AD Gw rfl (by simpa using G5) rfl (λi hi=>by cases hi) (λc=>rfl);refine hv.bind (Z:=λl σ _=> .ok (.vec fr (fX l)) σ) (Ev.all λm=>by
     show aL T 30 (m+1) _ _ _=_;rw[ze rfl,zaa qz]) λes σ je ⟨q1,q2,q3,q4,q5,q6,q7⟩=>?_
    refine .inr ⟨_,σ,je,Ev.all λ_=>rfl,⟨q1,by omega,λi hi=>(q3 i (by omega)).trans (zaa (by omega)),⟨a,rfl,h2,(q3 fr (by omega)).trans (zab rfl),q4⟩,λi hi=>?_,q6,λc=>by
     simp only[aY];rw[nC,(q3 fr (by omega)).trans (zab rfl),q7 c,lN];rfl⟩⟩
    simp only[aY,zal]at hi;rcases hi with rfl|hi
    ·omega
    ·exact q5 i hi
  ·have e:CG G L f t a=t.add (jD G a):=by unfold CG;rw[zaa h1,zaa h2]
   rw[e]at dU hD ⊢;obtain⟨x,hx⟩:∃x,G[a]?=some x:=⟨_,zat ha⟩;have hK:aJ G a=x.kind:=by unfold aJ;rw[hx]
   have hAt:jD G a=eU x:=by unfold jD;rw[hx]
   have el:CL G L f t a=if x.kind=3 then[a]else[]:=by unfold CL;rw[zaa h1,zaa h2,hK]
   rw[el];rw[hAt]at dU hD ⊢;exact QW hx (hR.kind a x hx) (by rw[←hK];exact h1) (by rw[←hK];exact h2) dU (di dU.nl).2 (fQ _ _) hD hA
theorem Gz (m:Nat)(r:List UInt8):cN (35::(Γ m++r))=false:=by
 rw[Lib.itoa_nonneg];cases hd:Lib.decDigits m with
 |nil=>exact absurd hd (nu m)
 |cons x q=>
  have hx:=gQ m x (by rw[hd];exact zaD);simp only[zam,cN];rw[zaS];rintro ⟨_,e⟩;rw[e]at hx;have:UInt8.toNat 124=124:=rfl;omega
theorem Nf (hR:Rg G){f:Nat}(hF:FOk G L s T lam f)(QY:ROk G L s T lam f):FOk G L s T lam (f+1):=by
 intro t a k fr ak ck p hO ha hf dU hD hA Gw NV;have cV:t.long=false:=(dX (f+1) false t a dU.nl).nl;have AJ:=hO.lo cV;by_cases h0:0≤t.cE.getD a (-1)
 ·have e:WG G L (f+1) false t a=t.add (35::(Γ (t.cE.getD a (-1))++[35])):=by
   show WF _ _ _ _ _ _ _ _=_;simp only[WF];rw[zaa (by simp[cV]),zab h0]
  have el:LG G L (f+1) false t a=[]:=by
   show WL _ _ _ _ _ _ _ _=_;simp only[WL];rw[zab h0]
  rw[e]at dU hD ⊢;rw[el];obtain⟨m,hm⟩:=zbq h0;have hb:=hO.ln a;have wJ:=hO.n2;have Q1:=dU.lam a (by rw[gX];exact h0);rw[gX]at Q1;rw[hm]at dU hD hb Q1 ⊢;obtain⟨hs1,rq⟩:=dU.drop (di dU.nl).2;generalize hR1:s.drop (t.add (35::(Γ (m:Int)++[35]))).out.length=R1 at hs1;have l4:s.drop t.out.length=35::(Γ (m:Int)++35::R1):=by rw[hs1];simp
  have ht:=BV (c:=35) (show m≤999 by omega) (.inr rfl) l4;obtain⟨e1,e2⟩:=hA.tok l4 (by decide) (by decide) (Gz m _) ht rfl;refine⟨_,e1,qU 11 rfl (by decide),.inr ⟨.ask m,⟨k+1,fr,ak⟩,ck,Ev.ji λq=>?_,⟨⟨?_,λq=>by rw[fQ];exact hA.ak q⟩,zac _,λ_ _=>rfl,⟨a,rfl,Q1⟩,λi hi=>(by cases hi),⟨k,_,rfl,e1,?_⟩,λc=>rfl⟩⟩⟩
  ·show aL T 30 (q+1) _ _ _=_;rw[QV rfl Gw NV ((hA.ak _).2 ⟨by show(0:Int)≤(m:Int);omega,by show(m:Int)<_;omega⟩)]
  ·show Pos T s (k+1) _;rw[rq];have:t.out.length+(35::(Γ (m:Int)++[35])).length=t.out.length+(Γ (m:Int)).length + 2:=by simp;omega
   rw[this];exact e2
  ·rw[rq];show t.out.length+(Γ (m:Int)).length + 2=_;simp;omega
 ·have e:WG G L (f+1) false t a=CG G L f (if L a then t.put a else t) a:=by
   show WF _ _ _ _ _ _ _ _=_;simp only[WF];rw[zaa (by simp[cV]),zaa h0];unfold CG;rw[pX]
  have el:LG G L (f+1) false t a=CL G L f (if L a then t.put a else t) a:=by
   show WL _ _ _ _ _ _ _ _=_;simp only[WL];rw[zaa h0];rfl
  rw[e]at dU hD ⊢;rw[el];cases hL:L a with
  |false=>
   rw[hL]at dU hD;exact B3 (t:=t) hR hF QY hO ha (by omega) dU hD hA Gw
  |true=>
   rw[hL]at dU hD;have mG:Fin s lam (CG G L f (t.put a) a):=dU;have g1:=ab5 mG.nl;have F1:=mG.of g1;have hput:=(zl F1.nl).2;obtain⟨hs1,rq⟩:=F1.drop hput;have qa:=hO.nx cV;generalize hR1:s.drop (t.put a).out.length=R1 at hs1;have l4:s.drop t.out.length=35::(Γ (t.next:Int)++61::R1):=by rw[hs1];simp
   have ht:=BV (c:=61) (show t.next≤999 by omega) (.inl rfl) l4;obtain⟨e1,e2⟩:=hA.tok l4 (by decide) (by decide) (Gz _ _) ht rfl;have hni:¬(t.next:Int)∈ak:=λhm=>by have:=((hA.ak _).1 hm).2;omega
   refine⟨_,e1,qU 10 rfl (by decide),?_⟩;by_cases qz:p.depth=30
   ·exact .inl ⟨t.out.length,Ev.ji λm=>by
     show aL T 30 (m+1) _ _ _=_;rw[Gv rfl Gw hni,zab qz];rfl⟩
   ·have yg:=hO.put ha hL cV;have QN:(t.put a).out.length=t.out.length+(Γ (t.next:Int)).length + 2:=by rw[rq];simp;omega
    have AD:AX s T (t.put a) (k+1) ((t.next:Int)::ak):=by
     refine⟨by rw[QN];exact e2,λm=>?_⟩;show m∈(t.next:Int)::ak↔0≤m∧m<((t.next+1:Nat):Int);rw[zal,hA.ak];omega
    obtain⟨τ,hT,Eh,hres⟩:=B3 (p:=⟨p.depth+1,p.passed,p.ahead++[(t.next:Int)]⟩) (fr:=fr) (ck:=ck) hR hF QY yg ha (by omega) mG hD AD Gw;have Gx:B2 (λm=>ay T 30 m ⟨p.depth+1,p.passed,p.ahead++[(t.next:Int)]⟩ ⟨k+1,fr,(t.next:Int)::ak⟩) _:=hres.S6 (Ev.ji λm=>Jl hT Eh m);have Q1:lam (t.next:Int)=a:=by
     have e0:(t.put a).cE.getD a (-1)=(t.next:Int):=by
      show(t.cE.set a (t.next:Int)).getD a (-1)=_;rw[cR _ _ _ _ _ (by rw[hO.ll];exact ha),zab rfl]
     have e3:=F1.lam a (by rw[e0];omega);rw[e0]at e3;exact e3
    refine Gx.bind (Z:=λd σ _=> .ok (.put (t.next:Int) d) σ) (Ev.all λm=>by
     show aL T 30 (m+1) _ _ _=_;rw[Gv rfl Gw hni,zaa qz]) λd σ je hg=>?_
    exact .inr ⟨_,σ,je,Ev.all λ_=>rfl,⟨hg.at_,hg.Na,hg.old,⟨hg.wd,a,rfl,Q1⟩,hg.ids,hg.last,hg.cnt⟩⟩
theorem pg (hR:Rg G):∀f,FOk G L s T lam f∧ROk G L s T lam f
 |0=>by
  constructor
  ·intro t a k fr ak ck p hO ha hf dU;have:=hO.lo dU.nl;omega
  ·intro t r k fr bs lg ds ak ck p hO hr hf dU;have:=hO.lo dU.nl;omega
 |f+1=>⟨Nf hR (pg hR f).1 (pg hR f).2,Vb hR (pg hR f).1 (pg hR f).2⟩
end
end Go.Proofs.YtlhimdjkkiflhaaGreatDoor
namespace Go.Loop
def Le {α:Type}(x x':RR α):Prop:=x≠.out→x'=x
theorem Le.refl {α:Type}(x:RR α):Le x x:=λ_=>rfl
theorem Le.bind {α β:Type}{x x':RR α}{f f':α→eD→RR β}(hx:Le x x')(hf:∀a s,Le (f a s) (f' a s)):Le (x.bind f) (x'.bind f'):=by
 intro h;cases SR:x with
 |out=>rw[SR]at h;exact absurd rfl h
 |fail e a=>rw[hx (by rw[SR];simp),SR];rfl
 |ok a s=>
  rw[hx (by rw[SR];simp),SR];rw[SR]at h;exact hf a s h
theorem Le.ite {α:Type}{c:Prop} [Decidable c] {x x' y y':RR α}(hx:Le x x')(hy:Le y y'):Le (if c then x else y) (if c then x' else y'):=by
 split
 ·exact hx
 ·exact hy
section
variable (T:List Tok)(dp:Nat)
structure ab7 (n:Nat):Prop where
 datum:∀p s,Le (ay T dp n p s) (ay T dp (n+1) p s)
 take:∀p s,Le (aM T dp n p s) (aM T dp (n+1) p s)
 nY:∀t p s,Le (aL T dp n t p s) (aL T dp (n+1) t p s)
 list:∀data p s,Le (bh T dp n data p s) (bh T dp (n+1) data p s)
 vec:∀data p s,Le (cy T dp n data p s) (cy T dp (n+1) data p s)
end
section
variable {T:List Tok}{dp:Nat}
theorem Q2:∀n,ab7 T dp n
 |0=>by
  refine⟨λp s h=>?_,λp s h=>?_,λt p s h=>?_,λdata p s h=>?_,λdata p s h=>?_⟩
  ·exact absurd (by unfold ay;rfl) h
  ·exact absurd (by unfold aM;rfl) h
  ·exact absurd (by unfold aL;rfl) h
  ·exact absurd (by unfold bh;rfl) h
  ·exact absurd (by unfold cy;rfl) h
 |n+1=>by
  have ih:=Q2 n;refine⟨λp s=>?_,λp s=>?_,λt p s=>?_,λdata p s=>?_,λdata p s=>?_⟩
  ·rw[ay,ay.eq_def T dp (n+1+1)];exact(ih.take _ _).bind λt s=>ih.nY _ _ _
  ·rw[aM,aM.eq_def T dp (n+1+1)];dsimp only;cases T[s.k]? with
   |none=>exact Le.refl _
   |some t=>exact Le.ite (Le.refl _) (Le.ite (Le.refl _) (Le.ite ((ih.datum _ _).bind λ_ _=>ih.take _ _) (Le.refl _)))
  ·rw[aL,aL.eq_def T dp (n+1+1)];exact Le.ite (Le.refl _) (Le.ite (Le.ite (Le.refl _) (Le.ite (Le.refl _) ((ih.datum _ _).bind λ_ _=>Le.refl _))) (Le.ite (Le.ite (Le.refl _) (Le.refl _)) (Le.ite (Le.ite (Le.refl _) (Le.ite ((ih.vec _ _ _).bind λ_ _=>Le.refl _) (Le.ite ((ih.datum _ _).bind λ_ _=>Le.refl _) (ih.list _ _ _)))) (Le.refl _))))
  ·rw[bh,bh.eq_def T dp (n+1+1)];exact(ih.take _ _).bind λt s=>Le.ite (Le.refl _) (Le.ite ((ih.datum _ _).bind λ_ _=>(ih.take _ _).bind λ_ _=>Le.refl _) ((ih.nY _ _ _).bind λ_ _=>ih.list _ _ _))
  ·rw[cy,cy.eq_def T dp (n+1+1)];exact(ih.take _ _).bind λt s=>Le.ite (Le.refl _) (Le.ite (Le.refl _) ((ih.nY _ _ _).bind λ_ _=>ih.vec _ _ _))
theorem Jn {n m:Nat}{p:Pl}{s:eD}(h:ay T dp n p s≠.out)(hm:n≤m):ay T dp m p s=ay T dp n p s:=by
 induction m with
 |zero=>rw[show n=0 by omega]
 |succ m ih=>
  by_cases e:n=m+1
  ·rw[e]
  ·have i:=ih (by omega);rw[(Q2 m).datum p s (by rw[i];exact h),i]
end
section
variable {K:Nat→Int}{S:Nat→List Nat}{At:Nat→List UInt8}{L:Nat→Bool}
theorem nE {P:TS→Prop}(ha:∀t p,P t→P (t.add p))(hp:∀t a,P t→P (t.put a)):∀(f:Nat) (b:Bool) (t:TS) (a:Nat),P t→P (WF K S At L f b t a)
 |0,_,_,_,h=>h
 |f+1,false,t,a,h=>by
  have h0:P (if L a then t.put a else t):=by
   split
   ·exact hp _ _ h
   ·exact h
  simp only[WF];split
  ·exact h
  ·split
   ·exact ha _ _ h
   ·split
    ·exact nE ha hp f true _ _ (nE ha hp f false _ _ (ha _ _ h0))
    ·split
     ·rw[pX];refine ha _ _ ?_;have:∀(l:List Nat) (b:Bool) (t:TS),P t→P (jZ (WF K S At L f false) b l t):=by
       intro l
       induction l with
       |nil=>intro b t h;exact h
       |cons x l ih=>
        intro b t h;refine ih false _ (nE ha hp f false _ _ ?_);split
        ·exact h
        ·exact ha _ _ h
      exact this _ _ _ (ha _ _ h0)
     ·exact ha _ _ h0
 |f+1,true,t,r,h=>by
  simp only[WF];split
  ·exact nE ha hp f true _ _ (nE ha hp f false _ _ (ha _ _ h))
  ·split
   ·exact ha _ _ h
   ·exact ha _ _ (nE ha hp f false _ _ (ha _ _ h))
end
structure LJ (t:TS):Prop where
 lt:∀i,t.cE.getD i (-1)<t.next
 inj:∀b c,0≤t.cE.getD b (-1)→t.cE.getD b (-1)=t.cE.getD c (-1)→b=c
theorem LJ.add {t:TS}(h:LJ t)(p:List UInt8):LJ (t.add p):=⟨by rw[gX,fQ];exact h.lt,by rw[gX];exact h.inj⟩
theorem LJ.put {t:TS}(h:LJ t)(a:Nat):LJ (t.put a):=by
 have hg:∀i,(t.put a).cE.getD i (-1)=(if a<t.cE.length∧i=a then(t.next:Int)else t.cE.getD i (-1)):=λi=>by
  show(t.cE.set a (t.next:Int)).getD i (-1)=_;by_cases ha:a<t.cE.length
  ·rw[cR _ _ _ _ _ ha];by_cases hi:i=a
   ·rw[zab hi,zab ⟨ha,hi⟩]
   ·rw[zaa hi,zaa (λq=>hi q.2)]
  ·rw[List.set_eq_of_length_le (by omega),zaa (λq=>ha q.1)]
 refine⟨λi=>?_,λb c hb e=>?_⟩
 ·rw[hg];show _<((t.next+1:Nat):Int);have:=h.lt i;split<;>omega
 ·rw[hg,hg]at e;rw[hg]at hb;have h1:=h.lt b;have h2:=h.lt c;split at e<;>split at e
  ·rename_i q1 q2;rw[q1.2,q2.2]
  ·omega
  ·omega
  ·rename_i q1 _;rw[zaa q1]at hb;exact h.inj b c hb e
def zr (t:TS)(m:Int):Nat:=t.cE.idxOf m
theorem Ng {t:TS}(h:LJ t)(b:Nat)(hb:0≤t.cE.getD b (-1)):zr t (t.cE.getD b (-1))=b:=by
 have hbl:b<t.cE.length:=by
  rcases zaw b t.cE.length with q|q
  ·exact q
  ·rw[zcG,zcp q]at hb;simp at hb
 have hm:t.cE.getD b (-1)∈t.cE:=by
  rw[zcG,zat hbl];exact zbx hbl
 have hi:=List.idxOf_lt_length_of_mem hm;refine(h.inj b (zr t (t.cE.getD b (-1))) hb ?_).symm;unfold zr;generalize hx:t.cE.getD b (-1)=x at *;rw[zcG,zat hi,List.getElem_idxOf hi];rfl
end Go.Loop
namespace Go.Proofs.YtlhimdjkkiflhaaGreatDoor
open Go.RowKit Go.Loop
theorem Nh (n:Nat):LJ (bu n):=by
 have h:∀i,(bu n).cE.getD i (-1)=-1:=λi=>by
  show(List.replicate n (-1:Int)).getD i (-1)=-1;rw[zcG,zcF];split<;>rfl
 refine⟨λi=>?_,λb c hb=>?_⟩
 ·rw[h];show(-1:Int)<((0:Nat):Int);omega
 ·rw[h]at hb;omega
theorem KP {T:List Tok}{p:Pl}{s:eD}{r:RR Dt}(hne:ay T 30 2000 p s≠.out)(h:Ev λm=>ay T 30 m p s=r):ay T 30 2000 p s=r:=by
 obtain⟨m0,h⟩:=h;have h1:ay T 30 (max m0 2000) p s=r:=h (max m0 2000) (by omega);rw[Jn hne (by omega)]at h1;exact h1
theorem B4 {G:List Nd}(hR:Rg G)(hn:1≤G.length){L:Nat→Bool}(mi:(WG G L 403 false (bu G.length) 0).long=false){s:List UInt8}(hs:s=(WG G L 403 false (bu G.length) 0).out):s.length≤400∧((∃a,cS s 30=some ([],a,6))∨cS s 30=some ([],0,2)∨
 ∃d σ ck k g,ay (aw (s.length+1) s 0) 30 2000 ⟨0,false,[]⟩ ⟨0,0,[]⟩=.ok d σ∧ie d 100000 d ⟨[],[]⟩=some (k,g)∧g.nodes.length≤150∧cS s 30=some (g.nodes,s.length,0)∧Wd G (zr (WG G L 403 false (bu G.length) 0)) ck d [0]∧∀c,cn ck c (aY d)=(LG G L 403 false (bu G.length) 0).count c):=by
 have hO:=pU G.length L;have hOF:=KN (L:=L) hR (f:=403) (b:=false) hO (show 0<G.length by omega);have hlen:=hOF.lo mi;rw[←hs]at hlen;refine⟨hlen,?_⟩;have hLJ:LJ (WG G L 403 false (bu G.length) 0):=nE (λt p h=>h.add p) (λt a h=>h.put a) _ _ _ _ (Nh _);have dU:Fin s (zr (WG G L 403 false (bu G.length) 0)) (WG G L 403 false (bu G.length) 0):=⟨mi,⟨[],by rw[hs];simp⟩,λb hb=>Ng hLJ b hb⟩;have hA:AX s (aw (s.length+1) s 0) (bu G.length) 0 []:=⟨Pos.start s,λm=>by
  show m∈[]↔0≤m∧m<((0:Nat):Int);simp⟩
 have hD:Dl (s.drop (WG G L 403 false (bu G.length) 0).out.length):= .inl (by rw[←hs];simp);obtain⟨τ,hT,Eh,hres⟩:=(pg (G:=G) (L:=L) (s:=s) (T:=aw (s.length+1) s 0) (lam:=zr (WG G L 403 false (bu G.length) 0)) hR 403).1 (bu G.length) 0 0 0 [] (λ_=>none) ⟨0,false,[]⟩ hO (by omega) (by omega) dU hD hA rfl rfl;have Gx:B2 (λm=>ay (aw (s.length+1) s 0) 30 m ⟨0,false,[]⟩ ⟨0,0,[]⟩) _:=hres.S6 (Ev.ji λm=>Jl hT Eh m);have hTl:=lF (s.length+1) s 0 (zaq _) (by omega);have hle:=pO (s.length+1) s 0;have Y5:=(fuel (aw (s.length+1) s 0) 30 hTl.2 2000).datum ⟨0,false,[]⟩ ⟨0,0,[]⟩ (zbT.2 hTl.1) (by show 2*(_-0)+2≤2000;omega);have hne:ay (aw (s.length+1) s 0) 30 2000 ⟨0,false,[]⟩ ⟨0,0,[]⟩≠.out:=λh=>by rw[h]at Y5;exact Y5
 have hu:∀r,ay (aw (s.length+1) s 0) 30 2000 ⟨0,false,[]⟩ ⟨0,0,[]⟩=r→cS s 30=match r with
  |.out=>none
  |.fail e a=>some ([],a,e)
  |.ok d σ=>(ie d 100000 d ⟨[],[]⟩).map λg=>if 150<g.2.nodes.length then([],0,2)else(g.2.nodes,(((aw (s.length+1) s 0)[σ.k-1]?).map (·.gw)).getD 0,0):=λr hr=>by
  unfold cS;rw[zaa (by omega),zaa (by omega),show Int.toNat 30=30 from rfl,hr];cases r<;>rfl
 rcases Gx with⟨e,h⟩|⟨d,σ,ck,h,hg⟩
 ·exact .inl ⟨e,hu _ (KP hne h)⟩
 ·have eK:=KP hne h;obtain⟨_,k,g,cO,_⟩:=tj hlen 30 d σ eK;have hN:=hu _ eK;dsimp only at hN;rw[cO]at hN;by_cases ql:150<g.nodes.length
  ·simp only[zbp,zab ql]at hN;exact .inr (.inl hN)
  ·simp only[zbp,zaa ql]at hN;obtain⟨j,tk,hj,NK,Vd⟩:=hg.last;have hjk:σ.k-1=j:=by omega
   rw[hjk,NK]at hN;refine .inr (.inr ⟨d,σ,ck,k,g,eK,cO,by omega,?_,hg.wd,hg.cnt⟩);rw[hN];simp only[zbp,zbg,Vd];rw[←hs]
end Go.Proofs.YtlhimdjkkiflhaaGreatDoor
namespace Go.Loop
theorem iy {root d:Dt}:∀{r:Dt},bH root r=true→d∈bp r→bH root d=true
 |.pair i a b,h,hr=>by
  have h':=h;simp only[bH,zae]at h';simp only[bp,zal,zaF]at hr;rcases hr with rfl|hr|hr
  ·exact h
  ·exact iy h'.1 hr
  ·exact iy h'.2 hr
 |.br a b,h,hr=>by
  have h':=h;simp only[bH,zae]at h';simp only[bp,zal,zaF]at hr;rcases hr with rfl|hr|hr
  ·exact h
  ·exact iy h'.1 hr
  ·exact iy h'.2 hr
 |.vec i l,h,hr=>by
  have h':=h;simp only[bH,zae]at h';simp only[bp,zal]at hr;rcases hr with rfl|hr
  ·exact h
  ·exact iy h'.2 hr
 |.put i l,h,hr=>by
  have h':=h;simp only[bH,zae]at h';simp only[bp,zal]at hr;rcases hr with rfl|hr
  ·exact h
  ·exact iy h'.2 hr
 |.nil,h,hr=>by simp[bp]at hr;subst hr;exact h
 |.sym _,h,hr=>by simp[bp]at hr;subst hr;exact h
 |.num _ _,h,hr=>by simp[bp]at hr;subst hr;exact h
 |.cD _,h,hr=>by simp[bp]at hr;subst hr;exact h
 |.kB _,h,hr=>by simp[bp]at hr;subst hr;exact h
 |.txt _ _,h,hr=>by simp[bp]at hr;subst hr;exact h
 |.cZ,h,hr=>by simp[bp]at hr;subst hr;exact h
 |.ask _,h,hr=>by simp[bp]at hr;subst hr;exact h
theorem GD {root d:Dt}{n k:Nat}{g:fP}(h:ie root n d ⟨[],[]⟩=some (k,g)):k=0:=by
 cases n with
 |zero=>simp[ie]at h
 |succ n=>
  simp only[ie,List.lookup]at h;split at h
  ·obtain⟨y,_,h2⟩:=zas.1 h;cases h2;rfl
  ·obtain⟨y,_,h2⟩:=zas.1 h;cases h2;rfl
  all_goals cases h;rfl
end Go.Loop
namespace Go.Proofs.YtlhimdjkkiflhaaGreatDoor
open Go.RowKit Go.Loop
section
variable {G:List Nd}{lam:Int→Nat}{ck:Nat→Option Nat}
theorem pk {x:Dt}:∀{r:Dt} {l:List Nat},Wd G lam ck r l→x∈bp r→∃l',Wd G lam ck x l'
 |.pair i u v,l,h,hx=>by
  simp only[bp,zal,zaF]at hx;rcases hx with rfl|hx|hx
  ·exact⟨l,h⟩
  ·obtain⟨a,_,_,_,h4,_⟩:=h;exact pk h4 hx
  ·obtain⟨a,_,_,_,_,h5⟩:=h;exact pk h5 hx
 |.br u v,l,h,hx=>by
  simp only[bp,zal,zaF]at hx;rcases hx with rfl|hx|hx
  ·exact⟨l,h⟩
  ·obtain⟨a,q,_,h4,_⟩:=h;exact pk h4 hx
  ·obtain⟨a,q,_,_,h5⟩:=h;exact pk h5 hx
 |.vec i u,l,h,hx=>by
  simp only[bp,zal]at hx;rcases hx with rfl|hx
  ·exact⟨l,h⟩
  ·obtain⟨a,_,_,_,h4⟩:=h;exact pk h4 hx
 |.put m u,l,h,hx=>by
  simp only[bp,zal]at hx;rcases hx with rfl|hx
  ·exact⟨l,h⟩
  ·exact pk h.1 hx
 |.nil,l,h,hx=>by simp[bp]at hx;subst hx;exact⟨l,h⟩
 |.sym _,l,h,hx=>by simp[bp]at hx;subst hx;exact⟨l,h⟩
 |.num _ _,l,h,hx=>by simp[bp]at hx;subst hx;exact⟨l,h⟩
 |.cD _,l,h,hx=>by simp[bp]at hx;subst hx;exact⟨l,h⟩
 |.kB _,l,h,hx=>by simp[bp]at hx;subst hx;exact⟨l,h⟩
 |.txt _ _,l,h,hx=>by simp[bp]at hx;subst hx;exact⟨l,h⟩
 |.cZ,l,h,hx=>by simp[bp]at hx;subst hx;exact⟨l,h⟩
 |.ask _,l,h,hx=>by simp[bp]at hx;subst hx;exact⟨l,h⟩
theorem tD {root:Dt}{l0:List Nat}(h0:Wd G lam ck root l0)(hg:bH root root=true){a:Nat}:∀(f:Nat) (x:Dt),x∈bp root→Wd G lam ck x [a]→Wd G lam ck (bQ root f x) [a]
 |0,_,_,h=>h
 |f+1,.put m u,hx,h=>tD h0 hg f u (cz (by simp[bp,cX]) hx) h.1
 |f+1,.ask m,hx,h=>by
  have hgo:=iy hg hx;simp only[bH,zae]at hgo;obtain⟨u,hu⟩:=zcc.1 hgo.1;show Wd G lam ck (bQ root f ((aO m root).getD .nil)) [a];rw[hu];have hp:=lO hu;obtain⟨l',h1,b,rfl,h3⟩:=pk h0 hp;obtain⟨a',e1,e2⟩:=h;cases e1;have XI:b=a:=by rw[←h3,←e2]
  subst XI;exact tD h0 hg f u (cz (by simp[bp,cX]) hp) h1
 |f+1,.nil,_,h=>h
 |f+1,.sym _,_,h=>h
 |f+1,.num _ _,_,h=>h
 |f+1,.cD _,_,h=>h
 |f+1,.kB _,_,h=>h
 |f+1,.txt _ _,_,h=>h
 |f+1,.pair _ _ _,_,h=>h
 |f+1,.vec _ _,_,h=>h
 |f+1,.cZ,_,h=>h
 |f+1,.br _ _,_,h=>h
def Bis (G:List Nd)(H:List eO)(R:Nat→Nat→Prop):Prop:=∀a k,R a k→∃x z,G[a]?=some x∧H[k]?=some z∧x.kind=z.kind∧x.text=z.text∧x.n=z.n∧x.d=z.d∧x.subs.length=z.subs.length∧∀j,j<z.subs.length→R ((ai G a).getD j 0) (z.subs.getD j 0)
def RB (G:List Nd)(lam:Int→Nat)(ck:Nat→Option Nat)(root:Dt)(g:fP)(a k:Nat):Prop:=a<G.length∧∃x,x∈bp root∧aP false x=true∧Wd G lam ck x [a]∧Al root g x k
theorem B6 {a:Nat}{x:Nd}(hx:G[a]?=some x):(ai G a).length=x.subs.length:=by unfold ai;rw[hx];simp
theorem Q5 {root:Dt}{g:fP}:∀{l:Dt} {az ks:List Nat},(∀a∈az,a<G.length)→(l∈bp root)→aP true l=true→Wd G lam ck l az→XH root g l ks→az.length=ks.length∧∀j,j<ks.length→RB G lam ck root g (az.getD j 0) (ks.getD j 0)
 |.cZ,az,ks,_,_,_,hw,ha=>by
  have h1:az=[]:=hw;have h2:ks=[]:=ha;subst h1 h2;exact⟨rfl,λj hj=>by simp at hj⟩
 |.br u v,az,ks,hr,ho,hp,⟨a,q,h1,h2,h3⟩,⟨k,p,e1,e2,e3⟩=>by
  subst h1 e1;simp only[aP,zae]at hp;obtain⟨i1,i2⟩:=Q5 (λb hb=>hr b (by simp[hb])) (cz (by simp[bp,cX]) ho) hp.2 h3 e3;refine⟨by simp[i1],λj hj=>?_⟩;cases j with
  |zero=>exact⟨hr a (by simp),u,cz (by simp[bp,cX]) ho,hp.1,h2,e2⟩
  |succ j=>simpa using i2 j (by simpa using hj)
 |.nil,_,_,_,_,h,_,_=>by simp[aP]at h
 |.sym _,_,_,_,_,h,_,_=>by simp[aP]at h
 |.num _ _,_,_,_,_,h,_,_=>by simp[aP]at h
 |.cD _,_,_,_,_,h,_,_=>by simp[aP]at h
 |.kB _,_,_,_,_,h,_,_=>by simp[aP]at h
 |.txt _ _,_,_,_,_,h,_,_=>by simp[aP]at h
 |.pair _ _ _,_,_,_,_,h,_,_=>by simp[aP]at h
 |.vec _ _,_,_,_,_,h,_,_=>by simp[aP]at h
 |.put _ _,_,_,_,_,h,_,_=>by simp[aP]at h
 |.ask _,_,_,_,_,h,_,_=>by simp[aP]at h
theorem jN {x:Dt}:∀{b:Bool} {r:Dt},aP b r=true→x∈bp r→∃b',aP b' x=true
 |b,.pair j u v,h,hx=>by
  cases b with
  |true=>simp[aP]at h
  |false=>
   have h':=h;simp only[aP,zae]at h';simp only[bp,zal,zaF]at hx;rcases hx with rfl|hx|hx
   ·exact⟨_,h⟩
   ·exact jN h'.1 hx
   ·exact jN h'.2 hx
 |b,.br u v,h,hx=>by
  cases b with
  |false=>simp[aP]at h
  |true=>
   have h':=h;simp only[aP,zae]at h';simp only[bp,zal,zaF]at hx;rcases hx with rfl|hx|hx
   ·exact⟨_,h⟩
   ·exact jN h'.1 hx
   ·exact jN h'.2 hx
 |b,.vec j u,h,hx=>by
  cases b with
  |true=>simp[aP]at h
  |false=>
   have h':=h;simp only[aP,zae]at h';simp only[bp,zal]at hx;rcases hx with rfl|hx
   ·exact⟨_,h⟩
   ·exact jN h'.2 hx
 |b,.put m u,h,hx=>by
  cases b with
  |true=>simp[aP]at h
  |false=>
   have h':=h;simp only[aP]at h';simp only[bp,zal]at hx;rcases hx with rfl|hx
   ·exact⟨_,h⟩
   ·exact jN h' hx
 |b,.nil,h,hx=>by simp[bp]at hx;subst hx;exact⟨b,h⟩
 |b,.sym _,h,hx=>by simp[bp]at hx;subst hx;exact⟨b,h⟩
 |b,.num _ _,h,hx=>by simp[bp]at hx;subst hx;exact⟨b,h⟩
 |b,.cD _,h,hx=>by simp[bp]at hx;subst hx;exact⟨b,h⟩
 |b,.kB _,h,hx=>by simp[bp]at hx;subst hx;exact⟨b,h⟩
 |b,.txt _ _,h,hx=>by simp[bp]at hx;subst hx;exact⟨b,h⟩
 |b,.cZ,h,hx=>by simp[bp]at hx;subst hx;exact⟨b,h⟩
 |b,.ask _,h,hx=>by simp[bp]at hx;subst hx;exact⟨b,h⟩
theorem B7 {r:Dt}(h:aP false r=true){i:Nat}{u v:Dt}(hx: .pair i u v∈bp r):aP false u=true∧aP false v=true:=by
 obtain⟨b,hb⟩:=jN h hx;cases b with
 |true=>simp[aP]at hb
 |false=>simpa[aP]using hb
theorem Q6 {r:Dt}(h:aP false r=true){i:Nat}{l:Dt}(hx: .vec i l∈bp r):aP true l=true:=by
 obtain⟨b,hb⟩:=jN h hx;cases b with
 |true=>simp[aP]at hb
 |false=>simp only[aP,zae]at hb;exact hb.2
theorem GF {root:Dt}(hg:bH root root=true){x:Dt}(hx:x∈bp root)(hp:aP false x=true):(bQ root 200000 x).hd=true:=by
 have hgo:=iy hg hx;cases x with
 |put m u=>simp only[bH,zae]at hgo;exact hgo.1
 |ask m=>simp only[bH,zae]at hgo;exact hgo.2
 |cZ=>simp[aP]at hp
 |br u v=>simp[aP]at hp
 |_=>rfl
theorem B8 {a:Nat}{x:Nd}(hx:G[a]?=some x):aJ G a=x.kind:=by unfold aJ;rw[hx]
theorem Ni {a:Nat}{x:Nd}(hx:G[a]?=some x):qT G a=x:=by unfold qT;simp[List.getD,hx]
theorem KQ {x:Nd}(h:aQ x=true)(k:x.kind=1):x.subs.length=2∧x.text=[]∧x.n=0∧x.d=0:=by
 unfold aQ at h;rw[zaa (by omega),zab k]at h;exact of_decide_eq_true h
theorem Q7 {x:Nd}(h:aQ x=true)(k:x.kind=2):x.subs.length≤20∧x.text=[]∧x.n=0∧x.d=0:=by
 unfold aQ at h;rw[zaa (by omega),zaa (by omega),zab k]at h;exact of_decide_eq_true h
theorem Jo {x:Nd}(h:aQ x=true)(k:x.kind=0):x.text=[]∧x.n=0∧x.d=0∧x.subs.length=0:=by
 unfold aQ at h;rw[zab k]at h;exact of_decide_eq_true h
theorem Jp {x:Nd}(h:aQ x=true)(k:x.kind=3):x.text.length≤400∧x.n=0∧x.d=0∧x.subs.length=0:=by
 unfold aQ at h;rw[zaa (by omega),zaa (by omega),zaa (by omega),zab k]at h;exact of_decide_eq_true h
theorem Jq {x:Nd}(h:aQ x=true)(k:x.kind=4):x.n=0∧x.d=0∧x.subs.length=0:=by
 unfold aQ at h;rw[zaa (by omega),zaa (by omega),zaa (by omega),zaa (by omega),zab k,zae]at h;exact of_decide_eq_true h.1
theorem Jr {x:Nd}(h:aQ x=true)(k:x.kind=5):x.text=[]∧x.subs.length=0:=by
 unfold aQ at h;rw[zaa (by omega),zaa (by omega),zaa (by omega),zaa (by omega),zaa (by omega),zab k,zae]at h;exact of_decide_eq_true h.2
theorem Js {x:Nd}(h:aQ x=true)(k:x.kind=6):x.text=[]∧x.d=0∧x.subs.length=0:=by
 unfold aQ at h;rw[zaa (by omega),zaa (by omega),zaa (by omega),zaa (by omega),zaa (by omega),zaa (by omega),zab k]at h;exact(of_decide_eq_true h).2
theorem Jt {x:Nd}(h:aQ x=true)(k:x.kind=7):x.text=[]∧x.d=0∧x.subs.length=0:=by
 unfold aQ at h;rw[zaa (by omega),zaa (by omega),zaa (by omega),zaa (by omega),zaa (by omega),zaa (by omega),zaa (by omega),zab k,zae]at h;exact of_decide_eq_true h.2
theorem Dz (hR:Rg G){root:Dt}{l0:List Nat}{g:fP}(h0:Wd G lam ck root l0)(hg:bH root root=true)(hp:aP false root=true)(hN:NX root ⟨[],[]⟩ g):Bis G g.nodes (RB G lam ck root g):=by
 rintro a k ⟨ha,x,pK,hxp,hw,hat⟩;obtain⟨X,hX⟩:∃X,G[a]?=some X:=⟨_,zat ha⟩;have XJ:=hR.kind a X hX;have hK:=B8 hX;have hNd:=Ni hX;have hSl:=B6 hX;have hm:=tD h0 hg 200000 x pK hw;have uB:=GF hg pK hxp;have Q8:∀i,g.met.lookup i=some k→B5 root g i k:=λi hi=>by
  rcases hN.new i k hi with h|h
  ·cases h
  ·exact h.2
 have DC:∀(y:Dt) (i b:Nat),y∈bp root→ck i=some a→(∀l,Wd G lam ck y l→∃c,l=[c]∧ck i=some c)→Wd G lam ck y [a]:=λy i _ hy NV hc=>by
  obtain⟨l,hl⟩:=pk h0 hy;obtain⟨c,rfl,hpc⟩:=hc l hl;rw[NV]at hpc;cases hpc;exact hl
 unfold Al at hat
 cases hy:bQ root 200000 x with
 |pair i u v=>
  rw[hy]at hat hm;obtain⟨b,e,k1,p1,_,_⟩:=hm;cases e;rw[hK]at k1;rcases Q8 i hat with⟨u',v',ka,kb,o1,n1,t1,t2⟩|⟨l,ks,o1,_,_⟩|⟨w,o1,_⟩
  ·obtain⟨b,e,_,_,w1,w2⟩:=DC _ i 0 o1 p1 (λl ⟨c,q1,_,q3,_⟩=>⟨c,q1,q3⟩);cases e;obtain⟨q1,q2,q3,q4⟩:=KQ XJ k1;obtain⟨r0,r1⟩:=hR.sub (a:=a) (by rw[hK];exact k1);refine⟨X,_,hX,n1,k1,q2,q3,q4,q1,λj hj=>?_⟩;have hj':j=0∨j=1:=by simp at hj;omega
   rcases hj' with rfl|rfl
   ·exact⟨r0,u',cz (by simp[bp,cX]) o1,(B7 hp o1).1,w1,t1⟩
   ·exact⟨r1,v',cz (by simp[bp,cX]) o1,(B7 hp o1).2,w2,t2⟩
  ·obtain⟨b,e,k2,_⟩:=DC _ i 0 o1 p1 (λl ⟨c,q1,_,q3,_⟩=>⟨c,q1,q3⟩);cases e;rw[hK]at k2;omega
  ·obtain⟨b,e,k2,_⟩:=DC _ i 0 o1 p1 (λl ⟨c,q1,_,_,q3⟩=>⟨c,q1,q3⟩);cases e;rw[hK]at k2;omega
 |vec i u=>
  rw[hy]at hat hm;obtain⟨b,e,k1,p1,_⟩:=hm;cases e;rw[hK]at k1;rcases Q8 i hat with⟨u',v',ka,kb,o1,n1,t1,t2⟩|⟨l,ks,o1,n1,t1⟩|⟨w,o1,_⟩
  ·obtain⟨b,e,k2,_⟩:=DC _ i 0 o1 p1 (λl ⟨c,q1,_,q3,_⟩=>⟨c,q1,q3⟩);cases e;rw[hK]at k2;omega
  ·obtain⟨b,e,_,_,w1⟩:=DC _ i 0 o1 p1 (λl ⟨c,q1,_,q3,_⟩=>⟨c,q1,q3⟩);cases e;obtain⟨q1,q2,q3,q4⟩:=Q7 XJ k1;obtain⟨v1,v2⟩:=Q5 (hR.subs a) (cz (by simp[bp,cX]) o1) (Q6 hp o1) w1 t1;exact⟨X,_,hX,n1,k1,q2,q3,q4,by rw[←hSl];exact v1,v2⟩
  ·obtain⟨b,e,k2,_⟩:=DC _ i 0 o1 p1 (λl ⟨c,q1,_,_,q3⟩=>⟨c,q1,q3⟩);cases e;rw[hK]at k2;omega
 |txt i w=>
  rw[hy]at hat hm;obtain⟨b,e,k1,tx,p1⟩:=hm;cases e;rw[hK]at k1;rw[hNd]at tx;rcases Q8 i hat with⟨u',v',ka,kb,o1,n1,t1,t2⟩|⟨l,ks,o1,n1,t1⟩|⟨w',o1,n1⟩
  ·obtain⟨b,e,k2,_⟩:=DC _ i 0 o1 p1 (λl ⟨c,q1,_,q3,_⟩=>⟨c,q1,q3⟩);cases e;rw[hK]at k2;omega
  ·obtain⟨b,e,k2,_⟩:=DC _ i 0 o1 p1 (λl ⟨c,q1,_,q3,_⟩=>⟨c,q1,q3⟩);cases e;rw[hK]at k2;omega
  ·obtain⟨b,e,_,tx2,_⟩:=DC _ i 0 o1 p1 (λl ⟨c,q1,_,_,q3⟩=>⟨c,q1,q3⟩);cases e;rw[hNd]at tx2;obtain⟨_,q2,q3,q4⟩:=Jp XJ k1;exact⟨X,_,hX,n1,k1,tx2,q2,q3,q4,λj hj=>by simp at hj⟩
 |sym w=>
  rw[hy]at hat hm;obtain⟨b,e,k1,tx⟩:=hm;cases e;rw[hK]at k1;rw[hNd]at tx;obtain⟨q2,q3,q4⟩:=Jq XJ k1;exact⟨X,_,hX,hat,k1,tx,q2,q3,q4,λj hj=>by simp at hj⟩
 |num n d=>
  rw[hy]at hat hm;obtain⟨b,e,k1,t1,t2⟩:=hm;cases e;rw[hK]at k1;rw[hNd]at t1 t2;obtain⟨q2,q3⟩:=Jr XJ k1;exact⟨X,_,hX,hat,k1,q2,t1,t2,q3,λj hj=>by simp at hj⟩
 |cD n=>
  rw[hy]at hat hm;obtain⟨b,e,k1,t1⟩:=hm;cases e;rw[hK]at k1;rw[hNd]at t1;obtain⟨q2,q3,q4⟩:=Js XJ k1;exact⟨X,_,hX,hat,k1,q2,t1,q3,q4,λj hj=>by simp at hj⟩
 |kB n=>
  rw[hy]at hat hm;obtain⟨b,e,k1,t1⟩:=hm;cases e;rw[hK]at k1;rw[hNd]at t1;obtain⟨q2,q3,q4⟩:=Jt XJ k1;exact⟨X,_,hX,hat,k1,q2,t1,q3,q4,λj hj=>by simp at hj⟩
 |nil=>
  rw[hy]at hat hm;obtain⟨b,e,k1⟩:=hm;cases e;rw[hK]at k1;obtain⟨q1,q2,q3,q4⟩:=Jo XJ k1;exact⟨X,_,hX,hat,k1,q1,q2,q3,q4,λj hj=>by simp at hj⟩
 |put m u=>rw[hy]at uB;cases uB
 |ask m=>rw[hy]at uB;cases uB
 |cZ=>rw[hy]at uB;cases uB
 |br u v=>rw[hy]at uB;cases uB
theorem Q9 (hR:Rg G)(hn:1≤G.length){L:Nat→Bool}(mi:(WG G L 403 false (bu G.length) 0).long=false){s:List UInt8}(hs:s=(WG G L 403 false (bu G.length) 0).out):(∃a,cS s 30=some ([],a,6))∨cS s 30=some ([],0,2)∨∃H R,cS s 30=some (H,s.length,0)∧H≠[]∧Bis G H R∧R 0 0:=by
 obtain⟨hlen,h|h|⟨d,σ,ck,k,g,eK,cO,_,hN,hw,_⟩⟩:=B4 hR hn mi hs
 ·exact .inl h
 ·exact .inr (.inl h)
 ·have hgd:=(tj hlen 30 d σ eK).1;have Ak:=((Dw (aw (s.length+1) s 0) 30 (λt ht rG=>zag (nt _ _ _ t ht rG) (by omega)) 2000).datum _ _ d σ eK).sh;obtain⟨hX,hat⟩:=(GC (root:=d) 100000).1 d ⟨[],[]⟩ k g (cX d) cO;have hk:=GD cO;subst hk;refine .inr (.inr ⟨g.nodes,RB G _ ck d g,hN,λe=>?_,Dz hR hw hgd Ak hX,by omega,d,cX d,Ak,hw,hat⟩);obtain⟨_,z,_,hz,_⟩:=Dz hR hw hgd Ak hX 0 0 ⟨by omega,d,cX d,Ak,hw,hat⟩;rw[e]at hz;cases hz
end
end Go.Proofs.YtlhimdjkkiflhaaGreatDoor
