import Derived.Test.YtlhimdjkkiflhaaGreatReads24
set_option maxHeartbeats 8000000
set_option maxRecDepth 100000
namespace Go.Loop
section
variable {L:Nat→RT}{T:List Tok}{dp n:Nat}
theorem Gc (hT:Uf L T)(ih:VW L T dp n)(p:Pl)(q:eA)(s:FS)(φ:Nat→Option Nat)(hp:p.depth≤dp)(hf:Fi q s φ)(ha:s.at_=lK T q.k):Gb L T dp p q s φ (aM T dp (n+1) p q):=by
 simp only[aM];cases ht:T[q.k]? with
 |none=>exact True.intro
 |some t=>
  obtain⟨tr,yP⟩:=hT _ _ ht;rw[←ha]at tr yP;have hk:=tr.k;dsimp only;by_cases h0:t.kind=0
  ·rw[zac h0];rw[h0]at hk;exact .inr ⟨_,s,rW (by rw[hk];decide),rfl,tr.f,.inl ⟨hk,rfl⟩⟩
  rw[zaa h0];by_cases h1:t.kind=1
  ·rw[zac h1];rw[h1]at hk;exact .inr ⟨_,s,rW (by rw[hk];decide),rfl,tr.f,.inr ⟨hk,rfl⟩⟩
  rw[zaa h1];have h2:2≤t.kind:=by omega
  by_cases h6:t.kind=6
  ·rw[zac h6];rw[h6]at hk;have hk:(L s.at_).k=59:=hk;have hd:=ih.mj ⟨p.depth,true,[]⟩ { q with k:=q.k+1 } (s.to (L s.at_).t) φ [] hp ((hf.to _).rst _) (yP h2) (lj.bg λq=>by cases q);cases hr:aI T dp n ⟨p.depth,true,[]⟩ { q with k:=q.k+1 } with
   |out=>exact True.intro
   |fail e a=>
    rw[hr]at hd;refine .inl (Ev.step (iL hd) λm em=>?_);simp only[cX,zac hk];rw[em];rfl
   |ok d q1=>
    rw[hr]at hd;obtain⟨k,s1,mm,h3,h4⟩:=hd;have h3:=iL h3;have g0:Gs true [] φ mm q.fresh s s1:=(Gs.to true [] φ q.fresh s (L s.at_).t).trans h4.gs (zab _);have ht:=ih.take p q1 s1 mm hp h4.fi h4.at_;show Gb L T dp p q s φ (aM T dp n p q1);have hgo:∀x,Ev (λm=>cX L dp m p.depth s1) x→Ev (λm=>cX L dp m p.depth s) x:=λx h=>Ev.step2 h3 h λm e1 e2=>by
     simp only[cX,zac hk];rw[e1];exact e2
    cases hr2:aM T dp n p q1 with
    |out=>exact True.intro
    |fail e a=>
     rw[hr2]at ht;rcases ht with h|⟨r,s',h,h5⟩
     ·exact .inl (hgo _ h)
     ·exact .inr ⟨r,s',hgo _ h,h5⟩
    |ok t' q'=>
     rw[hr2]at ht;obtain⟨r,s',iU,h,h5,h6,h7,h8,h9,h10,h11,zE⟩:=ht;exact⟨r,s',iU,hgo _ h,h5,h6,h7,h8,h9,h10,g0.trans h11 h4.fr,zaj h4.fr zE⟩
  ·rw[zaa h6];have adi:(L s.at_).k≠59:=by
    have:=tr.kd;rw[hk];have:t.kind=2∨t.kind=3∨t.kind=4∨t.kind=5∨t.kind=7∨t.kind=8∨t.kind=9∨t.kind=10∨t.kind=11∨t.kind=12∨t.kind=13∨t.kind=14:=by omega
    rcases this with h|h|h|h|h|h|h|h|h|h|h|h<;>rw[h]<;>decide
   exact⟨_,s,φ,rW adi,rfl,tr,yP h2,h2,h6,hf.rst _,Gs.refl _ _ _ _ _,zab _⟩
theorem J1 (ih:VW L T dp n)(p:Pl)(q:eA)(s:FS)(φ:Nat→Option Nat)(M:List Nat)(hp:p.depth≤dp)(hf:Fi q s φ)(ha:s.at_=lK T q.k)(hb:Bg p.passed p.ahead M s):kT T p.passed M q s φ (λm=>ng L dp m p.depth p.passed M s) (aI T dp (n+1) p q):=by
 simp only[aI];have ht:=ih.take p q s φ hp hf ha;cases hr:aM T dp n p q with
 |out=>exact True.intro
 |fail e a=>
  rw[hr]at ht;rcases ht with h|⟨r,s',h,h1,h2,h3⟩
  ·exact h.same λm em=>by unfold ng;rw[em];rfl
  ·refine h.DV (DW (L:=L) (dp:=dp) (deep:=p.depth) (over:=p.passed) (M:=M) (s:=s') h3) λm e1 e2=>?_;unfold ng;rw[e1];rw[h2]at e2;exact e2
 |ok t q1=>
  rw[hr]at ht;obtain⟨r,s1,mm,h,h1,h2,h3,h4,h5,h6,h7,h8⟩:=ht;have p6:=ih.yH t r p q1 s1 mm M hp h2 h3 h4 h5 h6 (hb.over hf h7);show kT T p.passed M q s φ _ (bQ T dp n t p q1);cases hr2:bQ T dp n t p q1 with
  |out=>exact True.intro
  |fail e a=>
   rw[hr2]at p6;exact h.DV p6 λm e1 e2=>by unfold ng;rw[e1];exact e2
  |ok d q'=>
   rw[hr2]at p6;obtain⟨k,s',iU,h9,h10⟩:=p6;refine⟨k,s',iU,h.DV h9 λm e1 e2=>(by unfold ng;rw[e1];exact e2),h10.at_,h10.fi,?_,h10.rep,h10.mine,h10.ab,zaj h8 h10.fr⟩;exact(h7.sub (λk _ hk=>(by cases hk)) (λ_=>rfl) (zab _)).trans h10.gs h8
theorem rX {r:RT}{s:FS}{deep:Nat}{over:Bool}{M:List Nat}{x:FR Nat}(hr:r=L s.at_)(hk:r.k≠59)(h:Ev (λm=>dS L dp m r deep over M s) x):Ev (λm=>ng L dp m deep over M s) x:=by
 have h1:Ev (λm=>cX L dp m deep s) (.ok (L s.at_) s):=rW (by rw[←hr];exact hk);refine h1.DV h λm e1 e2=>?_;unfold ng;rw[e1];show dS L dp m (L s.at_) deep over M s=_;rw[←hr];exact e2
theorem TR.k59 {r:RT}{t:Tok}(h:TR r t)(h2:t.kind≠6):r.k≠59:=by
 have hk:=h.k;have:=h.kd;rw[hk];have:t.kind=0∨t.kind=1∨t.kind=2∨t.kind=3∨t.kind=4∨t.kind=5∨t.kind=7∨t.kind=8∨t.kind=9∨t.kind=10∨t.kind=11∨t.kind=12∨t.kind=13∨t.kind=14:=by omega
 rcases this with h|h|h|h|h|h|h|h|h|h|h|h|h|h<;>rw[h]<;>decide
theorem TR.is {r:RT}{t:Tok}(h:TR r t){c:Nat}(hc:c≤14):t.kind=c↔r.k=kb c:=by
 have hk:=h.k;have hd:=h.kd;refine⟨λe=>by rw[hk,e],λe=>?_⟩;rw[hk]at e;have q:∀a b:Fin 15,kb a=kb b→a=b:=by decide
 have:=q ⟨t.kind,by omega⟩ ⟨c,by omega⟩ e;exact zal Fin.val this
end
section
variable {L:Nat→RT}{T:List Tok}{dp n:Nat}
theorem lj.go {o:Bool}{φ iU:Nat→Option Nat}{fr:Nat}{s s':FS}{q:eA}(h:lj o s)(hf:Fi q s φ)(g:Gs o [] φ iU fr s s')(e:s'.label=s.label):lj o s':=λho m k hm=>by
 rw[e]at hm;have:=hf.pD m;rw[g.M9 k (by omega) (by simp)];exact h ho m k hm
theorem Gs.Zg {o:Bool}{M:List Nat}{φ iU:Nat→Option Nat}{fr:Nat}{s s':FS}(h:Gs true [] φ iU fr s s'):Gs o M φ iU fr s s':=h.sub (λ_ _ hk=>by cases hk) (λ_=>rfl) (zab _)
theorem J2 (ih:VW L T dp n)(data:List Dt)(l:List Nat)(p:Pl)(q:eA)(s:FS)(φ:Nat→Option Nat)(hp:p.depth≤dp)(VX:p.ahead=[])(hf:Fi q s φ)(ha:s.at_=lK T q.k)(hb:lj p.passed s)(hl:oq φ s (fG data) l):kT T p.passed [] q s φ (λm=>bZ L dp m 40 p.depth p.passed l s) (cg T dp (n+1) data p q):=by
 simp only[cg];have H6:¬(40=118):=by decide
 have ht:=ih.take p q s φ hp hf ha;cases hr:aM T dp n p q with
 |out=>exact True.intro
 |fail e a=>
  rw[hr]at ht;rcases ht with h|⟨r,s',h,h1,h2,h3⟩
  ·exact h.step λm em=>by simp only[bZ,em,FR.bind]
  ·refine h.step2 (iL (H5 (L:=L) (dp:=dp) (deep:=p.depth) (over:=p.passed) (M:=[]) h1 h3)) λm e1 e2=>?_;simp only[bZ,e1,FR.bind];rw[zaa (by omega),zaa (by omega),zaa (λq=>H6 q.1),e2,h2]
 |ok t q1=>
  rw[hr]at ht;obtain⟨r,s1,mm,h,h1,h2,h3,h4,h5,h6,h7,h8⟩:=ht;have hb1:lj p.passed s1:=hb.go hf h7.Zg (h7.ov rfl);have sG:oq mm s1 (fG data) l:=hl.mono h7 hf (dD _);have g1:Gs p.passed [] φ mm q.fresh s s1:=h7.Zg;show kT T p.passed [] q s φ _ (if t.kind=3 then _ else _);by_cases hc:t.kind=3
  ·rw[zac hc];have Nb:r.k=41:=(h2.is (by omega)).1 hc;have hf2:=(h6.to r.t).add fq;have g2:Gs p.passed [] mm mm q1.fresh s1 ((s1.to r.t).add fq):=(Gs.to _ _ _ _ _ _).trans (Gs.add _ _ _ _ (h6.to r.t) fq) (zab _);have hnil:mZ mm ((s1.to r.t).add fq) .nil [s1.nodes.length]:=⟨_,rfl,fO (s1.to r.t) fq,jr (h6.to r.t) fq⟩;obtain⟨iU,c1,c2,c3,c4,c5,c6⟩:=rV p.passed hf2 hnil (sG.mono g2 h6 (dD _));refine⟨_,_,iU,h.step λm em=>?_,⟨?_,c1,(g1.trans g2 h8).trans c2 h8,c3,λ_ hj=>(by cases hj),?_,zaj h8 c6⟩⟩
   ·simp only[bZ,em,FR.bind];rw[zac Nb,zaa H6]
   ·rw[c4];exact h3
   ·exact(hb1.go h6 g2 rfl).go hf2 c2 c5
  rw[zaa hc];have Nb:r.k≠41:=λe=>hc ((h2.is (by omega)).2 e);have hlen:data≠[]↔l≠[]:=by
   have:=BH hl;constructor<;>intro q e<;>subst e<;>apply q
   ·exact zcl.1 (by simpa using this.symm)
   ·exact zcl.1 (by simpa using this)
  by_cases Nc:t.kind=7∧data≠[]
  ·rw[zac Nc];have et:r.k=46:=(h2.is (by omega)).1 Nc.1;have mb:True∧r.k=46∧l≠[]:=⟨trivial,et,hlen.1 Nc.2⟩;have hgo:∀x,Ev (λm=>cN L dp m p.depth p.passed (s1.to r.t)) x→Ev (λm=>bZ L dp m 40 p.depth p.passed l s) (x.bind λrest s=> .ok (aR l rest s).1 (aR l rest s).2):=λx hx=>h.step2 hx λm e1 e2=>by
    simp only[bZ,e1];show(if r.k=41 then _ else _)=_;rw[zaa Nb,zac mb,e2]
   have hd:=ih.mj p q1 (s1.to r.t) mm [] hp (h6.to _) h3 (by rw[VX];exact lj.bg hb1);cases hr2:aI T dp n p q1 with
   |out=>exact True.intro
   |fail e a=>
    rw[hr2]at hd;exact hgo (.fail e a) ((iL hd).step λm em=>by simp only[cN,em,FR.bind])
   |ok rest q2=>
    rw[hr2]at hd;obtain⟨k,s2,QJ,d1,d2⟩:=hd;have d1:=iL d1;have PS:=ih.take p q2 s2 QJ hp d2.fi d2.at_;show kT T p.passed [] q s φ _ ((aM T dp n p q2).bind _);cases hr3:aM T dp n p q2 with
    |out=>exact True.intro
    |fail e a=>
     rw[hr3]at PS;rcases PS with h|⟨r',s',hx,x1,x2,x3⟩
     ·exact hgo (.fail e a) (d1.step2 h λm e1 e2=>by simp only[cN,e1,FR.bind,e2])
     ·refine hgo (.fail e a) (d1.step2 hx λm e1 e2=>?_);simp only[cN,e1,FR.bind,e2];rw[zaa (by omega),x2];rcases x3 with⟨x3,rfl⟩|⟨x3,rfl⟩
      ·rw[zac x3]
      ·rw[zaa (by omega)]
    |ok t' q3=>
     rw[hr3]at PS;obtain⟨r',s3,φ3,y,y1,y2,y3,y4,y5,y6,y7,y8⟩:=PS;show kT T p.passed [] q s φ _ (if t'.kind=3 then _ else _);by_cases hc':t'.kind=3
     ·rw[zac hc'];have Ug:r'.k=41:=(y2.is (by omega)).1 hc';have g2:Gs p.passed [] mm QJ q1.fresh s1 s2:=(Gs.to _ _ _ _ _ _).trans d2.gs (zab _);have g3:Gs p.passed [] QJ φ3 q2.fresh s2 (s3.to r'.t):=y7.Zg.trans (Gs.to _ _ _ q3.fresh _ _) y8;have uk:mZ φ3 (s3.to r'.t) rest [k]:=d2.rep.mono g3 d2.fi (dD _);have Uh:oq φ3 (s3.to r'.t) (fG data) l:=(sG.mono g2 h6 (dD _)).mono g3 d2.fi (dD _);obtain⟨iU,c1,c2,c3,c4,c5,c6⟩:=rV p.passed (y6.to r'.t) uk Uh;refine⟨_,_,iU,hgo (.ok k (s3.to r'.t)) (d1.step2 y λm e1 e2=>?_),⟨?_,c1,((g1.trans g2 h8).trans g3 (zaj h8 d2.fr)).trans c2 (zaj h8 (zaj d2.fr y8)),c3,λ_ hj=>(by cases hj),?_,zaj h8 (zaj d2.fr (zaj y8 c6))⟩⟩
      ·simp only[cN,e1,FR.bind,e2];rw[zac Ug]
      ·rw[c4];exact y3
      ·exact(d2.ab.go d2.fi g3 (y7.ov rfl)).go (y6.to r'.t) c2 c5
     ·rw[zaa hc'];have Ug:r'.k≠41:=λe=>hc' ((y2.is (by omega)).2 e);have adj:r'.k≠101:=λe=>by have:=(y2.is (c:=0) (by omega)).2 e;omega
      refine hgo (.fail 3 t'.from_) (d1.step2 y λm e1 e2=>?_);simp only[cN,e1,FR.bind,e2];rw[zaa Ug,zaa adj,y2.f]
  ·rw[zaa Nc];have mb:¬(True∧r.k=46∧l≠[]):=λq=>Nc ⟨(h2.is (by omega)).2 q.2.1,hlen.2 q.2.2⟩;have p6:=ih.yH t r p q1 s1 mm [] hp h2 h3 h4 h5 h6 (by rw[VX];exact lj.bg hb1);cases hr2:bQ T dp n t p q1 with
   |out=>exact True.intro
   |fail e a=>
    rw[hr2]at p6;refine h.step2 (iL (rX h1 (h2.k59 h5) p6)) λm e1 e2=>?_;simp only[bZ,e1];show(if r.k=41 then _ else _)=_;rw[zaa Nb,zaa mb,zaa (λq=>H6 q.1),e2];rfl
   |ok d q2=>
    rw[hr2]at p6;obtain⟨k,s2,QJ,d1,d2⟩:=p6;have d1:=iL (rX h1 (h2.k59 h5) d1);have hl2:oq QJ s2 (fG (data++[d])) (l++[k]):=BG (sG.mono d2.gs h6 (dD _)) d2.rep;have hx:=ih.Sn (data++[d]) (l++[k]) p q2 s2 QJ hp VX d2.fi d2.at_ d2.ab hl2;have hgo:∀x,Ev (λm=>bZ L dp m 40 p.depth p.passed (l++[k]) s2) x→Ev (λm=>bZ L dp m 40 p.depth p.passed l s) x:=λx hx=>by
     obtain⟨m0,h⟩:=h;obtain⟨m1,d1⟩:=d1;obtain⟨m2,hx⟩:=hx;refine⟨m0+m1+m2+1,λm hm=>?_⟩;obtain⟨m,rfl⟩:∃m',m=m'+1:=⟨m-1,by omega⟩;have e1:=h m (by omega);have e2:=d1 m (by omega);have e3:=hx m (by omega);simp only[]at e1 e2 e3;simp only[bZ,e1];show(if r.k=41 then _ else _)=_;rw[zaa Nb,zaa mb,zaa (λq=>H6 q.1),e2];exact e3
    show kT T p.passed [] q s φ _ (cg T dp n (data++[d]) p q2);cases hr3:cg T dp n (data++[d]) p q2 with
    |out=>exact True.intro
    |fail e a=>rw[hr3]at hx;exact hgo _ hx
    |ok d' q'=>
     rw[hr3]at hx;obtain⟨k',s',iU,z1,z2⟩:=hx;exact⟨k',s',iU,hgo _ z1,z2.at_,z2.fi,(g1.trans d2.gs h8).trans z2.gs (zaj h8 d2.fr),z2.rep,z2.mine,z2.ab,zaj h8 (zaj d2.fr z2.fr)⟩
theorem J3 (ih:VW L T dp n)(data:List Dt)(l:List Nat)(p:Pl)(q:eA)(s:FS)(φ:Nat→Option Nat)(hp:p.depth≤dp)(VX:p.ahead=[])(hf:Fi q s φ)(ha:s.at_=lK T q.k)(hb:lj p.passed s)(hl:oq φ s (fG data) l):H4 T p.passed q s φ (λm=>bZ L dp m 118 p.depth p.passed l s) (eF T dp (n+1) data p q):=by
 simp only[eF];have QK:¬(118=40):=by decide
 have hlen:=BH hl;have ht:=ih.take p q s φ hp hf ha;cases hr:aM T dp n p q with
 |out=>exact True.intro
 |fail e a=>
  rw[hr]at ht;rcases ht with h|⟨r,s',h,h1,h2,h3⟩
  ·exact h.step λm em=>by simp only[bZ,em,FR.bind]
  ·refine h.step2 (iL (H5 (L:=L) (dp:=dp) (deep:=p.depth) (over:=p.passed) (M:=[]) h1 h3)) λm e1 e2=>?_;simp only[bZ,e1,FR.bind];rw[zaa (by omega),zaa (λq=>QK q.1)];by_cases hc:True∧l.length=20∧r.k≠101
   ·rw[zac hc,h2];rcases h3 with⟨h3,rfl⟩|⟨h3,rfl⟩
    ·exact absurd h3 hc.2.2
    ·rfl
   ·rw[zaa hc,e2,h2]
 |ok t q1=>
  rw[hr]at ht;obtain⟨r,s1,mm,h,h1,h2,h3,h4,h5,h6,h7,h8⟩:=ht;have hb1:lj p.passed s1:=hb.go hf h7.Zg (h7.ov rfl);have sG:oq mm s1 (fG data) l:=hl.mono h7 hf (dD _);have g1:Gs p.passed [] φ mm q.fresh s s1:=h7.Zg;show H4 T p.passed q s φ _ (if t.kind=3 then _ else _);by_cases hc:t.kind=3
  ·rw[zac hc];have Nb:r.k=41:=(h2.is (by omega)).1 hc;refine⟨s1.to r.t,mm,l,h.step λm em=>?_,h3,h6.to _,g1.trans (Gs.to _ _ _ q1.fresh _ _) h8,sG.mono (Gs.to p.passed [] mm q1.fresh s1 r.t) h6 (dD _),hb1,h8⟩;simp only[bZ,em,FR.bind];rw[zac Nb,zac trivial];rfl
  rw[zaa hc];have Nb:r.k≠41:=λe=>hc ((h2.is (by omega)).2 e);have hre:r.k≠101:=λe=>by have:=(h2.is (c:=0) (by omega)).2 e;omega
  by_cases Gd:data.length=20
  ·rw[zac Gd];refine h.step λm em=>?_;simp only[bZ,em,FR.bind];rw[zaa Nb,zaa (λq=>QK q.1),zac ⟨trivial,by omega,hre⟩,h2.f]
  ·rw[zaa Gd];have mb:¬(True∧l.length=20∧r.k≠101):=λq=>by omega
   have p6:=ih.yH t r p q1 s1 mm [] hp h2 h3 h4 h5 h6 (by rw[VX];exact lj.bg hb1);cases hr2:bQ T dp n t p q1 with
   |out=>exact True.intro
   |fail e a=>
    rw[hr2]at p6;refine h.step2 (iL (rX h1 (h2.k59 h5) p6)) λm e1 e2=>?_;simp only[bZ,e1];show(if r.k=41 then _ else _)=_;rw[zaa Nb,zaa (λq=>QK q.1),zaa mb,e2];rfl
   |ok d q2=>
    rw[hr2]at p6;obtain⟨k,s2,QJ,d1,d2⟩:=p6;have d1:=iL (rX h1 (h2.k59 h5) d1);have hl2:oq QJ s2 (fG (data++[d])) (l++[k]):=BG (sG.mono d2.gs h6 (dD _)) d2.rep;have hx:=ih.vec (data++[d]) (l++[k]) p q2 s2 QJ hp VX d2.fi d2.at_ d2.ab hl2;have hgo:∀x,Ev (λm=>bZ L dp m 118 p.depth p.passed (l++[k]) s2) x→Ev (λm=>bZ L dp m 118 p.depth p.passed l s) x:=λx hx=>by
     obtain⟨m0,h⟩:=h;obtain⟨m1,d1⟩:=d1;obtain⟨m2,hx⟩:=hx;refine⟨m0+m1+m2+1,λm hm=>?_⟩;obtain⟨m,rfl⟩:∃m',m=m'+1:=⟨m-1,by omega⟩;have e1:=h m (by omega);have e2:=d1 m (by omega);have e3:=hx m (by omega);simp only[]at e1 e2 e3;simp only[bZ,e1];show(if r.k=41 then _ else _)=_;rw[zaa Nb,zaa (λq=>QK q.1),zaa mb,e2];exact e3
    show H4 T p.passed q s φ _ (eF T dp n (data++[d]) p q2);cases hr3:eF T dp n (data++[d]) p q2 with
    |out=>exact True.intro
    |fail e a=>rw[hr3]at hx;exact hgo _ hx
    |ok d' q'=>
     rw[hr3]at hx;obtain⟨s',iU,xs,z1,z2,z3,z4,z5,z6,z7⟩:=hx;exact⟨s',iU,xs,hgo _ z1,z2,z3,(g1.trans d2.gs h8).trans z4 (zaj h8 d2.fr),z5,z6,zaj h8 (zaj d2.fr z7)⟩
end
section
variable {L:Nat→RT}{T:List Tok}{dp n:Nat}
theorem z8 {r:RT}{deep:Nat}{over:Bool}{A:List Int}{M:List Nat}{q:eA}{s:FS}{φ:Nat→Option Nat}{X:RR Dt}(h1:r.k≠112)(h2:r.k≠97)(hf:Fi q s φ)(hb:Bg over A M s)(h:kT T over [] q (s.aZ M) φ (λm=>bK L dp m r deep over (s.aZ M)) X):kT T over M q s φ (λm=>dS L dp m r deep over M s) X:=by
 cases X with
 |out=>exact True.intro
 |fail e a=>exact Ev.step h λm em=>by simp only[dS,zaa h1,zaa h2];rw[em];rfl
 |ok d q'=>
  obtain⟨k,s1,iU,h,ps⟩:=h;have hm:Mine M s1:=Mine.go (s:=s.aZ M) hb.mine (hf.aZ M) ps.gs;refine⟨k,s1.is M k,iU,Ev.step h λm em=>(by simp only[dS,zaa h1,zaa h2];rw[em];rfl),ps.at_,ps.fi.VU M k,?_,?_,Sm hm k,ps.ab,ps.fr⟩
  ·exact((Gs.aZ over M φ q.fresh s).trans (ps.gs.sub (λ_ _ hk=>by cases hk) id (zab _)) (zab _)).trans (Gs.VU over M iU q.fresh s1 k) (zab _)
  ·exact ps.rep.mono (Gs.VU over M iU q'.fresh s1 k) ps.fi hm
theorem mL {r:RT}{deep:Nat}{over:Bool}{s:FS}{e:Int}{a:Nat}{q:eA}{φ:Nat→Option Nat}{M:List Nat}(h:∀m,bK L dp (m+1) r deep over s=.fail e a):kT T over M q s φ (λm=>bK L dp m r deep over s) (.fail e a):=Ev.now h
theorem rY {r:RT}{deep:Nat}{over:Bool}{s:FS}{q:eA}{φ:Nat→Option Nat}{d:Dt}{x:dF}(hf:Fi q s φ)(ha:r.t=lK T q.k)(hb:lj over s)(h:∀m,bK L dp (m+1) r deep over s=s.atom r x)(hr:mZ φ ((s.to r.t).add x) d [s.nodes.length]):kT T over [] q s φ (λm=>bK L dp m r deep over s) (.ok d q):=by
 have lf:=hf.to r.t;have g:Gs over [] φ φ q.fresh s ((s.to r.t).add x):=(Gs.to _ _ _ _ _ _).trans (Gs.add _ _ _ _ lf x) (zab _);exact⟨s.nodes.length,(s.to r.t).add x,φ,Ev.now h,ha,lf.add x,g,hr,λ_ hj=>(by cases hj),hb.go hf g rfl,zab _⟩
theorem J4 (ih:VW L T dp n)(t:Tok)(r:RT)(p:Pl)(q:eA)(s:FS)(φ:Nat→Option Nat)(M:List Nat)(hp:p.depth≤dp)(tr:TR r t)(ha:r.t=lK T q.k)(h2:2≤t.kind)(h6:t.kind≠6)(hf:Fi q s φ)(hb:Bg p.passed p.ahead M s):kT T p.passed M q s φ (λm=>dS L dp m r p.depth p.passed M s) (bQ T dp (n+1) t p q):=by
 have uN:=tr.kd;simp only[bQ];by_cases h37:t.kind=3∨t.kind=7
 ·rw[zac h37];have hk:r.k=41∨r.k=46:=by
   rcases h37 with h|h
   ·exact .inl ((tr.is (by omega)).1 h)
   ·exact .inr ((tr.is (by omega)).1 h)
  refine z8 (by omega) (by omega) hf hb (mL λm=>?_);rcases hk with h|h<;>simp[bK,h,tr.f]
 rw[zaa h37];by_cases h10:t.kind=10
 ·rw[zac h10];have hk:r.k=112:=(tr.is (by omega)).1 h10;have hn:r.n=t.n:=tr.n (by omega);by_cases fM:p.passed=true∨t.n∈q.ax
  ·rw[zac fM];refine Ev.now λm=>?_;have:0<s.label r.n∨p.passed=true:=by
    rcases fM with h|h
    ·exact .inr h
    ·have:=(hf.ax _).1 h;left;rw[hn];omega
   simp only[dS,zac hk,zac this,tr.f]
  rw[zaa fM];have pX:p.passed=false:=by cases VY:p.passed with|false=>rfl|true=>exact absurd (.inl VY) fM
  have h0:s.label r.n=0:=by
   cases hl:s.label r.n with
   |zero=>rfl
   |succ k=>exact absurd (.inr ((hf.ax _).2 (by rw[←hn,hl];omega))) fM
  have Sp:¬(0<s.label r.n∨p.passed=true):=by rw[h0,pX];simp
  by_cases hd:p.depth=dp
  ·rw[zac hd];refine Ev.now λm=>?_;simp only[dS,zac hk,zaa Sp,zac (show dp<p.depth+1 by omega),tr.f]
  rw[zaa hd];have aef:((s.to r.t).bT r.n).nodes.length=s.nodes.length+1:=by simp[FS.bT,FS.add,FS.to]
  have el:∀m,((s.to r.t).bT r.n).label m=if m=r.n then s.nodes.length+1 else s.label m:=λ_=>rfl
  have g1:Gs false (M++[s.nodes.length]) φ φ q.fresh s ((s.to r.t).bT r.n):=(Gs.to _ _ _ _ _ _).trans (Gs.Na (hf.to r.t) h0) (zab _);have g0:Gs false [] φ φ q.fresh s ((s.to r.t).bT r.n):=(Gs.to _ _ _ _ _ _).trans (Gs.Na (hf.to r.t) h0) (zab _);have Ow:Bg p.passed (p.ahead++[t.n]) (M++[s.nodes.length]) ((s.to r.t).bT r.n):=by
   have hne:∀m k,s.label m=k+1→m≠r.n:=λm k e e'=>by subst e';omega
   have hA:∀m∈p.ahead,m≠r.n:=λm hm e=>by have:=hb.la pX m hm;rw[e]at this;exact this h0
   refine⟨λj hj=>?_,λm hm k e=>?_,λ_ j hj=>?_,λ_ m k e hm=>?_,λ_ m hm k e=>?_,λ_ m hm=>?_⟩
   ·rcases zaQ.1 hj with hj|hj
    ·exact(hb.mine.go hf g0) j hj
    ·obtain rfl:j=s.nodes.length:=by simpa using hj
     refine⟨?_,r.n,by rw[el,zac rfl]⟩;show(s.same++[none])[s.nodes.length]?=_;rw[←hf.sl];simp
   ·rw[el]at e;rcases zaQ.1 hm with hm|hm
    ·rw[zaa (hA m hm)]at e;exact List.mem_append_left _ (hb.am m hm k e)
    ·obtain rfl:m=t.n:=by simpa using hm
     rw[←hn,zac rfl]at e;exact List.mem_append_right _ (by simp;omega)
   ·rcases zaQ.1 hj with hj|hj
    ·obtain⟨m,hm,e⟩:=hb.ma pX j hj;exact⟨m,List.mem_append_left _ hm,by rw[el,zaa (hA m hm)];exact e⟩
    ·obtain rfl:j=s.nodes.length:=by simpa using hj
     exact⟨t.n,List.mem_append_right _ (by simp),by rw[el,hn,zac rfl]⟩
   ·have hmn:m≠r.n:=λe'=>hm (List.mem_append_right _ (by rw[e',hn];simp));rw[el,zaa hmn]at e;have:=hf.pD m;rw[g0.M9 k (by omega) (by simp)];exact hb.yes pX m k e λh=>hm (List.mem_append_left _ h)
   ·rw[el]at e;rcases zaQ.1 hm with hm|hm
    ·rw[zaa (hA m hm)]at e;have:=hf.pD m;rw[g0.M9 k (by omega) (by simp)];exact hb.no pX m hm k e
    ·obtain rfl:m=t.n:=by simpa using hm
     rw[←hn,zac rfl]at e;obtain rfl:k=s.nodes.length:=by omega
     show(s.begun++[false])[s.nodes.length]?≠_;rw[←hf.bl];simp
   ·rw[el];rcases zaQ.1 hm with hm|hm
    ·rw[zaa (hA m hm)];exact hb.la pX m hm
    ·obtain rfl:m=t.n:=by simpa using hm
     rw[←hn,zac rfl];omega
  have hfl:Fi { q with ax:=t.n::q.ax } ((s.to r.t).bT r.n) φ:=by rw[←hn];exact(hf.to r.t).bT r.n
  have Ez:=ih.mj ⟨p.depth+1,p.passed,p.ahead++[t.n]⟩ { q with ax:=t.n::q.ax } ((s.to r.t).bT r.n) φ (M++[s.nodes.length]) (by show p.depth+1≤dp;omega) hfl ha Ow;have hgo:∀x,Ev (λm=>ng L dp m (p.depth+1) p.passed (M++[s.nodes.length]) ((s.to r.t).bT r.n)) x→Ev (λm=>dS L dp m r p.depth p.passed M s) x:=λx hx=>hx.step λm em=>by
   simp only[dS,zac hk,zaa Sp,zaa (show ¬dp<p.depth+1 by omega)];exact em
  cases hr:aI T dp n ⟨p.depth+1,p.passed,p.ahead++[t.n]⟩ { q with ax:=t.n::q.ax } with
  |out=>exact True.intro
  |fail e a=>rw[hr]at Ez;exact hgo _ Ez
  |ok d q'=>
   rw[hr]at Ez;obtain⟨k,s',iU,z,ps⟩:=Ez;have hg:Gs p.passed (M++[s.nodes.length]) φ iU q.fresh s s':=by rw[pX]at ps ⊢;exact g1.trans ps.gs (zab _)
   refine⟨k,s',iU,hgo _ z,ps.at_,ps.fi,hg.sub (λj hj hm=>?_) id (zab _),⟨ps.rep,k,s.nodes.length,rfl,?_,ps.mine _ (by simp)⟩,λj hj=>ps.mine j (List.mem_append_left _ hj),ps.ab,ps.fr⟩
   ·rcases zaQ.1 hm with h|h
    ·exact h
    ·have:j=s.nodes.length:=by simpa using h
     omega
   ·rw[ps.gs.bT t.n (by rw[el,hn,zac rfl];omega),el,hn,zac rfl]
 rw[zaa h10];by_cases h11:t.kind=11
 ·rw[zac h11];have hk:r.k=97:=(tr.is (by omega)).1 h11;have hn:r.n=t.n:=tr.n (by omega);by_cases fM:p.passed=true∨t.n∉q.ax∨t.n∈p.ahead
  ·rw[zac fM];refine Ev.now λm=>?_;have:s.label r.n=0∨p.passed=true∨s.begun[s.label r.n-1]?≠some true:=by
    cases VY:p.passed with
    |true=>exact .inr (.inl rfl)
    |false=>
     rcases fM with h|h|h
     ·rw[VY]at h;cases h
     ·left;cases hl:s.label r.n with
      |zero=>rfl
      |succ k=>exact absurd ((hf.ax _).2 (by rw[←hn,hl];omega)) h
     ·cases hl:s.label r.n with
      |zero=>exact .inl rfl
      |succ k=>exact .inr (.inr (hb.no VY _ h k (by rw[←hn];exact hl)))
   simp only[dS,zaa (show ¬r.k=112 by omega),zac hk,zac this,tr.f]
  rw[zaa fM];have pX:p.passed=false:=by cases VY:p.passed with|false=>rfl|true=>exact absurd (.inl VY) fM
  have Qf:t.n∈q.ax:=Classical.byContradiction λh=>fM (.inr (.inl h));have Ui:t.n∉p.ahead:=λh=>fM (.inr (.inr h));have hl0:s.label r.n≠0:=by rw[hn];exact(hf.ax _).1 Qf
  obtain⟨k,hl⟩:∃k,s.label r.n=k+1:=⟨s.label r.n-1,by omega⟩;have hbg:=hb.yes pX r.n k hl (by rw[hn];exact Ui);have mb:¬(s.label r.n=0∨p.passed=true∨s.begun[s.label r.n-1]?≠some true):=by
   rw[hl,pX,Nat.add_sub_cancel,hbg];simp
  have hm:Mine M ((s.to r.t).aZ M):=hb.mine;refine⟨k,((s.to r.t).aZ M).is M k,φ,Ev.now λm=>?_,ha,((hf.to r.t).aZ M).VU M k,?_,⟨k,rfl,by rw[←hn];exact hl⟩,Sm hm k,hb.aZ hf,zab _⟩
  ·simp only[dS,zaa (show ¬r.k=112 by omega),zac hk];rw[zaa mb,hl,Nat.add_sub_cancel]
  ·exact((Gs.to _ M φ q.fresh s r.t).trans (Gs.aZ _ _ _ q.fresh _) (zab _)).trans (Gs.VU _ _ _ q.fresh _ _) (zab _)
 rw[zaa h11];have k1:r.k≠112:=λe=>h10 ((tr.is (by omega)).2 e);have k2:r.k≠97:=λe=>h11 ((tr.is (by omega)).2 e);have H7:=hf.aZ M;have hab:=hb.aZ hf;refine z8 k1 k2 hf hb ?_;generalize s.aZ M=s at H7 hab ⊢;clear hb hf;by_cases hh:t.kind=2∨t.kind=5∨t.kind=4
 ·rw[zac hh];have hk:r.k=40∨r.k=118∨r.k=39:=by
   rcases hh with h|h|h
   ·exact .inl ((tr.is (by omega)).1 h)
   ·exact .inr (.inl ((tr.is (by omega)).1 h))
   ·exact .inr (.inr ((tr.is (by omega)).1 h))
  by_cases hd:p.depth=dp
  ·rw[zac hd];refine mL λm=>?_;simp only[bK,zaa (show ¬r.k=115 by omega),zaa (show ¬r.k=119 by omega),zaa (show ¬r.k=98 by omega),zaa (show ¬r.k=99 by omega),zaa (show ¬r.k=110 by omega),zac hk,zac (show dp<p.depth+1 by omega),tr.f]
  rw[zaa hd];have hgo:∀x,Ev (λm=>cC L dp m r.k (p.depth+1) p.passed (s.to r.t)) x→Ev (λm=>bK L dp m r p.depth p.passed s) x:=λx hx=>hx.step λm em=>by
   simp only[bK,zaa (show ¬r.k=115 by omega),zaa (show ¬r.k=119 by omega),zaa (show ¬r.k=98 by omega),zaa (show ¬r.k=99 by omega),zaa (show ¬r.k=110 by omega),zac hk,zaa (show ¬dp<p.depth+1 by omega)];exact em
  have lf:=H7.to r.t;have gt:Gs p.passed [] φ φ q.fresh s (s.to r.t):=Gs.to _ _ _ _ _ _;by_cases h5:t.kind=5
  ·rw[zac h5];have zS:r.k=118:=(tr.is (by omega)).1 h5;have wO:∀x,Ev (λm=>bZ L dp m 118 (p.depth+1) p.passed [] (s.to r.t)) x→Ev (λm=>bK L dp m r p.depth p.passed s) x:=λx hx=>hgo x (hx.step λm em=>by
    simp only[cC,zS];rw[zaa (by decide)];exact em)
   have YG:Fi { q with fresh:=q.fresh+1 } (s.to r.t) φ:=⟨lf.sl,lf.bl,lf.ax,lf.pD,lf.inj,λi n h=>⟨Nat.lt_succ_of_lt (lf.phi i n h).1,(lf.phi i n h).2⟩,lf.pk,lf.BD⟩;have hv:=ih.vec [] [] ⟨p.depth+1,p.passed,[]⟩ { q with fresh:=q.fresh+1 } (s.to r.t) φ (by show p.depth+1≤dp;omega) rfl YG ha hab rfl;cases hr:eF T dp n [] ⟨p.depth+1,p.passed,[]⟩ { q with fresh:=q.fresh+1 } with
   |out=>exact True.intro
   |fail e a=>rw[hr]at hv;exact wO _ hv
   |ok data q'=>
    rw[hr]at hv;obtain⟨s1,mm,xs,z1,z2,z3,z4,z5,z6,z7⟩:=hv;have z7:q.fresh+1≤q'.fresh:=z7;have hnone:mm q.fresh=none:=by rw[z4.phi q.fresh (Nat.lt_succ_self _)];exact H7.qp (zab _)
    have hfi:Fi q' (s1.add ⟨2,[],0,0,xs⟩) (pE mm q.fresh s1.nodes.length):=z3.Ga ⟨2,[],0,0,xs⟩ (by constructor<;>simp) (i:=q.fresh) (f':=q'.fresh) hnone (by omega) (zab _);have ga:Gs p.passed [] mm (pE mm q.fresh s1.nodes.length) q.fresh s1 (s1.add ⟨2,[],0,0,xs⟩):=Gs.Ga _ _ z3 _ (zab _);refine⟨s1.nodes.length,s1.add ⟨2,[],0,0,xs⟩,pE mm q.fresh s1.nodes.length,wO _ z1,z2,hfi,(gt.trans (z4.sub (λ_ _ h=>h) id (Nat.le_succ _)) (zab _)).trans ga (zab _),⟨_,xs,rfl,fO _ _,jr z3 _,BF _ _ _,?_⟩,λ_ hj=>(by cases hj),z6.go z3 ga rfl,by omega⟩;refine z5.mono' ga (λi n e=>?_) z3 (dD _);unfold pE;rw[zaa (λe'=>by rw[e',hnone]at e;cases e)];exact e
  rw[zaa h5];by_cases h4:t.kind=4
  ·rw[zac h4];have hk4:r.k=39:=(tr.is (by omega)).1 h4;have hfq:=lf.add ⟨4,[113,117,111,116,101],0,0,[]⟩;have gq:Gs p.passed [] φ φ q.fresh (s.to r.t) ((s.to r.t).add ⟨4,[113,117,111,116,101],0,0,[]⟩):=Gs.add _ _ _ _ lf _;have hd4:=ih.mj ⟨p.depth+1,p.passed,[]⟩ q ((s.to r.t).add ⟨4,[113,117,111,116,101],0,0,[]⟩) φ [] (by show p.depth+1≤dp;omega) hfq ha (lj.bg (lj.go (s:=s.to r.t) hab lf gq rfl));cases hr:aI T dp n ⟨p.depth+1,p.passed,[]⟩ q with
   |out=>exact True.intro
   |fail e a=>
    rw[hr]at hd4;refine hgo _ ((iL hd4).step λm em=>?_);simp only[cC,zac hk4];rw[em];rfl
   |ok d q'=>
    rw[hr]at hd4;obtain⟨k,s1,mm,z,ps⟩:=hd4;have ga:Gs p.passed [] mm mm q'.fresh s1 (s1.add fq):=Gs.add _ _ _ _ ps.fi fq;have hfa:=ps.fi.add fq;have hnil:mZ mm (s1.add fq) .nil [s1.nodes.length]:=⟨_,rfl,fO _ _,jr ps.fi fq⟩;have adk:mZ mm s1 (.sym [113,117,111,116,101]) [(s.to r.t).nodes.length]:=mZ.mono ps.gs hfq (dD _) ⟨_,rfl,fO _ _,jr lf _⟩;have hl:oq mm (s1.add fq) (fG [.sym [113,117,111,116,101],d]) [(s.to r.t).nodes.length,k]:=⟨_,_,rfl,adk.mono ga ps.fi (dD _),_,_,rfl,ps.rep.mono ga ps.fi (dD _),rfl⟩;obtain⟨iU,c1,c2,c3,c4,c5,c6⟩:=rV p.passed hfa hnil hl;have p6:=ps.fr;refine⟨_,_,iU,hgo _ ((iL z).step λm em=>?_),?_,c1,((gt.trans (gq.trans ps.gs (zab _)) (zab _)).trans ga p6).trans c2 p6,c3,λ_ hj=>(by cases hj),(ps.ab.go ps.fi ga rfl).go hfa c2 c5,zaj p6 c6⟩
    ·simp only[cC,zac hk4];rw[em];rfl
    ·rw[c4];exact ps.at_
  rw[zaa h4];have hk2:r.k=40:=by
   rcases hk with h|h|h
   ·exact h
   ·exact absurd ((tr.is (c:=5) (by omega)).2 h) h5
   ·exact absurd ((tr.is (c:=4) (by omega)).2 h) h4
  have hv:=ih.Sn [] [] ⟨p.depth+1,p.passed,[]⟩ q (s.to r.t) φ (by show p.depth+1≤dp;omega) rfl lf ha hab rfl;have wO:∀x,Ev (λm=>bZ L dp m 40 (p.depth+1) p.passed [] (s.to r.t)) x→Ev (λm=>bK L dp m r p.depth p.passed s) x:=λx hx=>hgo x (hx.step λm em=>by
   simp only[cC,hk2];rw[zaa (by decide)];exact em)
  cases hr:cg T dp n [] ⟨p.depth+1,p.passed,[]⟩ q with
  |out=>exact True.intro
  |fail e a=>rw[hr]at hv;exact wO _ hv
  |ok d q'=>
   rw[hr]at hv;obtain⟨k,s1,mm,z,ps⟩:=hv;exact⟨k,s1,mm,wO _ z,ps.at_,ps.fi,gt.trans ps.gs (zab _),ps.rep,ps.mine,ps.ab,ps.fr⟩
 rw[zaa hh];have lf:=H7.to r.t;have kX:t.kind=8∨t.kind=9∨t.kind=12∨t.kind=13∨t.kind=14:=by omega
 unfold uv;rcases kX with h|h|h|h|h
 ·have hk:r.k=115:=(tr.is (by omega)).1 h;rw[zac h];have ga:Gs p.passed [] φ (pE φ q.fresh s.nodes.length) q.fresh (s.to r.t) ((s.to r.t).add ⟨3,t.text,0,0,[]⟩):=Gs.Ga _ _ lf _ (zab _);have gg:Gs p.passed [] φ (pE φ q.fresh s.nodes.length) q.fresh s ((s.to r.t).add ⟨3,t.text,0,0,[]⟩):=(Gs.to _ _ _ q.fresh _ _).trans ga (zab _);refine⟨s.nodes.length,(s.to r.t).add ⟨3,t.text,0,0,[]⟩,pE φ q.fresh s.nodes.length,Ev.now λm=>?_,ha,lf.Ga _ (by constructor<;>simp) (lf.qp (zab _)) (Nat.lt_succ_self _) (Nat.le_succ _),gg,⟨_,rfl,fO (s.to r.t) _,jr lf _,BF _ _ _⟩,λ_ hj=>(by cases hj),hab.go H7 gg rfl,Nat.le_succ _⟩;simp only[bK,zac hk,FS.atom,tr.x]
 ·have hk:r.k=99:=(tr.is (by omega)).1 h;rw[zaa (by omega),zac h];refine rY H7 ha hab (x:=⟨7,[],t.n,0,[]⟩) (λm=>?_) ⟨_,rfl,fO (s.to r.t) _,jr lf _⟩;simp[bK,hk,tr.n (by omega)]
 ·have hk:r.k=98:=(tr.is (by omega)).1 h;rw[zaa (by omega),zaa (by omega),zac h];refine rY H7 ha hab (x:=⟨6,[],t.n,0,[]⟩) (λm=>?_) ⟨_,rfl,fO (s.to r.t) _,jr lf _⟩;simp[bK,hk,tr.n (by omega)]
 ·have hk:r.k=110:=(tr.is (by omega)).1 h;rw[zaa (by omega),zaa (by omega),zaa (by omega),zaa (by omega)];rcases tr.m h with⟨m1,m2⟩|⟨m1,m2,m3⟩|⟨m1,m2,m3,m4,m5⟩
  ·rw[zac (by omega),m1];refine mL λm=>?_;simp[bK,hk,m2,tr.f]
  ·rw[zac (by omega),m1];refine mL λm=>?_;simp[bK,hk,m2,m3,tr.f]
  ·rw[zaa (by omega),m4,m5];refine rY H7 ha hab (x:=⟨5,[],r.n.tdiv (Int.gcd r.n r.d),r.d/(Int.gcd r.n r.d),[]⟩) (λm=>?_) ⟨_,rfl,fO (s.to r.t) _,jr lf _⟩;simp[bK,hk,m2,m3]
 ·have hk:r.k=119:=(tr.is (by omega)).1 h;rw[zaa (by omega),zaa (by omega),zaa (by omega),zac h];refine rY H7 ha hab (x:=⟨4,t.text,0,0,[]⟩) (λm=>?_) ⟨_,rfl,fO (s.to r.t) _,jr lf _⟩;simp[bK,hk,tr.x]
theorem QL (hT:Uf L T):∀n,VW L T dp n:=by
 intro n
 induction n with
 |zero=>exact⟨λ_ _ _ _ _ _ _=>by simp only[aM];exact True.intro,λ_ _ _ _ _ _ _ _ _ _ _ _ _ _=>by simp only[bQ];exact True.intro,λ_ _ _ _ _ _ _ _ _=>by simp only[aI];exact True.intro,λ_ _ _ _ _ _ _ _ _ _ _ _=>by simp only[cg];exact True.intro,λ_ _ _ _ _ _ _ _ _ _ _ _=>by simp only[eF];exact True.intro⟩
 |succ n ih=>exact⟨Gc hT ih,J4 ih,J1 ih,J2 ih,J3 ih⟩
end
end Go.Loop
