import Derived.Test.YtlhimdjkkiflhaaGreatDoorMade11
set_option maxHeartbeats 8000000
set_option maxRecDepth 100000
namespace Go.Loop
variable {r:List UInt8}{g g':fP}{L:Option Nat}{i:Nat}
def aea (a:Nat)(w:List UInt8):Tok:={ aH 14 a (a+w.length)with text:=w }
section
variable {s:List UInt8}{a:Nat}
theorem afO {l:List UInt8}{k:Nat}(h:s.drop a=l)(e:l.drop k=r):s.drop (a+k)=r:=by rw[←zcn,h,e]
theorem MZ {l:List UInt8}{k:Nat}(h:s.drop a=l)(hs:(dB l.length true l).1=k):aR s a=cM s (a+k):=by simp only[aR,jg,h,hs]
theorem jE {c:UInt8}(h:c≠35):cN (c::r)=false:=by cases r<;>simp[cN,h]
theorem KI (h:s.drop a=40::r):cM s a=aH 2 a (a+1):=by simp[cM,h]
theorem tq (h:s.drop a=41::r):cM s a=aH 3 a (a+1):=by simp[cM,h]
theorem ZI (h:s.drop a=35::40::r):cM s a=aH 5 a (a+2):=by
 have h1:s.drop (a+1)=40::r:=afO h rfl;simp[cM,h,ed,h1]
theorem U1 {w:List UInt8}(hw:w≠[])(h:s.drop a=w++r)(hall:w.all sF=true)(hn:aT bq w=w.length)(hr:aT bq (w++r)=w.length)(hm:bX w=false)(hd:w≠[46]):cM s a=aea a w:=by
 cases w with
 |nil=>exact absurd rfl hw
 |cons c w=>
  have hc:bq (c.toNat:Int)=true:=by
   simp only[zap,zae]at hall;exact hall.1
  have n40:c.toNat≠40:=λe=>by rw[e]at hc;cases hc
  have n41:c.toNat≠41:=λe=>by rw[e]at hc;cases hc
  have n39:c.toNat≠39:=λe=>by rw[e]at hc;cases hc
  have n34:c.toNat≠34:=λe=>by rw[e]at hc;cases hc
  have n35:c.toNat≠35:=λe=>by rw[e]at hc;cases hc
  unfold cM;rw[h,zam];dsimp only;rw[zaa n40,zaa n41,zaa n39,zaa n34,zaa n35,zab hc];have hcut:dL s a (a+(c::w).length)=c::w:=by
   simp only[dL,h];rw[show a+(c::w).length - a=(c::w).length by omega];simp
  unfold fN;dsimp only;rw[h,hr,hcut,zaa hd,hm];rfl
theorem ZJ (h:s.drop a=46::r)(hr:aT bq r=0):cM s a=aH 7 a (a+1):=by
 have h1:aT bq (46::r)=1:=by simp[aT,hr,bq,fA,cF,ER]
 have hcut:dL s a (a+1)=[46]:=by simp[dL,h]
 simp[cM,h,fN,h1,hcut,bq,fA,cF,ER]
end
theorem jx:∀(n:Nat) (b:Bool) (l:List UInt8),l.length≤n→dB n b l=dB l.length b l:=by
 intro n
 induction n using Nat.strongRecOn with
 |ind n ih=>
  intro b l hl;cases l with
  |nil=>cases n<;>simp[dB]
  |cons c r=>
   obtain⟨m,rfl⟩:∃m,n=m+1:=⟨n-1,by simp at hl;omega⟩;simp only[zar]at hl ⊢;simp only[dB];have e1:∀b (q:List UInt8),q.length≤r.length→dB m b q=dB r.length b q:=λb q hq=>by
    rw[ih m (by omega) b q (by omega)];by_cases h:r.length=m
    ·rw[h,ih m (by omega) b q (by omega)]
    ·rw[ih r.length (by omega) b q hq]
   by_cases h2:cN (c::r)=true
   ·have hp:=uj 0 (c::r) h2;rw[e1 b r (zac _),e1 b (r.drop (dP r)) (by simp),e1 _ ((c::r).drop (bI 0 (c::r)).1) (by simp;omega)]
   ·rw[e1 b r (zac _),e1 b (r.drop (dP r)) (by simp),zaa h2,zaa h2]
def Goes (s:List UInt8)(a:Nat)(ts:List Tok)(b:Nat):Prop:=∀n,aw (n+ts.length) s a=ts++aw n s b
section
variable {T:List Tok}{dp:Nat}
theorem mE {n:Nat}{p:Pl}{s:eD}{a b:Nat}(hd:p.depth≠dp):aL T dp (n+1) (aH 2 a b) p s=bh T dp n [] ⟨p.depth+1,p.passed,[]⟩ s:=by
 rw[aL];simp[aH,hd]
theorem ze {n:Nat}{p:Pl}{s:eD}{a b:Nat}(hd:p.depth≠dp):aL T dp (n+1) (aH 5 a b) p s=(cy T dp n [] ⟨p.depth+1,p.passed,[]⟩ { s with fresh:=s.fresh+1 }).bind λl s'=> .ok (.vec s.fresh (fX l)) s':=by
 rw[aL];simp[aH,hd]
end
section
variable {T:List Tok}
end
section
variable (P Q:List Tok)(e:Tok)(dp:Nat)
end
theorem oK (p:Int→Bool):∀l:List UInt8,(l.take (aT p l)).all (λc=>p (c.toNat:Int))=true
 |[]=>rfl
 |c::r=>by
  simp only[aT];split
  ·rename_i h;simp only[List.take_succ_cons,zap,h,zbI];exact oK p r
  ·rfl
theorem nA:∀(l:List Dt),aY (fX l)=l.flatMap aY
 |[]=>rfl
 |d::l=>by simp only[fX,aY,zbB,nA l]
section
variable (T:List Tok)(dp N:Nat)
end
section
variable {T:List Tok}{dp N:Nat}
end
def pc (x:eO):Bool:=
 if x.kind=0 then decide (x.text=[]∧x.n=0∧x.d=0∧x.subs.length=0)
 else if x.kind=1 then decide (x.subs.length=2∧x.text=[]∧x.n=0∧x.d=0)
 else if x.kind=2 then decide (x.subs.length≤20∧x.text=[]∧x.n=0∧x.d=0)
 else if x.kind=3 then decide (x.text.length≤400∧x.n=0∧x.d=0∧x.subs.length=0)
 else if x.kind=4 then decide (x.n=0∧x.d=0∧x.subs.length=0)&&ir x.text
 else if x.kind=5 then lT x.n x.d&&decide (x.text=[]∧x.subs.length=0)
 else if x.kind=6 then decide ((x.n=0∨x.n=1)∧x.text=[]∧x.d=0∧x.subs.length=0)
 else if x.kind=7 then jf x.n&&decide (x.text=[]∧x.d=0∧x.subs.length=0)
 else false
section
variable {root:Dt}{N:Nat}
end
def bp:Dt→List Dt
 |.pair i a b=> .pair i a b::(bp a++bp b)
 |.vec i l=> .vec i l::bp l
 |.br a l=> .br a l::(bp a++bp l)
 |.put n d=> .put n d::bp d
 |d=>[d]
theorem cX (d:Dt):d∈bp d:=by cases d<;>simp[bp]
theorem cz {d e:Dt}(h:d∈bp e):∀{r:Dt},e∈bp r→d∈bp r
 |.pair i a b,hr=>by
  simp only[bp,zal,zaF]at hr ⊢;rcases hr with rfl|hr|hr
  ·simpa[bp]using h
  ·exact .inr (.inl (cz h hr))
  ·exact .inr (.inr (cz h hr))
 |.br a b,hr=>by
  simp only[bp,zal,zaF]at hr ⊢;rcases hr with rfl|hr|hr
  ·simpa[bp]using h
  ·exact .inr (.inl (cz h hr))
  ·exact .inr (.inr (cz h hr))
 |.vec i l,hr=>by
  simp only[bp,zal]at hr ⊢;rcases hr with rfl|hr
  ·simpa[bp]using h
  ·exact .inr (cz h hr)
 |.put i l,hr=>by
  simp only[bp,zal]at hr ⊢;rcases hr with rfl|hr
  ·simpa[bp]using h
  ·exact .inr (cz h hr)
 |.nil,hr=>by simp[bp]at hr;subst hr;exact h
 |.sym _,hr=>by simp[bp]at hr;subst hr;exact h
 |.num _ _,hr=>by simp[bp]at hr;subst hr;exact h
 |.cD _,hr=>by simp[bp]at hr;subst hr;exact h
 |.kB _,hr=>by simp[bp]at hr;subst hr;exact h
 |.txt _ _,hr=>by simp[bp]at hr;subst hr;exact h
 |.cZ,hr=>by simp[bp]at hr;subst hr;exact h
 |.ask _,hr=>by simp[bp]at hr;subst hr;exact h
theorem lO {m:Int}:∀{r d:Dt},aO m r=some d→ .put m d∈bp r
 |.put n x,d,hl=>by
  unfold aO at hl;simp only[bp,zal];split at hl
  ·rename_i e;cases hl;exact .inl (by rw[e])
  ·exact .inr (lO hl)
 |.pair _ a b,d,hl=>by
  unfold aO at hl;simp only[bp,zal,zaF];cases hq:aO m a with
  |some x=>rw[hq]at hl;cases hl;exact .inr (.inl (lO hq))
  |none=>rw[hq]at hl;exact .inr (.inr (lO hl))
 |.vec _ l,d,hl=>by
  unfold aO at hl;simp only[bp,zal];exact .inr (lO hl)
 |.br a l,d,hl=>by
  unfold aO at hl;simp only[bp,zal,zaF];cases hq:aO m a with
  |some x=>rw[hq]at hl;cases hl;exact .inr (.inl (lO hq))
  |none=>rw[hq]at hl;exact .inr (.inr (lO hl))
 |.nil,d,hl=>by simp[aO]at hl
 |.sym _,d,hl=>by simp[aO]at hl
 |.num _ _,d,hl=>by simp[aO]at hl
 |.cD _,d,hl=>by simp[aO]at hl
 |.kB _,d,hl=>by simp[aO]at hl
 |.txt _ _,d,hl=>by simp[aO]at hl
 |.cZ,d,hl=>by simp[aO]at hl
 |.ask _,d,hl=>by simp[aO]at hl
section
variable (root:Dt)
def Al (g:fP)(x:Dt)(k:Nat):Prop:=
 match bQ root 200000 x with
 |.pair i _ _=>g.met.lookup i=some k
 |.vec i _=>g.met.lookup i=some k
 |.txt i _=>g.met.lookup i=some k
 |.sym w=>g.nodes[k]?=some ⟨4,w,0,0,[]⟩
 |.num a b=>g.nodes[k]?=some ⟨5,[],a,b,[]⟩
 |.cD a=>g.nodes[k]?=some ⟨6,[],a,0,[]⟩
 |.kB a=>g.nodes[k]?=some ⟨7,[],a,0,[]⟩
 |_=>g.nodes[k]?=some ⟨0,[],0,0,[]⟩
def XH (g:fP):Dt→List Nat→Prop
 |.br a r,l=>∃k q,l=k::q∧Al root g a k∧XH g r q
 |_,l=>l=[]
def B5 (g:fP)(i k:Nat):Prop:=
 (∃a b ka kb,.pair i a b∈bp root∧g.nodes[k]?=some ⟨1,[],0,0,[ka,kb]⟩∧Al root g a ka∧Al root g b kb)∨
 (∃l ks,.vec i l∈bp root∧g.nodes[k]?=some ⟨2,[],0,0,ks⟩∧XH root g l ks)∨
 (∃w,.txt i w∈bp root∧g.nodes[k]?=some ⟨3,w,0,0,[]⟩)
structure NX (g g':fP):Prop where
 len:g.nodes.length≤g'.nodes.length
 old:∀j:Nat,j<g.nodes.length→g'.nodes[j]?=g.nodes[j]?
 ext:∀i k:Nat,g.met.lookup i=some k→g'.met.lookup i=some k
 new:∀i k:Nat,g'.met.lookup i=some k→g.met.lookup i=some k∨(g.nodes.length≤k∧B5 root g' i k)
structure XX (g g':fP) (L:Option Nat):Prop where
 nodes:∀(j:Nat) x,g.nodes[j]?=some x→L≠some j→g'.nodes[j]?=some x
 ext:∀i k:Nat,g.met.lookup i=some k→g'.met.lookup i=some k
 hold:∀L0,L=some L0→∃x,g.nodes[L0]?=some x∧1≤x.kind∧x.kind≤2
end
section
variable {root:Dt}
theorem Al.on (h:XX g g' L){x:Dt}{k:Nat}(ha:Al root g x k):Al root g' x k:=by
 have key:∀y:eO,g.nodes[k]?=some y→(y.kind=0∨4≤y.kind)→g'.nodes[k]?=some y:=λy hy hk=>by
  refine h.nodes k y hy λe=>?_;obtain⟨z,hz,h1,h2⟩:=h.hold k e;rw[hy]at hz;cases hz;omega
 unfold Al at ha ⊢;split at ha
 ·exact h.ext _ _ ha
 ·exact h.ext _ _ ha
 ·exact h.ext _ _ ha
 ·exact key _ ha (.inr (show(4:Int)≤4 by decide))
 ·exact key _ ha (.inr (show(4:Int)≤5 by decide))
 ·exact key _ ha (.inr (show(4:Int)≤6 by decide))
 ·exact key _ ha (.inr (show(4:Int)≤7 by decide))
 ·exact key _ ha (.inl rfl)
theorem XH.on (h:XX g g' L):∀{l:Dt} {ks:List Nat},XH root g l ks→XH root g' l ks
 |.br _ _,_,⟨k,q,h1,h2,h3⟩=>⟨k,q,h1,h2.on h,XH.on h h3⟩
 |.cZ,_,e=>e
 |.nil,_,e=>e
 |.sym _,_,e=>e
 |.num _ _,_,e=>e
 |.cD _,_,e=>e
 |.kB _,_,e=>e
 |.txt _ _,_,e=>e
 |.pair _ _ _,_,e=>e
 |.vec _ _,_,e=>e
 |.put _ _,_,e=>e
 |.ask _,_,e=>e
theorem B5.on (h:XX g g' L){k:Nat}(hk:L≠some k)(hh:B5 root g i k):B5 root g' i k:=by
 rcases hh with⟨a,b,ka,kb,h1,h2,h3,h4⟩|⟨l,ks,h1,h2,h3⟩|⟨w,h1,h2⟩
 ·exact .inl ⟨a,b,ka,kb,h1,h.nodes _ _ h2 hk,h3.on h,h4.on h⟩
 ·exact .inr (.inl ⟨l,ks,h1,h.nodes _ _ h2 hk,h3.on h⟩)
 ·exact .inr (.inr ⟨w,h1,h.nodes _ _ h2 hk⟩)
theorem NX.xx (h:NX root g g'):XX g g' none:=⟨λj x hx _=>by
 rw[h.old j (zbh.1 hx).1];exact hx,h.ext,λL0 e=>by cases e⟩
theorem NX.refl (g:fP):NX root g g:=⟨zac _,λ_ _=>rfl,λ_ _ h=>h,λ_ _ h=> .inl h⟩
theorem NX.trans {a b c:fP}(h:NX root a b)(k:NX root b c):NX root a c:=by
 refine⟨zag h.len k.len,λj hj=>(k.old j (zaI hj h.len)).trans (h.old j hj),λi q hq=>k.ext i q (h.ext i q hq),λi q hq=>?_⟩;rcases k.new i q hq with h1|⟨h1,h2⟩
 ·rcases h.new i q h1 with h3|⟨h3,h4⟩
  ·exact .inl h3
  ·exact .inr ⟨h3,h4.on k.xx (by simp)⟩
 ·exact .inr ⟨zag h.len h1,h2⟩
theorem NX.atom (g:fP)(x:eO):NX root g (g.add x):=⟨by simp[fP.add],λj hj=>zbi hj,λ_ _ h=>h,λ_ _ h=> .inl h⟩
theorem zt (g:fP)(x:eO):(g.add x).nodes[g.nodes.length]?=some x:=by simp[fP.add]
theorem Q3 {d:Dt}(hd:d∈bp root):∀f,bQ root f d∈bp root∨bQ root f d=.nil:=by
 intro f
 induction f generalizing d with
 |zero=>exact .inl hd
 |succ f ih=>
  cases d with
  |put n x=>exact ih (cz (by simp[bp,cX]) hd)
  |ask m=>
   show bQ root f ((aO m root).getD .nil)∈bp root∨bQ root f ((aO m root).getD .nil)=.nil;cases hl:aO m root with
   |none=>
    refine .inr ?_;show bQ root f .nil=.nil;cases f<;>rfl
   |some x=>exact ih (cz (by simp[bp,cX]) (lO hl))
  |_=>exact .inl hd
def OcL (root:Dt):Dt→Prop
 |.br a r=>a∈bp root∧OcL root r
 |_=>True
theorem Q4:∀{l:Dt},l∈bp root→OcL root l
 |.br a r,h=>⟨cz (by simp[bp,cX]) h,Q4 (cz (by simp[bp,cX]) h)⟩
 |.cZ,_=>trivial
 |.nil,_=>trivial
 |.sym _,_=>trivial
 |.num _ _,_=>trivial
 |.cD _,_=>trivial
 |.kB _,_=>trivial
 |.txt _ _,_=>trivial
 |.pair _ _ _,_=>trivial
 |.vec _ _,_=>trivial
 |.put _ _,_=>trivial
 |.ask _,_=>trivial
theorem lookup_cons {j k:Nat}{l:List (Nat×Nat)}:((i,k)::l).lookup j=if j=i then some k else l.lookup j:=by
 by_cases h:j=i
 ·subst h;simp[List.lookup]
 ·rw[zaa h];have hb:(j==i)=false:=by simpa using h
  simp only[List.lookup,hb]
theorem NX.hold {kind:Int}{y:List Nat×fP}(hk:kind=1∨kind=2)(hl:g.met.lookup i=none)(h:NX root ⟨g.nodes++[⟨kind,[],0,0,[]⟩],(i,g.nodes.length)::g.met⟩ y.2)
 (hh:∀g':fP,XX y.2 g' (some g.nodes.length)→g'.nodes[g.nodes.length]?=some ⟨kind,[],0,0,y.1⟩→B5 root g' i g.nodes.length):NX root g { y.2 with nodes:=bE y.2.nodes g.nodes.length y.1 }∧({ y.2 with nodes:=bE y.2.nodes g.nodes.length y.1 }:fP).met.lookup i=some g.nodes.length:=by
 have h1:g.nodes.length+1≤y.2.nodes.length:=by have:=h.len;simpa using this
 have hne:∀j,j≠g.nodes.length→(bE y.2.nodes g.nodes.length y.1)[j]?=y.2.nodes[j]?:=λj hj=>by
  have hk:¬g.nodes.length=j:=λe=>hj e.symm;unfold bE;rw[zcE];simp[hk]
 have e0:=h.old g.nodes.length (by simp);rw[zbv (zac _)]at e0;simp at e0;have hat:(bE y.2.nodes g.nodes.length y.1)[g.nodes.length]?=some ⟨kind,[],0,0,y.1⟩:=by
  unfold bE;rw[zcE,e0];simp
 have hX:XX y.2 { y.2 with nodes:=bE y.2.nodes g.nodes.length y.1 } (some g.nodes.length):=
  ⟨λj x hx hj=>(hne j λe=>hj (by rw[e])).trans hx,λ_ _ q=>q,λL0 e=>by
    cases e;exact⟨_,e0,by rcases hk with rfl|rfl<;>decide,by rcases hk with rfl|rfl<;>decide⟩⟩
 have hmi:y.2.met.lookup i=some g.nodes.length:=h.ext i _ (by rw[lookup_cons,zab rfl]);refine⟨⟨by show _≤(bE _ _ _).length;simp[bE];omega,λj hj=>?_,λj k q=>?_,λj k q=>?_⟩,hmi⟩
 ·show(bE y.2.nodes g.nodes.length y.1)[j]?=_;rw[hne j (by omega),h.old j (by simp;omega)];exact zbi hj
 ·have xK:j≠i:=λe=>by subst e;rw[hl]at q;cases q
  exact h.ext j k (by rw[lookup_cons,zaa xK];exact q)
 ·rcases h.new j k q with q1|⟨q1,q2⟩
  ·rw[lookup_cons]at q1;split at q1
   ·rename_i e;subst e;cases q1;exact .inr ⟨zac _,hh _ hX hat⟩
   ·exact .inl q1
  ·have q1':g.nodes.length+1≤k:=by simpa using q1
   exact .inr ⟨by omega,q2.on hX (by simp;omega)⟩
theorem GC:∀n,(∀d g k g',d∈bp root→ie root n d g=some (k,g')→NX root g g'∧Al root g' d k)∧(∀l acc g ks g',OcL root l→ahF root n l acc g=some (ks,g')→NX root g g'∧∃q,ks=acc++q∧XH root g' l q):=by
 intro n
 induction n with
 |zero=>
  constructor
  ·intro _ _ _ _ _ h;simp[ie]at h
  ·intro _ _ _ _ _ _ h;simp[ahF]at h
 |succ n ih=>
  constructor
  ·intro d g k g' hd h;have ho:=Q3 hd 200000;simp only[ie]at h;split at h
   ·rename_i i a b e;rw[e]at ho;have Nw: .pair i a b∈bp root:=ho.resolve_right (by simp);split at h
    ·rename_i k0 hl;cases h;exact⟨NX.refl _,by unfold Al;rw[e];exact hl⟩
    ·rename_i hl;obtain⟨y,h1,h2⟩:=zas.1 h;cases h2;obtain⟨i1,q,i2,i3⟩:=ih.2 (.br a (.br b .cZ)) _ _ _ _ (show _∧_∧True from⟨cz (by simp[bp,cX]) Nw,cz (by simp[bp,cX]) Nw,trivial⟩) h1;obtain⟨ka,q1,rfl,a1,kb,q2,rfl,a2,rfl⟩:=i3;have:=NX.hold (.inl rfl) hl i1 λg' hX hat=> .inl ⟨a,b,ka,kb,Nw,by rw[hat,i2];rfl,a1.on hX,a2.on hX⟩;exact⟨this.1,by unfold Al;rw[e];exact this.2⟩
   ·rename_i i l e;rw[e]at ho;have Nw: .vec i l∈bp root:=ho.resolve_right (by simp);split at h
    ·rename_i k0 hl;cases h;exact⟨NX.refl _,by unfold Al;rw[e];exact hl⟩
    ·rename_i hl;obtain⟨y,h1,h2⟩:=zas.1 h;cases h2;obtain⟨i1,q,i2,i3⟩:=ih.2 _ _ _ _ _ (Q4 (cz (by simp[bp,cX]) Nw)) h1;have:=NX.hold (.inr rfl) hl i1 λg' hX hat=> .inr (.inl ⟨l,y.1,Nw,hat,by rw[i2];exact i3.on hX⟩);exact⟨this.1,by unfold Al;rw[e];exact this.2⟩
   ·rename_i i w e;rw[e]at ho;have Nw: .txt i w∈bp root:=ho.resolve_right (by simp);split at h
    ·rename_i k0 hl;cases h;exact⟨NX.refl _,by unfold Al;rw[e];exact hl⟩
    ·rename_i hl;cases h;refine⟨⟨by simp,λj hj=>zbi hj,λj k q=>?_,λj k q=>?_⟩,by unfold Al;rw[e];show List.lookup _ (_::_)=_;rw[lookup_cons,zab rfl]⟩
     ·have xK:j≠i:=λe=>by subst e;rw[hl]at q;cases q
      show List.lookup _ (_::_)=_;rw[lookup_cons,zaa xK];exact q
     ·have q':((i,g.nodes.length)::g.met).lookup j=some k:=q;rw[lookup_cons]at q';split at q'
      ·rename_i e;subst e;cases q';exact .inr ⟨zac _,.inr (.inr ⟨w,Nw,by simp⟩)⟩
      ·exact .inl q'
   ·rename_i w e;cases h;exact⟨NX.atom _ _,by unfold Al;rw[e];exact zt _ _⟩
   ·rename_i a b e;cases h;exact⟨NX.atom _ _,by unfold Al;rw[e];exact zt _ _⟩
   ·rename_i a e;cases h;exact⟨NX.atom _ _,by unfold Al;rw[e];exact zt _ _⟩
   ·rename_i a e;cases h;exact⟨NX.atom _ _,by unfold Al;rw[e];exact zt _ _⟩
   ·rename_i y n1 n2 n3 n4 n5 n6 n7;cases h;refine⟨NX.atom _ _,?_⟩;unfold Al;split
    ·rename_i i a b e;exact absurd e (n1 i a b)
    ·rename_i i l e;exact absurd e (n2 i l)
    ·rename_i i w e;exact absurd e (n3 i w)
    ·rename_i w e;exact absurd e (n4 w)
    ·rename_i a b e;exact absurd e (n5 a b)
    ·rename_i a e;exact absurd e (n6 a)
    ·rename_i a e;exact absurd e (n7 a)
    ·exact zt _ _
  ·intro l acc g ks g' hO h;cases l with
   |cZ=>
    simp only[ahF]at h;cases h;exact⟨NX.refl _,[],by simp,rfl⟩
   |br a l=>
    simp only[ahF]at h;obtain⟨x,h1,h2⟩:=zaO.1 h;obtain⟨i1,i2⟩:=ih.1 a g x.1 x.2 hO.1 h1;obtain⟨j1,q,j2,j3⟩:=ih.2 l _ x.2 ks g' hO.2 h2;exact⟨i1.trans j1,x.1::q,by rw[j2];simp,x.1,q,rfl,i2.on j1.xx,j3⟩
   |_=>simp only[ahF]at h;cases h
end
end Go.Loop
