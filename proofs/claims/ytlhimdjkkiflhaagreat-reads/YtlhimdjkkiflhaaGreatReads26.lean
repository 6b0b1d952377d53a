import Derived.Test.YtlhimdjkkiflhaaGreatReads22
import Derived.Test.YtlhimdjkkiflhaaGreatReads25
set_option maxHeartbeats 8000000
set_option maxRecDepth 100000
namespace Go.Loop
def ll (same:List (Option Nat)):Nat→Nat→Option Nat
 |0,_=>none
 |m+1,n=>
  match same[n]? with
  |none=>none
  |some none=>some n
  |some (some k)=>ll same m k
structure sJ where
 out:List dF
 at_:List Nat
def dw (l:List dF)(k a:Nat):List dF:=l.modify k λx=>{ x with subs:=x.subs++[a] }
section
variable (s:FS)
mutual
def mf:Nat→Nat→sJ→Option (Nat×sJ)
 |0,_,_=>none
 |m+1,n,g=>
  match ll s.same (m+1) n with
  |none=>none
  |some n'=>
   match s.nodes[n']? with
   |none=>none
   |some x=>
    if 0<g.at_[n']?.getD 0∧1≤x.kind∧x.kind≤3 then some (g.at_[n']?.getD 0-1,g)
    else(eP m x.subs g.out.length ⟨g.out++[{ x with subs:=[] }],g.at_.set n' (g.out.length+1)⟩).map λy=>(g.out.length,y)
def eP:Nat→List Nat→Nat→sJ→Option sJ
 |0,_,_,_=>none
 |_+1,[],_,g=>some g
 |m+1,a::l,k,g=>(mf m a g).bind λy=>eP m l k ⟨dw y.2.out k y.1,y.2.at_⟩
end
end
section
variable {s:FS}{φ:Nat→Option Nat}{q:eA}{root:Dt}{n0:Nat}
theorem mZ.mM:∀{d:Dt} {n:Nat},d.hd=true→mZ φ s d [n]→Own s n
 |.nil,n,_,⟨m,e,_,h⟩=>by cases e;exact h
 |.sym _,n,_,⟨m,e,_,h⟩=>by cases e;exact h
 |.num _ _,n,_,⟨m,e,_,h⟩=>by cases e;exact h
 |.dI _,n,_,⟨m,e,_,h⟩=>by cases e;exact h
 |.oY _,n,_,⟨m,e,_,h⟩=>by cases e;exact h
 |.txt _ _,n,_,⟨m,e,_,h,_⟩=>by cases e;exact h
 |.pair _ _ _,n,_,⟨m,_,_,e,_,h,_⟩=>by cases e;exact h
 |.vec _ _,n,_,⟨m,_,e,_,h,_⟩=>by cases e;exact h
theorem mZ.bT {m:Int}:∀{d:Dt} {l:List Nat} {d':Dt},mZ φ s d l→aJ m d=some d'→∃k k',s.label m=k+1∧s.same[k]?=some (some k')∧mZ φ s d' [k']
 |.put j d,l,d',⟨hd,n,k,e,h1,h2⟩,hl=>by
  simp only[aJ]at hl;split at hl
  ·rename_i hj;subst hj;cases hl;subst e;exact⟨k,n,h1,h2,hd⟩
  ·exact hd.bT hl
 |.pair _ a b,l,d',⟨n,x,y,e,h1,h2,h3,ha,hb⟩,hl=>by
  simp only[aJ]at hl;cases hq:aJ m a with
  |some z=>rw[hq]at hl;cases hl;exact ha.bT hq
  |none=>rw[hq]at hl;exact hb.bT hl
 |.vec _ d,l,d',⟨n,xs,e,h1,h2,h3,hd⟩,hl=>by
  simp only[aJ]at hl;exact hd.bT hl
 |.bD a d,l,d',⟨x,xs,e,ha,hd⟩,hl=>by
  simp only[aJ]at hl;cases hq:aJ m a with
  |some z=>rw[hq]at hl;cases hl;exact ha.bT hq
  |none=>rw[hq]at hl;exact hd.bT hl
 |.nil,_,_,_,hl=>by simp[aJ]at hl
 |.sym _,_,_,_,hl=>by simp[aJ]at hl
 |.num _ _,_,_,_,hl=>by simp[aJ]at hl
 |.dI _,_,_,_,hl=>by simp[aJ]at hl
 |.oY _,_,_,_,hl=>by simp[aJ]at hl
 |.txt _ _,_,_,_,hl=>by simp[aJ]at hl
 |.ask _,_,_,_,hl=>by simp[aJ]at hl
 |.ee,_,_,_,hl=>by simp[aJ]at hl
theorem kn {n:Nat}(h:Own s n)(m:Nat)(hm:1≤m):ll s.same m n=some n:=by
 obtain⟨m,rfl⟩:∃k,m=k+1:=⟨m-1,by omega⟩;simp only[ll];rw[h.1]
theorem tQ (hr:mZ φ s root [n0])(hg:bp root root=true):∀(f:Nat) (d:Dt) (n:Nat),mZ φ s d [n]→bp root d=true→(bY root f d).hd=true→∃n',(∀m,f+1≤m→ll s.same m n=some n')∧mZ φ s (bY root f d) [n']
 |0,d,n,h,_,hh=>⟨n,λm hm=>kn (h.mM hh) m hm,h⟩
 |f+1,.put j d,n,h,hgd,hh=>by
  simp only[bp,zai]at hgd;obtain⟨n',h1,h2⟩:=tQ hr hg f d n h.1 hgd.2 hh;exact⟨n',λm hm=>h1 m (by omega),h2⟩
 |f+1,.ask j,n,h,hgd,hh=>by
  simp only[bp,zai]at hgd;obtain⟨d1,yL⟩:=zbP.1 hgd.1;have e:bY root (f+1) (.ask j)=bY root f d1:=by
   show bY root f ((aJ j root).getD .nil)=_;rw[yL];rfl
  rw[e]at hh ⊢;obtain⟨k,k',h1,h2,h3⟩:=hr.bT yL;obtain⟨n1,e1,h4⟩:=h;cases e1;obtain rfl:k=n:=by omega
  obtain⟨n',h5,h6⟩:=tQ hr hg f d1 k' h3 (gZ hg yL) hh;refine⟨n',λm hm=>?_,h6⟩;obtain⟨m,rfl⟩:∃k,m=k+1:=⟨m-1,by omega⟩;simp only[ll];rw[h2];exact h5 m (by omega)
 |f+1,.nil,n,h,_,hh=>⟨n,λm hm=>kn (h.mM rfl) m (by omega),h⟩
 |f+1,.sym _,n,h,_,hh=>⟨n,λm hm=>kn (h.mM rfl) m (by omega),h⟩
 |f+1,.num _ _,n,h,_,hh=>⟨n,λm hm=>kn (h.mM rfl) m (by omega),h⟩
 |f+1,.dI _,n,h,_,hh=>⟨n,λm hm=>kn (h.mM rfl) m (by omega),h⟩
 |f+1,.oY _,n,h,_,hh=>⟨n,λm hm=>kn (h.mM rfl) m (by omega),h⟩
 |f+1,.txt _ _,n,h,_,hh=>⟨n,λm hm=>kn (h.mM rfl) m (by omega),h⟩
 |f+1,.pair _ _ _,n,h,_,hh=>⟨n,λm hm=>kn (h.mM rfl) m (by omega),h⟩
 |f+1,.vec _ _,n,h,_,hh=>⟨n,λm hm=>kn (h.mM rfl) m (by omega),h⟩
 |f+1,.ee,n,h,_,hh=>by cases hh
 |f+1,.bD _ _,n,h,_,hh=>by cases hh
theorem Nd:∀{d:Dt} {k:Nat},bp root d=true→mZ φ s d [k]→(bY root 200000 d).hd=true
 |.put j d,_,h,_=>by simp only[bp,zai]at h;exact h.1
 |.ask j,_,h,_=>by simp only[bp,zai]at h;exact h.2
 |.nil,_,_,_=>rfl
 |.sym _,_,_,_=>rfl
 |.num _ _,_,_,_=>rfl
 |.dI _,_,_,_=>rfl
 |.oY _,_,_,_=>rfl
 |.txt _ _,_,_,_=>rfl
 |.pair _ _ _,_,_,_=>rfl
 |.vec _ _,_,_,_=>rfl
 |.ee,_,_,h=>by have:[_]=[0,0]:=h;cases this
 |.bD a l,_,_,h=>by obtain⟨x,xs,e,_⟩:=h;cases e
structure ou (s:FS) (φ:Nat→Option Nat) (g:jF) (h:sJ):Prop where
 len:h.out.length=g.nodes.length
 al:h.at_.length=s.nodes.length
 met:∀i n,φ i=some n→h.at_[n]?.getD 0=((g.met.lookup i).map (· + 1)).getD 0
structure GP (g g':jF) (h h':sJ):Prop where
 og:∀j:Nat,j<g.nodes.length→g'.nodes[j]?=g.nodes[j]?
 oh:∀j:Nat,j<g.nodes.length→h'.out[j]?=h.out[j]?
 n:∀j:Nat,g.nodes.length≤j→h'.out[j]?=g'.nodes[j]?
 l:g.nodes.length≤g'.nodes.length
def dF.w (x:dF)(l:List Nat):dF:={ x with subs:=l }
def NOk (s:FS)(φ:Nat→Option Nat)(root:Dt)(n:Nat):Prop:=∀(d:Dt) (k:Nat) (g:jF) (h:sJ) (k':Nat) (g':jF),mZ φ s d [k]→bp root d=true→ou s φ g h→nj root n d g=some (k',g')→∃h',(∃m0,∀m,m0≤m→mf s m k h=some (k',h'))∧ou s φ g' h'∧GP g g' h h'
def Zh (s:FS)(φ:Nat→Option Nat)(root:Dt)(n:Nat):Prop:=∀(d:Dt) (xs acc:List Nat) (g:jF) (h:sJ) (ns:List Nat) (g':jF) (k:Nat) (x:dF),oq φ s d xs→bp root d=true→ou s φ g h→k<g.nodes.length→h.out[k]?=some (x.w acc)→iQ root n d acc g=some (ns,g')→∃h',(∃m0,∀m,m0≤m→eP s m xs k h=some h')∧ou s φ g' h'∧h'.out[k]?=some (x.w ns)∧(∀j:Nat,j<g.nodes.length→g'.nodes[j]?=g.nodes[j]?)∧(∀j:Nat,j<g.nodes.length→j≠k→h'.out[j]?=h.out[j]?)∧(∀j:Nat,g.nodes.length≤j→h'.out[j]?=g'.nodes[j]?)∧g.nodes.length≤g'.nodes.length
theorem eU (l:List dF)(k a:Nat):(dw l k a).length=l.length:=by simp[dw]
theorem qu {l:List dF}{k a j:Nat}(h:j≠k):(dw l k a)[j]?=l[j]?:=by
 have hk:¬k=j:=λe=>h e.symm;unfold dw;rw[zbK];simp[hk]
theorem ji {l:List dF}{k a:Nat}{x:dF}(h:l[k]?=some x):(dw l k a)[k]?=some (x.w (x.subs++[a])):=by
 unfold dw;rw[zbK,h];simp[dF.w]
theorem Aa {l:List dF}{k j:Nat}{a:List Nat}(h:j≠k):(bP l k a)[j]?=l[j]?:=by
 have hk:¬k=j:=λe=>h e.symm;unfold bP;rw[zbK];simp[hk]
theorem J5 {l:List dF}{k:Nat}{a:List Nat}{x:dF}(h:l[k]?=some x):(bP l k a)[k]?=some (x.w a):=by
 unfold bP;rw[zbK,h];simp[dF.w]
theorem xJ (l:List dF)(k:Nat)(a:List Nat):(bP l k a).length=l.length:=by simp[bP]
theorem Nf {n:Nat}(ihn:NOk s φ root n)(ihl:Zh s φ root n):Zh s φ root (n+1):=by
 intro d xs acc g h ns g' k x hr hg gr hk hx hn;cases d with
 |ee=>
  obtain rfl:xs=[]:=by have:0::0::xs=[0,0]:=hr;simpa using this
  simp only[iQ]at hn;cases hn;refine⟨h,⟨1,λm hm=>?_⟩,gr,hx,λ_ _=>rfl,λ_ _ _=>rfl,λj hj=>?_,zab _⟩
  ·obtain⟨m,rfl⟩:∃k,m=k+1:=⟨m-1,by omega⟩;simp only[eP]
  ·rw[zbC (by rw[gr.len];exact hj),zbC hj]
 |bD a l=>
  obtain⟨y,ys,e,ha,hl⟩:=hr;obtain rfl:xs=y::ys:=by simpa using e
  simp only[bp,zai]at hg;simp only[iQ]at hn;cases hq:nj root n a g with
  |none=>rw[hq]at hn;cases hn
  |some z=>
   obtain⟨k1,g1⟩:=z;rw[hq]at hn;have hn:iQ root n l (acc++[k1]) g1=some (ns,g'):=hn;obtain⟨h1,⟨m1,e1⟩,Zi,QM⟩:=ihn a y g h k1 g1 ha hg.1 gr hq;have LP:k<g1.nodes.length:=zaH hk QM.l;have hx1:h1.out[k]?=some (x.w acc):=by rw[QM.oh k hk];exact hx
   have gr2:ou s φ g1 ⟨dw h1.out k k1,h1.at_⟩:=⟨by rw[eU];exact Zi.len,Zi.al,Zi.met⟩;obtain⟨h',⟨m2,e2⟩,r1,r2,r3,r4,r5,r6⟩:=ihl l ys (acc++[k1]) g1 ⟨dw h1.out k k1,h1.at_⟩ ns g' k x hl hg.2 gr2 LP (ji hx1) hn;refine⟨h',⟨m1+m2+1,λm hm=>?_⟩,r1,r2,λj hj=>?_,λj hj hjk=>?_,λj hj=>?_,zaj QM.l r6⟩
   ·obtain⟨m,rfl⟩:∃k,m=k+1:=⟨m-1,by omega⟩;simp only[eP];rw[e1 m (by omega)];exact e2 m (by omega)
   ·rw[r3 j (zaH hj QM.l),QM.og j hj]
   ·rw[r4 j (zaH hj QM.l) hjk,←QM.oh j hj];exact qu hjk
   ·by_cases hj1:j<g1.nodes.length
    ·rw[r4 j hj1 (by omega),r3 j hj1,←QM.n j hj];exact qu (by omega)
    ·exact r5 j (by omega)
 |_=>simp only[iQ]at hn;cases hn
theorem H8 {l:List Nat}{n k v:Nat}(h:n<l.length):(l.set n v)[k]?.getD 0=if k=n then v else l[k]?.getD 0:=by
 rw[List.getElem?_set];by_cases e:n=k
 ·subst e;simp[h]
 ·rw[zaa e,zaa (λq=>e q.symm)]
theorem ou.push {g:jF}{h:sJ}(hf:Fi q s φ)(gr:ou s φ g h){n':Nat}{x:dF}(hx:s.nodes[n']?=some x)(Ui:¬(1≤x.kind∧x.kind≤3))(y z:dF):ou s φ (g.add y) ⟨h.out++[z],h.at_.set n' (h.out.length+1)⟩:=by
 have hl:n'<h.at_.length:=by rw[gr.al];exact(zaD.1 hx).1
 refine⟨by simp[jF.add,gr.len],by simp[gr.al],λi n hi=>?_⟩;show(h.at_.set n' (h.out.length+1))[n]?.getD 0=_;rw[H8 hl,zaa (λe=>?_)]
 ·exact gr.met i n hi
 ·subst e;obtain⟨y,h1,h2⟩:=hf.pk i _ hi;rw[hx]at h1;cases h1;exact Ui h2
theorem ou.Sq {g:jF}{h:sJ}(hf:Fi q s φ)(gr:ou s φ g h){i n':Nat}(hi:φ i=some n')(y z:dF):ou s φ ⟨g.nodes++[y],(i,g.nodes.length)::g.met⟩ ⟨h.out++[z],h.at_.set n' (h.out.length+1)⟩:=by
 have hl:n'<h.at_.length:=by rw[gr.al];exact(hf.phi i n' hi).2
 refine⟨by simp[gr.len],by simp[gr.al],λj n hj=>?_⟩;show(h.at_.set n' (h.out.length+1))[n]?.getD 0=((List.lookup j ((i,g.nodes.length)::g.met)).map (· + 1)).getD 0;rw[H8 hl];by_cases e:j=i
 ·subst e;rw[hi]at hj;cases hj;simp[gr.len]
 ·have hne:n≠n':=λq=>e (hf.BD _ _ _ (q▸hj) hi);have hb:(j==i)=false:=by simpa using e
  rw[zaa hne,List.lookup_cons,hb];exact gr.met j n hj
theorem GP.push {g:jF}{h:sJ}(gl:h.out.length=g.nodes.length)(y:dF)(m:List (Nat×Nat))(a:List Nat):GP g ⟨g.nodes++[y],m⟩ h ⟨h.out++[y],a⟩:=by
 refine⟨λj hj=>zaS hj,λj hj=>zaS (by omega),λj hj=>?_,by simp⟩;show(h.out++[y])[j]?=(g.nodes++[y])[j]?
 rw[zaZ (by omega),zaZ (by omega),gl]
theorem vz {h:sJ}{k n' m:Nat}{x:dF}(h1:ll s.same (m+1) k=some n')(h2:s.nodes[n']?=some x):mf s (m+1) k h=if 0<h.at_[n']?.getD 0∧1≤x.kind∧x.kind≤3 then some (h.at_[n']?.getD 0-1,h)else(eP s m x.subs h.out.length ⟨h.out++[{ x with subs:=[] }],h.at_.set n' (h.out.length+1)⟩).map λy=>(h.out.length,y):=by
 simp only[mf,h1,h2]
theorem ow (hf:Fi q s φ){g:jF}{h:sJ}(gr:ou s φ g h){k n' F:Nat}{x:dF}(h1:∀m,F≤m→ll s.same m k=some n')(h2:s.nodes[n']?=some x)(hk:¬(1≤x.kind∧x.kind≤3))(hs:x.subs=[]):∃h',(∃m0,∀m,m0≤m→mf s m k h=some (g.nodes.length,h'))∧ou s φ (g.add x) h'∧GP g (g.add x) h h':=by
 have hx:{ x with subs:=[] }=x:=by cases x;simp at hs;subst hs;rfl
 refine⟨⟨h.out++[x],h.at_.set n' (h.out.length+1)⟩,⟨F+2,λm hm=>?_⟩,gr.push hf h2 hk x x,GP.push gr.len x _ _⟩;obtain⟨m,rfl⟩:∃k,m=k+2:=⟨m-2,by omega⟩;rw[vz (h1 (m+2) (by omega)) h2,zaa (λq=>hk q.2),hs];simp only[eP,Option.map,hx,gr.len]
theorem BI {g:jF}{h:sJ}(gr:ou s φ g h){k n' F i k':Nat}{x:dF}(h1:∀m,F≤m→ll s.same m k=some n')(h2:s.nodes[n']?=some x)(hk:1≤x.kind∧x.kind≤3)(hi:φ i=some n')(hm:g.met.lookup i=some k'):∃h',(∃m0,∀m,m0≤m→mf s m k h=some (k',h'))∧ou s φ g h'∧GP g g h h':=by
 have ha:=gr.met i n' hi;rw[hm]at ha;have ha:h.at_[n']?.getD 0=k'+1:=ha;refine⟨h,⟨F+1,λm hm=>?_⟩,gr,λ_ _=>rfl,λ_ _=>rfl,λj hj=>?_,zab _⟩
 ·obtain⟨m,rfl⟩:∃k,m=k+1:=⟨m-1,by omega⟩;rw[vz (h1 (m+1) (by omega)) h2,ha,zac ⟨by omega,hk⟩,Nat.add_sub_cancel]
 ·rw[zbC (by rw[gr.len];exact hj),zbC hj]
theorem H9 {n:Nat}(ihl:Zh s φ root n)(hf:Fi q s φ){g:jF}{h:sJ}(gr:ou s φ g h){k n' F i:Nat}{x:dF}{l:Dt}{xs ns:List Nat}{g2:jF}(h1:∀m,F≤m→ll s.same m k=some n')(h2:s.nodes[n']?=some (x.w xs))(hi:φ i=some n')(hm:g.met.lookup i=none)(hl:oq φ s l xs)(hg:bp root l=true)(hn:iQ root n l [] ⟨g.nodes++[x.w []],(i,g.nodes.length)::g.met⟩=some (ns,g2)):∃h',(∃m0,∀m,m0≤m→mf s m k h=some (g.nodes.length,h'))∧ou s φ { g2 with nodes:=bP g2.nodes g.nodes.length ns } h'∧GP g { g2 with nodes:=bP g2.nodes g.nodes.length ns } h h':=by
 have ha:=gr.met i n' hi;rw[hm]at ha;have ha:h.at_[n']?.getD 0=0:=ha;have Zi:=gr.Sq hf hi (x.w []) (x.w []);have QM:=GP.push gr.len (x.w []) ((i,g.nodes.length)::g.met) (h.at_.set n' (h.out.length+1));have hlen:(g.nodes++[x.w []]).length=g.nodes.length+1:=by simp
 have hx0:(g.nodes++[x.w []])[g.nodes.length]?=some (x.w []):=by simp
 obtain⟨h',⟨m0,e0⟩,r1,r2,r3,r4,r5,r6⟩:=ihl l xs [] ⟨g.nodes++[x.w []],(i,g.nodes.length)::g.met⟩ ⟨h.out++[x.w []],h.at_.set n' (h.out.length+1)⟩ ns g2 g.nodes.length x hl hg Zi (by show _<(g.nodes++[x.w []]).length;omega) (by show(h.out++[x.w []])[g.nodes.length]?=_;rw[←gr.len];simp) hn;have r3':∀j:Nat,j<g.nodes.length+1→g2.nodes[j]?=(g.nodes++[x.w []])[j]?:=λj hj=>r3 j (by show j<(g.nodes++[x.w []]).length;omega);have r6':g.nodes.length+1≤g2.nodes.length:=by have:(g.nodes++[x.w []]).length≤g2.nodes.length:=r6;omega
 refine⟨h',⟨F+m0+1,λm hm=>?_⟩,⟨by rw[xJ];exact r1.len,r1.al,r1.met⟩,λj hj=>?_,λj hj=>?_,λj hj=>?_,?_⟩
 ·obtain⟨m,rfl⟩:∃k,m=k+1:=⟨m-1,by omega⟩;rw[vz (h1 (m+1) (by omega)) h2,ha,zaa (by omega)];have:=e0 m (by omega);rw[gr.len];rw[gr.len]at this;show Option.map _ (eP s m xs g.nodes.length ⟨h.out++[x.w []],_⟩)=_;rw[this];rfl
 ·show(bP g2.nodes g.nodes.length ns)[j]?=_;rw[Aa (by omega),r3' j (by omega),zaS hj]
 ·rw[r4 j (by show j<(g.nodes++[x.w []]).length;omega) (by omega)];exact zaS (by rw[gr.len];exact hj)
 ·show _=(bP g2.nodes g.nodes.length ns)[j]?
  by_cases e:j=g.nodes.length
  ·subst e;rw[r2,J5 (x:=x.w []) (by rw[r3' _ (by omega)];exact hx0)];rfl
  ·rw[Aa e];exact r5 j (by show(g.nodes++[x.w []]).length≤j;omega)
 ·show _≤(bP g2.nodes g.nodes.length ns).length;rw[xJ];omega
theorem Ng (hf:Fi q s φ)(hr:mZ φ s root [n0])(hg:bp root root=true){n:Nat}(ihl:Zh s φ root n):NOk s φ root (n+1):=by
 intro d k g h k' g' hd hgd gr hn;have hh:=Nd hgd hd;obtain⟨n',h1,h2⟩:=tQ hr hg 200000 d k hd hgd hh;have KN:=lA hg 200000 d hgd;simp only[nj]at hn;generalize bY root 200000 d=e at hn h2 KN hh;clear hd hgd;cases e with
 |ee=>cases hh
 |bD _ _=>cases hh
 |put _ _=>cases hh
 |ask _=>cases hh
 |nil=>obtain⟨_,e,h3,h4⟩:=h2;cases e;cases hn;exact ow hf gr h1 h3 (by simp) rfl
 |sym t=>obtain⟨_,e,h3,h4⟩:=h2;cases e;cases hn;exact ow hf gr h1 h3 (by simp) rfl
 |num a b=>obtain⟨_,e,h3,h4⟩:=h2;cases e;cases hn;exact ow hf gr h1 h3 (by simp) rfl
 |dI a=>obtain⟨_,e,h3,h4⟩:=h2;cases e;cases hn;exact ow hf gr h1 h3 (by simp) rfl
 |oY a=>obtain⟨_,e,h3,h4⟩:=h2;cases e;cases hn;exact ow hf gr h1 h3 (by simp) rfl
 |txt i t=>
  obtain⟨_,e,h3,h4,h5⟩:=h2;cases e;dsimp only at hn;cases hm:g.met.lookup i with
  |some k1=>rw[hm]at hn;cases hn;exact BI gr h1 h3 (by simp) h5 hm
  |none=>
   rw[hm]at hn;cases hn;have ha:=gr.met i n' h5;rw[hm]at ha;have ha:h.at_[n']?.getD 0=0:=ha;refine⟨⟨h.out++[⟨3,t,0,0,[]⟩],h.at_.set n' (h.out.length+1)⟩,⟨200003,λm hm=>?_⟩,gr.Sq hf h5 _ _,GP.push gr.len _ _ _⟩;obtain⟨m,rfl⟩:∃k,m=k+2:=⟨m-2,by omega⟩;rw[vz (h1 (m+2) (by omega)) h3,ha,zaa (by omega)];simp only[eP,Option.map,gr.len]
 |pair i a b=>
  obtain⟨_,x,y,e,h3,h4,h5,h6,h7⟩:=h2;cases e;simp only[bp,zai]at KN;dsimp only at hn;cases hm:g.met.lookup i with
  |some k1=>rw[hm]at hn;cases hn;exact BI gr h1 h3 (by simp) h5 hm
  |none=>
   rw[hm]at hn;dsimp only at hn;cases hq:iQ root n (.bD a (.bD b .ee)) [] ⟨g.nodes++[⟨1,[],0,0,[]⟩],(i,g.nodes.length)::g.met⟩with
   |none=>rw[hq]at hn;cases hn
   |some z=>
    rw[hq]at hn;cases hn;exact H9 (x:=⟨1,[],0,0,[]⟩) (l:= .bD a (.bD b .ee)) (xs:=[x,y]) ihl hf gr h1 h3 h5 hm ⟨x,[y],rfl,h6,y,[],rfl,h7,rfl⟩ (by simp[bp,KN]) hq
 |vec i l=>
  obtain⟨_,xs,e,h3,h4,h5,h6⟩:=h2;cases e;simp only[bp,zai]at KN;dsimp only at hn;cases hm:g.met.lookup i with
  |some k1=>rw[hm]at hn;cases hn;exact BI gr h1 h3 (by simp) h5 hm
  |none=>
   rw[hm]at hn;dsimp only at hn;cases hq:iQ root n l [] ⟨g.nodes++[⟨2,[],0,0,[]⟩],(i,g.nodes.length)::g.met⟩with
   |none=>rw[hq]at hn;cases hn
   |some z=>
    rw[hq]at hn;cases hn;exact H9 (x:=⟨2,[],0,0,[]⟩) ihl hf gr h1 h3 h5 hm h6 KN.2 hq
theorem QN (hf:Fi q s φ)(hr:mZ φ s root [n0])(hg:bp root root=true):∀n,NOk s φ root n∧Zh s φ root n:=by
 intro n
 induction n with
 |zero=>
  constructor
  ·intro _ _ _ _ _ _ _ _ _ hn;simp only[nj]at hn;cases hn
  ·intro _ _ _ _ _ _ _ _ _ _ _ _ _ _ hn;simp only[iQ]at hn;cases hn
 |succ n ih=>exact⟨Ng hf hr hg ih.2,Nf ih.1 ih.2⟩
end
structure Lk (L:Nat→RT) (N:Nat):Prop where
 go:∀a,a≤N→(L a).k≠101→(L a).k≠120→a<(L a).t∧(L a).t≤N
 bT:∀a,(L a).k=112∨(L a).k=97→0≤(L a).n∧(L a).n≤999
structure Fw (N:Nat) (s:FS):Prop where
 sl:s.same.length=s.nodes.length
 bl:s.begun.length=s.nodes.length
 lr:∀m,s.label m≤s.nodes.length
 an:s.at_≤N
structure Sz (N c d:Nat) (s s':FS):Prop where
 fw:Fw N s'
 at_:s.at_≤s'.at_
 nn:s'.nodes.length+c≤s.nodes.length+5*(s'.at_-s.at_)+d
 ge:s.nodes.length≤s'.nodes.length
section
variable {N:Nat}{s s' s'':FS}
theorem Sz.refl (h:Fw N s):Sz N 0 0 s s:=⟨h,zab _,by omega,zab _⟩
theorem Sz.trans {c d c' d' c2 d2:Nat}(h:Sz N c d s s')(h':Sz N c' d' s' s'')(hc:d+d'+c2≤c+c'+d2):Sz N c2 d2 s s'':=by
 have:=h.nn;have:=h'.nn;have:=h.at_;have:=h'.at_;exact⟨h'.fw,by omega,by omega,zaj h.ge h'.ge⟩
theorem Fw.to (h:Fw N s){a:Nat}(ha:a≤N):Fw N (s.to a):=⟨h.sl,h.bl,h.lr,ha⟩
theorem Fw.add (h:Fw N s)(x:dF):Fw N (s.add x):=by
 refine⟨by simp[FS.add,h.sl],by simp[FS.add,h.bl],λm=>?_,h.an⟩;have:=h.lr m;show s.label m≤(s.nodes++[x]).length;simp;omega
theorem Fw.bT (h:Fw N s)(n:Int):Fw N (s.bT n):=by
 have h1:=h.add fq;refine⟨h1.sl,h1.bl,λm=>?_,h.an⟩;have:=h.lr m;show(if m=n then s.nodes.length+1 else s.label m)≤(s.nodes++[fq]).length;split<;>simp<;>omega
theorem Fw.aZ (h:Fw N s)(M:List Nat):Fw N (s.aZ M):=⟨h.sl,by show(M.foldl (λl i=>l.set i true) s.begun).length=_;rw[kR];exact h.bl,h.lr,h.an⟩
theorem Fw.is (h:Fw N s)(M:List Nat)(n:Nat):Fw N (s.is M n):=⟨by show(M.foldl (λl i=>l.set i (some n)) s.same).length=_;rw[kR];exact h.sl,h.bl,h.lr,h.an⟩
theorem Sz.to (h:Fw N s){a:Nat}(ha:a≤N)(hg:s.at_<a):Sz N 5 0 s (s.to a):=⟨h.to ha,by show s.at_≤a;omega,by show s.nodes.length+5≤s.nodes.length+5*(a-s.at_)+0;omega,zab _⟩
theorem Sz.add (h:Fw N s)(x:dF):Sz N 0 1 s (s.add x):=⟨h.add x,zab _,by show(s.nodes++[x]).length + 0≤s.nodes.length+5*(s.at_-s.at_)+1;simp,by show s.nodes.length≤(s.nodes++[x]).length;simp⟩
theorem Sz.Na (h:Fw N s)(n:Int):Sz N 0 1 s (s.bT n):=⟨h.bT n,zab _,by show(s.nodes++[fq]).length + 0≤s.nodes.length+5*(s.at_-s.at_)+1;simp,by show s.nodes.length≤(s.nodes++[fq]).length;simp⟩
theorem Sz.aZ (h:Fw N s)(M:List Nat):Sz N 0 0 s (s.aZ M):=⟨h.aZ M,zab _,by show s.nodes.length+0≤s.nodes.length+5*(s.at_-s.at_)+0;omega,zab _⟩
theorem Sz.is (h:Fw N s)(M:List Nat)(n:Nat):Sz N 0 0 s (s.is M n):=⟨h.is M n,zab _,by show s.nodes.length+0≤s.nodes.length+5*(s.at_-s.at_)+0;omega,zab _⟩
theorem Sz.chain:∀(l:List Nat) (r:Nat),Fw N s→Sz N 0 l.length s (aR l r s).2
 |[],r,h=>Sz.refl h
 |a::l,r,h=>by
  have h1:=Sz.chain l r h;exact h1.trans (Sz.add h1.fw ⟨1,[],0,0,[a,(aR l r s).1]⟩) (by simp)
end
section
variable (L:Nat→RT)(dp N:Nat)
structure SOk (m:Nat):Prop where
 tok:∀deep s r s',Fw N s→cX L dp m deep s=.ok r s'→Sz N 0 0 s s'∧r=L s'.at_
 mj:∀deep over s k s',Fw N s→bz L dp m deep over s=.ok k s'→Sz N 1 0 s s'∧s.at_<s'.at_
 Nn:∀deep over M s k s',Fw N s→dS L dp m (L s.at_) deep over M s=.ok k s'→Sz N 1 0 s s'∧s.at_<s'.at_
 plain:∀deep over s k s',Fw N s→bK L dp m (L s.at_) deep over s=.ok k s'→Sz N 1 0 s s'∧s.at_<s'.at_
 hold:∀kind deep over s k s',Fw N s→cC L dp m kind deep over s=.ok k s'→Sz N 0 4 s s'
 Sn:∀kind deep over l s k s',Fw N s→bZ L dp m kind deep over l s=.ok k s'→Sz N 0 l.length s s'
 V0:∀deep over s k s',Fw N s→cN L dp m deep over s=.ok k s'→Sz N 0 0 s s'
end
theorem aY {α β:Type}{x:FR α}{f:α→FS→FR β}{b:β}{s':FS}(h:x.bind f=.ok b s'):∃a s,x=.ok a s∧f a s=.ok b s':=by
 cases x with
 |out=>cases h
 |fail e a=>cases h
 |ok a s=>exact⟨a,s,rfl,h⟩
section
variable {L:Nat→RT}{dp N:Nat}
theorem eB (hL:Lk L N):∀m,SOk L dp N m:=by
 intro m
 induction m with
 |zero=>
  constructor
  ·intro _ _ _ _ _ h;simp only[cX]at h;cases h
  ·intro _ _ _ _ _ _ h;simp only[bz]at h;cases h
  ·intro _ _ _ _ _ _ _ h;simp only[dS]at h;cases h
  ·intro _ _ _ _ _ _ h;simp only[bK]at h;cases h
  ·intro _ _ _ _ _ _ _ h;simp only[cC]at h;cases h
  ·intro _ _ _ _ _ _ _ _ h;simp only[bZ]at h;cases h
  ·intro _ _ _ _ _ _ h;simp only[cN]at h;cases h
 |succ m ih=>
  have iX:∀{s:FS} {c:Nat},Fw N s→(L s.at_).k=c→c≠101→c≠120→Sz N 5 0 s (s.to (L s.at_).t):=λhs hk h1 h2=>by
   obtain⟨g1,g2⟩:=hL.go _ hs.an (by rw[hk];exact h1) (by rw[hk];exact h2);exact Sz.to hs g2 g1
  refine⟨λdeep s r s' hs h=>?_,λdeep over s k s' hs h=>?_,λdeep over M s k s' hs h=>?_,λdeep over s k s' hs h=>?_,λkind deep over s k s' hs h=>?_,λkind deep over l s k s' hs h=>?_,λdeep over s k s' hs h=>?_⟩
  ·simp only[cX]at h;split at h
   ·rename_i hk;obtain⟨a,s1,h1,h2⟩:=aY h;have t0:=iX hs hk (by decide) (by decide);obtain⟨t1,_⟩:=ih.mj _ _ _ _ _ t0.fw h1;obtain⟨t2,t3⟩:=ih.tok _ _ _ _ t1.fw h2;exact⟨(t0.trans t1 (c2:=0) (d2:=0) (by omega)).trans t2 (by omega),t3⟩
   ·cases h;exact⟨Sz.refl hs,rfl⟩
  ·simp only[bz]at h;obtain⟨a,s1,h1,h2⟩:=aY h;obtain⟨t1,t2⟩:=ih.tok _ _ _ _ hs h1;subst t2;obtain⟨t3,t4⟩:=ih.Nn _ _ _ _ _ _ t1.fw h2;have:=t1.at_;exact⟨t1.trans t3 (by omega),by omega⟩
  ·simp only[dS]at h;split at h
   ·rename_i hk;split at h
    ·cases h
    split at h
    ·cases h
    obtain⟨a,s1,h1,h2⟩:=aY h;have t0:=iX hs hk (by decide) (by decide);have t1:=Sz.Na t0.fw (L s.at_).n;obtain⟨t2,t3⟩:=ih.tok _ _ _ _ t1.fw h1;subst t3;obtain⟨t4,t5⟩:=ih.Nn _ _ _ _ _ _ t2.fw h2;have h3:=t0.at_;have h4:=t1.at_;have h5:=t2.at_;exact⟨((t0.trans t1 (c2:=0) (d2:=0) (by omega)).trans t2 (c2:=0) (d2:=0) (by omega)).trans t4 (by omega),by omega⟩
   ·split at h
    ·rename_i hk;split at h
     ·cases h
     cases h;have t0:=iX hs hk (by decide) (by decide);have g:=(hL.go _ hs.an (by rw[hk];decide) (by rw[hk];decide)).1;exact⟨(t0.trans (Sz.aZ t0.fw M) (c2:=5) (d2:=0) (by omega)).trans (Sz.is (t0.fw.aZ M) M _) (by omega),g⟩
    ·obtain⟨a,s1,h1,h2⟩:=aY h;obtain⟨t1,t2⟩:=ih.plain deep over (s.aZ M) a s1 (hs.aZ M) h1;have t3:=((Sz.aZ hs M).trans t1 (c2:=1) (d2:=0) (by omega)).trans (Sz.is t1.fw M a) (c2:=1) (d2:=0) (by omega);cases h2;exact⟨t3,t2⟩
  ·have hat:∀{x:dF} {c:Nat},(L s.at_).k=c→c≠101→c≠120→s.atom (L s.at_) x=.ok k s'→Sz N 1 0 s s'∧s.at_<s'.at_:=λ{x c} hk h1 h2 he=>by
    cases he;have t0:=iX hs hk h1 h2;have g:=(hL.go _ hs.an (by rw[hk];exact h1) (by rw[hk];exact h2)).1;exact⟨t0.trans (Sz.add t0.fw x) (by omega),g⟩
   simp only[bK]at h;split at h
   ·rename_i hk;exact hat hk (by decide) (by decide) h
   split at h
   ·rename_i hk;exact hat hk (by decide) (by decide) h
   split at h
   ·rename_i hk;exact hat hk (by decide) (by decide) h
   split at h
   ·rename_i hk;exact hat hk (by decide) (by decide) h
   split at h
   ·rename_i hk;split at h
    ·cases h
    split at h
    ·cases h
    exact hat hk (by decide) (by decide) h
   split at h
   ·rename_i hk;split at h
    ·cases h
    have h1:(L s.at_).k≠101:=by omega
    have h2:(L s.at_).k≠120:=by omega
    have t0:=iX hs rfl h1 h2;have g:=(hL.go _ hs.an h1 h2).1;have t1:=ih.hold _ _ _ _ _ _ t0.fw h;have:=t1.at_;exact⟨t0.trans t1 (by omega),by show s.at_<s'.at_;have:(L s.at_).t≤s'.at_:=t1.at_;omega⟩
   split at h<;>cases h
  ·simp only[cC]at h;split at h
   ·obtain⟨a,s1,h1,h2⟩:=aY h;have t0:=Sz.add hs ⟨4,[113,117,111,116,101],0,0,[]⟩;obtain⟨t1,_⟩:=ih.mj _ _ _ _ _ t0.fw h1;have t2:=Sz.add t1.fw fq;have t3:=Sz.chain [s.nodes.length,a] s1.nodes.length t2.fw;cases h2;exact((t0.trans t1 (c2:=0) (d2:=0) (by omega)).trans t2 (c2:=0) (d2:=1) (by omega)).trans t3 (by simp)
   ·have:=ih.Sn _ _ _ _ _ _ _ hs h;exact(Sz.refl hs).trans this (by simp)
  ·simp only[bZ]at h;obtain⟨t,s1,h1,h2⟩:=aY h;obtain⟨t1,t2⟩:=ih.tok _ _ _ _ hs h1;subst t2;split at h2
   ·rename_i hk;have t3:=iX t1.fw hk (by decide) (by decide);split at h2
    ·cases h2;exact(t1.trans t3 (c2:=5) (d2:=0) (by omega)).trans (Sz.add t3.fw _) (by omega)
    ·cases h2;have t4:=Sz.add t3.fw fq;exact((t1.trans t3 (c2:=5) (d2:=0) (by omega)).trans t4 (c2:=4) (d2:=0) (by omega)).trans (Sz.chain l s1.nodes.length t4.fw) (by omega)
   ·split at h2
    ·rename_i hk;have t3:=iX t1.fw hk.2.1 (by decide) (by decide);obtain⟨a,s2,h3,h4⟩:=aY h2;have t4:=ih.V0 _ _ _ _ _ t3.fw h3;cases h4;exact((t1.trans t3 (c2:=5) (d2:=0) (by omega)).trans t4 (c2:=5) (d2:=0) (by omega)).trans (Sz.chain l a t4.fw) (by omega)
    ·split at h2
     ·cases h2
     obtain⟨a,s2,h3,h4⟩:=aY h2;obtain⟨t3,_⟩:=ih.mj _ _ _ _ _ t1.fw h3;have t4:=ih.Sn _ _ _ _ _ _ _ t3.fw h4;exact(t1.trans t3 (c2:=1) (d2:=0) (by omega)).trans t4 (by simp;omega)
  ·simp only[cN]at h;obtain⟨a,s1,h1,h2⟩:=aY h;obtain⟨t1,_⟩:=ih.mj _ _ _ _ _ hs h1;obtain⟨t,s2,h3,h4⟩:=aY h2;obtain⟨t2,t3⟩:=ih.tok _ _ _ _ t1.fw h3;subst t3;split at h4
   ·rename_i hk;cases h4;have t4:=iX t2.fw hk (by decide) (by decide);exact(t1.trans t2 (c2:=1) (d2:=0) (by omega)).trans t4 (by omega)
   ·split at h4<;>cases h4
end
def Qt (r:RT):Prop:=(r.k=112∨r.k=97→0≤r.n∧r.n≤999)∧(r.k=110→0≤r.d)
theorem Sy {r:RT}(h1:r.k≠112)(h2:r.k≠97)(h3:r.k≠110):Qt r:=⟨λh=>(h.elim h1 h2).elim,λh=>(h3 h).elim⟩
theorem oC {k f t:Nat}{x:List UInt8}{n d:Int}(h:k≠112∧k≠97∧k≠110:=by decide):Qt ⟨k,f,t,x,n,d⟩:=Sy h.1 h.2.1 h.2.2
theorem El (a:Nat):Qt (vw a):=oC
theorem UX (l:List UInt8):Qt (OJ l):=oC
theorem mg:∀(l:List UInt8) (n:Int),0≤n→l.all (λc=>aD (c.toNat:Int))=true→∀k:Nat,n<10^k→cf n l<10^(k+l.length)
 |[],n,_,_,k,h=>h
 |c::r,n,h,ha,k,hk=>by
  simp only[zaq,zai]at ha;have hc:=ha.1;simp only[aD,zbj]at hc;have hp:(10:Int)^(k+1)=10*10^k:=by rw[Int.pow_succ];omega
  have key:∀x:Int,0≤x→x<10^(k+1)→cf x r<10^(k+(c::r).length):=λx h0 hx=>by
   have:=mg r x h0 ha.2 (k+1) hx;rw[show k+(c::r).length=k+1+r.length by simp;omega];exact this
  show cf (min (n*10+((c.toNat:Int)-48)) 1000001) r<_;refine key _ ?_ ?_
  ·rw[Int.min_def];split<;>omega
  ·rw[Int.min_def];split<;>omega
theorem NV (l:List UInt8)(a:Nat):Qt (jH l a):=by
 have hall:((l.drop (a+1)).take (au aD (l.drop (a+1)))).all (λc=>aD (c.toNat:Int))=true:=rR _;have zi:=kx _ 0 (Int.le_refl _) hall;have hle:=mg _ 0 (Int.le_refl _) hall 0 (by decide);have hb:a+1<(ij 0 l (a+1)).2∧(ij 0 l (a+1)).2<a+5→0≤(ij 0 l (a+1)).1∧(ij 0 l (a+1)).1≤999:=λh=>by
  have h2:a+1+au aD (l.drop (a+1))<a+5:=h.2;have hl:((l.drop (a+1)).take (au aD (l.drop (a+1)))).length≤3:=by
   rw[List.length_take];omega
  generalize ((l.drop (a+1)).take (au aD (l.drop (a+1)))).length=k at *;refine⟨zi,?_⟩;show cf 0 ((l.drop (a+1)).take (au aD (l.drop (a+1))))≤999;have:(10:Int)^(0+k)≤1000:=by
   have:k=0∨k=1∨k=2∨k=3:=by omega
   rcases this with rfl|rfl|rfl|rfl<;>decide
  omega
 unfold jH;split
 ·rename_i h;exact⟨λ_=>hb ⟨h.1,h.2.1⟩,λh=>by cases h⟩
 ·split
  ·rename_i h;exact⟨λ_=>hb ⟨h.1,h.2.1⟩,λh=>by cases h⟩
  ·unfold fF;split
   ·exact oC
   ·split
    ·exact oC
    ·exact El a
theorem UY (w:List UInt8)(a:Nat)(neg:Bool)(i:Nat):Qt (kQ w a neg i):=by
 unfold kQ;split
 ·exact⟨λh=>(by rcases h with h|h<;>cases h),λ_=>by show(0:Int)≤1;decide⟩
 ·split
  ·exact El a
  ·exact⟨λh=>(by rcases h with h|h<;>cases h),λ_=>kx _ 0 (Int.le_refl _) (rR _)⟩
theorem Rj (w:List UInt8)(a:Nat):Qt (fj w a):=by
 unfold fj;split
 ·exact El a
 ·split
  ·exact oC
  ·split
   ·exact oC
   ·unfold BA;split
    ·exact El a
    ·exact UY _ _ _ _
theorem Rk (l:List UInt8)(a:Nat):Qt (cF l a):=by
 unfold cF;split
 ·exact NV l a
 ·split
  ·exact oC
  ·split
   ·exact oC
   ·split
    ·unfold en o7;split
     ·split
      ·exact El a
      ·exact oC
     ·split
      ·exact El a
      ·split
       ·exact El a
       ·exact oC
    ·exact NV l a
theorem Ir (l:List UInt8)(a:Nat):Qt (fN l a):=by
 unfold fN;split
 ·exact UX l
 ·unfold oo;split
  ·exact UX l
  ·split
   ·rename_i h;exact Sy (by show UInt8.toNat _≠112;omega) (by show UInt8.toNat _≠97;omega) (by show UInt8.toNat _≠110;omega)
   ·split
    ·unfold lJ;cases bU _ _ _ with
     |fin=>exact UX l
     |bad=>exact El _
     |ok e b=>exact oC
    ·split
     ·exact Rk _ _
     ·exact Rj _ _
theorem BX (l:List UInt8):Lk (fN l) l.length:=by
 refine⟨λa ha h1 h2=>?_,λa h=>(Ir l a).1 h⟩;have te:=Hz l a;have hk:2≤(aO l a).kind:=by
  rcases zar (aO l a).kind 2 with h|h
  ·have:(aO l a).kind=0∨(aO l a).kind=1:=by omega
   rcases this with h|h
   ·exact absurd (by rw[te.k,h];rfl) h1
   ·exact absurd (by rw[te.k,h];rfl) h2
  ·exact h
 obtain⟨_,f2,f3⟩:=tA (s:=l) ha;rw[te.t hk];exact⟨(f3 (by simp[Tok.lastB];omega)).1,f2⟩
section
variable (same:List (Option Nat))
def OQ:Nat→Nat→Nat
 |0,_=>0
 |m+1,n=>
  match same[n]? with
  |some (some k)=>OQ m k+1
  |_=>0
end
section
variable {same:List (Option Nat)}
theorem qy:∀(m n n':Nat),ll same m n=some n'→∀M,m≤M→OQ same M n=OQ same m n
 |0,_,_,h,_,_=>by simp[ll]at h
 |m+1,n,n',h,M,hM=>by
  obtain⟨M',rfl⟩:∃M',M=M'+1:=⟨M-1,by omega⟩;simp only[ll]at h;simp only[OQ];cases hs:same[n]? with
  |none=>rfl
  |some o=>
   cases o with
   |none=>rfl
   |some k=>
    rw[hs]at h;dsimp only at h ⊢;rw[qy m k n' h M' (by omega)]
theorem NY {m n k n' M:Nat}(h:ll same (m+1) n=some n')(hs:same[n]?=some (some k))(hM:m+1≤M):OQ same M k<OQ same M n:=by
 have h1:=qy _ _ _ h M hM;simp only[ll,hs]at h;rw[h1,qy m k n' h M (by omega)];simp only[OQ,hs];omega
end
section
variable {s:FS}
structure OKp (k:Option Nat) (g g':sJ):Prop where
 len:g.out.length≤g'.out.length
 al:g'.at_.length=g.at_.length
 kp:∀j:Nat,j<g.out.length→k≠some j→g'.out[j]?=g.out[j]?
theorem ye:∀m,(∀n g k g',mf s m n g=some (k,g')→OKp none g g')∧(∀l k g g',eP s m l k g=some g'→OKp (some k) g g'):=by
 intro m
 induction m with
 |zero=>
  constructor
  ·intro _ _ _ _ h;simp[mf]at h
  ·intro _ _ _ _ h;simp[eP]at h
 |succ m ih=>
  constructor
  ·intro n g k g' h;simp only[mf]at h;split at h
   ·cases h
   ·split at h
    ·cases h
    ·rename_i x hx;split at h
     ·cases h;exact⟨zab _,rfl,λ_ _ _=>rfl⟩
     ·obtain⟨y,h1,h2⟩:=zav.1 h;cases h2;have i:=ih.2 _ _ _ _ h1;have i1:=i.len;have i2:=i.al;simp only[zaT,zas,zbp,zcj]at i1 i2;refine⟨by omega,i2,λj hj _=>?_⟩;rw[i.kp j (by simp;omega) (λe=>by cases e;omega)];exact zaS hj
  ·intro l k g g' h;cases l with
   |nil=>
    simp only[eP]at h;cases h;exact⟨zab _,rfl,λ_ _ _=>rfl⟩
   |cons a l=>
    simp only[eP]at h;obtain⟨y,h1,h2⟩:=zaJ.1 h;have i:=ih.1 _ _ _ _ h1;have j:=ih.2 _ _ _ _ h2;have j1:=j.len;rw[eU]at j1;refine⟨zaj i.len j1,j.al.trans i.al,λq hq hk=>?_⟩;have hql:q<y.2.out.length:=zaH hq i.len;rw[j.kp q (by rw[eU];exact hql) hk,←i.kp q hq (by simp)];unfold dw;rw[zbK];have hne:¬k=q:=λe=>hk (by rw[e]);simp only[zaa hne];cases y.2.out[q]?<;>rfl
def OS (g:sJ):Prop:=∀n:Nat,g.at_[n]?.getD 0≤g.out.length
theorem OS.set {g:sJ}(h:OS g)(x:dF)(n:Nat):OS ⟨g.out++[x],g.at_.set n (g.out.length+1)⟩:=λj=>by
 have:=h j;show(g.at_.set n (g.out.length+1))[j]?.getD 0≤(g.out++[x]).length;rw[List.getElem?_set];simp only[zaT,zas,zbp];split
 ·split
  ·simp
  ·simp
 ·omega
theorem U1:∀m,(∀n g k g',mf s m n g=some (k,g')→OS g→OS g')∧(∀l k g g',eP s m l k g=some g'→OS g→OS g'):=by
 intro m
 induction m with
 |zero=>
  constructor
  ·intro _ _ _ _ h;simp[mf]at h
  ·intro _ _ _ _ h;simp[eP]at h
 |succ m ih=>
  constructor
  ·intro n g k g' h hb;simp only[mf]at h;split at h
   ·cases h
   ·split at h
    ·cases h
    ·split at h
     ·cases h;exact hb
     ·obtain⟨y,h1,h2⟩:=zav.1 h;cases h2;exact ih.2 _ _ _ _ h1 (hb.set _ _)
  ·intro l k g g' h hb;cases l with
   |nil=>simp only[eP]at h;cases h;exact hb
   |cons a l=>
    simp only[eP]at h;obtain⟨y,h1,h2⟩:=zaJ.1 h;refine ih.2 _ _ _ _ h2 λj=>?_;have:=ih.1 _ _ _ _ h1 hb j;show _≤(dw y.2.out k y.1).length;rw[eU];exact this
end
def Bs (N:Nat)(s:FS):Prop:=∀x∈s.nodes,x.subs.length≤N+2
section
variable {N:Nat}{s:FS}
theorem Bs.add (h:Bs N s){x:dF}(hx:x.subs.length≤N+2):Bs N (s.add x):=λy hy=>by
 rcases zaQ.1 (show y∈s.nodes++[x] from hy)with h1|h1
 ·exact h y h1
 ·rw[zcq.1 h1];exact hx
theorem Bs.chain:∀(l:List Nat) (r:Nat),Bs N s→Bs N (aR l r s).2
 |[],_,h=>h
 |a::l,r,h=>(Bs.chain l r h).add (by show 2≤N+2;omega)
end
section
variable (L:Nat→RT)(dp N:Nat)
structure BOk (m:Nat):Prop where
 tok:∀deep s r s',Fw N s→Bs N s→cX L dp m deep s=.ok r s'→Bs N s'
 mj:∀deep over s k s',Fw N s→Bs N s→bz L dp m deep over s=.ok k s'→Bs N s'
 Nn:∀deep over M s k s',Fw N s→Bs N s→dS L dp m (L s.at_) deep over M s=.ok k s'→Bs N s'
 plain:∀deep over s k s',Fw N s→Bs N s→bK L dp m (L s.at_) deep over s=.ok k s'→Bs N s'
 hold:∀kind deep over s k s',Fw N s→Bs N s→cC L dp m kind deep over s=.ok k s'→Bs N s'
 Sn:∀kind deep over l s k s',Fw N s→Bs N s→l.length≤s.at_→bZ L dp m kind deep over l s=.ok k s'→Bs N s'
 V0:∀deep over s k s',Fw N s→Bs N s→cN L dp m deep over s=.ok k s'→Bs N s'
end
section
variable {L:Nat→RT}{dp N:Nat}
theorem Rt (hL:Lk L N):∀m,BOk L dp N m:=by
 intro m
 induction m with
 |zero=>
  constructor
  ·intro _ _ _ _ _ _ h;simp only[cX]at h;cases h
  ·intro _ _ _ _ _ _ _ h;simp only[bz]at h;cases h
  ·intro _ _ _ _ _ _ _ _ h;simp only[dS]at h;cases h
  ·intro _ _ _ _ _ _ _ h;simp only[bK]at h;cases h
  ·intro _ _ _ _ _ _ _ _ h;simp only[cC]at h;cases h
  ·intro _ _ _ _ _ _ _ _ _ _ h;simp only[bZ]at h;cases h
  ·intro _ _ _ _ _ _ _ h;simp only[cN]at h;cases h
 |succ m ih=>
  have so:=eB (dp:=dp) hL m;have iX:∀{s:FS} {c:Nat},Fw N s→(L s.at_).k=c→c≠101→c≠120→Fw N (s.to (L s.at_).t):=λhs hk h1 h2=>by
   obtain⟨g1,g2⟩:=hL.go _ hs.an (by rw[hk];exact h1) (by rw[hk];exact h2);exact hs.to g2
  refine⟨λdeep s r s' hs hb h=>?_,λdeep over s k s' hs hb h=>?_,λdeep over M s k s' hs hb h=>?_,λdeep over s k s' hs hb h=>?_,λkind deep over s k s' hs hb h=>?_,λkind deep over l s k s' hs hb hl h=>?_,λdeep over s k s' hs hb h=>?_⟩
  ·simp only[cX]at h;split at h
   ·rename_i hk;obtain⟨a,s1,h1,h2⟩:=aY h;have t0:=iX hs hk (by decide) (by decide);have b1:=ih.mj _ _ _ _ _ t0 (show Bs N (s.to _) from hb) h1;exact ih.tok _ _ _ _ (so.mj _ _ _ _ _ t0 h1).1.fw b1 h2
   ·cases h;exact hb
  ·simp only[bz]at h;obtain⟨a,s1,h1,h2⟩:=aY h;obtain⟨t1,t2⟩:=so.tok _ _ _ _ hs h1;subst t2;exact ih.Nn _ _ _ _ _ _ t1.fw (ih.tok _ _ _ _ hs hb h1) h2
  ·simp only[dS]at h;split at h
   ·rename_i hk;split at h
    ·cases h
    split at h
    ·cases h
    obtain⟨a,s1,h1,h2⟩:=aY h;have t0:=(iX hs hk (by decide) (by decide)).bT (L s.at_).n;have b0:Bs N ((s.to (L s.at_).t).bT (L s.at_).n):=Bs.add (s:=s.to (L s.at_).t) hb (x:=fq) (zap _);obtain⟨t2,t3⟩:=so.tok _ _ _ _ t0 h1;subst t3;exact ih.Nn _ _ _ _ _ _ t2.fw (ih.tok _ _ _ _ t0 b0 h1) h2
   ·split at h
    ·split at h
     ·cases h
     cases h;exact hb
    ·obtain⟨a,s1,h1,h2⟩:=aY h;have b1:=ih.plain deep over (s.aZ M) a s1 (hs.aZ M) hb h1;cases h2;exact b1
  ·have hat:∀{x:dF},x.subs=[]→s.atom (L s.at_) x=.ok k s'→Bs N s':=λ{x} hx he=>by
    cases he;exact Bs.add (s:=s.to (L s.at_).t) hb (by rw[hx];exact zap _)
   simp only[bK]at h;split at h
   ·exact hat rfl h
   split at h
   ·exact hat rfl h
   split at h
   ·exact hat rfl h
   split at h
   ·exact hat rfl h
   split at h
   ·split at h
    ·cases h
    split at h
    ·cases h
    exact hat rfl h
   split at h
   ·rename_i hk;split at h
    ·cases h
    exact ih.hold _ _ _ _ _ _ (iX hs rfl (by omega) (by omega)) (show Bs N (s.to _) from hb) h
   split at h<;>cases h
  ·simp only[cC]at h;split at h
   ·obtain⟨a,s1,h1,h2⟩:=aY h;have t0:=hs.add ⟨4,[113,117,111,116,101],0,0,[]⟩;have b1:=ih.mj _ _ _ _ _ t0 (hb.add (zap _)) h1;cases h2;exact Bs.chain [s.nodes.length,a] s1.nodes.length (b1.add (x:=fq) (zap _))
   ·exact ih.Sn _ _ _ _ _ _ _ hs hb (zap _) h
  ·simp only[bZ]at h;obtain⟨t,s1,h1,h2⟩:=aY h;obtain⟨t1,t2⟩:=so.tok _ _ _ _ hs h1;have b1:=ih.tok _ _ _ _ hs hb h1;subst t2;have q1:=t1.at_;have q2:=t1.fw.an;split at h2
   ·rename_i hk;split at h2
    ·cases h2;exact Bs.add (s:=s1.to (L s1.at_).t) b1 (by show l.length≤N+2;omega)
    ·cases h2;exact Bs.chain l s1.nodes.length (Bs.add (s:=s1.to (L s1.at_).t) b1 (x:=fq) (zap _))
   ·split at h2
    ·rename_i hk;have t3:=iX t1.fw hk.2.1 (by decide) (by decide);obtain⟨a,s2,h3,h4⟩:=aY h2;have b4:=ih.V0 _ _ _ _ _ t3 (show Bs N (s1.to _) from b1) h3;cases h4;exact b4.chain l a
    ·split at h2
     ·cases h2
     obtain⟨a,s2,h3,h4⟩:=aY h2;obtain⟨t3,t4⟩:=so.mj _ _ _ _ _ t1.fw h3;exact ih.Sn _ _ _ _ _ _ _ t3.fw (ih.mj _ _ _ _ _ t1.fw b1 h3) (by simp;omega) h4
  ·simp only[cN]at h;obtain⟨a,s1,h1,h2⟩:=aY h;obtain⟨t1,_⟩:=so.mj _ _ _ _ _ hs h1;have b1:=ih.mj _ _ _ _ _ hs hb h1;obtain⟨t,s2,h3,h4⟩:=aY h2;have b2:=ih.tok _ _ _ _ t1.fw b1 h3;split at h4
   ·cases h4;exact b2
   ·split at h4<;>cases h4
end
end Go.Loop
