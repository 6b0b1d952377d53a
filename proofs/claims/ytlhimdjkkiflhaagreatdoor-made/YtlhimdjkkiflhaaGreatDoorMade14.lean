import Derived.Laws.OwnMore
import Derived.Deep.RegionHeld3
import Derived.Test.YtlhimdjkkiflhaaGreatDoorMade13
set_option maxHeartbeats 8000000
set_option maxRecDepth 100000
open Go.Value renaming int→Γ
open Go.IntKind renaming i64→Δ
open Go renaming World→Θ,Value→Λ,maxLen→η,Calls→θ
open Go.Departure renaming mixedOrders→Ξ
open Option renaming getD→Φ
open Go.RowKit renaming Below→Ω
open Go.Addr renaming add→ζ
namespace Go.Proofs.YtlhimdjkkiflhaaGreatDoor
open Go.RowKit Go.Loop
def y8 (x:eO):Λ→Nd
 |.slice a _ c=>⟨x.kind,x.text,x.n,x.d,x.subs.map λk:Nat=>(k:Int),a,c⟩
 |_=>⟨x.kind,x.text,x.n,x.d,x.subs.map λk:Nat=>(k:Int),none,0⟩
def aV (x:eO):Nd:=⟨x.kind,x.text,x.n,x.d,x.subs.map λk:Nat=>(k:Int),none,0⟩
def gi:List eO→List Λ→List Nd
 |x::l,sv::bN=>y8 x sv::gi l bN
 |_,_=>[]
theorem td:∀(l:List eO) (bN:List Λ),bN.length=l.length→(gi l bN).length=l.length
 |[],_,_=>by simp[gi]
 |x::l,[],h=>by simp at h
 |x::l,sv::bN,h=>by
  have:=td l bN (by simpa using h);simp[gi,this]
theorem MS (x:eO)(sv:Λ):gP (y8 x sv)=aV x:=by
 cases sv<;>rfl
theorem y9:∀(l:List eO) (bN:List Λ),bN.length=l.length→(gi l bN).map gP=l.map aV
 |[],_,_=>by simp[gi]
 |x::l,[],h=>by simp at h
 |x::l,sv::bN,h=>by
  have:=y9 l bN (by simpa using h);simp[gi,this,MS]
theorem BR:∀(l:List eO) (bN:List Λ) (i:Nat),bN.length=l.length→i<l.length→∃x sv,l[i]?=some x∧bN[i]?=some sv∧(gi l bN)[i]?=some (y8 x sv)∧∀j,j<5→(tL l bN)[i*5+j]?=(oQ x sv)[j]?
 |[],_,i,_,h=>by simp at h
 |x::l,[],_,h,_=>by simp at h
 |x::l,sv::bN,0,h,_=>by
  refine⟨x,sv,rfl,rfl,rfl,λj hj=>?_⟩;simp only[tL,Nat.zero_mul,Nat.zero_add];rw[zbi (by simp[oQ];omega)]
 |x::l,sv::bN,i+1,h,hi=>by
  obtain⟨y,sy,h1,h2,h3,h4⟩:=BR l bN i (by simpa using h) (by simpa using hi);refine⟨y,sy,by simpa using h1,by simpa using h2,by simpa[gi]using h3,λj hj=>?_⟩;rw[←h4 j hj];simp only[tL];rw[zbv (by simp[oQ];omega)]
  congr 1
  simp[oQ];omega
theorem za {w:Θ}{lo:Nat}{nv:Λ}{bN:List Λ}{nodes:List eO}(h:b9 w lo nv bN nodes)(hne:nodes≠[])(hlen:∀x∈nodes,x.text.length≤η∧x.subs.length≤η):∃b cap,nv=.slice (some ⟨b,0,none⟩) (gi nodes bN).length cap∧(gi nodes bN).length=nodes.length∧bK w b 0 (gi nodes bN)∧(gi nodes bN).map gP=nodes.map aV:=by
 obtain⟨hrow,hl,ia⟩:=h;have hL:=td nodes bN hl;rcases hrow.2 with⟨_,h0⟩|⟨g,cap,cur,rfl,h1,h2,h3,h4,h5,h6⟩
 ·exact absurd (List.length_eq_zero_iff.1 h0) hne
 ·refine⟨g,cap,by rw[hL],hL,λi hi=>?_,y9 nodes bN hl⟩;rw[hL]at hi;obtain⟨x,sv,k1,k2,k3,k4⟩:=BR nodes bN i hl hi;have hx:(gi nodes bN)[i]=y8 x sv:=by
   have:=zat (by rw[hL];exact hi:i<(gi nodes bN).length);rw[this]at k3;exact zaM k3
  rw[hx];have hc:∀j,j<5→w.cell? ⟨g,0+i*5+j,none⟩=(oQ x sv)[j]?:=λj hj=>by
   rw[←k4 j hj,Nat.zero_add];exact Θ.ownsRow.cellAt hrow _ (by omega)
  have hb:=hlen x (zbr k1);have hs:=ia i x sv k1 k2;have c0:=hc 0 (by omega);have c1:=hc 1 (by omega);have c2:=hc 2 (by omega);have c3:=hc 3 (by omega);have c4:=hc 4 (by omega);simp only[oQ,List.getElem?_cons_zero,zcw,Nat.add_zero]at c0 c1 c2 c3 c4;rcases hs with⟨rfl,he⟩|⟨b,rfl,_,hblk⟩
  ·refine⟨c0,c1,c2,c3,?_,.inl ?_,hb.1,?_⟩
   ·simpa[y8,he]using c4
   ·simp[y8,he]
   ·simpa[y8]using hb.2
  ·refine⟨c0,c1,c2,c3,?_,.inr ⟨b,0,rfl,λj hj=>?_⟩,hb.1,?_⟩
   ·simpa[y8]using c4
   ·simp only[y8,zby]at hj;simp only[Θ.cell?,hblk,y8];simp[hj]
   ·simpa[y8]using hb.2
end Go.Proofs.YtlhimdjkkiflhaaGreatDoor
namespace Go.Loop
def QD (T:List Tok)(dp:Nat):Bool:=
 match ay T dp 2000 ⟨0,false,[]⟩ ⟨0,0,[]⟩with
 |.ok d _=>bH d d&&(match ie d 100000 d ⟨[],[]⟩with
  |some g=>decide (g.2.nodes.length≤999999)
  |none=>false)
 |_=>true
theorem Jc {T:List Tok}{dp:Nat}(h:QD T dp=true)(d:Dt)(s':eD)(hr:ay T dp 2000 ⟨0,false,[]⟩ ⟨0,0,[]⟩=.ok d s'):bH d d=true∧∃k g,ie d 100000 d ⟨[],[]⟩=some (k,g)∧g.nodes.length≤999999:=by
 unfold QD at h;rw[hr]at h;simp only[zae]at h;refine⟨h.1,?_⟩;have h2:=h.2;cases hn:ie d 100000 d ⟨[],[]⟩with
 |none=>rw[hn]at h2;cases h2
 |some g=>
  rw[hn]at h2;exact⟨g.1,g.2,rfl,of_decide_eq_true h2⟩
set_option maxRecDepth 1000000
def o7:List UInt8:=[35,55,61,40,97,32,46,32,35,55,35,41,32,98]
def gl:List eO:=[⟨1,[],0,0,[1,0]⟩,⟨4,[97],0,0,[]⟩]
theorem Jd:QD (aw (o7.length+1) o7 0) 5=true:=by decide +kernel
theorem Je:cS o7 5=some (gl,12,0):=by decide +kernel
end Go.Loop
namespace Go.Proofs.YtlhimdjkkiflhaaGreatDoor
open Go.RowKit Go.Loop
variable {w w':Θ}{nv sv:Λ}{bN:List Λ}{b i u n lo:Nat}{x:eO}{A B l:List eO}{R:Nat→Nat→Prop}{st:Bool}{aA aB:Option Addr}{Q:Exit→Act→Θ→Prop}{v:Nat→Λ}
def zb:List UInt8:=[35,48,61,40,97,32,46,32,35,48,35,41]
theorem Gk:bJ (gl.map aV) 2 403=(zb,0):=by decide +kernel
theorem MT (h:b9 w 0 nv bN gl):∃b cap sb so sc G,nv=.slice (some ⟨b,0,none⟩) 2 cap∧w.cell? ⟨b,0,none⟩=some (Γ Δ 1)∧w.cell? ⟨b,4,none⟩=some (.slice (some ⟨sb,so,none⟩) 2 sc)∧w.cell? ⟨b,5,none⟩=some (Γ Δ 4)∧w.cell? ⟨sb,so,none⟩=some (Γ Δ 1)∧w.cell? ⟨sb,so+1,none⟩=some (Γ Δ 0)∧bK w b 0 G∧G.length=2∧bJ G 2 403=(zb,0):=by
 have hm:(1:Nat)≤η∧(2:Nat)≤η:=by unfold η;omega
 obtain⟨b,cap,rfl,hl,hG,BS⟩:=za h (by simp[gl]) (λx hx=>by
  simp only[gl,zal,zcb,or_false]at hx;rcases hx with rfl|rfl
  ·exact⟨zaq _,hm.2⟩
  ·exact⟨hm.1,zaq _⟩)
 have hl2:(gi gl bN).length=2:=hl;have hwp:=(vu _ _ (BS.trans (by simp[gl,aV,gP]:gl.map aV=(gl.map aV).map gP)) 2 403).trans Gk;have h0:=hG 0 (by omega);have h1:=hG 1 (by omega);have e0:gP (gi gl bN)[0]=aV ⟨1,[],0,0,[1,0]⟩:=by
  have:=zak (λl=>l[0]?) BS;simp only[zbU]at this;rw[zat (by omega:0<(gi gl bN).length)]at this;exact zaM this
 have e1:gP (gi gl bN)[1]=aV ⟨4,[97],0,0,[]⟩:=by
  have:=zak (λl=>l[1]?) BS;simp only[zbU]at this;rw[zat (by omega:1<(gi gl bN).length)]at this;exact zaM this
 generalize (gi gl bN)[0]=x0 at h0 e0;generalize (gi gl bN)[1]=x1 at h1 e1;obtain⟨k0,t0,n0,d0,s0,a0,c0⟩:=x0;obtain⟨k1,t1,n1,d1,s1,a1,c1⟩:=x1;simp only[gP,aV,zaB,zbt,Nd.mk.injEq,zay]at e0 e1;obtain⟨rfl,rfl,rfl,rfl,rfl⟩:=e0;obtain⟨rfl,rfl,rfl,rfl,rfl⟩:=e1;rcases h0.ints with hx|⟨sb,so,rfl,hc⟩
 ·cases hx
 ·have q0:=hc 0 (by simp);have q1:=hc 1 (by simp);exact⟨b,cap,sb,so,c0,gi gl bN,by rw[hl2],by simpa using h0.kind,by simpa using h0.subs,by simpa using h1.kind,by simpa using q0,by simpa using q1,hG,hl2,hwp⟩
open Go.Proofs.Tryz
def Rh (w:Θ)(a:Option Addr)(l:List Nat):Prop:=∀j,j<l.length→∃b,a=some ⟨b,0,none⟩∧b<w.heap.size∧w.cell? ⟨b,j,none⟩=some (Γ Δ ((l.getD j 0:Nat):Int))
def fp (w:Θ)(av:Option Addr)(nodes:List eO):Prop:=∀(i:Nat) x,nodes[i]?=some x→∃g sa sc,av=some ⟨g,0,none⟩∧g<w.heap.size∧w.cell? ⟨g,i*5,none⟩=some (Γ Δ x.kind)∧w.cell? ⟨g,i*5+1,none⟩=some (.string ⟨⟨x.text⟩⟩)∧w.cell? ⟨g,i*5+2,none⟩=some (Γ Δ x.n)∧w.cell? ⟨g,i*5+3,none⟩=some (Γ Δ x.d)∧w.cell? ⟨g,i*5+4,none⟩=some (.slice sa x.subs.length sc)∧Rh w sa x.subs
theorem gR (h:Ω w.heap.size w w'){o:Nat}(hb:b<w.heap.size):w'.cell? ⟨b,o,none⟩=w.cell? ⟨b,o,none⟩:=by
 simp only[Θ.cell?,h.block b hb]
theorem Rh.low {a:Option Addr}{l:List Nat}(h:Rh w a l)(hb:Ω w.heap.size w w'):Rh w' a l:=λj hj=>by
 obtain⟨b,e,hl,hc⟩:=h j hj;have:=hb.size;exact⟨b,e,by omega,(gR hb hl).trans hc⟩
theorem fp.low {av:Option Addr}{nodes:List eO}(h:fp w av nodes)(hb:Ω w.heap.size w w'):fp w' av nodes:=λi x hx=>by
 obtain⟨g,sa,sc,e,hl,h0,h1,h2,h3,h4,h5⟩:=h i x hx;have:=hb.size;have hc:=λo=>gR (o:=o) hb hl;exact⟨g,sa,sc,e,by omega,(hc _).trans h0,(hc _).trans h1,(hc _).trans h2,(hc _).trans h3,(hc _).trans h4,h5.low hb⟩
def holdB (k:Int):Bool:=decide (k=1∨k=2∨k=3)
theorem Jw (k:Int)(w:Θ):θ prog 66 #[Γ Δ k] w λe w'=>e=.returned (.bool (holdB k))∧w'=w:=by
 unfold holdB;by_cases h1:k=1
 ·subst h1;go_enter func66,ntmps66;go_wp2_with fail;go_ret;exact⟨rfl,rfl⟩
 ·have e1:(k==1)=false:=by simpa using h1
  by_cases h2:k=2
  ·subst h2;go_enter func66,ntmps66;go_wp2_with fail;go_ret;exact⟨rfl,rfl⟩
  ·have e2:(k==2)=false:=by simpa using h2
   by_cases h3:k=3
   ·subst h3;go_enter func66,ntmps66;go_wp2_with fail;go_ret;exact⟨rfl,rfl⟩
   ·have e3:(k==3)=false:=by simpa using h3
    rw[zaS (by omega)];go_enter func66,ntmps66;go_wp2_with fail;go_ret;exact⟨rfl,rfl⟩
def KT (x:eO)(sv:Λ):Λ:= .agg #[Γ Δ x.kind,.string ⟨⟨x.text⟩⟩,Γ Δ x.n,Γ Δ x.d,sv]
theorem Jx {z:eO}(h1:x.kind=z.kind)(h2:x.text=z.text)(h3:x.n=z.n)(h4:x.d=z.d)(h5:x.subs.length=z.subs.length)(a b:Option Addr)(ca cb:Nat)(w:Θ):θ prog 65 #[KT x (.slice a x.subs.length ca),KT z (.slice b z.subs.length cb)] w λe w'=>e=.returned (.bool true)∧Ω w.heap.size w w':=by
 unfold KT;rw[h1,h2,h3,h4,h5];have hB:=((zad w.heap.size w).alloc (zac _) (.cells #[Γ Δ z.kind,.string ⟨⟨z.text⟩⟩,Γ Δ z.n,Γ Δ z.d,.slice a z.subs.length ca] 45)).alloc (by simp) (.cells #[Γ Δ z.kind,.string ⟨⟨z.text⟩⟩,Γ Δ z.n,Γ Δ z.d,.slice b z.subs.length cb] 45);have HB:Hid _:=hB;clear hB h1 h2 h3 h4 h5;go_enter func65,ntmps65;go_wp2_with fail;go_ret;exact⟨rfl,HB.out⟩
def Ri (A B:List eO)(R:Nat→Nat→Prop):Prop:=∀a k,R a k→∃x z,A[a]?=some x∧B[k]?=some z∧x.kind=z.kind∧x.text=z.text∧x.n=z.n∧x.d=z.d∧x.subs.length=z.subs.length∧∀j,j<z.subs.length→R (x.subs.getD j 0) (z.subs.getD j 0)
def Rj (A:List eO)(R:Nat→Nat→Prop):Prop:=(∀a k k' x,A[a]?=some x→holdB x.kind=true→R a k→R a k'→k=k')∧∀a a' k x x',A[a]?=some x→holdB x.kind=true→A[a']?=some x'→holdB x'.kind=true→R a k→R a' k→a=a'
theorem DF (g j:Nat):(⟨g,0,none⟩:Addr).add j=⟨g,j,none⟩:=by
 unfold ζ;split
 ·rename_i h;subst h;rfl
 ·simp
def Vf (a b:Nat):List (Nat×Nat):=(List.range a).flatMap λi=>(List.range b).map λk=>(i,k)
def rem (a b:Nat)(ps:List (Nat×Nat)):Nat:=((Vf a b).filter λp=>!decide (p∈ps)).length
theorem KU {α:Type}{f g:α→Bool}(h:∀x,g x=true→f x=true):∀l:List α,(l.filter g).length≤(l.filter f).length
 |[]=>zac _
 |x::l=>by
  have:=KU h l;cases hg:g x with
  |true=>rw[zcq hg,zcq (h x hg)];simp;exact this
  |false=>
   rw[zcH (by simp[hg])];cases hf:f x with
   |true=>rw[zcq hf];simp;omega
   |false=>rw[zcH (by simp[hf])];exact this
theorem KV {α:Type}{f g:α→Bool}(h:∀x,g x=true→f x=true){y:α}(hf:f y=true)(hg:g y=false):∀{l:List α},y∈l→(l.filter g).length <(l.filter f).length
 |x::l,hy=>by
  rcases zal.1 hy with rfl|hy
  ·rw[zcH (by simp[hg]),zcq hf];have:=KU h l;simp;omega
  ·have:=KV h hf hg hy;cases hgx:g x with
   |true=>rw[zcq hgx,zcq (h x hgx)];simp;exact this
   |false=>
    rw[zcH (by simp[hgx])];cases hfx:f x with
    |true=>rw[zcq hfx];simp;omega
    |false=>rw[zcH (by simp[hfx])];exact this
theorem ZR {a k:Nat}{ps:List (Nat×Nat)}(hi:i<a)(hk:k<b)(h:(i,k)∉ps):rem a b (ps++[(i,k)])<rem a b ps:=by
 refine KV (λx hx=>?_) (y:=(i,k)) (by simpa using h) (by simp) ?_
 ·simp at hx ⊢;exact hx.1
 ·unfold Vf;rw[List.mem_flatMap];exact⟨i,List.mem_range.2 hi,zbo.2 ⟨k,List.mem_range.2 hk,rfl⟩⟩
def pq (ps:List (Nat×Nat)):List Λ:=ps.flatMap λp=>[Γ Δ (p.1:Int),Γ Δ (p.2:Int)]
theorem Cb:∀{ps:List (Nat×Nat)} {j:Nat} {p:Nat×Nat},ps[j]?=some p→(pq ps)[2*j]?=some (Γ Δ (p.1:Int))∧(pq ps)[2*j+1]?=some (Γ Δ (p.2:Int))
 |[],j,p,h=>by simp at h
 |q::ps,0,p,h=>by simp at h;subst h;exact⟨rfl,rfl⟩
 |q::ps,j+1,p,h=>by
  have:=Cb (ps:=ps) (j:=j) (p:=p) (by simpa using h);have e1:2*(j+1)=2*j+1+1:=by omega
  have e:pq (q::ps)=Γ Δ (q.1:Int)::Γ Δ (q.2:Int)::pq ps:=rfl;rw[e,e1];exact this
section
variable (w0:Θ)(A:List eO)(R:Nat→Nat→Prop)
structure l5 (w:Θ) (sv:Λ) (ps:List (Nat×Nat)):Prop where
 low:Ω w0.heap.size w0 w
 row:w.ownsRow w0.heap.size 3 1 sv (2*ps.length) (pq ps)
 rel:∀p∈ps,R p.1 p.2∧∃x,A[p.1]?=some x∧holdB x.kind=true
end
section
variable {w0 w w':Θ}{A B:List eO}{R:Nat→Nat→Prop}{sv:Λ}{ps:List (Nat×Nat)}
theorem l5.on (h:l5 w0 A R w sv ps)(hb:Ω w.heap.size w w'):l5 w0 A R w' sv ps:=
 ⟨h.low.trans (hb.mono h.low.size),bC h.row (zac _) λb _ hl=>hb.block b hl,h.rel⟩
theorem l5.cell (h:l5 w0 A R w sv ps){j:Nat}{p:Nat×Nat}(hj:ps[j]?=some p):∃g c,sv=.slice (some ⟨g,0,none⟩) (2*ps.length) c∧w.cell? ⟨g,2*j,none⟩=some (Γ Δ (p.1:Int))∧w.cell? ⟨g,2*j+1,none⟩=some (Γ Δ (p.2:Int)):=by
 have hl:=(zbh.1 hj).1;obtain⟨f1,f2⟩:=Cb hj;rcases h.row.2 with⟨_,h0⟩|⟨g,c,cur,rfl,q1,q2,_⟩
 ·omega
 ·refine⟨g,c,rfl,?_,?_⟩
  ·have:=h.row.cells (g:=g) rfl _ _ f1;rw[DF]at this;exact this
  ·have:=h.row.cells (g:=g) rfl _ _ f2;rw[DF]at this;exact this
theorem l5.grow (h:l5 w0 A R w sv ps){o:Obj}{w4:Θ}{v':Λ}{k:Nat}(hr:R i k)(hx:A[i]?=some x)(hh:holdB x.kind=true)(hown:w4.ownsRow w0.heap.size 3 1 v' (2*ps.length+2) (pq ps++[Γ Δ (i:Int),Γ Δ (k:Int)]))(hg:(w.alloc o).grownBy w4 sv.ownBlock):l5 w0 A R w4 v' (ps++[(i,k)]):=by
 have hb0:Ω w0.heap.size w0 (w.alloc o):=h.low.alloc h.low.size _;refine⟨⟨hg.os.trans hb0.os,hg.tape.trans hb0.tape,hg.output.trans hb0.output,zag hb0.size hg.size,λb hb=>?_⟩,?_,λp hp=>?_⟩
 ·refine(hg.block b (zaI hb hb0.size) λe=>?_).trans (hb0.block b hb);rcases h.row.2 with⟨rfl,_⟩|⟨g,c,cur,rfl,q1,q2,_⟩
  ·cases e
  ·have:b=g:=zaM e;omega
 ·have e1:2*(ps++[(i,k)]).length=2*ps.length+2:=by simp;omega
  have e2:pq (ps++[(i,k)])=pq ps++[Γ Δ (i:Int),Γ Δ (k:Int)]:=by simp[pq]
  rw[e1,e2];exact hown
 ·rcases zaF.1 hp with hp|hp
  ·exact h.rel p hp
  ·rw[zbA.1 hp];exact⟨hr,x,hx,hh⟩
end
def ZT (w0:Θ)(A B:List eO)(R:Nat→Nat→Prop)(st:Bool)(aA aB:Option Addr)(cA cB m:Nat):Prop:=∀(w:Θ) (i k:Nat) (sv:Λ) (ps:List (Nat×Nat)),l5 w0 A R w sv ps→R i k→rem A.length B.length ps<m→ps.length+rem A.length B.length ps≤30000→θ prog 41 #[.slice aA A.length cA,Γ Δ (i:Int),.slice aB B.length cB,Γ Δ (k:Int),sv,.bool st] w λe w'=>∃ZU KW,e=.returned (.tuple #[ZU,.bool true])∧l5 w0 A R w' ZU KW∧rem A.length B.length KW≤rem A.length B.length ps∧KW.length+rem A.length B.length KW≤30000
structure AlH (w0:Θ) (A B:List eO) (R:Nat→Nat→Prop) (st:Bool) (aA aB:Option Addr):Prop where
 a:fp w0 aA A
 b:fp w0 aB B
 bis:Ri A B R
 one:st=true→Rj A R
 leaf:∀(i:Nat) x,A[i]?=some x→holdB x.kind=false→x.subs=[]
 la:A.length≤1000
 lb:B.length≤1000
 sa:∀x∈A,x.subs.length≤1000
theorem AlH.apart {w0:Θ}{ps:List (Nat×Nat)}(h:AlH w0 A B R st aA aB)(hat:l5 w0 A R w sv ps){k:Nat}(hr:R i k){p:Nat×Nat}(hp:p∈ps)(hst:st=true)(hne:¬(p.1=i∧p.2=k)):p.1≠i∧p.2≠k:=by
 obtain⟨r1,x,hx,hh⟩:=hat.rel p hp;obtain⟨o1,o2⟩:=h.one hst;constructor
 ·intro e;exact hne ⟨e,o1 p.1 p.2 k x hx hh r1 (by rw[e];exact hr)⟩
 ·intro e;obtain⟨y,z,hy,hz,k1,_⟩:=h.bis i k hr;obtain⟨y',z',hy',hz',k1',_⟩:=h.bis p.1 p.2 r1;rw[e,hz]at hz';cases hz';rw[hx]at hy';cases hy';refine hne ⟨o2 p.1 i k x y hx hh hy (by rw[k1,←k1'];exact hh) (by rw[←e];exact r1) hr,e⟩
theorem DG (h:u≤1000000):wrap64 ((u:Int)+1)=(u:Int)+1:=by unfold wrap64;omega
theorem Rk (h:u≤1000000):wrap64 ((u:Int)+2)=(u:Int)+2:=by unfold wrap64;omega
theorem Vg (h:u<n)(hn:n≤1000):n-(intOf (Γ Δ (wrap64 ((u:Int)+1)))).toNat <n-(intOf (Γ Δ (u:Int))).toNat:=by
 rw[DG (by omega)];simp only[intOf];omega
theorem Jy {w0:Θ}{cA cB m:Nat}(H:AlH w0 A B R st aA aB)(ih:ZT w0 A B R st aA aB cA cB m):ZT w0 A B R st aA aB cA cB (m+1):=by
 intro w i k sv ps hat hr Vh Lv;have mixed:prog.follows Ξ=true:=by kernel_rfl
 obtain⟨x,z,hx,hz,k1,k2,k3,k4,k5,ia⟩:=H.bis i k hr;have hi:i<A.length:=(zbh.1 hx).1;have hk:k<B.length:=(zbh.1 hz).1;obtain⟨sa,sc,rfl⟩:=bD hat.row;have WB:¬(i:Int)<0:=by omega
 have G0:¬(k:Int)<0:=by omega
 have hiI:¬(A.length:Int)≤(i:Int):=by omega
 have hkI:¬(B.length:Int)≤(k:Int):=by omega
 have hpl:ps.length≤30000:=by omega
 have Dh:Hid _:=hat
 have HH:Hid _:=H;have yM:Hid _:=ih;have HR:Hid _:=hr;have HX:Hid (A[i]?=some x∧B[k]?=some z∧x.kind=z.kind∧x.text=z.text∧x.n=z.n∧x.d=z.d∧x.subs.length=z.subs.length∧∀j,j<z.subs.length→R (x.subs.getD j 0) (z.subs.getD j 0)):=⟨hx,hz,k1,k2,k3,k4,k5,ia⟩;have HS:Hid (ps.length+rem A.length B.length ps≤30000∧rem A.length B.length ps<m+1∧i<A.length∧k<B.length∧ps.length≤30000):=⟨Lv,Vh,hi,hk,hpl⟩;generalize wJ:2*ps.length=n2 at *;have S7:Hid (2*ps.length=n2):=wJ;have afB:n2≤60000:=by omega
 clear hat H ih hr hx hz k1 k2 k3 k4 k5 ia Lv Vh hi hk hpl wJ;go_enter func41,ntmps41;go_wp2_with fail;go_loopw [14] (λmv wr=>∃u:Nat,mv=Γ Δ (u:Int)∧wr=w∧Hid (∃j,u=2*j∧j≤ps.length∧∀q,q<j→ps[q]?≠some (i,k))) (λmv _=>n2-(intOf mv).toNat)
 case atStart=>exact⟨0,rfl,rfl,0,rfl,zaq _,λq hq=>by omega⟩
 case round=>
  obtain⟨u,rfl,hwr,HJ⟩:=hrel;subst hwr;obtain⟨j,hu,hj,hno⟩:=HJ.out;have wJ:=S7.out;have hub:u≤60000:=by omega
  have GZ:wrap64 ((u:Int)+1)=(u:Int)+1:=DG (by omega);have hw2:wrap64 ((u:Int)+2)=(u:Int)+2:=Rk (by omega);by_cases hlt:j<ps.length
  ·obtain⟨p,hp⟩:∃p,ps[j]?=some p:=⟨_,zat hlt⟩;obtain⟨g,c,e,c1,c2⟩:=Dh.out.cell hp;have e':sa=some ⟨g,0,none⟩:=by cases e;rfl
   subst e';clear e;rw[←hu]at c1 c2;have h1:((u:Int)+1)<(n2:Int):=by omega
   have h2:(u:Int)<(n2:Int):=by omega
   by_cases he:p.1=i∧p.2=k
   ·obtain⟨e1,e2⟩:=he;have GG:Hid (∃ZU KW,(Ending.returned (.tuple #[.slice (some ⟨g,0,none⟩) n2 sc,.bool true]):Ending)=.returned (.tuple #[ZU,.bool true])∧l5 w0 A R wr ZU KW∧rem A.length B.length KW≤rem A.length B.length ps∧KW.length+rem A.length B.length KW≤30000):=⟨_,ps,rfl,Dh.out,zac _,HS.out.1⟩;rw[e1]at c1;rw[e2]at c2;clear Dh HH yM HR HX HS S7 hno hu hlt hp HJ hj wJ e1 e2;go_wp2_with fail;go_ret2;exact GG.out
   ·have qa:Hid (∃j',u+2=2*j'∧j'≤ps.length∧∀q,q<j'→ps[q]?≠some (i,k)):=⟨j+1,by omega,hlt,λq hq=>by
     by_cases Hq:q=j
     ·subst Hq;rw[hp];intro e;cases e;exact he ⟨rfl,rfl⟩
     ·exact hno q (by omega)⟩
    have hap:st=true→p.1≠i∧p.2≠k:=λhst=>HH.out.apart Dh.out HR.out (zbr hp) hst he;have lA:(p.1=i∧p.2≠k∧st=false)∨(p.1≠i∧st=false)∨(p.1≠i∧p.2≠k∧st=true):=by
     cases st with
     |true=>exact .inr (.inr ⟨(hap rfl).1,(hap rfl).2,rfl⟩)
     |false=>
      by_cases q1:p.1=i
      ·exact .inl ⟨q1,λq2=>he ⟨q1,q2⟩,rfl⟩
      ·exact .inr (.inl ⟨q1,rfl⟩)
    rcases lA with⟨q1,q2,q3⟩|⟨q1,q3⟩|⟨q1,q2,q3⟩
    all_goals
     subst q3
    ·have f1:(((p.1:Nat):Int)==(i:Int))=true:=by rw[q1];simp
     have f2:(((p.2:Nat):Int)==(k:Int))=false:=by simp;omega
     generalize (p.1:Int)=P1 at *;generalize (p.2:Int)=P2 at *;clear Dh HH yM HR HX HS S7 hno hu hlt hp HJ hj wJ he hap q1 q2;go_wp2_with fail;go_roundw
     case rel=>exact⟨u+2,by go_num,trivial,qa⟩
     case measure=>simp[intOf];omega
    ·have f1:(((p.1:Nat):Int)==(i:Int))=false:=by simp;omega
     generalize (p.1:Int)=P1 at *;generalize (p.2:Int)=P2 at *;clear Dh HH yM HR HX HS S7 hno hu hlt hp HJ hj wJ he hap q1;go_wp2_with fail;go_roundw
     case rel=>exact⟨u+2,by go_num,trivial,qa⟩
     case measure=>simp[intOf];omega
    ·have f1:(((p.1:Nat):Int)==(i:Int))=false:=by simp;omega
     have f2:(((p.2:Nat):Int)==(k:Int))=false:=by simp;omega
     generalize (p.1:Int)=P1 at *;generalize (p.2:Int)=P2 at *;clear Dh HH yM HR HX HS S7 hno hu hlt hp HJ hj wJ he hap q1 q2;go_wp2_with fail;go_roundw
     case rel=>exact⟨u+2,by go_num,trivial,qa⟩
     case measure=>simp[intOf];omega
  ·have acd:(i,k)∉ps:=λhm=>by
    obtain⟨q,hq⟩:=List.mem_iff_getElem?.1 hm;have:=(zbh.1 hq).1;exact hno q (by omega) hq
   have h1:¬((u:Int)+1)<(n2:Int):=by omega
   obtain⟨hx,hz,k1,k2,k3,k4,k5,ia⟩:=HX.out;obtain⟨g1,sa1,sc1,rfl,rq,x0,x1,x2,x3,x4,A9⟩:=(HH.out.a.low Dh.out.low) i x hx;obtain⟨g2,sa2,sc2,rfl,hl2,y0,y1,y2,y3,y4,Wy⟩:=(HH.out.b.low Dh.out.low) k z hz;have KX:∀m,Hid _:=λm=>Jx k1 k2 k3 k4 k5 sa1 sa2 sc1 sc2 (wr.drewN m);unfold KT at KX;have Vi:Hid _:=acd;have hsl:=HH.out.sa x (zbr hx);have afC:(i:Int)<(A.length:Int):=by omega
   have afD:(k:Int)<(B.length:Int):=by omega
   clear hx hz k1 k2 k3 k4 k5 ia A9 Wy acd hno hlt hu HJ hj hw2 wJ hub;go_wp2_with fail
   go_cut [15] (λx9 wc=>x9=.bool true∧Hid (Ω wr.heap.size wr wc))
   case first=>
    go_region_with (go_at_call 65;refine zai (KX 1).out ?_;rintro e w' ⟨rfl,hb'⟩)
    all_goals
     have HBW:Hid (Ω wr.heap.size wr w'):=((zad _ wr).drew).trans hb';clear hb' KX;go_wp2_with fail
     go_meet
     case rel=>exact⟨rfl,HBW.out⟩
   case rest=>
    obtain⟨rfl,hwc⟩:=hcut;have Rl:=Dh.out.on hwc.out;have Rm:Hid _:=Rl;obtain⟨hx,hz,k1,k2,k3,k4,k5,ia⟩:=HX.out;obtain⟨g3,sa3,sc3,eA,ZG,x0',_,_,_,x4',A9⟩:=(HH.out.a.low Rl.low) i x hx;have eg:g1=g3:=by cases eA;rfl
    subst eg;obtain⟨iI,aec,aed,aee,aef⟩:=info_parts FJ;have XN:Hid _:=Jw x.kind wc;have hroom:n2+2≤1000000:=by omega
    have hbase:w0.heap.size≤(wc.alloc (.cells #[Γ Δ (i:Int),Γ Δ (k:Int)] 3)).heap.size:=zag Rl.low.size (by simp);have wJ:=S7.out;have ku:Hid (wc.ownsRow w0.heap.size 3 1 (.slice sa n2 sc) n2 (pq ps)):=by
     have:=Rl.row;rw[wJ]at this;exact this
    clear x0 x1 x2 x3 x4 y0 y1 y2 y3 y4 KX hwc Dh Rl hx hz k1 k2 k3 k4 k5 ia A9 eA;go_wp2_with fail;refine zai XN.out ?_;rintro e w5 ⟨rfl,rfl⟩;clear XN;obtain⟨hb,hhb⟩:∃hb,holdB x.kind=hb:=⟨_,rfl⟩;rw[hhb];have HHB:Hid _:=hhb;clear hhb
    go_upto_if 98 with fail
    go_cut [4] (λsv1 wc2=>Hid (∃mH,l5 w0 A R wc2 sv1 mH∧mH.length+rem A.length B.length mH≤30000∧rem A.length B.length mH≤rem A.length B.length ps∧(x.subs=[]∨rem A.length B.length mH<m)))
    case first=>
     cases hb with
     |false=>
      have hh:=HHB.out;have HC:Hid (∃mH,l5 w0 A R _ (.slice sa n2 sc) mH∧mH.length+rem A.length B.length mH≤30000∧rem A.length B.length mH≤rem A.length B.length ps∧(x.subs=[]∨rem A.length B.length mH<m)):=⟨ps,Rm.out,HS.out.1,zac _,.inl (HH.out.leaf i x HX.out.1 hh)⟩;clear Rm HH yM HR HX HS S7 Vi ku x0' x4' HHB hh;go_wp2_with fail
      go_meet
      case rel=>exact HC
     |true=>
      have hh:=HHB.out;clear x0' x4' HHB;have HHH:Hid _:=hh;clear hh;go_wp2_with (at_builtin;(refine fH rfl _ _ 43 rfl w0.heap.size 3 iI (Γ Δ 0) 8 underlying43 aec aed aee aef (by decide) rfl (.slice sa n2 sc) n2 (pq ps) rfl (zcI ku.out _) ⟨_,0,none⟩ 2 2 [Γ Δ (i:Int),Γ Δ (k:Int)] rfl (by decide) rfl ?c1 ?c2 ?c3 ?c4 ?_))
      case c1=>
       intro j u hj
       match j,hj with
       |0,hj=>simp at hj;subst hj;simp[ζ]
       |1,hj=>simp at hj;subst hj;simp[ζ]
       |j+2,hj=>simp at hj
      case c2=>intro u hu;simp at hu;rcases hu with rfl|rfl<;>rfl
      case c3=>exact hroom
      case c4=>exact hbase
      intro v' w4 hown' hgrow kT;have Nj:=Rm.out.grow HR.out HX.out.1 HHH.out (by rw[S7.out];exact hown') hgrow;obtain⟨a1,c1,rfl⟩:=bD hown';have Uk:=ZR HS.out.2.2.1 HS.out.2.2.2.1 Vi.out;have HC:Hid (∃mH,l5 w0 A R w4 (.slice a1 (n2+2) c1) mH∧mH.length+rem A.length B.length mH≤30000∧rem A.length B.length mH≤rem A.length B.length ps∧(x.subs=[]∨rem A.length B.length mH<m)):=by
       have q1:=HS.out.1;have q2:=HS.out.2.1;refine⟨ps++[(i,k)],Nj,?_,zci Uk,.inr (by omega)⟩;rw[zaR];simp only[zar,zbk];omega
      clear Rm HH yM HR HX HS S7 Vi ku hown' hgrow kT Nj Uk HHH;go_wp2_with fail
      go_meet
      case rel=>exact HC
    case rest=>
     obtain⟨ps0,Nj,hs2,hr2,DN⟩:=hcut.out;obtain⟨sa4,sc4,e4⟩:=bD Nj.row;subst e4;generalize 2*ps0.length=n4 at *;have HST:Hid (0≤x.subs.length∧∃mH,l5 w0 A R wc (.slice sa4 n4 sc4) mH∧mH.length+rem A.length B.length mH≤30000∧rem A.length B.length mH≤rem A.length B.length ps∧(x.subs=[]∨rem A.length B.length mH<m)):=⟨zaq _,ps0,Nj,hs2,hr2,DN⟩;clear hcut Rm ku Vi x0' x4' HR S7 HHB h1 GZ Nj hs2 hr2 DN ZG hbase hroom wJ rq hl2;go_wp2_with fail;go_loopw [4,17] (λsv1 mv wr2=>∃(u2 n1 c1:Nat) (sa1:Option Addr),mv=Γ Δ (u2:Int)∧sv1=.slice sa1 n1 c1∧Hid (u2≤x.subs.length∧∃mH,l5 w0 A R wr2 (.slice sa1 n1 c1) mH∧mH.length+rem A.length B.length mH≤30000∧rem A.length B.length mH≤rem A.length B.length ps∧(x.subs=[]∨rem A.length B.length mH<m))) (λ_ mv _=>x.subs.length-(intOf mv).toNat)
     case atStart=>exact⟨0,n4,sc4,sa4,rfl,rfl,HST⟩
     case round=>
      obtain⟨u2,n1,c1,sa6,rfl,rfl,HI⟩:=hrel;obtain⟨hu2,mH,GH,hs3,hr3,hm3⟩:=HI.out;obtain⟨g5,sa5,sc5,eA,hl5,_,_,_,_,X4,A9⟩:=HH.out.a i x HX.out.1;have eg:g1=g5:=by cases eA;rfl
      subst eg;have x4:=(gR GH.low hl5).trans X4;by_cases hlt:u2<x.subs.length
      ·obtain⟨g6,sa7,sc7,eB,YT,_,_,_,_,Y4,Wy⟩:=HH.out.b k z HX.out.2.1;have eg:g2=g6:=by cases eB;rfl
       subst eg;have hlen:=HX.out.2.2.2.2.2.2.1;obtain⟨b1,rfl,hb1,D1⟩:=A9 u2 hlt;obtain⟨b2,rfl,hb2,D2⟩:=Wy u2 (by omega);have y4:=(gR GH.low YT).trans Y4;have d1:=(gR GH.low hb1).trans D1;have d2:=(gR GH.low hb2).trans D2;have Xo:Hid (∀w':Θ,Ω w0.heap.size w0 w'→w'.cell? ⟨g1,i*5+4,none⟩=some (.slice (some ⟨b1,0,none⟩) x.subs.length sc5)∧w'.cell? ⟨b1,u2,none⟩=some (Γ Δ ((x.subs.getD u2 0:Nat):Int))∧w'.cell? ⟨g2,k*5+4,none⟩=some (.slice (some ⟨b2,0,none⟩) z.subs.length sc7)∧w'.cell? ⟨b2,u2,none⟩=some (Γ Δ ((z.subs.getD u2 0:Nat):Int))):=λw' hw'=>⟨(gR hw' hl5).trans X4,(gR hw' hb1).trans D1,(gR hw' YT).trans Y4,(gR hw' hb2).trans D2⟩;clear X4 Y4 D1 D2;have YU:(u2:Int)<(x.subs.length:Int):=by omega
       have aeg:(u2:Int)<(z.subs.length:Int):=by omega
       have HAL:Hid _:=yM.out wr.drew (x.subs.getD u2 0) (z.subs.getD u2 0) _ mH (GH.on ((zad _ _).drew)) (HX.out.2.2.2.2.2.2.2 u2 (by omega)) (hm3.resolve_left λe=>by rw[e]at hlt;simp at hlt) hs3;have hw3:wrap64 ((u2:Int)+1)=(u2:Int)+1:=DG (by omega);have HM:Hid (rem A.length B.length mH≤rem A.length B.length ps∧rem A.length B.length mH<m∧u2<x.subs.length):=⟨hr3,hm3.resolve_left λe=>by rw[e]at hlt;simp at hlt,hlt⟩;clear HST HI GH hs3 hr3 hm3 A9 Wy HX HS HH yM hlen eA eB hu2 hl5 YT hb1 hb2;generalize x.subs.getD u2 0=s1 at *;generalize z.subs.getD u2 0=s2 at *;go_wp2_with fail
       go_cut [4,18] (λsv2 okv wc3=>okv=.bool true∧Hid (∃n6 c6 ZV,sv2=.slice ZV n6 c6∧∃Ro,l5 w0 A R wc3 (.slice ZV n6 c6) Ro∧Ro.length+rem A.length B.length Ro≤30000∧rem A.length B.length Ro≤rem A.length B.length mH))
       case first=>
        go_region_held3 (λw'=>w'.cell? ⟨g1,i*5+4,none⟩=some (.slice (some ⟨b1,0,none⟩) x.subs.length sc5)∧w'.cell? ⟨b1,u2,none⟩=some (Γ Δ (s1:Int))∧w'.cell? ⟨g2,k*5+4,none⟩=some (.slice (some ⟨b2,0,none⟩) z.subs.length sc7)∧w'.cell? ⟨b2,u2,none⟩=some (Γ Δ (s2:Int))) (first|exact Xo.out _ q1.low|go_keep) ((go_at_call 41;refine zai HAL.out ?_;rintro e w' ⟨ZU,KW,rfl,q1,q2,q3⟩))
        all_goals
         obtain⟨ZV,c6,rfl⟩:=bD q1.row;generalize 2*KW.length=n9 at *;have HQ:Hid (∃n6 c7 sa9,(.slice ZV n9 c6:Λ)=.slice sa9 n6 c7∧∃Ro,l5 w0 A R w' (.slice sa9 n6 c7) Ro∧Ro.length+rem A.length B.length Ro≤30000∧rem A.length B.length Ro≤rem A.length B.length mH):=⟨_,_,_,rfl,KW,q1,q3,q2⟩;clear q1 q2 q3 HAL Xo HM x4 y4 d1 d2;go_wp2_with fail
         go_meet
         case rel=>exact⟨rfl,HQ⟩
       case rest=>
        obtain⟨rfl,HQ⟩:=hcut;obtain⟨n6,c6,ZV,rfl,Ro,r1,r2,r3⟩:=HQ.out;have HN:Hid (u2+1≤x.subs.length∧∃ps3,l5 w0 A R wc (.slice ZV n6 c6) ps3∧ps3.length+rem A.length B.length ps3≤30000∧rem A.length B.length ps3≤rem A.length B.length ps∧(x.subs=[]∨rem A.length B.length ps3<m)):=⟨HM.out.2.2,Ro,r1,r2,zag r3 HM.out.1,.inr (zch r3 HM.out.2.1)⟩;have HLT:Hid (u2<x.subs.length):=hlt;clear HQ r1 r2 r3 HM HAL x4 y4 d1 d2 Xo hlt YU aeg;go_wp2_with fail;go_roundw
        case rel=>exact⟨u2+1,n6,c6,ZV,zak (Λ.int IntKind.i64) (hw3.trans (by omega)),rfl,HN⟩
        case measure=>exact Vg HLT.out hsl
      ·have YU:¬(u2:Int)<(x.subs.length:Int):=by omega
       have GG:Hid (l5 w0 A R wr (.slice sa6 n1 c1) mH∧rem A.length B.length mH≤rem A.length B.length ps∧mH.length+rem A.length B.length mH≤30000):=⟨GH,hr3,hs3⟩;clear HST HI GH hs3 hr3 hm3 A9 HX HS HH yM eA hu2 X4 hl5;go_wp2_with fail;go_ret2;exact⟨_,rfl,mH,GG.out.1,GG.out.2.1,GG.out.2.2⟩
theorem Cc {w0:Θ}{A B:List eO}{R:Nat→Nat→Prop}{st:Bool}{aA aB:Option Addr}{cA cB:Nat}(H:AlH w0 A B R st aA aB):∀m,ZT w0 A B R st aA aB cA cB m
 |0=>λ_ _ _ _ _ _ _ Vh _=>absurd Vh (Nat.not_lt_zero _)
 |m+1=>Jy H (Cc H m)
theorem Rp (a b:Nat):(Vf a b).length=a*b:=by
 unfold Vf;rw[List.length_flatMap];have:∀l:List Nat,(l.map λi=>((List.range b).map λk=>(i,k)).length).sum=l.length*b:=by
  intro l
  induction l with
  |nil=>simp
  |cons x l ih=>rw[zaB,List.sum_cons,ih];simp;rw[Nat.add_mul];omega
 rw[this,List.length_range]
theorem ZW (a b:Nat):rem a b []≤a*b:=by
 rw[←Rp];exact List.length_filter_le _ _
theorem KY (cA cB:Nat)(H:AlH w A B R st aA aB)(h0:R 0 0)(ha:A.length≤150)(hb:B.length≤150):θ prog 22 #[.slice aA A.length cA,.slice aB B.length cB,.bool st] w λe w'=>e=.returned (.bool true)∧Ω w.heap.size w w':=by
 have hr:=ZW A.length B.length;have hm:A.length*B.length≤150*150:=Nat.mul_le_mul ha hb;have HC:Hid _:=Cc (cA:=cA) (cB:=cB) H (rem A.length B.length []+1) w 0 0 (.slice none 0 0) [] ⟨zad _ _,⟨rfl,.inl ⟨rfl,rfl⟩⟩,λp hp=>(by cases hp)⟩ h0 (Nat.lt_succ_self _) (by show 0+rem A.length B.length []≤30000;omega);clear H h0 hr hm;go_enter func22,ntmps22;go_wp2_with fail;refine zai HC.out ?_;rintro e w1 ⟨ZU,KW,rfl,q1,_,_⟩;obtain⟨a',c',rfl⟩:=bD q1.row;have HL:Hid (Ω w.heap.size w w1):=q1.low;clear q1 HC;generalize 2*KW.length=n9 at *;go_wp2_with fail;go_ret;exact⟨rfl,HL.out⟩
section
variable {l:List eO}
theorem lh (x:eO):aQ (aV x)=pc x:=by
 unfold aQ pc aV;simp only[zby]
theorem KZ {a:Nat}(hx:l[a]?=some x):(l.map aV)[a]?=some (aV x):=by rw[zbU,hx];rfl
theorem K0 {a:Nat}{X:Nd}(hX:(l.map aV)[a]?=some X):∃x,l[a]?=some x∧X=aV x:=by
 rw[zbU]at hX;obtain⟨x,h1,h2⟩:=zas.1 hX;exact⟨x,h1,h2.symm⟩
theorem Ce {a:Nat}(hx:l[a]?=some x):ai (l.map aV) a=x.subs:=by
 unfold ai;rw[KZ hx];show(x.subs.map λk:Nat=>(k:Int)).map Int.toNat=x.subs;rw[List.map_map];have:(Int.toNat ∘λk:Nat=>(k:Int))=id:=by funext k;simp
 rw[this,List.map_id]
theorem Nk {a:Nat}(hx:l[a]?=some x):aJ (l.map aV) a=x.kind:=by unfold aJ;rw[KZ hx];rfl
theorem rg_of (h:∀x∈l,pc x=true∧∀q∈x.subs,q<l.length):Rg (l.map aV):=by
 refine⟨λa X hX=>?_,λa y hy=>?_⟩
 ·obtain⟨x,hx,rfl⟩:=K0 hX;rw[lh];exact(h x (zbr hx)).1
 ·rw[zby];cases hx:l[a]? with
  |none=>
   unfold ai at hy;rw[zbU,hx]at hy;cases hy
  |some x=>
   rw[Ce hx]at hy;exact(h x (zbr hx)).2 y hy
theorem XO {H:List eO}(h:Bis (l.map aV) H R):Ri l H R:=λa k r=>by
 obtain⟨X,z,hX,hz,k1,k2,k3,k4,k5,hs⟩:=h a k r;obtain⟨x,hx,rfl⟩:=K0 hX;rw[Ce hx]at hs;exact⟨x,z,hx,hz,k1,k2,k3,k4,by simpa[aV]using k5,hs⟩
theorem ace (h:One (l.map aV) R):Rj l R:=by
 have hk:∀{a:Nat} {x:eO},l[a]?=some x→holdB x.kind=true→1≤aJ (l.map aV) a∧aJ (l.map aV) a≤3:=λhx hh=>by
  rw[Nk hx];have:=of_decide_eq_true hh;omega
 exact⟨λa k k' x hx hh r r'=>h.1 a k k' r r' (hk hx hh),λa a' k x x' hx hh tJ NF r r'=>h.2 a a' k r r' (hk hx hh) (hk tJ NF)⟩
theorem GI (h:pc x=true)(hh:holdB x.kind=false):x.subs=[]:=by
 have hk:¬(x.kind=1∨x.kind=2∨x.kind=3):=of_decide_eq_false hh;have hl:x.subs.length=0:=by
  rw[←lh]at h;have hX:([x].map aV)[0]?=some (aV x):=rfl;by_cases k0:x.kind=0
  ·simpa[aV]using(Jo h k0).2.2.2
  by_cases k4:x.kind=4
  ·simpa[aV]using(Jq h k4).2.2
  by_cases k5:x.kind=5
  ·simpa[aV]using(Jr h k5).2
  by_cases k6:x.kind=6
  ·simpa[aV]using(Js h k6).2.2
  by_cases k7:x.kind=7
  ·simpa[aV]using(Jt h k7).2.2
  exfalso;rw[lh]at h;unfold pc at h;rw[zaa k0,zaa (by omega),zaa (by omega),zaa (by omega),zaa k4,zaa k5,zaa k6,zaa k7]at h;cases h
 exact zcf hl
end
theorem nI {nodes:List eO}(h:b9 w lo nv bN nodes):∃a c,nv=.slice a nodes.length c∧fp w a nodes:=by
 obtain⟨a,c,rfl⟩:=bD h.1;refine⟨a,c,rfl,λi x hx=>?_⟩;have hi:i<nodes.length:=(zbh.1 hx).1;obtain⟨v,hv⟩:∃v,bN[i]?=some v:=⟨_,zat (by rw[h.2.1];exact hi)⟩;rcases h.1.2 with⟨_,h0⟩|⟨g,cap,cur,e,q1,q2,_⟩
 ·omega
 have ea:a=some ⟨g,0,none⟩:=by cases e;rfl
 subst ea;have hcell:∀(l:List eO) (bN:List Λ) (i:Nat) (x:eO) (v:Λ),l[i]?=some x→bN[i]?=some v→∀j,j<5→(tL l bN)[i*5+j]?=(oQ x v)[j]?:=by
  intro l
  induction l with
  |nil=>intro _ _ _ _ h;simp at h
  |cons y l ih=>
   intro bN i x v h1 h2 j hj;cases bN with
   |nil=>simp at h2
   |cons s bN=>
    cases i with
    |zero=>
     simp at h1 h2;subst h1 h2;rw[tL,Nat.zero_mul,Nat.zero_add,zbi (by simp[oQ];omega)]
    |succ i=>
     have:=ih bN i x v (by simpa using h1) (by simpa using h2) j hj;rw[tL,zbv (by simp[oQ];omega),←this]
     congr 1
     simp[oQ];omega
 have hs:∃sa sc,v=.slice sa x.subs.length sc∧Rh w sa x.subs:=by
  rcases h.2.2 i x v hx hv with⟨rfl,he⟩|⟨b,rfl,_,hb⟩
  ·exact⟨none,0,by rw[he];rfl,λj hj=>by rw[he]at hj;simp at hj⟩
  ·refine⟨_,_,rfl,λj hj=>⟨b,rfl,(zaj.1 hb).1,?_⟩⟩;simp[Θ.cell?,hb,hj]
 obtain⟨sa,sc,rfl,hI⟩:=hs;have hc:∀j u,j<5→(oQ x (.slice sa x.subs.length sc))[j]?=some u→w.cell? ⟨g,i*5+j,none⟩=some u:=λj u hj hu=>by
  have:=h.1.cells (g:=g) rfl (i*5+j) u ((hcell _ _ i x _ hx hv j hj).trans hu);rw[DF]at this;exact this
 exact⟨g,sa,sc,rfl,(zaj.1 q2).1,hc 0 _ (by decide) rfl,hc 1 _ (by decide) rfl,hc 2 _ (by decide) rfl,hc 3 _ (by decide) rfl,hc 4 _ (by decide) rfl,hI⟩
section
variable {l:List eO}
def gp (l:List eO):Prop:=1≤l.length∧l.length≤150∧∀x∈l,pc x=true∧∀q∈x.subs,q<l.length
theorem Jz (h:gp l):ey (l.map aV)=true:=by
 obtain⟨h1,h2,h3⟩:=h;unfold ey;rw[zae,zaC,zaK,zby];refine⟨⟨h1,h2⟩,λX hX=>?_⟩;obtain⟨x,hx,rfl⟩:=zbo.1 hX;rw[zae,lh];refine⟨(h3 x hx).1,?_⟩;unfold eT;rw[zaC];intro q hq;obtain⟨k,hk,rfl⟩:=zbo.1 hq;have:=(h3 x hx).2 k hk;rw[zaK];omega
theorem nJ (h:gp l){mode:Int}(hm:0≤mode∧mode≤2):((bJ (l.map aV) mode 403).2=0∨(bJ (l.map aV) mode 403).2=2∨(mode=0∧(bJ (l.map aV) mode 403).2=9))∧((bJ (l.map aV) mode 403).2=0→(WG (l.map aV) (iY (l.map aV) mode) 403 false (bu (l.map aV).length) 0).long=false∧(bJ (l.map aV) mode 403).1=(WG (l.map aV) (iY (l.map aV) mode) 403 false (bu (l.map aV).length) 0).out):=by
 unfold bJ;rw[zaa (by omega),Jz h,zaa (by simp)];by_cases hc:mode=0∧qj (l.map aV)=true
 ·rw[zab hc];exact⟨.inr (.inr ⟨hc.1,rfl⟩),λe=>by cases e⟩
 ·rw[zaa hc];by_cases hl:(dw (l.map aV) mode 403).long=true
  ·rw[zab hl];exact⟨.inr (.inl rfl),λe=>by cases e⟩
  ·rw[zaa hl];have hl':(dw (l.map aV) mode 403).long=false:=by simpa using hl
   exact⟨.inl rfl,λ_=>⟨hl',rfl⟩⟩
theorem JA (h:gp l){mode:Int}(hm:0≤mode∧mode≤2){s:List UInt8}(hw:bJ (l.map aV) mode 403=(s,0)):(∃a,cS s 30=some ([],a,6))∨cS s 30=some ([],0,2)∨∃H R,cS s 30=some (H,s.length,0)∧H≠[]∧Ri l H R∧R 0 0∧(mode=2→Rj l R):=by
 have hs:=(nJ h hm).2 (by rw[hw]);rw[hw]at hs;have hR:=rg_of h.2.2;have hn:1≤(l.map aV).length:=by rw[zby];exact h.1
 by_cases h2:mode=2
 ·subst h2;rcases Rf hR hn hs.1 hs.2 with q|q|⟨H,R,q1,q2,q3,q4,q5⟩
  ·exact .inl q
  ·exact .inr (.inl q)
  ·exact .inr (.inr ⟨H,R,q1,q2,XO q3,q4,λ_=>ace q5⟩)
 ·rcases Q9 hR hn hs.1 hs.2 with q|q|⟨H,R,q1,q2,q3,q4⟩
  ·exact .inl q
  ·exact .inr (.inl q)
  ·exact .inr (.inr ⟨H,R,q1,q2,XO q3,q4,λe=>absurd e h2⟩)
theorem Rq {H:List eO}(h:gp l)(hH:H.length≤150)(ha:fp w aA l)(hb:fp w aB H)(ZX:Ri l H R)(ho:st=true→Rj l R):AlH w l H R st aA aB:=by
 refine⟨ha,hb,ZX,ho,λi x hx hh=>GI (h.2.2 x (zbr hx)).1 hh,by have:=h.2.1;omega,by omega,λx hx=>?_⟩;have hk:=(h.2.2 x hx).1;by_cases hh:holdB x.kind=false
 ·rw[GI hk hh];simp
 ·rw[←lh]at hk;have hh1:holdB x.kind=true:=by simpa using hh
  have NF:x.kind=1∨x.kind=2∨x.kind=3:=of_decide_eq_true hh1;have e:(aV x).subs.length=x.subs.length:=by simp[aV]
  rcases NF with k|k|k
  ·have:=(KQ hk k).1;omega
  ·have:=(Q7 hk k).1;omega
  ·have:=(Jp hk k).2.2.2;omega
end
theorem JB (a b:Option Addr)(n cA cB:Nat)(st:Bool)(w:Θ)(hn:1≤n):θ prog 41 #[.slice a n cA,Γ Δ 0,.slice b 0 cB,Γ Δ 0,.slice none 0 0,.bool st] w λe w'=>e=.returned (.tuple #[.slice none 0 0,.bool false])∧w'=w:=by
 have h1:¬(n:Int)≤0:=by omega
 go_enter func41,ntmps41;go_wp2_with fail;go_loopw [14] (λmv wr=>mv=Γ Δ 0∧wr=w) (λ_ _=>0)
 case atStart=>exact⟨rfl,rfl⟩
 case round=>
  obtain⟨rfl,rfl⟩:=hrel;go_wp2_with fail;go_ret2;exact⟨rfl,rfl⟩
theorem Cf (a b:Option Addr)(n cA cB:Nat)(st:Bool)(w:Θ)(hn:1≤n):θ prog 22 #[.slice a n cA,.slice b 0 cB,.bool st] w λe w'=>e=.returned (.bool false)∧w'=w:=by
 have HC:Hid _:=JB a b n cA cB st w hn;clear hn;go_enter func22,ntmps22;go_wp2_with fail;refine zai HC.out ?_;rintro e w1 ⟨rfl,rfl⟩;clear HC;go_wp2_with fail;go_ret;exact⟨rfl,rfl⟩
def mdT:List (List UInt8):=[[],[116],[97,32,98],[34,113,92],[10,9,59]]
def mdS:List (List UInt8):=[[97],[46,46,46],[43],[45,120],[113,117,111,116,101],[97,46,98],[60,61,63]]
def mdK:List Int:=[33,126,97,40,32,10,9,0,127,27]
def mdN (n v:Nat):eO:=
 if v%16≤5 then⟨1,[],0,0,[v/16%n,v/1024%n]⟩
 else if v%16=6 then⟨2,[],0,0,[v/16%n,v/1024%n,v/16%n]⟩
 else if v%16=7 then⟨2,[],0,0,[]⟩
 else if v%16=8 then⟨3,mdT.getD (v/16%n%5) [],0,0,[]⟩
 else if v%16≤10 then⟨4,mdS.getD (v/16%n%7) [],0,0,[]⟩
 else if v%16=11 then⟨5,[],((v/1024%n:Nat):Int)-3,1,[]⟩
 else if v%16=12 then⟨5,[],2*((v/1024%n:Nat):Int)-7,4,[]⟩
 else if v%16=13 then⟨6,[],((v/16%n%2:Nat):Int),0,[]⟩
 else if v%16=14 then⟨7,[],mdK.getD (v/16%n%10) 0,0,[]⟩
 else⟨0,[],0,0,[]⟩
def mdG (raw:List Int):List eO:=if raw=[]then[⟨0,[],0,0,[]⟩]else(raw.take 40).map λc=>mdN (min raw.length 40) (afT c 1125899906842624).toNat
section
variable {P:Program}
theorem af0 {ops:Array Oper}{rest:List Oper}{o:Oper}{a:Act}(hgd:o.guard=none)(sl x:Operand)(t:TypeId)
 (ho:o.op=.call { callee:= .builtin .append,args:=#[sl,x],argTypes:=#[t,t] })
 (base:Nat)(e:TypeId)(i:TypeInfo)(z:Λ)(sz y:Nat)(ht:P.underlying t=some (.slice e))(hi:P.info? e=some i)(hz:i.zero=some z)
 (hsize:i.size=sz)(hby:i.bytes=y)(hsz:0<sz)(hy:y≤100)(hzs:z.cells.size=sz)
 (v:Λ)(n:Nat)(xs:List Λ)(hs:a.eval sl=v)(hown:w.ownsRow base e sz v n xs)
 (ad:Addr)(m c:Nat)(news:List Λ)(hx:a.eval x=.slice (some ad) m c)(hm:m≠0)(hl:news.length=m*sz)(hnews:∀j u,news[j]?=some u→w.cell? (ad.add j)=some u)(h1:∀u∈news,u.oneCell'=true)
 (hlen:n+m≤1000000)(hbase:base≤w.heap.size)
 (h:∀v' w',w'.ownsRow base e sz v' (n+m) (xs++news)→w.grownBy w' v.ownBlock→(v'.ownBlock=v.ownBlock∨∃k,v'.ownBlock=some k∧w.heap.size≤k)→wpList P ops Q rest (a.put o.dst v') w'):wpList P ops Q (o::rest) a w:=by
 refine wpList_plain hgd λK hK=>?_;obtain⟨v',w',hr,h2,h3,h4⟩:=vR (P:=P) w base t o.type e i z sz y ht hi hz hsize hby hsz hy hzs v n xs hown ad m c news hm hl hnews h1 hlen hbase;unfold Oper.wp execOp;simp only[ho,resolve,invoke,builtin,zba,zbd,zbb,zbR,zaB,zbt,hs,hx,hr];exact hK _ _ (h v' w' h2 h3 h4)
end
theorem ag7 {w1 w4:Θ}{v':Λ}(AJ:lo≤w.heap.size)(h:b9 w lo nv bN l)(hb:Ω w.heap.size w w1)(hrow:w4.ownsRow lo 45 5 v' (l.length+1) (tL l bN++oQ x sv))(hg:w1.grownBy w4 nv.ownBlock)(hs:Xg w1 lo sv x.subs):b9 w4 lo v' (bN++[sv]) (l++[x])∧w.heap.size≤w4.heap.size∧∀b,b<lo→w4.heap[b]?=w.heap[b]?:=by
 have hs1:=hb.size;have NB:=hg.size;have hne:∀b l0,w1.heap[b]?=some (.cells l0 3)→some b≠nv.ownBlock:=λb l0 hb1 e=>by
  rcases h.1.2 with⟨rfl,_⟩|⟨c,cap,cur,rfl,_,hc,_⟩
  ·cases e
  ·have:b=c:=by cases e;rfl
   subst this;rw[hb.block b (zaj.1 hc).1,hc]at hb1;simp at hb1
 have fV:∀b,b<lo→w4.heap[b]?=w.heap[b]?:=λb hb'=>(hg.block b (by omega) λe=>by have:=(h.1.lt b e.symm).1;omega).trans (hb.block b (by omega));have ia:∀sv s,Xg w1 lo sv s→Xg w4 lo sv s:=λsv s q=>by
  rcases q with q|⟨b,q1,q2,q3⟩
  ·exact .inl q
  ·exact .inr ⟨b,q1,q2,(hg.block b (zaj.1 q3).1 (hne b _ q3)).trans q3⟩
 refine⟨⟨?_,by simp[h.2.1],λj y ZU hy rM=>?_⟩,by omega,fV⟩
 ·rw[FI _ _ _ _ h.2.1,zaR];exact hrow
 ·rcases zaw j l.length with hj|hj
  ·rw[zbi hj]at hy;rw[zbi (by rw[h.2.1];exact hj)]at rM;refine ia _ _ ?_;rcases h.2.2 j y ZU hy rM with q|⟨b,q1,q2,q3⟩
   ·exact .inl q
   ·exact .inr ⟨b,q1,q2,(hb.block b (zaj.1 q3).1).trans q3⟩
  ·have ej:j=l.length:=by
    have:=(zbh.1 hy).1;simp at this;omega
   subst ej;rw[zbv (zac _)]at hy;rw[zbv (by rw[h.2.1];exact zac _),h.2.1]at rM;simp at hy rM;subst hy rM;exact ia _ _ hs
def afQ:Code→Code|.seq c _=>c|_=> .skip
def afP:Code→Code|.seq _ c=>c|_=> .skip
def afR:Code→Code|.block _ c=>c|_=> .skip
def afS:Code→Code|.loop c=>c|_=> .skip
def LI (f:Func):Code:=afS (afR (afP (afQ (afP (afP (afP (afP (afP (f.body.getD .skip)))))))))
def NI (f:Func):Code:=afP (afR (afQ (afP (LI f))))
def ahG (N L I V:Λ)(v:Nat→Λ):Act:=⟨#[v 0,v 1,.slice none 0 0,N,L,I,V,v 7,v 8,v 9,v 10,v 11,v 12,v 13,v 14,v 15,v 16,v 17,v 18,v 19,v 20,v 21,v 22,v 23,v 24,v 25,v 26,v 27,v 28,v 29,v 30,v 31,v 32,v 33,v 34,v 35,v 36,v 37,v 38,v 39,v 40,v 41,v 42,v 43,v 44,v 45,v 46,v 47,v 48,v 49,v 50,v 51,v 52,v 53,v 54,v 55,v 56,v 57,v 58,v 59,v 60,v 61,v 62,v 63,v 64,v 65,v 66,v 67,v 68,v 69,v 70,v 71,v 72,v 73,v 74,v 75,v 76,v 77,v 78,v 79,v 80,v 81,v 82,v 83,v 84,v 85,v 86,v 87,v 88,v 89,v 90,v 91,v 92,v 93,v 94,v 95,v 96,v 97,v 98,v 99,v 100,v 101,v 102,v 103,v 104,v 105],[]⟩
theorem afZ {a:Act}{N L I V:Λ}(e:a=ahG N L I V λi=>a.tmps.getD i undef)(h:∀v,Q .normal (ahG N L I V v) w):Q .normal a w:=by
 rw[e];exact h _
theorem afW {w1:Θ}{r c0:Nat}{a0:Option Addr}{ops:Array Oper}{rest:List Oper}{o:Oper}{a:Act}(hgd:o.guard=none)(sl xo:Operand)
 (ho:o.op=.call { callee:= .builtin .append,args:=#[sl,xo],argTypes:=#[28,28] })(h:b9 w lo (.slice a0 l.length c0) bN l)(AJ:lo≤w.heap.size)(hl:l.length≤1000)(hb:Ω w.heap.size w w1)(x:eO)(hs:a.eval sl=.slice a0 l.length c0)(hx:a.eval xo=.slice (some ⟨r,0,none⟩) 1 1)
 (hr:w1.heap[r]?=some (.cells #[Γ Δ x.kind,.string ⟨⟨x.text⟩⟩,Γ Δ x.n,Γ Δ x.d,sv] 45))(ia:Xg w1 lo sv x.subs)
 (hK:∀v' w4,b9 w4 lo v' (bN++[sv]) (l++[x])→w.heap.size≤w4.heap.size→(∀b,b<lo→w4.heap[b]?=w.heap[b]?)→wpList prog ops Q rest (a.put o.dst v') w4):wpList prog ops Q (o::rest) a w1:=by
 obtain⟨i0,hi,hz0,hz1,hz2⟩:=info_parts Mw;have hs1:=hb.size;refine af0 hgd sl xo 28 ho lo 45 i0 _ 5 64 IL hi hz0 hz1 hz2 (by decide) (by decide) rfl (.slice a0 l.length c0) l.length (tL l bN) hs (bC h.1 (zac _) λb _ hb'=>hb.block b hb') ⟨r,0,none⟩ 1 1 (oQ x sv) hx (by decide) rfl (λj u hu=>?_) (λu hu=>?_) (by omega) (by omega) λv' w4 hrow hg _=>?_
 ·match j,hu with
  |0,hu=>simpa[Θ.cell?,ζ,hr,oQ]using hu
  |1,hu=>simpa[Θ.cell?,ζ,hr,oQ]using hu
  |2,hu=>simpa[Θ.cell?,ζ,hr,oQ]using hu
  |3,hu=>simpa[Θ.cell?,ζ,hr,oQ]using hu
  |4,hu=>simpa[Θ.cell?,ζ,hr,oQ]using hu
  |j+5,hu=>simp[oQ]at hu
 ·simp[oQ]at hu;rcases hu with rfl|rfl|rfl|rfl|rfl
  ·rfl
  ·rfl
  ·rfl
  ·rfl
  ·rcases ia with⟨rfl,_⟩|⟨b,rfl,_⟩<;>rfl
 ·obtain⟨h1,h2,h3⟩:=ag7 AJ h hb hrow hg ia;exact hK v' w4 h1 h2 h3
theorem agl (w:Θ)(o p q:Obj):(((w.alloc o).alloc p).alloc q).heap[w.heap.size+2]?=some q:=by
 have:=en (w.alloc o) p q;simpa using this
theorem agD (w:Θ)(o p q:Obj):(((w.alloc o).alloc p).alloc q).heap[w.heap.size+1]?=some p:=(zaT _ q _ (by simp)).trans (en w o p)
theorem af4 (w:Θ)(o p:Obj):Ω w.heap.size w ((w.alloc o).alloc p):=((zad _ _).alloc (zac _) _).alloc (by simp) _
theorem af6 (w:Θ)(o p q:Obj):Ω w.heap.size w (((w.alloc o).alloc p).alloc q):=(af4 w o p).alloc (by simp;omega) _
def MdH (w:Θ)(lo n k a b:Nat)(nv:Λ)(bN:List Λ)(l:List eO):Prop:=
 n≤40∧¬(n:Int)=0∧l.length≤1000∧lo≤w.heap.size∧b9 w lo nv bN l∧k<1125899906842624∧(k:Int)/16%(n:Int)=(a:Int)∧(k:Int)/1024%(n:Int)=(b:Int)∧a<40∧b<40
def MdQ (Q:Exit→Act→Θ→Prop)(w:Θ)(lo n i k:Nat)(l:List eO)(x:eO):Prop:=
 ∀v' w' Uw yJ,b9 w' lo Uw yJ (l++[x])→w.heap.size≤w'.heap.size→(∀b,b<lo→w'.heap[b]?=w.heap[b]?)→Q .normal (ahG (Γ Δ (n:Nat)) Uw (Γ Δ (i:Nat)) (Γ Δ (k:Nat)) v') w'
theorem ahv {k a:Nat}(H:MdH w lo n k a b nv bN l)(hk:(k:Int)%16=0∨(k:Int)%16=1∨(k:Int)%16=2∨(k:Int)%16=3∨(k:Int)%16=4∨(k:Int)%16=5)(h:MdQ Q w lo n i k l ⟨1,[],0,0,[a,b]⟩):(NI f24).wp prog Q (ahG (Γ Δ (n:Nat)) nv (Γ Δ (i:Nat)) (Γ Δ (k:Nat)) v) w:=by
 have mixed:prog.follows Ξ=true:=by kernel_rfl
 obtain⟨wJ,hz,hl,AJ,HN,hv,ha',hb',ha0,hb0⟩:=H;have HH:Hid _:=h;have HN:Hid _:=HN;clear h;obtain⟨a0,c0,rfl⟩:=bD HN.out.1;have HS:Hid (∀o q,Xg (((w.alloc o).alloc (.cells #[Γ Δ (a:Nat),Γ Δ (b:Nat)] 3)).alloc q) lo (.slice (some ⟨w.heap.size+1,0,none⟩) 2 2) [a,b]):=λo q=> .inr ⟨_,rfl,by omega,by rw[agD];rfl⟩;unfold ahG;dsimp only[NI,LI,afQ,afP,afR,afS,f24,Φ];rcases hk with hk|hk|hk|hk|hk|hk
 all_goals
  go_wp2_with (at_builtin;refine afW rfl (.tmp 101) (.tmp 103) rfl HN.out AJ hl (af6 _ _ _ _) ⟨1,[],0,0,[a,b]⟩ rfl rfl (agl _ _ _ _) (HS.out _ _) ?_;intro v' w4 h1 h2 h3);go_wp2_with fail;exact afZ (by kernel_rfl) λv=>HH.out v _ _ _ h1 h2 h3
theorem ahw {k a:Nat}(H:MdH w lo n k a b nv bN l)(hk:(k:Int)%16=6)(h:MdQ Q w lo n i k l ⟨2,[],0,0,[a,b,a]⟩):(NI f24).wp prog Q (ahG (Γ Δ (n:Nat)) nv (Γ Δ (i:Nat)) (Γ Δ (k:Nat)) v) w:=by
 have mixed:prog.follows Ξ=true:=by kernel_rfl
 obtain⟨wJ,hz,hl,AJ,HN,hv,ha',hb',ha0,hb0⟩:=H;have HH:Hid _:=h;have HN:Hid _:=HN;clear h;obtain⟨a0,c0,rfl⟩:=bD HN.out.1;have HS:Hid (∀o q,Xg (((w.alloc o).alloc (.cells #[Γ Δ (a:Nat),Γ Δ (b:Nat),Γ Δ (a:Nat)] 3)).alloc q) lo (.slice (some ⟨w.heap.size+1,0,none⟩) 3 3) [a,b,a]):=λo q=> .inr ⟨_,rfl,by omega,by rw[agD];rfl⟩;unfold ahG;dsimp only[NI,LI,afQ,afP,afR,afS,f24,Φ];go_wp2_with (at_builtin;refine afW rfl (.tmp 101) (.tmp 103) rfl HN.out AJ hl (af6 _ _ _ _) ⟨2,[],0,0,[a,b,a]⟩ rfl rfl (agl _ _ _ _) (HS.out _ _) ?_;intro v' w4 h1 h2 h3);go_wp2_with fail;exact afZ (by kernel_rfl) λv=>HH.out v _ _ _ h1 h2 h3
theorem ahx {k a:Nat}(H:MdH w lo n k a b nv bN l)(hk:(k:Int)%16=7)(h:MdQ Q w lo n i k l ⟨2,[],0,0,[]⟩):(NI f24).wp prog Q (ahG (Γ Δ (n:Nat)) nv (Γ Δ (i:Nat)) (Γ Δ (k:Nat)) v) w:=by
 have mixed:prog.follows Ξ=true:=by kernel_rfl
 obtain⟨wJ,hz,hl,AJ,HN,hv,ha',hb',ha0,hb0⟩:=H;have HH:Hid _:=h;have HN:Hid _:=HN;clear h;obtain⟨a0,c0,rfl⟩:=bD HN.out.1;unfold ahG;dsimp only[NI,LI,afQ,afP,afR,afS,f24,Φ];go_wp2_with (at_builtin;refine afW rfl (.tmp 101) (.tmp 103) rfl HN.out AJ hl (af4 _ _ _) ⟨2,[],0,0,[]⟩ rfl rfl (en _ _ _) (.inl ⟨rfl,rfl⟩) ?_;intro v' w4 h1 h2 h3);go_wp2_with fail;exact afZ (by kernel_rfl) λv=>HH.out v _ _ _ h1 h2 h3
theorem ahh {k a:Nat}(H:MdH w lo n k a b nv bN l)(hk:(k:Int)%16=11)(h:MdQ Q w lo n i k l ⟨5,[],(b:Int)-3,1,[]⟩):(NI f24).wp prog Q (ahG (Γ Δ (n:Nat)) nv (Γ Δ (i:Nat)) (Γ Δ (k:Nat)) v) w:=by
 have mixed:prog.follows Ξ=true:=by kernel_rfl
 obtain⟨wJ,hz,hl,AJ,HN,hv,ha',hb',ha0,hb0⟩:=H;have HH:Hid _:=h;have HN:Hid _:=HN;clear h;obtain⟨a0,c0,rfl⟩:=bD HN.out.1;unfold ahG;dsimp only[NI,LI,afQ,afP,afR,afS,f24,Φ];go_wp2_with (at_builtin;refine afW rfl (.tmp 101) (.tmp 103) rfl HN.out AJ hl (af4 _ _ _) ⟨5,[],(b:Int)-3,1,[]⟩ rfl rfl (en _ _ _) (.inl ⟨rfl,rfl⟩) ?_;intro v' w4 h1 h2 h3);go_wp2_with fail;exact afZ (by kernel_rfl) λv=>HH.out v _ _ _ h1 h2 h3
theorem ahi {k a:Nat}(H:MdH w lo n k a b nv bN l)(hk:(k:Int)%16=12)(h:MdQ Q w lo n i k l ⟨5,[],2*(b:Int)-7,4,[]⟩):(NI f24).wp prog Q (ahG (Γ Δ (n:Nat)) nv (Γ Δ (i:Nat)) (Γ Δ (k:Nat)) v) w:=by
 have mixed:prog.follows Ξ=true:=by kernel_rfl
 obtain⟨wJ,hz,hl,AJ,HN,hv,ha',hb',ha0,hb0⟩:=H;have HH:Hid _:=h;have HN:Hid _:=HN;clear h;obtain⟨a0,c0,rfl⟩:=bD HN.out.1;unfold ahG;dsimp only[NI,LI,afQ,afP,afR,afS,f24,Φ];go_wp2_with (at_builtin;refine afW rfl (.tmp 101) (.tmp 103) rfl HN.out AJ hl (af4 _ _ _) ⟨5,[],2*(b:Int)-7,4,[]⟩ rfl rfl (en _ _ _) (.inl ⟨rfl,rfl⟩) ?_;intro v' w4 h1 h2 h3);go_wp2_with fail;exact afZ (by kernel_rfl) λv=>HH.out v _ _ _ h1 h2 h3
theorem ahj {k a:Nat}(H:MdH w lo n k a b nv bN l)(hk:(k:Int)%16=13)(h:MdQ Q w lo n i k l ⟨6,[],(a:Int)%2,0,[]⟩):(NI f24).wp prog Q (ahG (Γ Δ (n:Nat)) nv (Γ Δ (i:Nat)) (Γ Δ (k:Nat)) v) w:=by
 have mixed:prog.follows Ξ=true:=by kernel_rfl
 obtain⟨wJ,hz,hl,AJ,HN,hv,ha',hb',ha0,hb0⟩:=H;have HH:Hid _:=h;have HN:Hid _:=HN;clear h;obtain⟨a0,c0,rfl⟩:=bD HN.out.1;unfold ahG;dsimp only[NI,LI,afQ,afP,afR,afS,f24,Φ];go_wp2_with (at_builtin;refine afW rfl (.tmp 101) (.tmp 103) rfl HN.out AJ hl (af4 _ _ _) ⟨6,[],(a:Int)%2,0,[]⟩ rfl rfl (en _ _ _) (.inl ⟨rfl,rfl⟩) ?_;intro v' w4 h1 h2 h3);go_wp2_with fail;exact afZ (by kernel_rfl) λv=>HH.out v _ _ _ h1 h2 h3
theorem ahk {k a:Nat}(H:MdH w lo n k a b nv bN l)(hk:(k:Int)%16=15)(h:MdQ Q w lo n i k l ⟨0,[],0,0,[]⟩):(NI f24).wp prog Q (ahG (Γ Δ (n:Nat)) nv (Γ Δ (i:Nat)) (Γ Δ (k:Nat)) v) w:=by
 have mixed:prog.follows Ξ=true:=by kernel_rfl
 obtain⟨wJ,hz,hl,AJ,HN,hv,ha',hb',ha0,hb0⟩:=H;have HH:Hid _:=h;have HN:Hid _:=HN;clear h;obtain⟨a0,c0,rfl⟩:=bD HN.out.1;unfold ahG;dsimp only[NI,LI,afQ,afP,afR,afS,f24,Φ];go_wp2_with (at_builtin;refine afW rfl (.tmp 101) (.tmp 103) rfl HN.out AJ hl (af4 _ _ _) ⟨0,[],0,0,[]⟩ rfl rfl (en _ _ _) (.inl ⟨rfl,rfl⟩) ?_;intro v' w4 h1 h2 h3);go_wp2_with fail;exact afZ (by kernel_rfl) λv=>HH.out v _ _ _ h1 h2 h3
theorem ahy {k a:Nat}(H:MdH w lo n k a b nv bN l)(hk:(k:Int)%16=8)(h:MdQ Q w lo n i k l ⟨3,mdT.getD (a%5) [],0,0,[]⟩):(NI f24).wp prog Q (ahG (Γ Δ (n:Nat)) nv (Γ Δ (i:Nat)) (Γ Δ (k:Nat)) v) w:=by
 have mixed:prog.follows Ξ=true:=by kernel_rfl
 obtain⟨wJ,hz,hl,AJ,HN,hv,ha',hb',ha0,hb0⟩:=H;have HH:Hid _:=h;have HN:Hid _:=HN;clear h;obtain⟨a0,c0,rfl⟩:=bD HN.out.1;unfold ahG;dsimp only[NI,LI,afQ,afP,afR,afS,f24,Φ];have hq:(a:Int)%5=0∧a%5=0∨(a:Int)%5=1∧a%5=1∨(a:Int)%5=2∧a%5=2∨(a:Int)%5=3∧a%5=3∨(a:Int)%5=4∧a%5=4:=by omega
 rcases hq with⟨hi,hj⟩|⟨hi,hj⟩|⟨hi,hj⟩|⟨hi,hj⟩|⟨hi,hj⟩
 all_goals
  rw[hj]at HH;go_wp2_with (at_builtin;refine afW rfl (.tmp 101) (.tmp 103) rfl HN.out AJ hl (af6 _ _ _ _) ⟨3,_,0,0,[]⟩ rfl rfl (agl _ _ _ _) (.inl ⟨rfl,rfl⟩) ?_;intro v' w4 h1 h2 h3);go_wp2_with fail;exact afZ (by kernel_rfl) λv=>HH.out v _ _ _ h1 h2 h3
theorem ahl {k a:Nat}(H:MdH w lo n k a b nv bN l)(hk:(k:Int)%16=14)(h:MdQ Q w lo n i k l ⟨7,[],mdK.getD (a%10) 0,0,[]⟩):(NI f24).wp prog Q (ahG (Γ Δ (n:Nat)) nv (Γ Δ (i:Nat)) (Γ Δ (k:Nat)) v) w:=by
 have mixed:prog.follows Ξ=true:=by kernel_rfl
 obtain⟨wJ,hz,hl,AJ,HN,hv,ha',hb',ha0,hb0⟩:=H;have HH:Hid _:=h;have HN:Hid _:=HN;clear h;obtain⟨a0,c0,rfl⟩:=bD HN.out.1;unfold ahG;dsimp only[NI,LI,afQ,afP,afR,afS,f24,Φ];have hq:(a:Int)%10=0∧a%10=0∨(a:Int)%10=1∧a%10=1∨(a:Int)%10=2∧a%10=2∨(a:Int)%10=3∧a%10=3∨(a:Int)%10=4∧a%10=4∨(a:Int)%10=5∧a%10=5∨(a:Int)%10=6∧a%10=6∨(a:Int)%10=7∧a%10=7∨(a:Int)%10=8∧a%10=8∨(a:Int)%10=9∧a%10=9:=by omega
 rcases hq with⟨hi,hj⟩|⟨hi,hj⟩|⟨hi,hj⟩|⟨hi,hj⟩|⟨hi,hj⟩|⟨hi,hj⟩|⟨hi,hj⟩|⟨hi,hj⟩|⟨hi,hj⟩|⟨hi,hj⟩
 all_goals
  rw[hj]at HH;go_wp2_with (at_builtin;refine afW rfl (.tmp 101) (.tmp 103) rfl HN.out AJ hl (af6 _ _ _ _) ⟨7,[],_,0,[]⟩ rfl rfl (agl _ _ _ _) (.inl ⟨rfl,rfl⟩) ?_;intro v' w4 h1 h2 h3);go_wp2_with fail;exact afZ (by kernel_rfl) λv=>HH.out v _ _ _ h1 h2 h3
theorem ahz {k a:Nat}(H:MdH w lo n k a b nv bN l)(hk:(k:Int)%16=9∨(k:Int)%16=10)(h:MdQ Q w lo n i k l ⟨4,mdS.getD (a%7) [],0,0,[]⟩):(NI f24).wp prog Q (ahG (Γ Δ (n:Nat)) nv (Γ Δ (i:Nat)) (Γ Δ (k:Nat)) v) w:=by
 have mixed:prog.follows Ξ=true:=by kernel_rfl
 obtain⟨wJ,hz,hl,AJ,HN,hv,ha',hb',ha0,hb0⟩:=H;have HH:Hid _:=h;have HN:Hid _:=HN;clear h;obtain⟨a0,c0,rfl⟩:=bD HN.out.1;unfold ahG;dsimp only[NI,LI,afQ,afP,afR,afS,f24,Φ];rcases hk with hk|hk
 all_goals
  have hq:(a:Int)%7=0∧a%7=0∨(a:Int)%7=1∧a%7=1∨(a:Int)%7=2∧a%7=2∨(a:Int)%7=3∧a%7=3∨(a:Int)%7=4∧a%7=4∨(a:Int)%7=5∧a%7=5∨(a:Int)%7=6∧a%7=6:=by omega
  rcases hq with⟨hi,hj⟩|⟨hi,hj⟩|⟨hi,hj⟩|⟨hi,hj⟩|⟨hi,hj⟩|⟨hi,hj⟩|⟨hi,hj⟩
  all_goals
   rw[hj]at HH;go_wp2_with (at_builtin;refine afW rfl (.tmp 101) (.tmp 103) rfl HN.out AJ hl (af6 _ _ _ _) ⟨4,_,0,0,[]⟩ rfl rfl (agl _ _ _ _) (.inl ⟨rfl,rfl⟩) ?_;intro v' w4 h1 h2 h3);go_wp2_with fail;exact afZ (by kernel_rfl) λv=>HH.out v _ _ _ h1 h2 h3
theorem agS {k:Nat}(Yw:1≤n)(wJ:n≤40)(hl:l.length≤1000)(AJ:lo≤w.heap.size)(hN:b9 w lo nv bN l)(hv:k<1125899906842624)(h:MdQ Q w lo n i k l (mdN n k)):(NI f24).wp prog Q (ahG (Γ Δ (n:Nat)) nv (Γ Δ (i:Nat)) (Γ Δ (k:Nat)) v) w:=by
 obtain⟨a,ha⟩:∃a,k/16%n=a:=⟨_,rfl⟩;obtain⟨b,hb⟩:∃b,k/1024%n=b:=⟨_,rfl⟩;have H:MdH w lo n k a b nv bN l:=⟨wJ,by omega,hl,AJ,hN,hv,by rw[←ha];simp,by rw[←hb];simp,by have:=zcL (k/16) Yw;omega,by have:=zcL (k/1024) Yw;omega⟩;unfold mdN at h;rw[ha,hb]at h;repeat' split at h
 ·exact ahv H (by omega) h
 ·exact ahw H (by omega) h
 ·exact ahx H (by omega) h
 ·exact ahy H (by omega) h
 ·exact ahz H (by omega) h
 ·exact ahh H (by omega) h
 ·exact ahi H (by omega) h
 ·exact ahj H (by omega) (by simpa using h)
 ·exact ahl H (by omega) h
 ·exact ahk H (by omega) h
theorem agE {v:Nat}(h1:1≤n)(h2:n≤40):pc (mdN n v)=true∧∀q∈(mdN n v).subs,q<n:=by
 have ha:v/16%n<n:=zcL _ h1;have hb:v/1024%n<n:=zcL _ h1;unfold mdN;generalize v/16%n=a at *;generalize v/1024%n=b at *;have hT:∀k<5,pc ⟨3,mdT.getD k [],0,0,[]⟩=true:=by decide +kernel
 have hS:∀k<7,pc ⟨4,mdS.getD k [],0,0,[]⟩=true:=by decide +kernel
 have hN:∀k<40,pc ⟨5,[],((k:Nat):Int)-3,1,[]⟩=true∧pc ⟨5,[],2*((k:Nat):Int)-7,4,[]⟩=true:=by decide +kernel
 have hB:∀k<2,pc ⟨6,[],((k:Nat):Int),0,[]⟩=true:=by decide +kernel
 have hC:∀k<10,pc ⟨7,[],mdK.getD k 0,0,[]⟩=true:=by decide +kernel
 have e1:a%5<5:=zcL _ (by omega);have e2:a%7<7:=zcL _ (by omega);have e3:a%2<2:=zcL _ (by omega);have e4:a%10<10:=zcL _ (by omega);repeat' split
 ·exact⟨by simp[pc],by simp;omega⟩
 ·exact⟨by simp[pc],by simp;omega⟩
 ·exact⟨by simp[pc],by simp⟩
 ·exact⟨hT _ e1,by simp⟩
 ·exact⟨hS _ e2,by simp⟩
 ·exact⟨(hN b (by omega)).1,by simp⟩
 ·exact⟨(hN b (by omega)).2,by simp⟩
 ·exact⟨hB _ e3,by simp⟩
 ·exact⟨hC _ e4,by simp⟩
 ·exact⟨by simp[pc],by simp⟩
theorem af8 (raw:List Int):gp (mdG raw):=by
 unfold mdG;split
 ·exact⟨by simp,by simp,by simp[pc]⟩
 ·rename_i h;have hl:1≤raw.length:=zbT.2 h;refine⟨by simp;omega,by simp;omega,λx hx=>?_⟩;obtain⟨c,_,rfl⟩:=zbo.1 hx;have:=agE (n:=min raw.length 40) (v:=(afT c 1125899906842624).toNat) (by omega) (by omega);refine⟨this.1,λq hq=>?_⟩;have:=this.2 q hq;simp;omega
theorem agT (raw:List Int):∀x∈mdG raw,x.text.length≤405:=by
 have hT:∀k,(mdT.getD k []).length≤405:=λk=>by
  rcases zaw k 5 with h|h
  ·have:∀k<5,(mdT.getD k []).length≤405:=by decide
   exact this k h
  ·simp[mdT,List.getD_eq_getElem?_getD,h]
 have hS:∀k,(mdS.getD k []).length≤405:=λk=>by
  rcases zaw k 7 with h|h
  ·have:∀k<7,(mdS.getD k []).length≤405:=by decide
   exact this k h
  ·simp[mdS,List.getD_eq_getElem?_getD,h]
 intro x hx;unfold mdG at hx;split at hx
 ·rw[zbA.1 hx];simp
 ·obtain⟨c,_,rfl⟩:=zbo.1 hx;unfold mdN;repeat' split
  all_goals first|exact hT _|exact hS _|simp
end Go.Proofs.YtlhimdjkkiflhaaGreatDoor
