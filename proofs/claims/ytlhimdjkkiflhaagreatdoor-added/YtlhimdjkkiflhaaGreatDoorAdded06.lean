import Derived.LaidEqlPtr
import Derived.Deep.RegionLaw
import Derived.Test.YtlhimdjkkiflhaaGreatDoorAdded05
set_option maxHeartbeats 8000000
set_option maxRecDepth 100000
open Go.Value renaming int→Γ
open Go.IntKind renaming i64→Δ
open Go renaming Value→Θ,World→Λ,TypeId→Φ,Calls→Ω,TypeInfo→ι,Program→ξ,maxLen→π,Frame→φ
open Go.Departure renaming mixedOrders→Ξ
open Go.RowKit renaming Below→ζ
open Go.Instr renaming findNow→η,checkKey→θ,mapUpdate→υ,findKey→χ
namespace Go.Ren
open Go.Proofs.Tryz
open Go Go.Conc Go.ConcX Go.RowKit Go.Proofs Go.Loop
section
variable {Ψ:aV}{cs:List φ}{w:Λ}{b:φ}{a:Act}{ops:Array Oper}{i:Nat}{rest:List Nat}{kk:List Item}
theorem Z3 {o1 o2 o3:Nat→Prop}(h:∀x,o1 x→o2 x∨o3 x){l:Loc}(hl:kx o1 l):kx o2 l∨kx o3 l:=by
 cases l with
 |cell a=>exact h _ hl
 |obj r=>exact h _ hl
 |_=>exact .inl hl
theorem GU {o:Nat→Prop}{n:Nat}(h:∀x,o x→x<n){l:Loc}(hl:kx o l):l.low n:=by
 cases l with
 |cell a=>exact h _ hl
 |obj r=>exact h _ hl
 |_=>exact hl.elim
theorem ae.Z4 {s:List UInt8}(hlen:s.length≤1000)(h:∀v w',ζ w.heap.size w w'→w'.ownsRow w.heap.size 131 7 v (aG (s.length+1) s 0).length ((aG (s.length+1) s 0).flatMap λt=>(ed t).toList)→ae prog Sz Ψ (b.at (a.put ((ops[i]?).bind (·.dst)) v) (.inRegion ops rest::kk)) cs w'):ae prog Sz Ψ (φ.enter prog 43 #[.string ⟨⟨s⟩⟩] .normal) (b.at a (.inRegion ops (i::rest)::kk)::cs) w:=by
 intro ρ W gs sl t q Shun hS hc hcs h0 hL hP hN hO hT Z5 kD;have e0:bS ρ (φ.enter prog 43 #[.string ⟨⟨s⟩⟩] .normal)=φ.enter prog 43 #[.string ⟨⟨s⟩⟩] .normal:=by
  rw[←im];simp[rv]
 rw[e0,zaD,zaM]at h0;refine(Km hlen hS.ry h0 hL hP hN.low).bind ?_;rintro m t' ⟨gs',W',sl',q',gF,w₂,v,Shun',rfl,_,xM,JQ,JO,ab0,Yb,ab1,RG,dY,hrow,Eg,hsz,hblk,ab2,hos,hout⟩;have Yc:=hS.grow hsz λx hx=>hblk x (hN.UU x hx);have oo:Touch Sz.d (cN ρ w.heap.size W'.heap.size) w=Touch Sz.d ρ w:=cC;have aes:∀r,r<w.heap.size→cN ρ w.heap.size W'.heap.size r=ρ r:=λr hr=>aJ hr;generalize cN ρ w.heap.size W'.heap.size=ct at *;have RH:=gH.merge VZ Yc RG (λx h1 h2=>by
  have k1:=hN.UU x (by rw[←oo];exact h1);have k2:=Eg x h2;omega)
 have lB:=RG.wr.big.p;have afC:=qU (w:=w) lB;have hrv:=abp VZ Yc RG dY;have htm:∀x,Touch Sz.d (Cf ct gF prog.globals.size w.heap.size w₂.heap.size W'.heap.size) (JS prog w w₂) x→Touch Sz.d ρ w x∨Touch Sc.d gF w₂ x:=λx hx=>by
  have:=FX VZ lB hx;rwa[oo]at this
 have Wp:∀r,r<w.heap.size→Cf ct gF prog.globals.size w.heap.size w₂.heap.size W'.heap.size r=ρ r:=λr hr=>by
  rw[←aes r hr];simp only[Cf,zac hr]
 generalize Cf ct gF prog.globals.size w.heap.size w₂.heap.size W'.heap.size=Mp at *;have Z6:ζ w.heap.size w (JS prog w w₂):=⟨rfl,rfl,rfl,by omega,λr hr=>JU hr⟩;have hrow3:=Zk (w:=w) (zab _) hrow (λx hx=>by
  obtain⟨tk,_,hx⟩:=List.mem_flatMap.1 hx;simp[ed]at hx;rcases hx with rfl|rfl|rfl|rfl|rfl|rfl|rfl<;>simp[rv])
 have ZF:=abr VZ (w:=w) hS.wr.big.p lB dY;have hf3:∀x,Mp.f x=ρ.f x:=λx=>by rw[RH.f,hS.f]
 refine h _ _ Z6 hrow3 Mp W' gs' sl' t' q' Shun' RH ?_ (λf hf=>gX (by omega) (hcs f (zap _ hf))) ?_ JQ JO ⟨λx hx=>?_,λb hb=>zaL (hN.Jl b hb) hsz,λl hl PM=>?_,ab0⟩ ⟨ab2.trans hO.tape,hos.trans hO.os,hout.trans hO.output,zah hO.size hsz,λr hr hm=>(hblk r (zaL hr hO.size)).trans (hO.block r hr hm)⟩ (λx hx=>(htm x hx).elim (hT x) λh2=> .inl (zah hO.size (Eg x h2))) ⟨zah Z5.size (by omega),λr hr=>(Wp r (zaL hr Z5.size)).trans (Z5.same r hr)⟩ ⟨zah kD.size (by omega),λr hr=>(Wp r (zaL hr kD.size)).trans (kD.same r hr)⟩
 ·have h1:rI prog Sz w.heap.size a:=hcs _ zam;exact rI.put (P:=prog) (λx hx=>dO (cO (by omega)).1 (cO (by omega)).2 x (h1 x hx)) _ ZF
 ·rw[xM];have e1:bS ρ (b.at a (.inRegion ops (i::rest)::kk))=bS Mp (b.at a (.inRegion ops (i::rest)::kk)):=ei (hcs _ zam) (λr hr=>(Wp r hr).symm) (λx=>(hf3 x).symm);have e2:cs.map (bS ρ)=cs.map (bS Mp):=eI (λr hr=>(Wp r hr).symm) (λx=>(hf3 x).symm) λf hf=>hcs f (zap _ hf);rw[e1,e2,rZ,rZ,zbY,←hrv,pR]
 ·obtain⟨r,h1,h2,rfl⟩:=hx;exact RH.low h2
 ·rcases hl with hl|hl
  ·rcases Z3 htm hl with h1|h1
   ·exact hN.tF l (.inl h1) (Yb l (GU hN.UU h1) PM)
   ·exact ab1 l h1 PM
  ·exact hN.tF l (.inr hl) (Yb l (GU hN.Jl hl) PM)
end
end Go.Ren
namespace Go.Loop
inductive Dt where
 |nil
 |sym (s:List UInt8)
 |num (n d:Int)
 |cU (n:Int)
 |sQ (n:Int)
 |txt (i:Nat) (s:List UInt8)
 |pair (i:Nat) (a b:Dt)
 |vec (i:Nat) (l:Dt)
 |gJ
 |cD (a l:Dt)
 |put (n:Int) (d:Dt)
 |ask (n:Int)
deriving DecidableEq
structure gK where
 k:Nat
 fresh:Nat
 aT:List Int
deriving DecidableEq
structure Pl where
 depth:Nat
 passed:Bool
 ahead:List Int
inductive RR (α:Type) where
 |out
 |fail (e:Int) (at_:Nat)
 |ok (a:α) (s:gK)
def RR.bind {α β:Type}(x:RR α)(f:α→gK→RR β):RR β:=
 match x with
 |.out=> .out
 |.fail e a=> .fail e a
 |.ok a s=>f a s
def aS:List Dt→Dt→Nat→Dt×Nat
 |[],rest,i=>(rest,i)
 |d::l,rest,i=>(.pair (aS l rest i).2 d (aS l rest i).1,(aS l rest i).2+1)
def Wq:List Dt→Dt
 |[]=> .gJ
 |d::l=> .cD d (Wq l)
def zQ (t:Tok)(s:gK):RR Dt:=
 if t.kind=8 then .ok (.txt s.fresh t.text) { s with fresh:=s.fresh+1 }
 else if t.kind=9 then .ok (.sQ t.n) s
 else if t.kind=12 then .ok (.cU t.n) s
 else if t.kind=14 then .ok (.sym t.text) s
 else if t.fault≠0 then .fail t.fault t.from_
 else .ok (.num t.n t.d) s
section
variable (T:List Tok)(Mq:Nat)
mutual
def aO:Nat→Pl→gK→RR Dt
 |0,_,_=> .out
 |n+1,p,s=>(bg n p s).bind λt s=>cE n t p s
def bg:Nat→Pl→gK→RR Tok
 |0,_,_=> .out
 |n+1,p,s=>
  match T[s.k]? with
  |none=> .out
  |some t=>
   if t.kind=0 then .fail 4 t.from_
   else if t.kind=1 then .fail 3 t.from_
   else if t.kind=6 then(aO n ⟨p.depth,true,[]⟩ { s with k:=s.k+1 }).bind λ_ s=>bg n p s
   else .ok t { s with k:=s.k+1 }
def cE:Nat→Tok→Pl→gK→RR Dt
 |0,_,_,_=> .out
 |n+1,t,p,s=>
  if t.kind=3∨t.kind=7 then .fail 3 t.from_
  else if t.kind=10 then
   (if p.passed∨t.n∈s.aT then .fail 5 t.from_
    else if p.depth=Mq then .fail 6 t.from_
    else(aO n ⟨p.depth+1,p.passed,p.ahead++[t.n]⟩ { s with aT:=t.n::s.aT }).bind λd s=> .ok (.put t.n d) s)
  else if t.kind=11 then(if p.passed∨t.n∉s.aT∨t.n∈p.ahead then .fail 5 t.from_ else .ok (.ask t.n) s)
  else if t.kind=2∨t.kind=5∨t.kind=4 then
   (if p.depth=Mq then .fail 6 t.from_
    else if t.kind=5 then(rP n [] ⟨p.depth+1,p.passed,[]⟩ { s with fresh:=s.fresh+1 }).bind λl s'=> .ok (.vec s.fresh (Wq l)) s'
    else if t.kind=4 then(aO n ⟨p.depth+1,p.passed,[]⟩ s).bind λd s=> .ok (aS [.sym [113,117,111,116,101],d] .nil s.fresh).1 { s with fresh:=s.fresh+2 }
    else cr n [] ⟨p.depth+1,p.passed,[]⟩ s)
  else zQ t s
def cr:Nat→List Dt→Pl→gK→RR Dt
 |0,_,_,_=> .out
 |n+1,data,p,s=>
  (bg n p s).bind λt s=>
    if t.kind=3 then .ok (aS data .nil s.fresh).1 { s with fresh:=(aS data .nil s.fresh).2 }
    else if t.kind=7∧data≠[]then
     (aO n p s).bind λrest s=>(bg n p s).bind λt s=>
       if t.kind=3 then .ok (aS data rest s.fresh).1 { s with fresh:=(aS data rest s.fresh).2 } else .fail 3 t.from_
    else(cE n t p s).bind λd s=>cr n (data++[d]) p s
def rP:Nat→List Dt→Pl→gK→RR (List Dt)
 |0,_,_,_=> .out
 |n+1,data,p,s=>
  (bg n p s).bind λt s=>
    if t.kind=3 then .ok data s
    else if data.length=20 then .fail 3 t.from_
    else(cE n t p s).bind λd s=>rP n (data++[d]) p s
end
end
def bP (n:Int):Dt→Option Dt
 |.put m d=>if m=n then some d else bP n d
 |.pair _ a b=>(bP n a).orElse λ_=>bP n b
 |.vec _ l=>bP n l
 |.cD a l=>(bP n a).orElse λ_=>bP n l
 |_=>none
def bN (root:Dt):Nat→Dt→Dt
 |0,d=>d
 |n+1,.put _ d=>bN root n d
 |n+1,.ask m=>bN root n ((bP m root).getD .nil)
 |_+1,d=>d
structure mb where
 kind:Int
 text:List UInt8
 n:Int
 d:Int
 subs:List Nat
deriving DecidableEq
structure mO where
 nodes:List mb
 met:List (Nat×Nat)
def mO.add (g:mO)(x:mb):mO:={ g with nodes:=g.nodes++[x] }
def dJ (l:List mb)(i:Nat)(s:List Nat):List mb:=l.modify i λx=>{ x with subs:=s }
end Go.Loop
namespace Go.Proofs.YtlhimdjkkiflhaaGreatDoor
open Go.Proofs.Tryz
open Go.RowKit Go.Loop
structure Env where
 α:Nat→Nat
 eG:Int→Nat
def aq (b:Nat):Θ:= .pointer (some ⟨b,0,none⟩)
mutual
def bf (lo k:Nat)(L:List Int)(w:Λ)(E:Env):Dt→Θ→Prop
 |.nil,v=>v=.iface 272 (.agg #[])
 |.sym s,v=>v=.iface 168 (.agg #[.string ⟨⟨s⟩⟩])
 |.num n d,v=>v=.iface 153 (.agg #[Γ Δ n,Γ Δ d])
 |.cU n,v=>v=.iface 155 (.agg #[Γ Δ n])
 |.sQ n,v=>v=.iface 157 (.agg #[Γ Δ n])
 |.txt i s,v=>i<k∧lo≤E.α i∧v=.iface 158 (aq (E.α i))∧w.heap[E.α i]?=some (.cells #[.string ⟨⟨s⟩⟩] 218)
 |.pair i a b,v=>i<k∧lo≤E.α i∧v=.iface 150 (aq (E.α i))∧∃va vb,w.heap[E.α i]?=some (.cells #[va,vb] 161)∧bf lo k L w E a va∧bf lo k L w E b vb
 |.vec i l,v=>i<k∧lo≤E.α i∧v=.iface 163 (aq (E.α i))∧∃sl vs,w.heap[E.α i]?=some (.cells #[sl] 165)∧w.ownsRow lo 58 1 sl vs.length vs∧cX lo k L w E l vs
 |.put n d,v=>n∈L∧lo≤E.eG n∧w.heap[E.eG n]?=some (.cells #[v] 215)∧bf lo k L w E d v
 |.ask n,v=>n∈L∧v=.iface 212 (aq (E.eG n))
 |.gJ,_=>False
 |.cD _ _,_=>False
def cX (lo k:Nat)(L:List Int)(w:Λ)(E:Env):Dt→List Θ→Prop
 |.gJ,vs=>vs=[]
 |.cD a l,vs=>∃v r,vs=v::r∧bf lo k L w E a v∧cX lo k L w E l r
 |_,_=>False
end
def Env.agree (E E':Env)(k:Nat)(L:List Int):Prop:=(∀i,i<k→E'.α i=E.α i)∧∀n∈L,E'.eG n=E.eG n
theorem aX {w w':Λ}{lo RI:Nat}{e:Φ}{z:Nat}{v:Θ}{n:Nat}{xs:List Θ}(h:w.ownsRow lo e z v n xs)(hl:RI≤lo)(hk:∀b,lo≤b→b<w.heap.size→w'.heap[b]?=w.heap[b]?):w'.ownsRow RI e z v n xs:=by
 refine⟨h.1,h.2.imp id ?_⟩;rintro ⟨g,cap,cur,h1,h2,h3,h4⟩;exact⟨g,cap,cur,h1,by omega,(hk g h2 (zaf.1 h3).1).trans h3,h4⟩
mutual
theorem bf.keep {lo RI k k':Nat}{L L':List Int}{w w':Λ}{E E':Env}(hl:RI≤lo)(hk:k≤k')(hL:∀n∈L,n∈L')(hw:∀b,lo≤b→b<w.heap.size→w'.heap[b]?=w.heap[b]?)(hE:E.agree E' k L):∀(d:Dt) (v:Θ),bf lo k L w E d v→bf RI k' L' w' E' d v
 |.nil,v,h=>by unfold bf at h ⊢;exact h
 |.sym s,v,h=>by unfold bf at h ⊢;exact h
 |.num n d,v,h=>by unfold bf at h ⊢;exact h
 |.cU n,v,h=>by unfold bf at h ⊢;exact h
 |.sQ n,v,h=>by unfold bf at h ⊢;exact h
 |.txt i s,v,h=>by
  unfold bf at h ⊢;obtain⟨h1,h2,h3,h4⟩:=h;rw[hE.1 i h1];exact⟨by omega,by omega,h3,(hw _ h2 (zaf.1 h4).1).trans h4⟩
 |.pair i a b,v,h=>by
  unfold bf at h ⊢;obtain⟨h1,h2,h3,va,vb,h4,h5,h6⟩:=h;rw[hE.1 i h1];exact⟨by omega,by omega,h3,va,vb,(hw _ h2 (zaf.1 h4).1).trans h4,bf.keep hl hk hL hw hE a va h5,bf.keep hl hk hL hw hE b vb h6⟩
 |.vec i l,v,h=>by
  unfold bf at h ⊢;obtain⟨h1,h2,h3,sl,vs,h4,h5,h6⟩:=h;rw[hE.1 i h1];exact⟨by omega,by omega,h3,sl,vs,(hw _ h2 (zaf.1 h4).1).trans h4,aX h5 hl hw,cX.keep hl hk hL hw hE l vs h6⟩
 |.put n d,v,h=>by
  unfold bf at h ⊢;obtain⟨h1,h2,h3,h4⟩:=h;rw[hE.2 n h1];exact⟨hL n h1,by omega,(hw _ h2 (zaf.1 h3).1).trans h3,bf.keep hl hk hL hw hE d v h4⟩
 |.ask n,v,h=>by
  unfold bf at h ⊢;rw[hE.2 n h.1];exact⟨hL n h.1,h.2⟩
 |.gJ,v,h=>by unfold bf at h;exact h.elim
 |.cD a l,v,h=>by unfold bf at h;exact h.elim
theorem cX.keep {lo RI k k':Nat}{L L':List Int}{w w':Λ}{E E':Env}(hl:RI≤lo)(hk:k≤k')(hL:∀n∈L,n∈L')(hw:∀b,lo≤b→b<w.heap.size→w'.heap[b]?=w.heap[b]?)(hE:E.agree E' k L):∀(d:Dt) (vs:List Θ),cX lo k L w E d vs→cX RI k' L' w' E' d vs
 |.gJ,vs,h=>by unfold cX at h ⊢;exact h
 |.cD a l,vs,h=>by
  unfold cX at h ⊢;obtain⟨v,r,rfl,h1,h2⟩:=h;exact⟨v,r,rfl,bf.keep hl hk hL hw hE a v h1,cX.keep hl hk hL hw hE l r h2⟩
 |.nil,vs,h=>by unfold cX at h;exact h.elim
 |.sym _,vs,h=>by unfold cX at h;exact h.elim
 |.num _ _,vs,h=>by unfold cX at h;exact h.elim
 |.cU _,vs,h=>by unfold cX at h;exact h.elim
 |.sQ _,vs,h=>by unfold cX at h;exact h.elim
 |.txt _ _,vs,h=>by unfold cX at h;exact h.elim
 |.pair _ _ _,vs,h=>by unfold cX at h;exact h.elim
 |.vec _ _,vs,h=>by unfold cX at h;exact h.elim
 |.put _ _,vs,h=>by unfold cX at h;exact h.elim
 |.ask _,vs,h=>by unfold cX at h;exact h.elim
end
def j0 (w:Λ)(M:Nat)(l:List (Θ×Θ)):Prop:=∃es clock,w.heap[M]?=some (.map es clock)∧es.toList.map (λe=>(e.key,e.val))=l
theorem qc:∀(es:List MapEntry) (l:List (Int×Θ)) (n:Int) (i:Nat),es.map (λe=>(e.key,e.val))=l.map (λp=>(Θ.int .i64 p.1,p.2))→∃j,η (.int .i64) (Γ Δ n) es i=some ((l.lookup n).map λv=>(j,v))
 |[],[],n,i,_=>⟨0,rfl⟩
 |[],_::_,_,_,h=>by simp at h
 |_::_,[],_,_,h=>by simp at h
 |e::es,(m,v)::l,n,i,h=>by
  simp only[zaD,zcj,zag]at h;obtain⟨⟨h1,h2⟩,h3⟩:=h;unfold η;rw[h1];by_cases hn:n=m
  ·subst hn;refine⟨i,?_⟩;simp[Instr.sameNow,List.lookup,h2]
  ·obtain⟨j,hj⟩:=qc es l n (i+1) h3;refine⟨j,?_⟩;have:(n==m)=false:=by simpa using hn
   simp[Instr.sameNow,this,List.lookup,hj]
theorem Mr:prog.underlying 121=some (.map 3 212):=by kernel_rfl
theorem Kn:prog.underlying 3=some (.int .i64):=by kernel_rfl
theorem GX (b:Bool)(n:Int)(w:Λ):(θ b 10000 3 (Γ Δ n)).run prog w=.ok () w:=by
 unfold θ;simp[run_underlying Kn]
theorem qg {w:Λ}{M:Nat}{l:List (Int×Θ)}(h:j0 w M (l.map λp=>(Θ.int .i64 p.1,p.2)))(n:Int):(Instr.lookup 121 (.map (some M)) (Γ Δ n) false).run prog w=.ok ((l.lookup n).getD (.pointer none)) w:=by
 obtain⟨es,clock,h1,h2⟩:=h;obtain⟨j,hj⟩:=qc es.toList l n 0 h2;have hg:(getObj M).run prog w=.ok (.map es clock) w:=by simp[getObj,Sem.run,h1]
 unfold Instr.lookup χ;simp only[zaV,zaO Mr,zaW,hg,zbb,GX,zaO Kn,hj];cases hq:l.lookup n with
 |none=>simp
 |some v=>simp
theorem Ko {w:Λ}{M:Nat}{l:List (Int×Θ)}(h:j0 w M (l.map λp=>(Θ.int .i64 p.1,p.2)))(n:Int)(hn:l.lookup n=none)(v:Θ):∃o,(υ 121 (.map (some M)) (Γ Δ n) v).run prog w=.ok () { w with heap:=w.heap.setIfInBounds M o }∧j0 { w with heap:=w.heap.setIfInBounds M o } M ((l++[(n,v)]).map λp=>(Θ.int .i64 p.1,p.2)):=by
 obtain⟨es,clock,h1,h2⟩:=h;obtain⟨j,hj⟩:=qc es.toList l n 0 h2;rw[hn]at hj;have hlt:M<w.heap.size:=(zaf.1 h1).1;have hg:(getObj M).run prog w=.ok (.map es clock) w:=by simp[getObj,Sem.run,h1]
 refine⟨.map (es.push { key:= Γ Δ n,val:=v,born:=clock }) (clock+1),?_,es.push { key:= Γ Δ n,val:=v,born:=clock },clock+1,?_,?_⟩
 ·unfold υ χ;simp only[zaV,zaO Mr,zaW,hg,zbb,GX,zaO Kn,hj];simp[setObj,Sem.run,h1]
 ·show(w.heap.setIfInBounds M _)[M]?=_;rw[zbv hlt]
 ·simp[h2]
end Go.Proofs.YtlhimdjkkiflhaaGreatDoor
namespace Go.Loop
def RR.good {α:Type}(T:List Tok)(k:Nat)(r:RR α):Prop:=
 match r with
 |.out=>False
 |.fail _ _=>True
 |.ok _ s'=>k≤s'.k∧s'.k<T.length
theorem RR.eV {α β:Type}{T:List Tok}{k j:Nat}{x:RR α}{f:α→gK→RR β}(h:x.good T k)(hf:∀a s,k≤s.k→s.k<T.length→(f a s).good T j):(x.bind f).good T j:=by
 cases x with
 |out=>exact h
 |fail e a=>trivial
 |ok a s=>exact hf a s h.1 h.2
theorem RR.nC {α:Type}{T:List Tok}{k j:Nat}{x:RR α}(h:x.good T k)(hj:j≤k):x.good T j:=by
 cases x with
 |out=>exact h
 |fail e a=>trivial
 |ok a s=>exact⟨zah hj h.1,h.2⟩
section
variable (T:List Tok)(dp:Nat)
structure Fuel (n:Nat):Prop where
 datum:∀p s,s.k<T.length→2*(T.length-s.k)+2≤n→(aO T dp n p s).good T (s.k+1)
 take:∀p s,s.k<T.length→2*(T.length-s.k)+1≤n→(bg T dp n p s).good T (s.k+1)
 RJ:∀t p s,s.k<T.length→2*(T.length-s.k)+3≤n→(cE T dp n t p s).good T s.k
 list:∀l p s,s.k<T.length→2*(T.length-s.k)+2≤n→(cr T dp n l p s).good T (s.k+1)
 vec:∀l p s,s.k<T.length→2*(T.length-s.k)+2≤n→(rP T dp n l p s).good T (s.k+1)
theorem Kq (t:Tok)(s:gK)(h:s.k<T.length):(zQ t s).good T s.k:=by
 unfold zQ;repeat' split
 all_goals first|trivial|exact⟨zab _,h⟩
theorem fuel (hT:∀k t,T[k]?=some t→t.kind≠0→t.kind≠1→k+1<T.length):∀n,Fuel T dp n
 |0=>⟨λ_ _ _ h=>by omega,λ_ _ _ h=>by omega,λ_ _ _ _ h=>by omega,λ_ _ _ _ h=>by omega,λ_ _ _ _ h=>by omega⟩
 |n+1=>by
  have ih:=fuel hT n;refine⟨λp s hk hn=>?_,λp s hk hn=>?_,λt p s hk hn=>?_,λl p s hk hn=>?_,λl p s hk hn=>?_⟩
  ·unfold aO;refine RR.eV (ih.take p s hk (by omega)) λt s1 h1 h2=>?_;exact RR.nC (ih.RJ t p s1 h2 (by omega)) h1
  ·unfold bg;have hs:T[s.k]?=some T[s.k]:=zaq hk;rw[hs];dsimp only;split
   ·trivial
   ·rename_i h0;split
    ·trivial
    ·rename_i h1;have hlt:=hT s.k _ hs h0 h1;split
     ·refine RR.eV (ih.datum ⟨p.depth,true,[]⟩ { s with k:=s.k+1 } hlt (by show 2*(T.length-(s.k+1))+2≤n;omega)) λd s1 h2 h3=>?_;have jL:s.k+1+1≤s1.k:=h2;exact RR.nC (ih.take p s1 h3 (by omega)) (by omega)
     ·exact⟨zab _,hlt⟩
  ·unfold cE;split
   ·trivial
   ·split
    ·split
     ·trivial
     ·split
      ·trivial
      ·exact RR.eV (k:=s.k+1) (ih.datum _ { s with aT:=t.n::s.aT } hk (by show 2*(T.length-s.k)+2≤n;omega)) λd s1 h1 h2=>⟨by omega,h2⟩
    ·split
     ·split
      ·trivial
      ·exact⟨zab _,hk⟩
     ·split
      ·split
       ·trivial
       ·split
        ·exact RR.eV (k:=s.k+1) (ih.vec [] _ { s with fresh:=s.fresh+1 } hk (by show 2*(T.length-s.k)+2≤n;omega)) λd s1 h1 h2=>⟨by omega,h2⟩
        ·split
         ·exact RR.eV (k:=s.k+1) (ih.datum _ s hk (by omega)) λd s1 h1 h2=>⟨by show s.k≤s1.k;omega,h2⟩
         ·exact RR.nC (ih.list [] _ s hk (by omega)) (by omega)
      ·exact Kq T t s hk
  ·unfold cr;refine RR.eV (ih.take p s hk (by omega)) λt s1 h1 h2=>?_;split
   ·exact⟨h1,h2⟩
   ·split
    ·refine RR.eV (ih.datum p s1 h2 (by omega)) λd s2 h3 h4=>?_;refine RR.eV (ih.take p s2 h4 (by omega)) λt2 s3 h5 h6=>?_;split
     ·exact⟨by show s.k+1≤s3.k;omega,h6⟩
     ·trivial
    ·refine RR.eV (ih.RJ t p s1 h2 (by omega)) λd s2 h3 h4=>?_;exact RR.nC (ih.list _ p s2 h4 (by omega)) (by omega)
  ·unfold rP;refine RR.eV (ih.take p s hk (by omega)) λt s1 h1 h2=>?_;split
   ·exact⟨h1,h2⟩
   ·split
    ·trivial
    ·refine RR.eV (ih.RJ t p s1 h2 (by omega)) λd s2 h3 h4=>?_;exact RR.nC (ih.vec _ p s2 h4 (by omega)) (by omega)
end
theorem xa:∀(n:Nat) (s:List UInt8) (a:Nat),a≤s.length→s.length-a<n→aG n s a≠[]∧∀k t,(aG n s a)[k]?=some t→t.kind≠0→t.kind≠1→k+1<(aG n s a).length
 |0,s,a,_,h=>by omega
 |n+1,s,a,ha,h=>by
  have hf:=Cx ha;rw[aG];split
  ·rename_i hl;refine⟨by simp,λk t hk h0 h1=>?_⟩;cases k with
   |zero=>
    simp at hk;subst hk;simp[Tok.lastB]at hl;omega
   |succ k=>simp at hk
  ·rename_i hl;have hl':(aL s a).lastB=false:=by simpa using hl
   have h2:=hf.2.2 hl';have h3:=hf.2.1;have ih:=xa n s (aL s a).ic hf.2.1 (by omega);refine⟨by simp,λk t hk h0 h1=>?_⟩;cases k with
   |zero=>
    have:0<(aG n s (aL s a).ic).length:=List.length_pos_iff.2 ih.1;simp only[zar];omega
   |succ k=>
    rw[List.getElem?_cons_succ]at hk;have:=ih.2 k t hk h0 h1;simp only[zar];omega
theorem CE:∀(n:Nat) (s:List UInt8) (a:Nat),(aG n s a).length≤n
 |0,s,a=>zab _
 |n+1,s,a=>by
  have:=CE n s (aL s a).ic;rw[aG];split
  ·simp
  ·simp;exact this
def Dt.hd:Dt→Bool
 |.put _ _|.ask _|.gJ |.cD _ _=>false
 |_=>true
section
variable (root:Dt)
mutual
def iy:Nat→Dt→mO→Option (Nat×mO)
 |0,_,_=>none
 |n+1,d,g=>
  match bN root 200000 d with
  |.pair i a b=>
   match g.met.lookup i with
   |some k=>some (k,g)
   |none=>(iz n (.cD a (.cD b .gJ)) [] ⟨g.nodes++[⟨1,[],0,0,[]⟩],(i,g.nodes.length)::g.met⟩).map λy=>(g.nodes.length,{ y.2 with nodes:=dJ y.2.nodes g.nodes.length y.1 })
  |.vec i l=>
   match g.met.lookup i with
   |some k=>some (k,g)
   |none=>(iz n l [] ⟨g.nodes++[⟨2,[],0,0,[]⟩],(i,g.nodes.length)::g.met⟩).map λy=>(g.nodes.length,{ y.2 with nodes:=dJ y.2.nodes g.nodes.length y.1 })
  |.txt i s=>
   match g.met.lookup i with
   |some k=>some (k,g)
   |none=>some (g.nodes.length,⟨g.nodes++[⟨3,s,0,0,[]⟩],(i,g.nodes.length)::g.met⟩)
  |.sym s=>some (g.nodes.length,g.add ⟨4,s,0,0,[]⟩)
  |.num a b=>some (g.nodes.length,g.add ⟨5,[],a,b,[]⟩)
  |.cU a=>some (g.nodes.length,g.add ⟨6,[],a,0,[]⟩)
  |.sQ a=>some (g.nodes.length,g.add ⟨7,[],a,0,[]⟩)
  |_=>some (g.nodes.length,g.add ⟨0,[],0,0,[]⟩)
def iz:Nat→Dt→List Nat→mO→Option (List Nat×mO)
 |0,_,_,_=>none
 |n+1,l,acc,g=>
  match l with
  |.gJ=>some (acc,g)
  |.cD a l=>(iy n a g).bind λx=>iz n l (acc++[x.1]) x.2
  |_=>none
end
end
def lG (text:List UInt8)(depth:Int):Option (List mb×Nat×Int):=
 if depth<0∨30<depth then some ([],0,1)
 else if 400<text.length then some ([],0,2)
 else
  match aO (aG (text.length+1) text 0) depth.toNat 2000 ⟨0,false,[]⟩ ⟨0,0,[]⟩with
  |.out=>none
  |.fail e a=>some ([],a,e)
  |.ok d s=>(iy d 100000 d ⟨[],[]⟩).map λg=>if 150<g.2.nodes.length then([],0,2)else(g.2.nodes,(((aG (text.length+1) text 0)[s.k-1]?).map (·.ic)).getD 0,0)
end Go.Loop
namespace Go.Proofs.YtlhimdjkkiflhaaGreatDoor
open Go.Proofs.Tryz
open Go.RowKit Go.Loop
inductive HK where
 |pair
 |vec
 |txt
deriving DecidableEq
def HK.p:HK→Φ
 |.pair=>150
 |.vec=>163
 |.txt=>158
def HK.o:HK→Φ
 |.pair=>161
 |.vec=>165
 |.txt=>218
def lH (h:HK)(b:Nat):Θ:= .iface h.p (aq b)
def lZ (w:Λ)(h:HK)(b:Nat):Prop:=∃cs,w.heap[b]?=some (.cells cs h.o)
theorem lZ.same {w:Λ}{h h':HK}{b:Nat}(x:lZ w h b)(y:lZ w h' b):h=h':=by
 obtain⟨c,hc⟩:=x;obtain⟨c',hc'⟩:=y;rw[hc]at hc';cases h<;>cases h'<;>first|rfl|(simp[HK.o]at hc')
theorem GY:((prog.underlying 58).any λd=>match d with|.interface _=>true|_=>false)=true:=by kernel_rfl
theorem jE:∃ms,prog.underlying 58=some (.interface ms):=by
 have h:=GY;cases hq:prog.underlying 58 with
 |none=>rw[hq]at h;cases h
 |some d=>
  rw[hq]at h;cases d<;>first|exact⟨_,rfl⟩|(simp at h)
section
variable {P:ξ}
theorem oq (d:Nat){ti tx ty:Φ}{ms:Array (String×Φ)}{vx vy:Θ}(w:Λ)(hi:P.underlying ti=some (.interface ms))(h:tx≠ty):(Op.equalIn (d+1) ti (.iface tx vx) (.iface ty vy)).run P w=.ok false w:=by
 simp[Op.equalIn,run_underlying hi,h]
theorem su (b:Bool)(d:Nat){ti tp te:Φ}{ms:Array (String×Φ)}{i:ι}{v:Θ}(w:Λ)(hi:P.underlying ti=some (.interface ms))(hp:P.underlying tp=some (.pointer te))(qh:P.info? tp=some i)(CF:i.comparable=true):(θ b (d+2) ti (.iface tp v)).run P w=.ok () w:=by
 simp[θ,run_underlying hi,run_underlying hp,typeInfo,qh,CF]
end
theorem GZ:prog.underlying 98=some (.map 58 3):=by kernel_rfl
theorem xU (h:HK):prog.underlying h.p=some (.pointer h.o):=by cases h<;>kernel_rfl
theorem Ms (h:HK):(prog.info? h.p).map (λi=>i.comparable)=some true:=by cases h<;>kernel_rfl
theorem Mt (h:HK):(prog.info? h.o).any (λi=>i.size != 0)=true:=by cases h<;>kernel_rfl
theorem ab3 {w:Λ}{h h':HK}{b b':Nat}(x:lZ w h b)(y:lZ w h' b'):(Op.equal 58 (lH h b) (lH h' b')).run prog w=.ok (decide (b=b')) w:=by
 obtain⟨ms,hi⟩:=jE;have qh:=Ms h;cases hq:prog.info? h.p with
 |none=>rw[hq]at qh;cases qh
 |some i=>
  rw[hq]at qh;have CF:i.comparable=true:=by simpa using qh
  have LI:=Mt h;cases xw:prog.info? h.o with
  |none=>rw[xw]at LI;cases LI
  |some j=>
   rw[xw]at LI;have hsz:j.size≠0:=by simpa using LI
   unfold lH aq Op.equal Op.maxDepth;by_cases e:b=b'
   ·subst e;obtain rfl:=x.same y;rw[run_equalIn_iface_ptr_same _ 9998 _ hi (xU h) hq CF xw];simp
   ·by_cases eh:h=h'
    ·subst eh;obtain⟨c,hc⟩:=x;obtain⟨c',hc'⟩:=y;rw[run_equalIn_iface_ptr_other _ 9998 hi (xU h) hq CF xw hsz (λq=>e (by cases q;rfl)) hc hc'];simp[e]
    ·have hp:h.p≠h'.p:=by cases h<;>cases h'<;>first|exact absurd rfl eh|(simp[HK.p])
     rw[oq 9999 w hi hp];simp[e]
def G0 (κ:Nat→HK)(E:Env)(met:List (Nat×Nat)):List (Θ×Θ):=met.reverse.map λp=>(lH (κ p.1) (E.α p.1),Γ Δ p.2)
theorem zR {α β:Type} [BEq α] [LawfulBEq α] (l:List (α×β))(i:α)(h:(l.map (·.1)).Nodup):l.reverse.lookup i=l.lookup i:=by
 induction l with
 |nil=>rfl
 |cons p l ih=>
  obtain⟨a,b⟩:=p;rw[zaD,List.nodup_cons]at h;rw[List.reverse_cons];rw[List.lookup_append,ih h.2];by_cases e:i=a
  ·subst e;have hn:l.lookup i=none:=by
    rw[List.lookup_eq_none_iff];intro q hq;have:q.1≠i:=λe=>h.1 (zbc.2 ⟨q,hq,e⟩);simpa using λe=>this e.symm
   simp[hn]
  ·have he:(i==a)=false:=by simpa using e
   simp only[zcm,he];simp
theorem Er {w:Λ}{κ:Nat→HK}{E:Env}{i:Nat}:∀(es:List MapEntry) (l:List (Nat×Nat)) (n:Nat),es.map (λe=>(e.key,e.val))=l.map (λp=>(lH (κ p.1) (E.α p.1),Θ.int .i64 p.2))→lZ w (κ i) (E.α i)→(∀p∈l,lZ w (κ p.1) (E.α p.1))→(∀p∈l,E.α i=E.α p.1→i=p.1)→∃j,(Instr.findAsking 58 (lH (κ i) (E.α i)) es n).run prog w=.ok ((l.lookup i).map λk=>(j,Θ.int .i64 k)) w
 |[],[],n,_,_,_,_=>⟨0,by simp[Instr.findAsking]⟩
 |[],_::_,_,h,_,_,_=>by simp at h
 |_::_,[],_,h,_,_,_=>by simp at h
 |e::es,(m,v)::l,n,h,hi,hl,kD=>by
  simp only[zaD,zcj,zag]at h;obtain⟨⟨h1,h2⟩,h3⟩:=h;unfold Instr.findAsking;rw[h1];have heq:=ab3 hi (hl _ zam);by_cases hn:i=m
  ·subst hn;exact⟨n,by simp[heq,h2]⟩
  ·have hne:E.α i≠E.α m:=λe=>hn (kD _ zam e);obtain⟨j,hj⟩:=Er es l (n+1) h3 hi (λp hp=>hl p (zap _ hp)) (λp hp=>kD p (zap _ hp));refine⟨j,?_⟩;have hb:(i==m)=false:=by simpa using hn
   simp[heq,hne,hj,List.lookup_cons,hb]
theorem zS (b:Bool)(h:HK)(c:Nat)(w:Λ):(θ b 10000 58 (lH h c)).run prog w=.ok () w:=by
 obtain⟨ms,hi⟩:=jE;have qh:=Ms h;cases hq:prog.info? h.p with
 |none=>rw[hq]at qh;cases qh
 |some i=>
  rw[hq]at qh;have CF:i.comparable=true:=by simpa using qh
  exact su b 9998 w hi (xU h) hq CF
section
variable {w:Λ}{M:Nat}{κ:Nat→HK}{E:Env}{met:List (Nat×Nat)}
theorem G1 (h:j0 w M (G0 κ E met))(i:Nat)(hi:lZ w (κ i) (E.α i))(hl:∀p∈met,lZ w (κ p.1) (E.α p.1))(kD:∀p∈met,E.α i=E.α p.1→i=p.1)(hnd:(met.map (·.1)).Nodup):(Instr.lookup 98 (.map (some M)) (lH (κ i) (E.α i)) true).run prog w=.ok (.tuple #[Γ Δ (((met.lookup i).getD 0:Nat):Int),.bool (met.lookup i).isSome]) w:=by
 obtain⟨es,clock,h1,h2⟩:=h;obtain⟨ms,hint⟩:=jE;have hg:(getObj M).run prog w=.ok (.map es clock) w:=by simp[getObj,Sem.run,h1]
 obtain⟨j,hj⟩:=Er (w:=w) (κ:=κ) (E:=E) (i:=i) es.toList met.reverse 0 h2 hi (λp hp=>hl p (List.mem_reverse.1 hp)) (λp hp=>kD p (List.mem_reverse.1 hp));rw[zR _ _ hnd]at hj;unfold Instr.lookup χ;simp only[zaV,zaO GZ,zaW,hg,zbb,zS,zaO hint];cases hes:es.toList with
 |nil=>
  rw[hes]at hj h2;have hm:met=[]:=by
   have:met.reverse=[]:=by
    have:=zal List.length h2;unfold G0 at this;simp at this;exact List.reverse_eq_nil_iff.2 (zce this.symm)
   simpa using this
  subst hm;simp[η]
 |cons e es'=>
  rw[hes]at hj;have hs:η (.interface ms) (lH (κ i) (E.α i)) (e::es') 0=none:=by simp[η,Instr.sameNow]
  simp only[hs,hj];cases hq:met.lookup i with
  |none=>simp
  |some v=>simp
theorem zT (h:j0 w M (G0 κ E met))(i k:Nat)(hi:lZ w (κ i) (E.α i))(hl:∀p∈met,lZ w (κ p.1) (E.α p.1))(kD:∀p∈met,E.α i=E.α p.1→i=p.1)(hnd:(met.map (·.1)).Nodup)(hn:met.lookup i=none):∃o,(υ 98 (.map (some M)) (lH (κ i) (E.α i)) (Γ Δ k)).run prog w=.ok () { w with heap:=w.heap.setIfInBounds M o }∧j0 { w with heap:=w.heap.setIfInBounds M o } M (G0 κ E ((i,k)::met)):=by
 obtain⟨es,clock,h1,h2⟩:=h;obtain⟨ms,hint⟩:=jE;have hlt:M<w.heap.size:=(zaf.1 h1).1;have hg:(getObj M).run prog w=.ok (.map es clock) w:=by simp[getObj,Sem.run,h1]
 obtain⟨j,hj⟩:=Er (w:=w) (κ:=κ) (E:=E) (i:=i) es.toList met.reverse 0 h2 hi (λp hp=>hl p (List.mem_reverse.1 hp)) (λp hp=>kD p (List.mem_reverse.1 hp));rw[zR _ _ hnd,hn]at hj;refine⟨.map (es.push { key:=lH (κ i) (E.α i),val:= Γ Δ k,born:=clock }) (clock+1),?_,es.push { key:=lH (κ i) (E.α i),val:= Γ Δ k,born:=clock },clock+1,?_,?_⟩
 ·unfold υ χ;simp only[zaV,zaO GZ,zaW,hg,zS,zaO hint];cases hes:es.toList with
  |nil=>simp[η,setObj,Sem.run,h1]
  |cons e es'=>
   rw[hes]at hj;have hs:η (.interface ms) (lH (κ i) (E.α i)) (e::es') 0=none:=by simp[η,Instr.sameNow]
   simp only[hs,hj];simp[setObj,Sem.run,h1]
 ·show(w.heap.setIfInBounds M _)[M]?=_;rw[zbv hlt]
 ·rw[Array.toList_push,zck,h2];simp[G0]
end
theorem dM (w:Λ)(A B:Obj):((w.alloc A).alloc B).heap[w.heap.size+1]?=some B:=by
 rw[show w.heap.size+1=(w.alloc A).heap.size by simp];exact zas _ _
theorem RL (t:Tok)(w:Λ)(hk:t.kind=8):Ω prog 163 #[bB t] w λe w'=>∃b,e=.returned (.tuple #[.iface 158 (aq b),.pointer none])∧w.heap.size≤b∧w'.heap[b]?=some (.cells #[.string ⟨⟨t.text⟩⟩] 218)∧ζ w.heap.size w w':=by
 have q:(((t.kind:Nat):Int)==8)=true:=by rw[hk];rfl
 clear hk;unfold bB;go_enter func163,ntmps163;go_wp2_with fail;go_ret2;refine⟨w.heap.size+1,rfl,by omega,?_,?_⟩
 ·exact dM w _ _
 ·(repeat (first|with_reducible refine zan ?_ (by simp) _|with_reducible refine zaC ?_ (by simp) _));with_reducible exact zad _ _
def kH (t:Tok):Θ:=
 if t.kind=9 then .iface 157 (.agg #[Γ Δ t.n])
 else if t.kind=12 then .iface 155 (.agg #[Γ Δ t.n])
 else if t.kind=14 then .iface 168 (.agg #[.string ⟨⟨t.text⟩⟩])
 else .iface 153 (.agg #[Γ Δ t.n,Γ Δ t.d])
theorem RM (t:Tok)(w:Λ)(h8:¬t.kind=8)(hf:t.kind=9∨t.kind=12∨t.kind=14∨t.fault=0):Ω prog 163 #[bB t] w λe w'=>e=.returned (.tuple #[kH t,.pointer none])∧ζ w.heap.size w w':=by
 have q8:(((t.kind:Nat):Int)==8)=false:=by rw[zai];omega
 by_cases h9:t.kind=9
 ·have e:Hid (kH t=.iface 157 (.agg #[Γ Δ t.n])):=zac h9;have q9:(((t.kind:Nat):Int)==9)=true:=by rw[h9];rfl
  clear h9 hf h8;unfold bB;go_enter func163,ntmps163;go_wp2_with fail;go_ret2;refine⟨by rw[e.out];rfl,?_⟩
  (repeat (first|with_reducible refine zan ?_ (by simp) _|with_reducible refine zaC ?_ (by simp) _));with_reducible exact zad _ _
 have q9:(((t.kind:Nat):Int)==9)=false:=by rw[zai];omega
 by_cases xR:t.kind=12
 ·have e:Hid (kH t=.iface 155 (.agg #[Γ Δ t.n])):=(zaa h9).trans (zac xR);have q12:(((t.kind:Nat):Int)==12)=true:=by rw[xR];rfl
  clear h9 hf h8 xR;unfold bB;go_enter func163,ntmps163;go_wp2_with fail;go_ret2;refine⟨by rw[e.out];rfl,?_⟩
  (repeat (first|with_reducible refine zan ?_ (by simp) _|with_reducible refine zaC ?_ (by simp) _));with_reducible exact zad _ _
 have q12:(((t.kind:Nat):Int)==12)=false:=by rw[zai];omega
 by_cases Jm:t.kind=14
 ·have e:Hid (kH t=.iface 168 (.agg #[.string ⟨⟨t.text⟩⟩])):=((zaa h9).trans (zaa xR)).trans (zac Jm);have q14:(((t.kind:Nat):Int)==14)=true:=by rw[Jm];rfl
  clear h9 hf h8 xR Jm;unfold bB;go_enter func163,ntmps163;go_wp2_with fail;go_ret2;refine⟨by rw[e.out];rfl,?_⟩
  (repeat (first|with_reducible refine zan ?_ (by simp) _|with_reducible refine zaC ?_ (by simp) _));with_reducible exact zad _ _
 ·have q14:(((t.kind:Nat):Int)==14)=false:=by rw[zai];omega
  have e:Hid (kH t=.iface 153 (.agg #[Γ Δ t.n,Γ Δ t.d])):=((zaa h9).trans (zaa xR)).trans (zaa Jm);have qf:(t.fault==0)=true:=by rw[zaJ];omega
  clear h9 hf h8 xR Jm;unfold bB;go_enter func163,ntmps163;go_wp2_with fail;go_ret2;refine⟨by rw[e.out];rfl,?_⟩
  (repeat (first|with_reducible refine zan ?_ (by simp) _|with_reducible refine zaC ?_ (by simp) _));with_reducible exact zad _ _
theorem Kr (t:Tok)(w:Λ)(h:¬t.kind=8∧¬t.kind=9∧¬t.kind=12∧¬t.kind=14)(hf:¬t.fault=0):Ω prog 163 #[bB t] w λe w'=>∃b,e=.returned (.tuple #[.nilIface,aq b])∧w'.heap[b]?=some (.cells #[Γ Δ t.fault,Γ Δ t.from_] 65)∧ζ w.heap.size w w':=by
 obtain⟨h8,h9,xR,Jm⟩:=h;have q8:(((t.kind:Nat):Int)==8)=false:=by rw[zai];omega
 have q9:(((t.kind:Nat):Int)==9)=false:=by rw[zai];omega
 have q12:(((t.kind:Nat):Int)==12)=false:=by rw[zai];omega
 have q14:(((t.kind:Nat):Int)==14)=false:=by rw[zai];omega
 have qf:(t.fault==0)=false:=by rw[zai];exact hf
 have mixed:prog.follows Ξ=true:=by kernel_rfl
 clear h8 h9 xR Jm hf;unfold bB;go_enter func163,ntmps163;go_wp2_with fail;go_region;all_goals
  go_wp2
  go_ret2;refine⟨w.heap.size+1,rfl,?_,?_⟩
  ·exact dM w _ _
  ·(repeat (first|with_reducible refine zan ?_ (by simp) _|with_reducible refine zaS ?_ _|with_reducible refine ζ.drew ?_ |with_reducible refine zaC ?_ (by simp) _));with_reducible exact zad _ _
def fG (w:Λ)(base:Nat):List Θ→Θ→Θ→Prop
 |[],rest,v=>v=rest
 |x::vs,rest,v=>v=.iface 150 (aq (base+vs.length))∧∃v',w.heap[base+vs.length]?=some (.cells #[x,v'] 161)∧fG w base vs rest v'
theorem fG.keep {w w':Λ}{base:Nat}{rest:Θ}:∀(vs:List Θ) (v:Θ),fG w base vs rest v→(∀b,base≤b→b<w.heap.size→w'.heap[b]?=w.heap[b]?)→fG w' base vs rest v
 |[],_,h,_=>h
 |x::vs,v,⟨h1,v',h2,h3⟩,hk=>⟨h1,v',(hk _ (by omega) (zaf.1 h2).1).trans h2,fG.keep vs v' h3 hk⟩
theorem N6 (vs:List Θ)(g cap lo:Nat)(rest:Θ)(w:Λ)(hrow:w.ownsRow lo 58 1 (.slice (some ⟨g,0,none⟩) vs.length cap) vs.length vs)(hn:vs.length≤1000000)(Yd:∀x∈vs,∃t y,x=.iface t y)(Ye:∃t y,rest=.iface t y):Ω prog 221 #[.slice (some ⟨g,0,none⟩) vs.length cap,rest] w λe w'=>∃v,e=.returned v∧fG w' w.heap.size vs rest v∧w'.heap.size=w.heap.size+vs.length∧ζ w.heap.size w w':=by
 have hg:g<w.heap.size:=(hrow.lt g rfl).2;have hcell:Hid (∀(j:Nat) (x:Θ),vs[j]?=some x→w.cell? ⟨g,j,none⟩=some x):=λj x hx=>by
  have hj:j<vs.length:=(zbV.1 hx).1;rw[hrow.cellAt j (by omega),hx]
 clear hrow;go_enter func221,ntmps221;go_wp2_with fail;go_loopw [5,1] (λi r wr=>∃j:Nat,j≤vs.length∧i=Γ Δ ((j:Int)-1)∧wr.heap.size=w.heap.size+(vs.length-j)∧(∃t y,r=.iface t y)∧Hid (fG wr w.heap.size (vs.drop j) rest r)∧Hid (ζ w.heap.size w wr)) (λi _ _=>(intOf i+1).toNat)
 case atStart=>exact⟨vs.length,zab _,by go_num,by omega,Ye,by show fG _ _ _ _ _;rw[List.drop_length];rfl,zad _ _⟩
 case round=>
  obtain⟨j,hj,rfl,hsz,⟨tr,yr,rfl⟩,hC,hB⟩:=hrel;by_cases h0:j=0
  ·subst h0;go_wp2_with fail;go_ret;exact⟨_,rfl,by simpa using hC.out,by simpa using hsz,hB.out⟩
  ·obtain⟨m,rfl⟩:∃m,j=m+1:=⟨j-1,by omega⟩;have hx:vs[m]?=some vs[m]:=zaq (by omega);have hc:Hid (w.cell? ⟨g,m,none⟩=some vs[m]):=hcell.out m _ hx;have hcr:=(hB.out.cell (p:=⟨g,m,none⟩) hg).trans hc.out;obtain⟨tx,yx,hxi⟩:=Yd vs[m] (zbd (by omega));have hdr:Hid (vs.drop m=vs[m]::vs.drop (m+1)):=zbU (by omega);rw[hxi]at hcr hdr;clear hx hc hxi;have hm:m<vs.length:=by omega
   rw[show(((m+1:Nat):Int)-1)=(m:Int) by omega];go_wp2_with fail;go_roundw
   case rel=>exact⟨m,by omega,rfl,by simp;omega,⟨_,_,rfl⟩,by
    show fG _ _ _ _ _;rw[hdr.out];have hl:(vs.drop (m+1)).length=vs.length-(m+1):=zax;refine⟨by rw[hl,←hsz];rfl,.iface tr yr,?_,?_⟩
    ·rw[hl,←hsz];exact zas _ _
    ·exact fG.keep _ _ hC.out λb _ h=>zaK _ _ _ h,hB.out.alloc (by omega) _⟩
   case measure=>simp[intOf]
def jd (d:Nat)(p:Bool)(av:Θ):Θ:= .agg #[Γ Δ d,.bool p,av]
def cQ (w:Λ)(b:Nat)(e:Int)(a:Nat):Prop:=w.heap[b]?=some (.cells #[Γ Δ e,Γ Δ a] 65)
theorem N8 (w:Λ)(A B C D:Obj):((((w.alloc A).alloc B).alloc C).alloc D).heap[w.heap.size+1+1+1]?=some D:=by
 rw[show w.heap.size+1+1+1=(((w.alloc A).alloc B).alloc C).heap.size by simp];exact zas _ _
theorem CG (R dp:Nat)(t:Tok)(d:Nat)(p:Bool)(a:Option Addr)(l c:Nat)(w:Λ)(hR:w.cell? ⟨R,2,none⟩=some (Γ Δ dp))(hlt:R<w.heap.size)(hd:d<1000)(hne:¬d=dp):Ω prog 192 #[aq R,bB t,jd d p (.slice a l c)] w λe w'=>e=.returned (.tuple #[jd (d+1) p (.slice none 0 0),.pointer none])∧ζ w.heap.size w w':=by
 have mixed:prog.follows Ξ=true:=by kernel_rfl
 have q:(((d:Nat):Int)==((dp:Nat):Int))=false:=by rw[zai];omega
 have l1:R<w.heap.size+1:=by omega
 have l2:R<w.heap.size+1+1:=by omega
 have n0:¬R=w.heap.size:=by omega
 have n1:¬R=w.heap.size+1:=by omega
 have n2:¬R=w.heap.size+1+1:=by omega
 unfold bB jd aq;go_enter func192,ntmps192;go_wp2_with fail;go_region;go_wp2_with fail;refine zak (v:= .tuple #[jd (d+1) p (.slice none 0 0),.pointer none]) (by simp[results,results192,jd,go_sem]) rfl ⟨rfl,?_⟩
 (repeat (first|with_reducible refine zan ?_ (by first|(simp;done)|(simp;omega)) _|with_reducible refine ζ.drew ?_ |with_reducible refine zaS ?_ _|with_reducible refine zaC ?_ (by first|(simp;done)|(simp;omega)) _));with_reducible exact zad _ _
theorem xb (R dp:Nat)(t:Tok)(d:Nat)(p:Bool)(a:Option Addr)(l c:Nat)(w:Λ)(hR:w.cell? ⟨R,2,none⟩=some (Γ Δ dp))(hlt:R<w.heap.size)(hd:d=dp):Ω prog 192 #[aq R,bB t,jd d p (.slice a l c)] w λe w'=>∃b,e=.returned (.tuple #[jd 0 false (.slice none 0 0),aq b])∧cQ w' b 6 t.from_∧ζ w.heap.size w w':=by
 have mixed:prog.follows Ξ=true:=by kernel_rfl
 subst hd;have l1:R<w.heap.size+1:=by omega
 have l2:R<w.heap.size+1+1:=by omega
 have n0:¬R=w.heap.size:=by omega
 have n1:¬R=w.heap.size+1:=by omega
 have n2:¬R=w.heap.size+1+1:=by omega
 unfold bB jd aq;go_enter func192,ntmps192;go_wp2_with fail;go_region;go_wp2_with fail;go_region;all_goals
  go_wp2_with fail;refine zak (v:= .tuple #[jd 0 false (.slice none 0 0),aq (w.heap.size+1+1+1)]) (by simp[results,results192,jd,aq,go_sem]) rfl ⟨w.heap.size+1+1+1,rfl,?_,?_⟩
  ·exact N8 w _ _ _ _
  ·(repeat (first|with_reducible refine zan ?_ (by first|(simp;done)|(simp;omega)) _|with_reducible refine ζ.drew ?_ |with_reducible refine zaS ?_ _|with_reducible refine zaC ?_ (by first|(simp;done)|(simp;omega)) _));with_reducible exact zad _ _
def iQ (t:Tok):List Θ:=[Γ Δ t.kind,Γ Δ t.from_,Γ Δ t.ic,.string ⟨⟨t.text⟩⟩,Γ Δ t.n,Γ Δ t.d,Γ Δ t.fault]
abbrev jQ (t:Tok):Obj:= .cells #[Γ Δ t.kind,Γ Δ t.from_,Γ Δ t.ic,.string ⟨⟨t.text⟩⟩,Γ Δ t.n,Γ Δ t.d,Γ Δ t.fault] 131
abbrev jR (d:Nat)(b:Bool)(a:Option Addr)(n c:Nat):Obj:= .cells #[Γ Δ d,.bool b,.slice a n c] 128
structure Kp (R M:Nat) (w w':Λ):Prop where
 os:w'.os=w.os
 tape:w'.tape=w.tape
 output:w'.output=w.output
 size:w.heap.size≤w'.heap.size
 block:∀b,b<w.heap.size→b≠R→b≠M→w'.heap[b]?=w.heap[b]?
theorem Kp.refl (R M:Nat)(w:Λ):Kp R M w w:=⟨rfl,rfl,rfl,zab _,λ_ _ _ _=>rfl⟩
theorem Kp.trans {R M:Nat}{a b c:Λ}(h:Kp R M a b)(k:Kp R M b c):Kp R M a c:=
 ⟨k.os.trans h.os,k.tape.trans h.tape,k.output.trans h.output,zah h.size k.size,λx h1 h2 h3=>(k.block x (zaL h1 h.size) h2 h3).trans (h.block x h1 h2 h3)⟩
theorem Kp.aA {R M:Nat}{w w':Λ}(h:ζ w.heap.size w w'):Kp R M w w':=⟨h.os,h.tape,h.output,h.size,λb hb _ _=>h.block b hb⟩
structure kZ (R M:Nat) (A:Option Nat) (w w':Λ):Prop where
 os:w'.os=w.os
 tape:w'.tape=w.tape
 output:w'.output=w.output
 size:w.heap.size≤w'.heap.size
 block:∀b,b<w.heap.size→b≠R→b≠M→some b≠A→w'.heap[b]?=w.heap[b]?
theorem Kp.a {R M:Nat}{w w':Λ}(h:Kp R M w w')(A:Option Nat):kZ R M A w w':=⟨h.os,h.tape,h.output,h.size,λb h1 h2 h3 _=>h.block b h1 h2 h3⟩
theorem kZ.plain {R M:Nat}{w w':Λ}(h:kZ R M none w w'):Kp R M w w':=⟨h.os,h.tape,h.output,h.size,λb h1 h2 h3=>h.block b h1 h2 h3 (by simp)⟩
theorem kZ.trans {R M:Nat}{A:Option Nat}{a b c:Λ}(h:kZ R M A a b)(k:kZ R M A b c):kZ R M A a c:=
 ⟨k.os.trans h.os,k.tape.trans h.tape,k.output.trans h.output,zah h.size k.size,λx h1 h2 h3 h4=>(k.block x (zaL h1 h.size) h2 h3 h4).trans (h.block x h1 h2 h3 h4)⟩
def xz (E:Env)(aT:List Int):List (Int×Θ):=aT.reverse.map λn=>(n,aq (E.eG n))
structure bU (w:Λ) (R M g cap:Nat) (T:List Tok) (dp:Nat) (E:Env) (s:gK):Prop where
 rm:R≠M
 gr:g≠R
 gm:g≠M
 blk:w.heap[R]?=some (.cells #[.slice (some ⟨g,0,none⟩) T.length cap,Γ Δ s.k,Γ Δ dp,.map (some M)] 123)
 row:w.ownsRow 0 131 7 (.slice (some ⟨g,0,none⟩) T.length cap) T.length (T.flatMap iQ)
 lm:j0 w M ((xz E s.aT).map λp=>(Θ.int .i64 p.1,p.2))
 low:∀n∈s.aT,∃v,w.heap[E.eG n]?=some (.cells #[v] 215)
 inj:∀n∈s.aT,∀m∈s.aT,E.eG n=E.eG m→n=m
 small:T.length≤100000
 deep:dp≤30
theorem bU.lt {w:Λ}{R M g cap:Nat}{T:List Tok}{dp:Nat}{E:Env}{s:gK}(h:bU w R M g cap T dp E s):R<w.heap.size:=(zaf.1 h.blk).1
theorem bU.mlt {w:Λ}{R M g cap:Nat}{T:List Tok}{dp:Nat}{E:Env}{s:gK}(h:bU w R M g cap T dp E s):M<w.heap.size:=by
 obtain⟨es,c,h1,_⟩:=h.lm;exact(zaf.1 h1).1
theorem bU.below {w w':Λ}{R M g cap:Nat}{T:List Tok}{dp:Nat}{E:Env}{s:gK}(h:bU w R M g cap T dp E s)(hb:ζ w.heap.size w w'):bU w' R M g cap T dp E s:=by
 refine⟨h.rm,h.gr,h.gm,(hb.block R h.lt).trans h.blk,aX h.row (zab _) λb _ hlt=>hb.block b hlt,?_,λn hn=>(h.low n hn).imp λv hv=>(hb.block _ (zaf.1 hv).1).trans hv,h.inj,h.small,h.deep⟩;obtain⟨es,c,h1,h2⟩:=h.lm;exact⟨es,c,(hb.block M h.mlt).trans h1,h2⟩
structure Ext (w w':Λ) (E E':Env) (s s':gK):Prop where
 agree:E.agree E' s.fresh s.aT
 fresh:s.fresh≤s'.fresh
 aT:∀n∈s.aT,n∈s'.aT
 new:∀i,s.fresh≤i→i<s'.fresh→w.heap.size≤E'.α i∧E'.α i<w'.heap.size
 inj:∀i j,s.fresh≤i→i<s'.fresh→s.fresh≤j→j<s'.fresh→E'.α i=E'.α j→i=j
theorem Ext.refl {w w':Λ}{E:Env}{s s':gK}(hf:s'.fresh=s.fresh)(hl:s'.aT=s.aT):Ext w w' E E s s':=
 ⟨⟨λ_ _=>rfl,λ_ _=>rfl⟩,by omega,λn h=>by rw[hl];exact h,λi h1 h2=>by omega,λi j h1 h2=>by omega⟩
theorem Ext.trans {a b c:Λ}{E E' E'':Env}{s s' s'':gK}(h:Ext a b E E' s s')(k:Ext b c E' E'' s' s'')(h1:a.heap.size≤b.heap.size)(h2:b.heap.size≤c.heap.size):Ext a c E E'' s s'':=by
 have hf:=h.fresh;have kf:=k.fresh;have ag:∀i,i<s'.fresh→E''.α i=E'.α i:=k.agree.1;refine⟨⟨λi hi=>(ag i (by omega)).trans (h.agree.1 i hi),λn hn=>(k.agree.2 n (h.aT n hn)).trans (h.agree.2 n hn)⟩,by omega,λn hn=>k.aT n (h.aT n hn),λi i1 i2=>?_,λi j i1 i2 j1 j2 e=>?_⟩
 ·rcases zay i s'.fresh with hlt|jN
  ·rw[ag i hlt];have:=h.new i i1 hlt;omega
  ·have:=k.new i jN i2;omega
 ·rcases zay i s'.fresh with hi|hi<;>rcases zay j s'.fresh with hj|hj
  ·rw[ag i hi,ag j hj]at e;exact h.inj i j i1 hi j1 hj e
  ·rw[ag i hi]at e;have:=h.new i i1 hi;have:=k.new j hj j2;omega
  ·rw[ag j hj]at e;have:=h.new j j1 hj;have:=k.new i hi i2;omega
  ·exact k.inj i j hi i2 hj j2 e
def jF (w:Λ)(E:Env)(s:gK)(l:List Int)(av:Θ):Prop:=w.ownsRow 0 212 1 av l.length (l.map λn=>aq (E.eG n))∧(∃a n c,av=.slice a n c)∧∀n∈l,n∈s.aT
def k9 (R M g cap:Nat)(T:List Tok)(dp:Nat)(A:Option Nat)(w:Λ)(E:Env)(s:gK)(r:RR Dt)(e:Ending)(w':Λ):Prop:=
 match r with
 |.out=>True
 |.fail er a=>(∃b,e=.returned (.tuple #[.nilIface,aq b])∧cQ w' b er a)∧kZ R M A w w'
 |.ok d s'=>∃v E',e=.returned (.tuple #[v,.pointer none])∧(∃t y,v=.iface t y)∧bf w.heap.size s'.fresh s'.aT w' E' d v∧Ext w w' E E' s s'∧bU w' R M g cap T dp E' s'∧kZ R M A w w'
def OkT (R M g cap:Nat)(T:List Tok)(dp:Nat)(w:Λ)(E:Env)(s:gK)(r:RR Tok)(e:Ending)(w':Λ):Prop:=
 match r with
 |.out=>True
 |.fail er a=>(∃b t,e=.returned (.tuple #[bB t,aq b])∧cQ w' b er a)∧Kp R M w w'
 |.ok t s'=>∃E',e=.returned (.tuple #[bB t,.pointer none])∧Ext w w' E E' s s'∧bU w' R M g cap T dp E' s'∧Kp R M w w'
theorem zU {T:List Tok}{dp:Nat}:∀n p s t s',bg T dp n p s=.ok t s'→t∈T
 |0,p,s,t,s',h=>by unfold bg at h;cases h
 |n+1,p,s,t,s',h=>by
  unfold bg at h;split at h
  ·cases h
  ·rename_i t0 ht0;split at h
   ·cases h
   ·split at h
    ·cases h
    ·split at h
     ·cases hD:aO T dp n ⟨p.depth,true,[]⟩ { s with k:=s.k+1 } with
      |out=>rw[hD]at h;cases h
      |fail e a=>rw[hD]at h;cases h
      |ok d s1=>rw[hD]at h;exact zU n p s1 t s' h
     ·cases h;exact zcC ht0
section
variable (R M g cap:Nat)(T:List Tok)(dp:Nat)
structure IH (n:Nat):Prop where
 datum:∀p av w E s,bU w R M g cap T dp E s→jF w E s p.ahead av→(p.depth≤dp∧p.ahead.length≤p.depth)→aO T dp n p s≠.out→Ω prog 67 #[aq R,jd p.depth p.passed av] w λe w'=>k9 R M g cap T dp av.ownBlock w E s (aO T dp n p s) e w'
 take:∀p av w E s,bU w R M g cap T dp E s→jF w E s p.ahead av→(p.depth≤dp∧p.ahead.length≤p.depth)→bg T dp n p s≠.out→Ω prog 105 #[aq R,jd p.depth p.passed av] w λe w'=>OkT R M g cap T dp w E s (bg T dp n p s) e w'
 RJ:∀t p av w E s,t∈T→bU w R M g cap T dp E s→jF w E s p.ahead av→(p.depth≤dp∧p.ahead.length≤p.depth)→cE T dp n t p s≠.out→Ω prog 106 #[aq R,bB t,jd p.depth p.passed av] w λe w'=>k9 R M g cap T dp av.ownBlock w E s (cE T dp n t p s) e w'
def Ks:Prop:=∀N,(∀n,n≤N→IH R M g cap T dp n)→∀(p:Pl),p.ahead=[]→∀(w:Λ) (E:Env) (s:gK),bU w R M g cap T dp E s→(p.depth≤dp∧p.ahead.length≤p.depth)→∀r:RR Dt,(r=(rP T dp (N+1) [] p { s with fresh:=s.fresh+1 }).bind λl s'=> .ok (.vec s.fresh (Wq l)) s')→r≠.out→Ω prog 194 #[aq R,jd p.depth p.passed (.slice none 0 0)] w λe w'=>k9 R M g cap T dp none w E s r e w'
def Kt:Prop:=∀n,IH R M g cap T dp n→∀(p:Pl),p.ahead=[]→∀(w:Λ) (E:Env) (s:gK),bU w R M g cap T dp E s→(p.depth≤dp∧p.ahead.length≤p.depth)→∀r:RR Dt,(r=(aO T dp n p s).bind λd s=> .ok (aS [.sym [113,117,111,116,101],d] .nil s.fresh).1 { s with fresh:=s.fresh+2 })→r≠.out→Ω prog 195 #[aq R,jd p.depth p.passed (.slice none 0 0)] w λe w'=>k9 R M g cap T dp none w E s r e w'
end
theorem Ext.wid {w w1 w2 w3:Λ}{E E':Env}{s s':gK}(h:Ext w1 w2 E E' s s')(h1:w.heap.size≤w1.heap.size)(h2:w2.heap.size≤w3.heap.size):Ext w w3 E E' s s':=
 ⟨h.agree,h.fresh,h.aT,λi a b=>by have:=h.new i a b;omega,h.inj⟩
theorem jF.kp {w w':Λ}{R M g cap:Nat}{T:List Tok}{dp:Nat}{E E':Env}{s s':gK}{l:List Int}{av:Θ}(h:jF w E s l av)(hr:bU w R M g cap T dp E s)(hk:Kp R M w w')(ha:E.agree E' s.fresh s.aT)(hl:∀n∈s.aT,n∈s'.aT):jF w' E' s' l av:=by
 refine⟨?_,h.2.1,λn hn=>hl n (h.2.2 n hn)⟩;have e:(l.map λn=>aq (E'.eG n))=l.map λn=>aq (E.eG n):=List.map_congr_left λn hn=>by rw[ha.2 n (h.2.2 n hn)]
 rw[e];refine⟨h.1.1,h.1.2.imp id ?_⟩;rintro ⟨b,cp,cur,h1,h2,h3,h4⟩;have hlt:b<w.heap.size:=(zaf.1 h3).1;have hR:b≠R:=λe=>by rw[e,hr.blk]at h3;simp at h3
 have hM:b≠M:=λe=>by obtain⟨es,c,q,_⟩:=hr.lm;rw[e,q]at h3;cases h3
 exact⟨b,cp,cur,h1,h2,(hk.block b hlt hR hM).trans h3,h4⟩
theorem jF.below {w w':Λ}{E:Env}{s:gK}{l:List Int}{av:Θ}(h:jF w E s l av)(hb:ζ w.heap.size w w'):jF w' E s l av:=
 ⟨aX h.1 (zab _) λb _ hlt=>hb.block b hlt,h.2.1,h.2.2⟩
theorem cQ.alloc {w:Λ}{b:Nat}{e:Int}{a:Nat}(h:cQ w b e a)(o:Obj):cQ (w.alloc o) b e a:=(zaK _ _ _ (zaf.1 h).1).trans h
theorem fR {w1:Λ}{b:Nat}{x0 x1 x2:Θ}{e:Φ}(h:w1.heap[b]?=some (.cells #[x0,x1,x2] e)):(w1.cell? ⟨b,0,none⟩=some x0∧w1.cell? ⟨b,1,none⟩=some x1∧w1.cell? ⟨b,2,none⟩=some x2):=by
 refine⟨?_,?_,?_⟩<;>simp[Λ.cell?,h]
section
variable {R M g cap:Nat}{T:List Tok}{dp:Nat}
theorem Ku {N:Nat}(ih:IH R M g cap T dp N)(p:Pl)(av:Θ)(w:Λ)(E:Env)(s:gK)(hr:bU w R M g cap T dp E s)(ha:jF w E s p.ahead av)(hd:p.depth≤dp∧p.ahead.length≤p.depth)(ho:aO T dp (N+1) p s≠.out):Ω prog 67 #[aq R,jd p.depth p.passed av] w λe w'=>k9 R M g cap T dp av.ownBlock w E s (aO T dp (N+1) p s) e w':=by
 have heq:aO T dp (N+1) p s=(bg T dp N p s).bind λt s=>cE T dp N t p s:=rfl;rw[heq]at ho ⊢;obtain⟨⟨a0,n0,c0,rfl⟩⟩:=(⟨ha.2.1⟩:Nonempty _);have hb0:ζ w.heap.size w (w.alloc (jR p.depth p.passed a0 n0 c0)):=(zad _ w).alloc (zab _) _;have HR:Hid _:=hr.below hb0;have HA:Hid _:=ha.below hb0;have HB:Hid _:=hb0;have HP:Hid _:=zas w (jR p.depth p.passed a0 n0 c0);have RN:(w.alloc (jR p.depth p.passed a0 n0 c0)).heap.size=w.heap.size+1:=by simp
 have hne:bg T dp N p s≠.out:=λh=>ho (by rw[h];rfl);have HT:Hid _:=ih.take p (.slice a0 n0 c0) _ E s HR.out HA.out hd hne;have Ws:R<w.heap.size:=hr.lt;have nT:M<w.heap.size:=hr.mlt;have HI:Hid _:=ih;have HO:Hid _:=ho;clear hr ha hb0 ih ho heq hne;generalize hw0:w.alloc (jR p.depth p.passed a0 n0 c0)=w0 at *;have Z7:Hid _:=hw0;clear hw0;cases hT:bg T dp N p s with
 |out=>exact absurd (by rw[hT];rfl) HO.out
 |fail er a=>
  rw[hT]at HT;unfold jd aq at HT ⊢;go_enter func67,ntmps67;go_wp2_with fail;rw[Z7.out];refine zae HT.out ?_;rintro e w1 ⟨⟨b,t,rfl,hf⟩,hk⟩;have HF:Hid _:=hf;have HK:Hid _:=hk;clear hf hk HT;unfold bB aq;go_wp2_with fail;go_ret2;have hs1:=HK.out.size;exact⟨⟨b,rfl,cQ.alloc HF.out _⟩,((Kp.aA HB.out).trans (Kp.trans HK.out (Kp.aA ((zad _ _).alloc (zab _) _)))).a _⟩
 |ok t s1=>
  have HMt:Hid (t∈T):=zU _ _ _ _ _ hT;rw[hT]at HT;have HO':Hid (cE T dp N t p s1≠.out):=by have:=HO.out;rw[hT]at this;exact this
  unfold jd aq at HT ⊢;go_enter func67,ntmps67;go_wp2_with fail;rw[Z7.out];refine zae HT.out ?_;rintro e w1 ⟨E1,rfl,hx,hr1,hk⟩;have BC:=(hk.block w.heap.size (by omega) (by omega) (by omega)).trans HP.out;obtain⟨x0,x1,x2⟩:=fR BC;have hs1:=hk.size;have hl0:w.heap.size<w1.heap.size:=by omega
  have RD:¬w.heap.size=w1.heap.size:=by omega
  have hl2:¬w1.heap.size=w.heap.size:=by omega
  have hb1:ζ w1.heap.size w1 (w1.alloc (jQ t)):=(zad _ _).alloc (zab _) _;have ou:Hid _:=hr1.below hb1;have RO:Hid _:=jF.below (jF.kp HA.out HR.out hk hx.agree hx.aT) hb1;have HF:Hid _:=HI.out.RJ t p (.slice a0 n0 c0) _ E1 s1 HMt.out ou.out RO.out hd HO'.out;have HX:Hid _:=hx;have HK:Hid _:=hk;have je:Hid _:=hb1;clear hx hk hr1 hb1 HT BC;unfold bB aq jd at HF;unfold bB;go_wp2_with fail;refine zae HF.out ?_;clear HF;intro e2 w2 cg;have en:Kp R M w (w1.alloc (jQ t)):=(Kp.aA HB.out).trans (Kp.trans HK.out (Kp.aA je.out));have hxx:Ext w (w1.alloc (jQ t)) E E1 s s1:=Ext.wid HX.out (by omega) (by simp);generalize w1.alloc (jQ t)=w3 at *;cases hF:cE T dp N t p s1 with
  |out=>exact absurd hF HO'.out
  |fail er a=>
   rw[hF]at cg;obtain⟨⟨b,rfl,hf⟩,hk2⟩:=cg;have HG:Hid (k9 R M g cap T dp (Θ.slice a0 n0 c0).ownBlock w E s (RR.fail er a) (.returned (.tuple #[.nilIface,aq b])) w2):=⟨⟨b,rfl,hf⟩,(en.a _).trans hk2⟩;have HE:Hid (((RR.ok t s1).bind λt s=>cE T dp N t p s)=RR.fail er a):=hF;clear hf hk2 en hxx;unfold aq;go_wp2_with fail;go_ret2;rw[HE.out];exact HG.out
  |ok d s2=>
   rw[hF]at cg;obtain⟨v,E2,rfl,⟨ty,y,rfl⟩,cI,hx2,hr2,hk2⟩:=cg;have h3:=en.size;have h4:=hk2.size;have HG:Hid (k9 R M g cap T dp (Θ.slice a0 n0 c0).ownBlock w E s (RR.ok d s2) (.returned (.tuple #[.iface ty y,.pointer none])) w2):=
    ⟨.iface ty y,E2,rfl,⟨ty,y,rfl⟩,bf.keep h3 (zab _) (λ_ h=>h) (λ_ _ _=>rfl) ⟨λ_ _=>rfl,λ_ _=>rfl⟩ d _ cI,hxx.trans hx2 h3 h4,hr2,(en.a _).trans hk2⟩
   have HE:Hid (((RR.ok t s1).bind λt s=>cE T dp N t p s)=RR.ok d s2):=hF;clear cI hx2 hr2 hk2 en hxx;go_wp2_with fail;go_ret2;rw[HE.out];exact HG.out
end
end Go.Proofs.YtlhimdjkkiflhaaGreatDoor
namespace Go.Proofs.YtlhimdjkkiflhaaGreatDoor
open Go.RowKit Go.Loop
theorem RR.gA {α β:Type}{x:RR α}{f:α→gK→RR β}{b:β}{s':gK}(h:x.bind f=.ok b s'):∃a s1,x=.ok a s1∧f a s1=.ok b s':=by
 cases x with
 |out=>cases h
 |fail e a=>cases h
 |ok a s1=>exact⟨a,s1,rfl,h⟩
section
variable (T:List Tok)(dp:Nat)
structure ab4 (n:Nat):Prop where
 datum:∀p s d s',aO T dp n p s=.ok d s'→s.k≤s'.k
 take:∀p s d s',bg T dp n p s=.ok d s'→s.k≤s'.k
 RJ:∀t p s d s',cE T dp n t p s=.ok d s'→s.k≤s'.k
 list:∀l p s d s',cr T dp n l p s=.ok d s'→s.k≤s'.k
 vec:∀l p s d s',rP T dp n l p s=.ok d s'→s.k≤s'.k
theorem grows:∀n,ab4 T dp n
 |0=>⟨λ_ _ _ _ h=>(by unfold aO at h;cases h),λ_ _ _ _ h=>(by unfold bg at h;cases h),λ_ _ _ _ _ h=>(by unfold cE at h;cases h),λ_ _ _ _ _ h=>(by unfold cr at h;cases h),λ_ _ _ _ _ h=>(by unfold rP at h;cases h)⟩
 |n+1=>by
  have ih:=grows n;refine⟨λp s d s' h=>?_,λp s d s' h=>?_,λt p s d s' h=>?_,λl p s d s' h=>?_,λl p s d s' h=>?_⟩
  ·unfold aO at h;obtain⟨t,s1,h1,h2⟩:=RR.gA h;have:=ih.take _ _ _ _ h1;have:=ih.RJ _ _ _ _ _ h2;omega
  ·unfold bg at h;split at h
   ·cases h
   ·split at h
    ·cases h
    ·split at h
     ·cases h
     ·split at h
      ·obtain⟨t,s1,h1,h2⟩:=RR.gA h;have:=ih.datum _ _ _ _ h1;have:=ih.take _ _ _ _ h2;simp at *;omega
      ·cases h;simp
  ·unfold cE at h;split at h
   ·cases h
   ·split at h
    ·split at h
     ·cases h
     ·split at h
      ·cases h
      ·obtain⟨t,s1,h1,h2⟩:=RR.gA h;have:=ih.datum _ _ _ _ h1;cases h2;exact this
    ·split at h
     ·split at h
      ·cases h
      ·cases h;exact zab _
     ·split at h
      ·split at h
       ·cases h
       ·split at h
        ·obtain⟨t,s1,h1,h2⟩:=RR.gA h;have:=ih.vec _ _ _ _ _ h1;cases h2;exact this
        ·split at h
         ·obtain⟨t,s1,h1,h2⟩:=RR.gA h;have:=ih.datum _ _ _ _ h1;cases h2;exact this
         ·exact ih.list _ _ _ _ _ h
      ·unfold zQ at h;repeat' split at h
       all_goals first|(cases h;done)|(cases h;exact zab _)
  ·unfold cr at h;obtain⟨t,s1,h1,h2⟩:=RR.gA h;have a1:=ih.take _ _ _ _ h1;split at h2
   ·cases h2;exact a1
   ·split at h2
    ·obtain⟨r,s2,h3,h4⟩:=RR.gA h2;have a2:=ih.datum _ _ _ _ h3;obtain⟨r',s3,h5,h6⟩:=RR.gA h4;have a3:=ih.take _ _ _ _ h5;split at h6
     ·cases h6;simp;omega
     ·cases h6
    ·obtain⟨r,s2,h3,h4⟩:=RR.gA h2;have a2:=ih.RJ _ _ _ _ _ h3;have a3:=ih.list _ _ _ _ _ h4;omega
  ·unfold rP at h;obtain⟨t,s1,h1,h2⟩:=RR.gA h;have a1:=ih.take _ _ _ _ h1;split at h2
   ·cases h2;exact a1
   ·split at h2
    ·cases h2
    ·obtain⟨r,s2,h3,h4⟩:=RR.gA h2;have a2:=ih.RJ _ _ _ _ _ h3;have a3:=ih.vec _ _ _ _ _ h4;omega
end
end Go.Proofs.YtlhimdjkkiflhaaGreatDoor
namespace Go.Proofs.YtlhimdjkkiflhaaGreatDoor
open Go.Proofs.Tryz
open Go.RowKit Go.Loop
theorem RP:∀(T:List Tok) (k j:Nat) (t:Tok),T[k]?=some t→j<7→(T.flatMap iQ)[k*7+j]?=(iQ t)[j]?
 |[],k,j,t,h,_=>by simp at h
 |x::T,0,j,t,h,hj=>by
  simp at h;subst h;rw[List.flatMap_cons,zbF (by simp[iQ];omega)];simp
 |x::T,k+1,j,t,h,hj=>by
  rw[List.flatMap_cons,zbw (by simp[iQ];omega)];have:=RP T k j t (by simpa using h) hj;rw[show(k+1)*7+j-(iQ x).length=k*7+j by simp[iQ];omega];exact this
theorem bU.tok {w:Λ}{R M g cap:Nat}{T:List Tok}{dp:Nat}{E:Env}{s:gK}(h:bU w R M g cap T dp E s){t:Tok}(ht:T[s.k]?=some t):w.cell? ⟨g,s.k*7,none⟩=some (Γ Δ t.kind)∧w.cell? ⟨g,s.k*7+1,none⟩=some (Γ Δ t.from_)∧w.cell? ⟨g,s.k*7+2,none⟩=some (Γ Δ t.ic)∧w.cell? ⟨g,s.k*7+3,none⟩=some (.string ⟨⟨t.text⟩⟩)∧w.cell? ⟨g,s.k*7+4,none⟩=some (Γ Δ t.n)∧w.cell? ⟨g,s.k*7+5,none⟩=some (Γ Δ t.d)∧w.cell? ⟨g,s.k*7+6,none⟩=some (Γ Δ t.fault):=by
 have hlt:s.k<T.length:=(zbV.1 ht).1;have key:∀j,j<7→w.cell? ⟨g,s.k*7+j,none⟩=(iQ t)[j]?:=λj hj=>by rw[h.row.cellAt _ (by omega),RP T s.k j t ht hj]
 exact⟨key 0 (by omega),key 1 (by omega),key 2 (by omega),key 3 (by omega),key 4 (by omega),key 5 (by omega),key 6 (by omega)⟩
theorem jG {w1:Λ}{b:Nat}{x0 x1 x2 x3:Θ}{e:Φ}(h:w1.heap[b]?=some (.cells #[x0,x1,x2,x3] e)):(w1.cell? ⟨b,0,none⟩=some x0∧w1.cell? ⟨b,1,none⟩=some x1∧w1.cell? ⟨b,2,none⟩=some x2∧w1.cell? ⟨b,3,none⟩=some x3)∧w1.frozen? ⟨b,1,none⟩=false:=by
 refine⟨⟨?_,?_,?_,?_⟩,?_⟩<;>simp[Λ.cell?,Λ.frozen?,h]
theorem Kp.ov {R M:Nat}{w wr w':Λ}(h:Kp R M w wr)(k:ζ w.heap.size wr w'):Kp R M w w':=
 ⟨k.os.trans h.os,k.tape.trans h.tape,k.output.trans h.output,zah h.size k.size,λb h1 h2 h3=>(k.block b h1).trans (h.block b h1 h2 h3)⟩
theorem Yf (w1:Λ)(c b:Nat)(hb:b≠c)(v0 v1 v2 v3 v4 v5 v6:Θ):(((((((w1.setCell ⟨c,0,none⟩ v0).setCell ⟨c,1,none⟩ v1).setCell ⟨c,2,none⟩ v2).setCell ⟨c,3,none⟩ v3).setCell ⟨c,4,none⟩ v4).setCell ⟨c,5,none⟩ v5).setCell ⟨c,6,none⟩ v6).heap[b]?=w1.heap[b]?:=by
 rw[zau _ _ _ _ hb,zau _ _ _ _ hb,zau _ _ _ _ hb,zau _ _ _ _ hb,zau _ _ _ _ hb,zau _ _ _ _ hb,zau _ _ _ _ hb]
@[reducible] def ox (w1:Λ) (c:Nat) (v0 v1 v2 v3 v4 v5 v6:Θ):Λ:=((((((w1.setCell ⟨c,0,none⟩ v0).setCell ⟨c,1,none⟩ v1).setCell ⟨c,2,none⟩ v2).setCell ⟨c,3,none⟩ v3).setCell ⟨c,4,none⟩ v4).setCell ⟨c,5,none⟩ v5).setCell ⟨c,6,none⟩ v6
theorem G3 (w1:Λ)(c:Nat)(v0 v1 v2 v3 v4 v5 v6:Θ):(ox w1 c v0 v1 v2 v3 v4 v5 v6).heap.size=w1.heap.size:=by simp[ox]
theorem CH (wr:Λ)(c:Nat)(v0 v1 v2 v3 v4 v5 v6:Θ)(A B:Obj):((((ox wr c v0 v1 v2 v3 v4 v5 v6).alloc A).alloc B).drew.drew).heap[wr.heap.size+1]?=some B:=by
 have:=dM (ox wr c v0 v1 v2 v3 v4 v5 v6) A B;rw[G3]at this;exact this
theorem sw (wr:Λ)(c B:Nat)(h:B≤c)(v0 v1 v2 v3 v4 v5 v6:Θ):ζ B wr (ox wr c v0 v1 v2 v3 v4 v5 v6):=
 (((((((zad B wr).setCell (p:=⟨c,0,none⟩) h _).setCell (p:=⟨c,1,none⟩) h _).setCell (p:=⟨c,2,none⟩) h _).setCell (p:=⟨c,3,none⟩) h _).setCell (p:=⟨c,4,none⟩) h _).setCell (p:=⟨c,5,none⟩) h _).setCell (p:=⟨c,6,none⟩) h _
theorem CI (wr:Λ)(c B:Nat)(h:B≤c)(hB:B≤wr.heap.size)(v0 v1 v2 v3 v4 v5 v6:Θ)(A C:Obj):ζ B wr ((((ox wr c v0 v1 v2 v3 v4 v5 v6).alloc A).alloc C).drew.drew):=
 ((((sw wr c B h v0 v1 v2 v3 v4 v5 v6).alloc (by rw[G3];exact hB) _).alloc (by simp;omega) _).drew).drew
theorem eC {w1:Λ}{c:Nat}{cs:Array Θ}{e:Φ}(h:w1.heap[c]?=some (.cells cs e))(j:Nat)(v:Θ):(w1.setCell ⟨c,j,none⟩ v).heap[c]?=some (.cells (cs.setIfInBounds j v) e):=by
 unfold Λ.setCell;simp only[zcp,if_true,h,zbk];rfl
theorem zV {w1:Λ}{c:Nat}{u0 u1 u2 u3 u4 u5 u6:Θ}{e:Φ}(h:w1.heap[c]?=some (.cells #[u0,u1,u2,u3,u4,u5,u6] e))(v0 v1 v2 v3 v4 v5 v6:Θ):(ox w1 c v0 v1 v2 v3 v4 v5 v6).heap[c]?=some (.cells #[v0,v1,v2,v3,v4,v5,v6] e):=by
 have:=eC (eC (eC (eC (eC (eC (eC h 0 v0) 1 v1) 2 v2) 3 v3) 4 v4) 5 v5) 6 v6;unfold ox;rw[this];simp
theorem N9 {wr:Λ}{c:Nat}{u0 u1 u2 u3 u4 u5 u6:Θ}{e:Φ}(h:wr.heap[c]?=some (.cells #[u0,u1,u2,u3,u4,u5,u6] e))(v0 v1 v2 v3 v4 v5 v6:Θ)(A B:Obj)(W:Λ)(hW:W=(((ox wr c v0 v1 v2 v3 v4 v5 v6).alloc A).alloc B).drew.drew):W.cell? ⟨c,0,none⟩=some v0∧W.cell? ⟨c,1,none⟩=some v1∧W.cell? ⟨c,2,none⟩=some v2∧W.cell? ⟨c,3,none⟩=some v3∧W.cell? ⟨c,4,none⟩=some v4∧W.cell? ⟨c,5,none⟩=some v5∧W.cell? ⟨c,6,none⟩=some v6:=by
 have hl:c<wr.heap.size:=(zaf.1 h).1;have h7:=zV h v0 v1 v2 v3 v4 v5 v6;have hs:=G3 wr c v0 v1 v2 v3 v4 v5 v6;have hd:W.heap=(((ox wr c v0 v1 v2 v3 v4 v5 v6).alloc A).alloc B).heap:=by rw[hW];rfl
 clear hW;generalize ox wr c v0 v1 v2 v3 v4 v5 v6=w1 at *;have hb:W.heap[c]?=some (.cells #[v0,v1,v2,v3,v4,v5,v6] e):=by
  rw[hd,zaK _ _ _ (by simp;omega),zaK _ _ _ (by omega),h7]
 refine⟨?_,?_,?_,?_,?_,?_,?_⟩<;>simp[Λ.cell?,hb]
theorem rQ {P:ξ}{fn:Func}{Q:Ending→Λ→Prop}{a:Act}{wr:Λ}{c:Nat}{u0 u1 u2 u3 u4 u5 u6:Θ}{e:Φ}(h:wr.heap[c]?=some (.cells #[u0,u1,u2,u3,u4,u5,u6] e)){v0 v1 v2 v3 v4 v5 v6:Θ}{A B:Obj}{v:Θ}
 (hr:∀W:Λ,W.cell? ⟨c,0,none⟩=some v0→W.cell? ⟨c,1,none⟩=some v1→W.cell? ⟨c,2,none⟩=some v2→W.cell? ⟨c,3,none⟩=some v3→W.cell? ⟨c,4,none⟩=some v4→W.cell? ⟨c,5,none⟩=some v5→W.cell? ⟨c,6,none⟩=some v6→(results fn a.tmps).run P W=.ok v W)
 (hd:a.defers=[])(hR:Q (.returned v) (((ox wr c v0 v1 v2 v3 v4 v5 v6).alloc A).alloc B).drew.drew):bodyPost P fn Q .ret a (((ox wr c v0 v1 v2 v3 v4 v5 v6).alloc A).alloc B).drew.drew:=by
 obtain⟨y0,y1,y2,y3,y4,y5,y6⟩:=N9 h v0 v1 v2 v3 v4 v5 v6 A B _ rfl;exact zak (hr _ y0 y1 y2 y3 y4 y5 y6) hd hR
theorem pc {P:ξ}{fn:Func}{Q:Ending→Λ→Prop}{a:Act}{W:Λ}{c:Nat}{v0 v1 v2 v3 v4 v5 v6:Θ}{e:Φ}{v:Θ}(h:W.heap[c]?=some (.cells #[v0,v1,v2,v3,v4,v5,v6] e))
 (hr:W.cell? ⟨c,0,none⟩=some v0→W.cell? ⟨c,1,none⟩=some v1→W.cell? ⟨c,2,none⟩=some v2→W.cell? ⟨c,3,none⟩=some v3→W.cell? ⟨c,4,none⟩=some v4→W.cell? ⟨c,5,none⟩=some v5→W.cell? ⟨c,6,none⟩=some v6→(results fn a.tmps).run P W=.ok v W)
 (hd:a.defers=[])(hR:Q (.returned v) W):bodyPost P fn Q .ret a W:=
 zak (hr (by simp[Λ.cell?,h]) (by simp[Λ.cell?,h]) (by simp[Λ.cell?,h]) (by simp[Λ.cell?,h]) (by simp[Λ.cell?,h]) (by simp[Λ.cell?,h]) (by simp[Λ.cell?,h])) hd hR
theorem RQ {R M:Nat}(w:Λ)(j:Nat)(v:Θ):Kp R M w (w.setCell ⟨R,j,none⟩ v):=
 ⟨rfl,rfl,rfl,by simp,λb _ h2 _=>zau _ _ _ _ h2⟩
theorem Wt {R M:Nat}(w:Λ)(j:Nat)(v:Θ)(A:Obj):Kp R M w ((w.setCell ⟨R,j,none⟩ v).alloc A).drew:=
 (RQ w j v).trans (Kp.aA (((zad _ _).alloc (zab _) _).drew))
theorem bU.step {w w':Λ}{R M g cap:Nat}{T:List Tok}{dp:Nat}{E:Env}{s:gK}(h:bU w R M g cap T dp E s){k:Nat}(hR:w'.heap[R]?=some (.cells #[.slice (some ⟨g,0,none⟩) T.length cap,Γ Δ k,Γ Δ dp,.map (some M)] 123))(_:w.heap.size≤w'.heap.size)(hk:∀b,b<w.heap.size→b=g∨b=M→w'.heap[b]?=w.heap[b]?)(hl:∀(b:Nat) (v:Θ),w.heap[b]?=some (.cells #[v] 215)→w'.heap[b]?=w.heap[b]?):bU w' R M g cap T dp E { s with k:=k }:=by
 have hg:=(h.row.lt g rfl).2;refine⟨h.rm,h.gr,h.gm,hR,?_,?_,λn hn=>(h.low n hn).imp λv hv=>(hl _ v hv).trans hv,h.inj,h.small,h.deep⟩
 ·refine⟨h.row.1,h.row.2.imp id ?_⟩;rintro ⟨b,cp,cur,h1,h2,h3,h4⟩;have:b=g:=by cases h1;rfl
  exact⟨b,cp,cur,h1,h2,(hk b (zaf.1 h3).1 (.inl this)).trans h3,h4⟩
 ·obtain⟨es,c,h1,h2⟩:=h.lm;exact⟨es,c,(hk M h.mlt (.inr rfl)).trans h1,h2⟩
theorem bU.step1 {wr:Λ}{R M g cap:Nat}{T:List Tok}{dp:Nat}{E:Env}{s:gK}(h:bU wr R M g cap T dp E s)(A:Obj):bU ((wr.setCell ⟨R,1,none⟩ (Γ Δ ((s.k:Int)+1))).alloc A).drew R M g cap T dp E { s with k:=s.k+1 }:=by
 have hb:=eC h.blk 1 (Γ Δ ((s.k:Int)+1));have hl:=h.lt;have e0:∀b,b<wr.heap.size→(((wr.setCell ⟨R,1,none⟩ (Γ Δ ((s.k:Int)+1))).alloc A).drew).heap[b]?=(wr.setCell ⟨R,1,none⟩ (Γ Δ ((s.k:Int)+1))).heap[b]?:=λb h=>zaK _ _ _ (by simp;exact h);refine bU.step h ?_ (by simp) (λb hb1 hb2=>?_) λb v hv=>?_
 ·rw[e0 R hl,hb];simp
 rotate_left
 ·rw[e0 b (zaf.1 hv).1];exact zau _ _ _ _ (λe=>by rw[e,h.blk]at hv;simp at hv)
 ·rw[e0 b hb1];exact zau _ _ _ _ (hb2.elim (λe=>by rw[e];exact h.gr) (λe=>by rw[e];exact λx=>h.rm x.symm))
theorem Z8 {wr:Λ}{R c:Nat}(hc:c≠R){u0 u1 u2 u3 u4 u5 u6:Θ}{e:Φ}(h:wr.heap[c]?=some (.cells #[u0,u1,u2,u3,u4,u5,u6] e))(v v0 v1 v2 v3 v4 v5 v6:Θ)(A:Obj):((ox (wr.setCell ⟨R,1,none⟩ v) c v0 v1 v2 v3 v4 v5 v6).alloc A).drew.heap[c]?=some (.cells #[v0,v1,v2,v3,v4,v5,v6] e):=by
 have h7:=zV ((zau wr ⟨R,1,none⟩ v c hc).trans h) v0 v1 v2 v3 v4 v5 v6;generalize ox (wr.setCell ⟨R,1,none⟩ v) c v0 v1 v2 v3 v4 v5 v6=w1 at *;show(w1.alloc A).heap[c]?=_;rw[zaK _ _ _ (zaf.1 h7).1,h7]
theorem Wu {R M c:Nat}{w wr:Λ}(hk:Kp R M w wr)(h:w.heap.size≤c)(v v0 v1 v2 v3 v4 v5 v6:Θ)(A:Obj):Kp R M w ((ox (wr.setCell ⟨R,1,none⟩ v) c v0 v1 v2 v3 v4 v5 v6).alloc A).drew:=
 Kp.ov (hk.trans (RQ wr 1 v)) (((sw _ c w.heap.size h v0 v1 v2 v3 v4 v5 v6).alloc (by rw[G3];simp;exact hk.size) _).drew)
theorem bU.Z8 {wr:Λ}{R M g cap c:Nat}{T:List Tok}{dp:Nat}{E:Env}{s:gK}(h:bU wr R M g cap T dp E s)(h1:c≠R)(h2:c≠M)(h3:c≠g)(h4:wr.heap[c]?=some T0)(v0 v1 v2 v3 v4 v5 v6:Θ)(A:Obj):bU ((ox (wr.setCell ⟨R,1,none⟩ (Γ Δ ((s.k:Int)+1))) c v0 v1 v2 v3 v4 v5 v6).alloc A).drew R M g cap T dp E { s with k:=s.k+1 }:=by
 have hb:=eC h.blk 1 (Γ Δ ((s.k:Int)+1));have hl:=h.lt;have hs:=G3 (wr.setCell ⟨R,1,none⟩ (Γ Δ ((s.k:Int)+1))) c v0 v1 v2 v3 v4 v5 v6;have hh:∀b,b≠c→(ox (wr.setCell ⟨R,1,none⟩ (Γ Δ ((s.k:Int)+1))) c v0 v1 v2 v3 v4 v5 v6).heap[b]?=(wr.setCell ⟨R,1,none⟩ (Γ Δ ((s.k:Int)+1))).heap[b]?:=λb hc=>Yf _ c b hc _ _ _ _ _ _ _;generalize ox (wr.setCell ⟨R,1,none⟩ (Γ Δ ((s.k:Int)+1))) c v0 v1 v2 v3 v4 v5 v6=w1 at *;have hs1:w1.heap.size=wr.heap.size:=by rw[hs];simp
 have e0:∀b,b<wr.heap.size→b≠c→(w1.alloc A).drew.heap[b]?=(wr.setCell ⟨R,1,none⟩ (Γ Δ ((s.k:Int)+1))).heap[b]?:=λb h hc=>by
  show(w1.alloc A).heap[b]?=_;rw[zaK _ _ _ (by omega),hh b hc]
 refine bU.step h ?_ ?_ (λb hb1 hb2=>?_) λb v hv=>?_
 ·rw[e0 R hl h1.symm,hb];simp
 ·simp;omega
 rotate_left
 ·rw[e0 b (zaf.1 hv).1 (λe=>by rw[e,h4]at hv;simp[T0]at hv)];exact zau _ _ _ _ (λe=>by rw[e,h.blk]at hv;simp at hv)
 ·rw[e0 b hb1 (hb2.elim (λe=>by rw[e];exact h3.symm) (λe=>by rw[e];exact h2.symm))];exact zau _ _ _ _ (hb2.elim (λe=>by rw[e];exact h.gr) (λe=>by rw[e];exact λx=>h.rm x.symm))
theorem Ext.to {w w':Λ}{E E':Env}{s s' s'':gK}(h:Ext w w' E E' s s')(hf:s''.fresh=s'.fresh)(hl:s''.aT=s'.aT):Ext w w' E E' s s'':=
 ⟨h.agree,by rw[hf];exact h.fresh,by rw[hl];exact h.aT,by rw[hf];exact h.new,by rw[hf];exact h.inj⟩
theorem G4 (wr:Λ)(R c:Nat)(hc:c≠R)(h:c<wr.heap.size)(v:Θ)(A:Obj):((wr.setCell ⟨R,1,none⟩ v).alloc A).drew.heap[c]?=wr.heap[c]?:=
 (zaK _ _ _ (by simp;exact h)).trans (zau _ _ _ _ hc)
theorem RS (wr:Λ)(R:Nat)(v:Θ)(A:Obj):((wr.setCell ⟨R,1,none⟩ v).alloc A).drew.heap[wr.heap.size]?=some A:=by
 have:=zas (wr.setCell ⟨R,1,none⟩ v) A;rw[show(wr.setCell ⟨R,1,none⟩ v).heap.size=wr.heap.size by simp]at this;exact this
section
variable {R M g cap:Nat}{T:List Tok}{dp:Nat}
theorem Oa {N:Nat}(ih:∀n,n≤N→IH R M g cap T dp n)(p:Pl)(av:Θ)(w:Λ)(E:Env)(s:gK)(hr:bU w R M g cap T dp E s)(ha:jF w E s p.ahead av)(hd:p.depth≤dp∧p.ahead.length≤p.depth)(ho:bg T dp (N+1) p s≠.out):Ω prog 105 #[aq R,jd p.depth p.passed av] w λe w'=>OkT R M g cap T dp w E s (bg T dp (N+1) p s) e w':=by
 have mixed:prog.follows Ξ=true:=by kernel_rfl
 obtain⟨⟨a0,n0,c0,rfl⟩⟩:=(⟨ha.2.1⟩:Nonempty _);have Ws:R<w.heap.size:=hr.lt;have nT:M<w.heap.size:=hr.mlt;have hrg:g<w.heap.size:=(hr.row.lt g rfl).2;have hb0:ζ w.heap.size w ((w.alloc (jR p.depth p.passed a0 n0 c0)).alloc T0):=((zad _ w).alloc (zab _) _).alloc (by simp) _;have HP:Hid (((w.alloc (jR p.depth p.passed a0 n0 c0)).alloc T0).heap[w.heap.size]?=some (jR p.depth p.passed a0 n0 c0)):=(zaK _ _ _ (by simp)).trans (zas w _);have HQ:Hid (((w.alloc (jR p.depth p.passed a0 n0 c0)).alloc T0).heap[w.heap.size+1]?=some T0):=dM w _ _;have HR:Hid _:=hr.below hb0;have HB:Hid _:=hb0;have HI:Hid _:=ih;have HO:Hid _:=ho;have hsm:=hr.small;clear hr ha hb0 ih ho;unfold jd aq;go_enter func105,ntmps105;go_wp2_with fail;go_loopw [] (λwr=>∃(m:Nat) (E1:Env) (s1:gK),m≤N+1∧w.heap.size+2≤wr.heap.size∧Hid (bg T dp (N+1) p s=bg T dp m p s1)∧Hid (bU wr R M g cap T dp E1 s1)∧Hid (Ext w wr E E1 s s1)∧Hid (Kp R M w wr)∧Hid (wr.heap[w.heap.size]?=some (jR p.depth p.passed a0 n0 c0))∧Hid (wr.heap[w.heap.size+1]?=some T0)) (λwr=>T.length+1-(intOf ((wr.cell? ⟨R,1,none⟩).getD undef)).toNat)
 case atStart=>exact⟨N+1,E,s,zab _,by simp,rfl,HR.out,Ext.refl rfl rfl,Kp.aA HB.out,HP.out,HQ.out⟩
 case round=>
  obtain⟨m,E1,s1,hm,hsz,HE,ou,HX,HK,Z9,HQ1⟩:=hrel;have PF:bg T dp m p s1≠.out:=by rw[←HE.out];exact HO.out
  obtain⟨m',rfl⟩:∃m',m=m'+1:=by
   cases m with
   |zero=>exact absurd (by unfold bg;rfl) PF
   |succ m'=>exact⟨m',rfl⟩
  cases ht:T[s1.k]? with
  |none=>exact absurd (by unfold bg;rw[ht]) PF
  |some t=>
   have hlt:s1.k<T.length:=(zbV.1 ht).1;obtain⟨⟨r0,r1,r2,r3⟩,rf⟩:=jG ou.out.blk;obtain⟨t0,t1,t2,t3,t4,t5,t6⟩:=ou.out.tok ht;obtain⟨p0,p1,p2⟩:=fR Z9.out;obtain⟨⟨x0,x1,x2,x3,x4,x5,x6⟩,f0,f1,f2,f3,f4,f5,f6⟩:=dn (b:=w.heap.size+1) (zad _ wr) HQ1.out;have hRr:R<wr.heap.size:=ou.out.lt;have hgr:g<wr.heap.size:=(ou.out.row.lt g rfl).2;have e1:¬R=wr.heap.size:=by omega
   have e2:¬g=wr.heap.size:=by omega
   have e3:¬w.heap.size=wr.heap.size:=by omega
   have e4:¬w.heap.size+1=wr.heap.size:=by omega
   have e5:w.heap.size<wr.heap.size:=by omega
   have e6:w.heap.size+1<wr.heap.size:=by omega
   have htk:Hid (bg T dp (m'+1) p s1=if t.kind=0 then .fail 4 t.from_ else if t.kind=1 then .fail 3 t.from_ else if t.kind=6 then(aO T dp m' ⟨p.depth,true,[]⟩ { s1 with k:=s1.k+1 }).bind λ_ s=>bg T dp m' p s else .ok t { s1 with k:=s1.k+1 }):=by
    show _=_
    conv=>lhs;unfold bg
    rw[ht]
   by_cases k0:t.kind=0
   ·have HF:Hid (bg T dp (N+1) p s=.fail 4 t.from_):=by show _=_;rw[HE.out,htk.out,zac k0]
    have q0:(((t.kind:Nat):Int)==0)=true:=by rw[k0];rfl
    clear k0;go_wp2_with fail;go_region;go_wp2_with fail;go_region;go_wp2_with fail;refine rQ HQ1.out (v:= .tuple #[bB t,aq (wr.heap.size+1)]) (λW y0 y1 y2 y3 y4 y5 y6=>by simp[results,results105,bB,aq,go_sem,y0,y1,y2,y3,y4,y5,y6]) rfl ?_;rw[HF.out];refine⟨⟨_,_,rfl,?_⟩,Kp.ov HK.out ?_⟩
    ·exact CH wr (w.heap.size+1) _ _ _ _ _ _ _ _ _
    ·exact CI wr (w.heap.size+1) w.heap.size (by omega) (by omega) _ _ _ _ _ _ _ _ _
   have q0:(((t.kind:Nat):Int)==0)=false:=by rw[zai];omega
   by_cases k1:t.kind=1
   ·have HF:Hid (bg T dp (N+1) p s=.fail 3 t.from_):=by show _=_;rw[HE.out,htk.out,zaa k0,zac k1]
    have q1:(((t.kind:Nat):Int)==1)=true:=by rw[k1];rfl
    clear k0 k1;go_wp2_with fail;go_region;go_wp2_with fail;go_region;go_wp2_with fail;refine rQ HQ1.out (v:= .tuple #[bB t,aq (wr.heap.size+1)]) (λW y0 y1 y2 y3 y4 y5 y6=>by simp[results,results105,bB,aq,go_sem,y0,y1,y2,y3,y4,y5,y6]) rfl ?_;rw[HF.out];refine⟨⟨_,_,rfl,?_⟩,Kp.ov HK.out ?_⟩
    ·exact CH wr (w.heap.size+1) _ _ _ _ _ _ _ _ _
    ·exact CI wr (w.heap.size+1) w.heap.size (by omega) (by omega) _ _ _ _ _ _ _ _ _
   have q1:(((t.kind:Nat):Int)==1)=false:=by rw[zai];omega
   by_cases k6:t.kind=6
   ·have q6:(((t.kind:Nat):Int)==6)=true:=by rw[k6];rfl
    have HF:Hid (bg T dp (N+1) p s=(aO T dp m' ⟨p.depth,true,[]⟩ { s1 with k:=s1.k+1 }).bind λ_ s=>bg T dp m' p s):=by show _=_;rw[HE.out,htk.out,zaa k0,zaa k1,zac k6]
    clear k0 k1 k6;have CJ:Hid _:=bU.step1 ou.out (jQ t);have rM:Hid _:=Kp.trans HK.out (Wt wr 1 (Γ Δ ((s1.k:Int)+1)) (jQ t));have hne:aO T dp m' ⟨p.depth,true,[]⟩ { s1 with k:=s1.k+1 }≠.out:=λh=>HO.out (by rw[HF.out,h];rfl);have HC:Hid _:=(HI.out m' (by omega)).datum ⟨p.depth,true,[]⟩ (.slice none 0 0) _ E1 _ CJ.out ⟨⟨rfl,.inl ⟨rfl,rfl⟩⟩,⟨_,_,_,rfl⟩,λn hn=>by cases hn⟩ ⟨hd.1,zaw _⟩ hne;clear hne;unfold aq jd at HC;go_wp2_with fail;go_region;go_wp2_with fail;refine zae HC.out ?_;clear HC;intro e w2 cg;have HP2:Hid _:=(G4 wr R w.heap.size (by omega) (by omega) (Γ Δ ((s1.k:Int)+1)) (jQ t)).trans Z9.out;have HQ2:Hid _:=(G4 wr R (w.heap.size+1) (by omega) (by omega) (Γ Δ ((s1.k:Int)+1)) (jQ t)).trans HQ1.out;have Es:Hid _:=RS wr R (Γ Δ ((s1.k:Int)+1)) (jQ t);have abj:(((wr.setCell ⟨R,1,none⟩ (Γ Δ ((s1.k:Int)+1))).alloc (jQ t)).drew).heap.size=wr.heap.size+1:=by simp
    generalize ((wr.setCell ⟨R,1,none⟩ (Γ Δ ((s1.k:Int)+1))).alloc (jQ t)).drew=wm at *;cases hF:aO T dp m' ⟨p.depth,true,[]⟩ { s1 with k:=s1.k+1 } with
    |out=>exact absurd (by rw[HF.out,hF];rfl) HO.out
    |fail er a=>
     rw[hF]at cg;obtain⟨⟨b,rfl,hf⟩,hk2⟩:=cg;replace hk2:=kZ.plain hk2;have hs2:=hk2.size;have HF2:Hid _:=hf;have oy:Hid _:=Kp.trans rM.out hk2;have nU:Hid (bg T dp (N+1) p s=.fail er a):=by show _=_;rw[HF.out,hF];rfl
     have RU:Hid _:=(hk2.block (w.heap.size+1) (by omega) (by omega) (by omega)).trans HQ2.out;have Wb:=(hk2.block wr.heap.size (by omega) (by omega) (by omega)).trans Es.out;obtain⟨⟨y0,y1,y2,y3,y4,y5,y6⟩,-⟩:=dn (zad _ w2) Wb;obtain⟨⟨z0,z1,z2,z3,z4,z5,z6⟩,g0,g1,g2,g3,g4,g5,g6⟩:=dn (b:=w.heap.size+1) (zad _ w2) RU.out;have i1:¬wr.heap.size=w2.heap.size:=by omega
     have i2:¬w.heap.size+1=w2.heap.size:=by omega
     have i3:¬wr.heap.size=w.heap.size+1:=by omega
     clear Wb hf hk2 hF x0 x1 x2 x3 x4 x5 x6 f0 f1 f2 f3 f4 f5 f6 t0 t1 t2 t3 t4 t5 t6 r0 r1 r2 r3 rf p0 p1 p2;unfold aq;go_wp2_with fail;refine pc (zV RU.out _ _ _ _ _ _ _) (v:= .tuple #[bB t,aq b]) ?_ rfl ?_
     ·intro o0 o1 o2 o3 o4 o5 o6;simp[results,results105,bB,aq,go_sem,o0,o1,o2,o3,o4,o5,o6]
     have hbc:b≠w.heap.size+1:=λe=>by
      have q:=HF2.out;unfold cQ at q;rw[e,RU.out]at q;simp[T0]at q
     rw[nU.out];exact⟨⟨b,t,rfl,(Yf w2 _ b hbc _ _ _ _ _ _ _).trans HF2.out⟩,Kp.ov oy.out (sw w2 (w.heap.size+1) w.heap.size (by omega) _ _ _ _ _ _ _)⟩
    |ok d s2=>
     rw[hF]at cg;obtain⟨v,E2,rfl,⟨ty,y,rfl⟩,-,hx2,hr2,hk2⟩:=cg;replace hk2:=kZ.plain hk2;have hs2:=hk2.size;have oy:Hid _:=Kp.trans rM.out hk2;have nU:Hid (bg T dp (N+1) p s=bg T dp m' p s2):=by show _=_;rw[HF.out,hF];rfl
     have Wv:Hid _:=Ext.trans (Ext.to (s'':={ s1 with k:=s1.k+1 }) (Ext.wid (w3:=wm) HX.out (zab _) (by omega)) rfl rfl) hx2 (by omega) hs2;have Mu:Hid _:=hr2;have U2:Hid _:=(hk2.block w.heap.size (by omega) (by omega) (by omega)).trans HP2.out;have RU:Hid _:=(hk2.block (w.heap.size+1) (by omega) (by omega) (by omega)).trans HQ2.out;have hgrow:s1.k+1≤s2.k:=(grows T dp m').datum _ _ _ _ hF;clear hx2 hr2 hk2 hF x0 x1 x2 x3 x4 x5 x6 f0 f1 f2 f3 f4 f5 f6 t0 t1 t2 t3 t4 t5 t6 p0 p1 p2;go_wp2_with fail;refine⟨⟨m',E2,s2,by omega,by omega,nU,Mu,Wv,oy,U2,RU⟩,?_⟩;rw[(jG Mu.out.blk).1.2.1,(jG ou.out.blk).1.2.1];simp only[zbl,intOf,zbp];omega
   ·have q6:(((t.kind:Nat):Int)==6)=false:=by rw[zai];omega
    have HF:Hid (bg T dp (N+1) p s=.ok t { s1 with k:=s1.k+1 }):=by show _=_;rw[HE.out,htk.out,zaa k0,zaa k1,zaa k6]
    clear k0 k1 k6;go_wp2_with fail;go_region;go_wp2_with fail;refine pc (Z8 (by omega) HQ1.out _ _ _ _ _ _ _ _ _) (v:= .tuple #[bB t,.pointer none]) ?_ rfl ?_
    ·intro y0 y1 y2 y3 y4 y5 y6;simp[results,results105,bB,go_sem,y0,y1,y2,y3,y4,y5,y6]
    rw[HF.out];exact⟨E1,rfl,Ext.to (Ext.wid HX.out (zab _) (by simp)) rfl rfl,bU.Z8 ou.out (by omega) (by omega) (by omega) HQ1.out _ _ _ _ _ _ _ _,Wu HK.out (by omega) _ _ _ _ _ _ _ _ _⟩
end
section
variable {P:ξ}
theorem xA (w:Λ)(base:Nat)(t ty e:Φ)(i:ι)(z:Θ)(y:Nat)(ht:P.underlying t=some (.slice e))(hi:P.info? e=some i)(hz:i.zero=some z)
 (hsize:i.size=1)(hby:i.bytes=y)(hy:y≤16)(hzs:z.cells.size=1)
 (v:Θ)(n:Nat)(xs:List Θ)(hown:w.ownsRow base e 1 v n xs)
 (a:Addr)(m c:Nat)(news:List Θ)(hm:m≠0)(hl:news.length=m*1)(hnews:∀j u,news[j]?=some u→w.cell? (a.add j)=some u)(h1:∀u∈news,u.oneCell'=true)
 (hlen:n+m≤1000000)(hbase:base≤w.heap.size):
 ∃v' w',(Builtin.append_ #[t,t] ty #[v,.slice (some a) m c]).run P w=.ok v' w'∧w'.ownsRow base e 1 v' (n+m) (xs++news)∧w.grownBy w' v.ownBlock∧
  (v'.ownBlock=v.ownBlock∨∃k,v'.ownBlock=some k∧w.heap.size≤k):=by
 have h63:n+m≤π:=by unfold π;omega
 have hbytes:(n+m)*y≤140737488355328:=zah (Nat.mul_le_mul hlen hy) (by decide);have aet:m*y≤281474976710656:=zah (Nat.mul_le_mul (show m≤1000000 by omega) hy) (by decide);obtain⟨v',w',hr,h2,h3,h4⟩:=run_append_own (P:=P) w base t ty e i z 1 y ht hi hz hsize hby hzs (by decide) v n xs hown a m c news hl hnews h1 h63 hbytes hbase;refine⟨v',w',hr,h2,h3,?_⟩;have Kk:n+m≤9223372036854775807:=by omega
 rcases hown.2 with⟨rfl,rfl⟩|⟨g,cap,cur,rfl,hbg,hg,hnc,hcm,hcs,GQ⟩
 ·have pN:=run_append_nil (P:=P) w t ty e i z ht hi hz a m c news (by rw[hsize];exact hl) hnews (by omega) (by omega) (by rw[hby];first|exact growslice_fits (by omega) (by simpa using hbytes)|exact aet);rw[pN]at hr;injection hr with a b;rw[←a];exact Or.inr ⟨_,rfl,zab _⟩
 ·by_cases hroom:n+m≤cap
  ·have pN:=run_append_room (P:=P) w t ty e i ht hi g n cap cur hg a m c news (by rw[hsize];exact hl) hnews h1 hroom (by rw[hsize];omega);rw[pN]at hr;injection hr with a b;rw[←a];exact Or.inl rfl
  ·have holds:∀j u,xs[j]?=some u→w.cell? ((⟨g,0,none⟩:Addr).add j)=some u:=hown.cells (g:=g) rfl;have pN:=run_append_grow (P:=P) w t ty e i z ht hi hz ⟨g,0,none⟩ n cap xs (by rw[hsize];exact hown.1) holds a m c news (by rw[hsize];exact hl) hnews (by omega) (by omega) (by rw[hby];exact growslice_fits (by omega) hbytes);rw[pN]at hr;injection hr with a b;rw[←a];exact Or.inr ⟨_,rfl,zab _⟩
theorem fH {w:Λ}{ops:Array Oper}{rest:List Oper}{o:Oper}{a:Act}{Q:Exit→Act→Λ→Prop}(hgd:o.guard=none)(sl x:Operand)(t:Φ)
 (ho:o.op=.call { callee:= .builtin .append,args:=#[sl,x],argTypes:=#[t,t] })
 (base:Nat)(e:Φ)(i:ι)(z:Θ)(y:Nat)(ht:P.underlying t=some (.slice e))(hi:P.info? e=some i)(hz:i.zero=some z)
 (hsize:i.size=1)(hby:i.bytes=y)(hy:y≤16)(hzs:z.cells.size=1)
 (v:Θ)(n:Nat)(xs:List Θ)(hs:a.eval sl=v)(hown:w.ownsRow base e 1 v n xs)
 (ad:Addr)(m c:Nat)(news:List Θ)(hx:a.eval x=.slice (some ad) m c)(hm:m≠0)(hl:news.length=m*1)(hnews:∀j u,news[j]?=some u→w.cell? (ad.add j)=some u)(h1:∀u∈news,u.oneCell'=true)
 (hlen:n+m≤1000000)(hbase:base≤w.heap.size)
 (h:∀v' w',w'.ownsRow base e 1 v' (n+m) (xs++news)→w.grownBy w' v.ownBlock→(v'.ownBlock=v.ownBlock∨∃k,v'.ownBlock=some k∧w.heap.size≤k)→wpList P ops Q rest (a.put o.dst v') w'):wpList P ops Q (o::rest) a w:=by
 refine wpList_plain hgd λK hK=>?_;obtain⟨v',w',hr,h2,h3,h4⟩:=xA (P:=P) w base t o.type e i z y ht hi hz hsize hby hy hzs v n xs hown ad m c news hm hl hnews h1 hlen hbase;unfold Oper.wp execOp;simp only[ho,resolve,invoke,builtin,zaV,zbb,zaW,zbT,zaD,zbu,hs,hx,hr];exact hK _ _ (h v' w' h2 h3 h4)
end
theorem rb:(prog.info? 58).map (λi=>(i.zero,i.size,i.bytes))=some (some .nilIface,1,16):=by kernel_rfl
theorem Ob:(prog.info? 212).map (λi=>(i.zero,i.size,i.bytes))=some (some (.pointer none),1,8):=by kernel_rfl
def Held (wr:Λ)(lo k:Nat)(L:List Int)(E:Env)(c:Option Nat)(d:Dt)(v:Θ):Prop:=
 (∃t y,v=.iface t y)∧∃wi z,lo≤z∧wi.heap.size≤wr.heap.size∧bf z k L wi E d v∧(∀b,z≤b→b<wi.heap.size→wr.heap[b]?=wi.heap[b]?)∧∀b,c=some b→b<z∨wi.heap.size≤b
theorem Held.dat {wr:Λ}{lo k:Nat}{L:List Int}{E:Env}{c:Option Nat}{d:Dt}{v:Θ}(h:Held wr lo k L E c d v):bf lo k L wr E d v:=by
 obtain⟨-,wi,z,h1,h2,h3,h4,-⟩:=h;exact bf.keep h1 (zab _) (λ_ h=>h) h4 ⟨λ_ _=>rfl,λ_ _=>rfl⟩ d v h3
theorem Held.keep {wr w':Λ}{lo k k':Nat}{L L':List Int}{E E':Env}{c c':Option Nat}{d:Dt}{v:Θ}(h:Held wr lo k L E c d v)(hs:wr.heap.size≤w'.heap.size)(hk:k≤k')(hL:∀n∈L,n∈L')(hE:E.agree E' k L)
 (hw:∀b,lo≤b→b<wr.heap.size→some b≠c→w'.heap[b]?=wr.heap[b]?)(hc:c'=c∨∃b,c'=some b∧wr.heap.size≤b):Held w' lo k' L' E' c' d v:=by
 obtain⟨hi,wi,z,h1,h2,h3,h4,h5⟩:=h;refine⟨hi,wi,z,h1,by omega,bf.keep (zab _) hk hL (λ_ _ _=>rfl) hE d v h3,λb b1 b2=>?_,λb hb=>?_⟩
 ·refine(hw b (by omega) (by omega) λe=>?_).trans (h4 b b1 b2);have:=h5 b e.symm;omega
 ·rcases hc with hc|⟨b',hc,hlt⟩
  ·exact h5 b (by rw[←hc];exact hb)
  ·rw[hc]at hb;cases hb;exact .inr (by omega)
theorem oz:∀(l:List Dt) (r:Dt) (k:Nat),(aS l r k).2=k+l.length
 |[],_,_=>rfl
 |d::l,r,k=>by simp only[aS,oz l r k,zar];omega
theorem CK {w:Λ}{base lo K k0:Nat}{L:List Int}{E:Env}{rest:Dt}{vr:Θ}(hr:bf lo K L w E rest vr)(Mk:lo≤base):∀(ds:List Dt) (vs:List Θ) (v:Θ),fG w base vs vr v→ds.length=vs.length→(∀(j:Nat) d x,ds[j]?=some d→vs[j]?=some x→bf lo K L w E d x)→k0+ds.length≤K→(∀j,j<ds.length→E.α (k0+j)=base+j)→bf lo K L w E (aS ds rest k0).1 v
 |[],[],v,hc,_,_,_,_=>by
  have:v=vr:=hc;subst this;exact hr
 |d::ds,x::vs,v,⟨h1,v',h2,h3⟩,hl,hd,hK,kD=>by
  simp only[zar]at hl hK kD;have hl':ds.length=vs.length:=by omega
  have ih:=CK hr Mk ds vs v' h3 hl' (λj d' x' q1 q2=>hd (j+1) d' x' (by simpa using q1) (by simpa using q2)) (by omega) λj hj=>kD j (by omega);have hp:E.α (aS ds rest k0).2=base+vs.length:=by rw[oz,kD ds.length (by omega),hl']
  have hx:=hd 0 d x (by simp) (by simp);show bf lo K L w E (.pair (aS ds rest k0).2 d (aS ds rest k0).1) v;unfold bf;rw[hp];exact⟨by rw[oz];omega,by omega,h1,x,v',h2,hx,ih⟩
 |[],_::_,_,_,hl,_,_,_=>by simp at hl
 |_::_,[],_,_,hl,_,_,_=>by simp at hl
theorem Ww {T:List Tok}{dp n:Nat}{p:Pl}{s s':gK}{t:Tok}(h:bg T dp n p s=.ok t s'):s.k<T.length∧s.k<s'.k:=by
 cases n with
 |zero=>unfold bg at h;cases h
 |succ n=>
  unfold bg at h;split at h
  ·cases h
  ·rename_i t' ht;refine⟨(zbV.1 ht).1,?_⟩;split at h
   ·cases h
   ·split at h
    ·cases h
    ·split at h
     ·obtain⟨d,s1,h1,h2⟩:=RR.gA h;have a1:=(grows T dp n).datum _ _ _ _ h1;have a2:=(grows T dp n).take _ _ _ _ h2;simp at a1;omega
     ·cases h;simp
theorem Oc (rest:Θ)(w:Λ)(Ye:∃t y,rest=.iface t y):Ω prog 221 #[.slice none 0 0,rest] w λe w'=>e=.returned rest∧w'=w:=by
 obtain⟨tr,yr,rfl⟩:=Ye;go_enter func221,ntmps221;go_wp2_with fail;go_loopw [5,1] (λi r wr=>i=Γ Δ (-1)∧r=.iface tr yr∧wr=w) (λ_ _ _=>0)
 case atStart=>exact⟨by go_num,rfl,rfl⟩
 case round=>
  obtain⟨rfl,rfl,rfl⟩:=hrel;go_wp2_with fail;go_ret;exact⟨rfl,rfl⟩
theorem CL (vs:List Θ)(sv:Θ)(lo:Nat)(rest:Θ)(w:Λ)(hrow:w.ownsRow lo 58 1 sv vs.length vs)(hn:vs.length≤1000000)(Yd:∀x∈vs,∃t y,x=.iface t y)(Ye:∃t y,rest=.iface t y):Ω prog 221 #[sv,rest] w λe w'=>∃v,e=.returned v∧fG w' w.heap.size vs rest v∧w'.heap.size=w.heap.size+vs.length∧ζ w.heap.size w w':=by
 rcases hrow.2 with⟨rfl,h0⟩|⟨g,cap,cur,rfl,_⟩
 ·have:vs=[]:=zce h0;subst this;refine(Oc rest w Ye).mono ?_;rintro e w' ⟨rfl,rfl⟩;exact⟨rest,rfl,rfl,rfl,zad _ _⟩
 ·exact N6 vs g cap lo rest w hrow hn Yd Ye
theorem fG.iface {w:Λ}{base:Nat}{vs:List Θ}{rest v:Θ}(h:fG w base vs rest v)(hr:∃t y,rest=.iface t y):∃t y,v=.iface t y:=by
 cases vs with
 |nil=>have:v=rest:=h
       rw[this];exact hr
 |cons x vs=>obtain⟨h1,_⟩:=h;exact⟨_,_,h1⟩
theorem CM {R M g cap:Nat}{T:List Tok}{dp:Nat}{w wr w3:Λ}{E E1:Env}{s s1:gK}{ds:List Dt}{vs:List Θ}{rest:Dt}{vr v:Θ}{lo:Nat}(Mk:w.heap.size≤lo)(dP:lo≤wr.heap.size)(hds:∀(j:Nat) d x,ds[j]?=some d→vs[j]?=some x→bf lo s1.fresh s1.aT wr E1 d x)(Cy:bf lo s1.fresh s1.aT wr E1 rest vr)(hl:ds.length=vs.length)(Ye:∃t y,vr=.iface t y)
 (hc:fG w3 wr.heap.size vs vr v)(hsz:w3.heap.size=wr.heap.size+vs.length)(hb:ζ wr.heap.size wr w3)(hr:bU wr R M g cap T dp E1 s1)(hx:Ext w wr E E1 s s1)(hk:Kp R M w wr):
 k9 R M g cap T dp none w E s (.ok (aS ds rest s1.fresh).1 { s1 with fresh:=(aS ds rest s1.fresh).2 }) (.returned (.tuple #[v,.pointer none])) w3:=by
 have ag:E1.agree ⟨λi=>if i<s1.fresh then E1.α i else wr.heap.size+(i-s1.fresh),E1.eG⟩ s1.fresh s1.aT:=⟨λi hi=>zac hi,λ_ _=>rfl⟩;have hlen:=oz ds rest s1.fresh;have kp:∀d x,bf lo s1.fresh s1.aT wr E1 d x→bf lo (aS ds rest s1.fresh).2 s1.aT w3 ⟨λi=>if i<s1.fresh then E1.α i else wr.heap.size+(i-s1.fresh),E1.eG⟩ d x:=λd x h=>
  bf.keep (zab _) (by omega) (λ_ h=>h) (λb _ h2=>hb.block b h2) ag d x h
 have cI:=CK (base:=wr.heap.size) (k0:=s1.fresh) (kp rest vr Cy) dP ds vs v hc hl (λj d x h1 h2=>kp d x (hds j d x h1 h2)) (by omega) λj hj=>by
  show(if s1.fresh+j<s1.fresh then _ else _)=_;rw[zaa (by omega)];congr 1;omega
 have h1:=hr.below hb;refine⟨v,⟨λi=>if i<s1.fresh then E1.α i else wr.heap.size+(i-s1.fresh),E1.eG⟩,rfl,hc.iface Ye,bf.keep Mk (zab _) (λ_ h=>h) (λ_ _ _=>rfl) ⟨λ_ _=>rfl,λ_ _=>rfl⟩ _ _ cI,?_,⟨h1.rm,h1.gr,h1.gm,h1.blk,h1.row,h1.lm,h1.low,h1.inj,h1.small,h1.deep⟩,(hk.trans (Kp.aA hb)).a none⟩;refine Ext.trans hx ⟨ag,by show s1.fresh≤(aS ds rest s1.fresh).2;omega,λ_ h=>h,λi i1 i2=>?_,λi j i1 i2 j1 j2 e=>?_⟩ hk.size (by omega)
 ·have i2':i<(aS ds rest s1.fresh).2:=i2;show wr.heap.size≤(if i<s1.fresh then _ else _)∧(if i<s1.fresh then _ else _)<_;rw[zaa (by omega)];omega
 ·have e':(if i<s1.fresh then E1.α i else wr.heap.size+(i-s1.fresh))=(if j<s1.fresh then E1.α j else wr.heap.size+(j-s1.fresh)):=e;rw[zaa (by omega),zaa (by omega)]at e';omega
theorem Kp.ge {R M lo:Nat}{w w':Λ}(h:Kp R M w w')(hR:R<lo)(hM:M<lo):∀b,lo≤b→b<w.heap.size→w'.heap[b]?=w.heap[b]?:=λb h1 h2=>h.block b h2 (by omega) (by omega)
section
variable {R M g cap:Nat}{T:List Tok}{dp:Nat}
theorem G5 {n:Nat}(ih:IH R M g cap T dp n)(p:Pl)(hp:p.ahead=[])(hd:p.depth≤dp∧p.ahead.length≤p.depth)(w wr:Λ)(E E1:Env)(s s1:gK)(hr:bU wr R M g cap T dp E1 s1)(hx:Ext w wr E E1 s s1)(hk:Kp R M w wr)(lo:Nat)(Mk:w.heap.size≤lo)(dP:lo≤wr.heap.size)(hRl:R<lo)(hMl:M<lo)
 (ds:List Dt)(vs:List Θ)(hl:ds.length=vs.length)(hn:vs.length≤1000000)(a0:Option Addr)(n0 c0:Nat)(hrow:wr.ownsRow lo 58 1 (.slice a0 n0 c0) vs.length vs)(hh:∀(j:Nat) d x,ds[j]?=some d→vs[j]?=some x→Held wr lo s1.fresh s1.aT E1 (Θ.slice a0 n0 c0).ownBlock d x)(Yd:∀x∈vs,∃t y,x=.iface t y)
 (r:RR Dt)(eF:r=((aO T dp n p s1).bind λrest s=>(bg T dp n p s).bind λt s=>
   if t.kind=3 then .ok (aS ds rest s.fresh).1 { s with fresh:=(aS ds rest s.fresh).2 } else .fail 3 t.from_))(ho:r≠.out):
 Ω prog 222 #[aq R,.slice a0 n0 c0,jd p.depth p.passed (.slice none 0 0)] wr λe w'=>k9 R M g cap T dp none w E s r e w':=by
 have mixed:prog.follows Ξ=true:=by kernel_rfl
 have hb0:ζ wr.heap.size wr (wr.alloc (jR p.depth p.passed none 0 0)):=(zad _ wr).alloc (zab _) _;have HR:Hid _:=hr.below hb0;have HP:Hid _:=zas wr (jR p.depth p.passed none 0 0);have RN:(wr.alloc (jR p.depth p.passed none 0 0)).heap.size=wr.heap.size+1:=by simp
 have hne:aO T dp n p s1≠.out:=λh=>ho (by rw[eF,h];rfl);have ah:∀(w':Λ) (E':Env) (s':gK),jF w' E' s' p.ahead (.slice none 0 0):=λw' E' s'=>by rw[hp];exact⟨⟨rfl,.inl ⟨rfl,rfl⟩⟩,⟨_,_,_,rfl⟩,λn hn=>by cases hn⟩
 have HT:Hid _:=ih.datum p (.slice none 0 0) _ E1 s1 HR.out (ah _ _ _) hd hne;have HK:Hid _:=hk.trans (Kp.aA hb0);have HX:Hid _:=Ext.wid (w:=w) (w3:=(wr.alloc (jR p.depth p.passed none 0 0))) hx (zab _) (by omega);have HH:Hid (∀(j:Nat) d x,ds[j]?=some d→vs[j]?=some x→bf lo s1.fresh s1.aT (wr.alloc (jR p.depth p.passed none 0 0)) E1 d x):=λj d x h1 h2=>bf.keep (zab _) (zab _) (λ_ h=>h) (λb _ h=>hb0.block b h) ⟨λ_ _=>rfl,λ_ _=>rfl⟩ d x (hh j d x h1 h2).dat
 have HW:Hid _:=aX hrow (zab _) λb _ h=>hb0.block b h;have Ws:R<wr.heap.size:=hr.lt;have nT:M<wr.heap.size:=hr.mlt;have HI:Hid _:=ih;have HO:Hid _:=ho;have HA:Hid _:=ah;have Fl:Hid _:=eF;clear hr hb0 ih ho hne ah hx hk hrow hh eF;generalize hw0:wr.alloc (jR p.depth p.passed none 0 0)=w0 at *;have Z7:Hid _:=hw0;clear hw0;cases hT:aO T dp n p s1 with
 |out=>exact absurd (by rw[Fl.out,hT];rfl) HO.out
 |fail er a=>
  rw[hT]at HT;have HE:Hid (r=.fail er a):=by show _=_;rw[Fl.out,hT];rfl
  unfold jd aq at HT ⊢;go_enter func222,ntmps222;go_wp2_with fail;rw[Z7.out];refine zae HT.out ?_;rintro e w1 ⟨⟨b,rfl,hf⟩,hk⟩;have HF:Hid _:=hf;have CN:Hid _:=kZ.plain hk;clear hf hk HT;unfold aq;go_wp2_with fail;go_ret2;rw[HE.out];exact⟨⟨b,rfl,HF.out⟩,(Kp.trans HK.out CN.out).a none⟩
 |ok rest s2=>
  rw[hT]at HT;unfold jd aq at HT ⊢;go_enter func222,ntmps222;go_wp2_with fail;rw[Z7.out];refine zae HT.out ?_;rintro e w1 ⟨vr,E2,rfl,⟨ty,yy,rfl⟩,cI,hx2,hr2,hk2⟩;replace hk2:=kZ.plain hk2;have hs1:=hk2.size;obtain⟨x0,x1,x2⟩:=fR ((hk2.block wr.heap.size (by omega) (by omega) (by omega)).trans HP.out);have HE:Hid (r=(bg T dp n p s2).bind λt s=>if t.kind=3 then .ok (aS ds rest s.fresh).1 { s with fresh:=(aS ds rest s.fresh).2 } else .fail 3 t.from_):=by show _=_;rw[Fl.out,hT];rfl
  have hne:bg T dp n p s2≠.out:=λh=>HO.out (by rw[HE.out,h];rfl);have rM:Hid _:=Kp.trans HK.out hk2;have Od:Hid _:=Ext.trans HX.out hx2 (Kp.size HK.out) hs1;have HH2:Hid (∀(j:Nat) d x,ds[j]?=some d→vs[j]?=some x→bf lo s2.fresh s2.aT w1 E2 d x):=λj d x h1 h2=>bf.keep (zab _) hx2.fresh hx2.aT (Kp.ge hk2 hRl hMl) hx2.agree d x (HH.out j d x h1 h2);have HD2:Hid (bf lo s2.fresh s2.aT w1 E2 rest (.iface ty yy)):=bf.keep (by omega) (zab _) (λ_ h=>h) (λ_ _ _=>rfl) ⟨λ_ _=>rfl,λ_ _=>rfl⟩ _ _ cI;have Bu:Hid _:=aX HW.out (zab _) (Kp.ge hk2 hRl hMl);have CJ:Hid _:=hr2;have Es:Hid _:=HI.out.take p (.slice none 0 0) _ E2 s2 hr2 (HA.out _ _ _) hd hne;clear cI hx2 hr2 hk2 HT hne;cases Br:bg T dp n p s2 with
  |out=>exact absurd (by rw[HE.out,Br];rfl) HO.out
  |fail er a=>
   rw[Br]at Es;have nU:Hid (r=.fail er a):=by show _=_;rw[HE.out,Br];rfl
   unfold jd aq at Es;go_wp2_with fail;refine zae Es.out ?_;rintro e w2 ⟨⟨b,t,rfl,hf⟩,hk⟩;have HF:Hid _:=hf;have oy:Hid _:=hk;clear hf hk Es;unfold bB aq;go_wp2_with fail;go_ret2;rw[nU.out];exact⟨⟨b,rfl,cQ.alloc HF.out _⟩,(Kp.trans (Kp.trans rM.out oy.out) (Kp.aA ((zad _ _).alloc (zab _) _))).a none⟩
  |ok t s3=>
   rw[Br]at Es;have nU:Hid (r=if t.kind=3 then .ok (aS ds rest s3.fresh).1 { s3 with fresh:=(aS ds rest s3.fresh).2 } else .fail 3 t.from_):=by show _=_;rw[HE.out,Br];rfl
   unfold jd aq at Es;go_wp2_with fail;refine zae Es.out ?_;rintro e w2 ⟨E3,rfl,hx3,hr3,hk3⟩;have oy:Hid _:=hk3;have Wv:Hid _:=hx3;have Mu:Hid _:=hr3;have hs3:=hk3.size;clear hx3 hr3 hk3 Es;unfold bB;by_cases k3:t.kind=3
   ·have q3:(((t.kind:Nat):Int)==3)=true:=by rw[k3];rfl
    rw[zac k3]at nU;clear k3;have hb4:ζ w2.heap.size w2 (w2.alloc (jQ t)):=(zad _ w2).alloc (zab _) _;have oB:Hid _:=hb4;have Re:(w2.alloc (jQ t)).heap.size=w2.heap.size+1:=by simp
    have BN:Hid _:=aX (aX Bu.out (zab _) (Kp.ge oy.out hRl hMl)) (zab _) λb _ h=>hb4.block b h;have HC:Hid _:=CL vs (.slice a0 n0 c0) lo (.iface ty yy) _ BN.out hn Yd ⟨_,_,rfl⟩;clear hb4;go_wp2_with fail;refine zae HC.out ?_;rintro e w5 ⟨v,rfl,hc,hs5,mF⟩;obtain⟨tv,yv,rfl⟩:=hc.iface ⟨_,_,rfl⟩;have xV:Hid _:=Kp.trans (Kp.trans rM.out oy.out) (Kp.aA oB.out);have aeu:lo≤(w2.alloc (jQ t)).heap.size:=by have:=(Bu.out.2);have:=Kp.size HK.out;omega
    have HG:Hid _:=CM (T:=T) (dp:=dp) (g:=g) (cap:=cap) (w:=w) (lo:=lo) (ds:=ds) (rest:=rest) (s1:=s3) (E1:=E3) Mk aeu
     (λj d x h1 h2=>bf.keep (zab _) (zab _) (λ_ h=>h) (λb _ h=>oB.out.block b h) ⟨λ_ _=>rfl,λ_ _=>rfl⟩ d x (bf.keep (zab _) (Ext.fresh Wv.out) (Ext.aT Wv.out) (Kp.ge oy.out hRl hMl) (Ext.agree Wv.out) d x (HH2.out j d x h1 h2)))
     (bf.keep (zab _) (zab _) (λ_ h=>h) (λb _ h=>oB.out.block b h) ⟨λ_ _=>rfl,λ_ _=>rfl⟩ _ _ (bf.keep (zab _) (Ext.fresh Wv.out) (Ext.aT Wv.out) (Kp.ge oy.out hRl hMl) (Ext.agree Wv.out) _ _ HD2.out))
     hl ⟨_,_,rfl⟩ hc hs5 mF (bU.below Mu.out oB.out) (Ext.wid (w:=w) (Ext.trans Od.out Wv.out (Kp.size rM.out) hs3) (zab _) (by omega)) xV.out
    clear hc mF;go_wp2_with fail;go_ret2;rw[nU.out];exact HG.out
   ·have q3:(((t.kind:Nat):Int)==3)=false:=by rw[zai];omega
    rw[zaa k3]at nU;clear k3;go_wp2_with fail;go_region;go_wp2_with fail;go_ret2;rw[nU.out];refine⟨⟨w2.heap.size+1,rfl,?_⟩,(Kp.trans (Kp.trans rM.out oy.out) (Kp.aA ((((zad _ w2).alloc (zab _) _).alloc (by simp) _).drew))).a none⟩;exact dM w2 _ _
end
theorem bq {w:Λ}{lo:Nat}{e:Φ}{z:Nat}{v:Θ}{n:Nat}{xs:List Θ}(h:w.ownsRow lo e z v n xs):∃a c,v=.slice a n c:=by
 rcases h.2 with⟨rfl,rfl⟩|⟨g,cap,cur,rfl,_⟩
 ·exact⟨_,_,rfl⟩
 ·exact⟨_,_,rfl⟩
theorem RV {R M g cap:Nat}{T:List Tok}{dp:Nat}{E:Env}{s:gK}{w w5 w6:Λ}{row:Option Nat}{A:Obj}(hr:bU w5 R M g cap T dp E s)(hk:Kp R M w w5)(hg:(w5.alloc A).grownBy w6 row)(hrow:∀k,row=some k→w.heap.size≤k)(Kv:∀(b:Nat) (v:Θ),w5.heap[b]?=some (.cells #[v] 215)→some b≠row)(h1:R<w.heap.size)(h2:M<w.heap.size)(h3:g<w.heap.size):bU w6 R M g cap T dp E s∧Kp R M w w6∧(∀b,b<w5.heap.size→some b≠row→w6.heap[b]?=w5.heap[b]?)∧w5.heap.size+1≤w6.heap.size:=by
 have hs:(w5.alloc A).heap.size=w5.heap.size+1:=by simp
 have hb:∀b,b<w5.heap.size→some b≠row→w6.heap[b]?=w5.heap[b]?:=λb h h'=>(hg.block b (by omega) h').trans (zaK _ _ _ h);have hz:=hg.size;have dP:∀b,b<w.heap.size→some b≠row:=λb h e=>by have:=hrow b e.symm;omega
 have h5:=hk.size;refine⟨?_,⟨hg.os.trans hk.os,hg.tape.trans hk.tape,hg.output.trans hk.output,by omega,λb b1 b2 b3=>(hb b (by omega) (dP b b1)).trans (hk.block b b1 b2 b3)⟩,hb,by omega⟩;exact bU.step hr (k:=s.k) ((hb R (by omega) (dP R h1)).trans hr.blk) (by omega) (λb b1 b2=>hb b b1 (b2.elim (λe=>by rw[e];exact dP g h3) (λe=>by rw[e];exact dP M h2))) λb v hv=>hb b (zaf.1 hv).1 (Kv b v hv)
theorem Wx {w:Λ}{lo:Nat}{v:Θ}{n:Nat}{xs:List Θ}(h:w.ownsRow lo 58 1 v n xs):∀(b:Nat) (x:Θ),w.heap[b]?=some (.cells #[x] 215)→some b≠v.ownBlock:=by
 intro b x hb e;rcases h.2 with⟨rfl,_⟩|⟨g,cap,cur,rfl,_,hg,_⟩
 ·cases e
 ·have:b=g:=by cases e;rfl
  rw[this,hg]at hb;simp at hb
section
variable {R M g cap:Nat}{T:List Tok}{dp:Nat}
theorem Oe {N:Nat}(ih:∀n,n≤N→IH R M g cap T dp n)(p:Pl)(hp:p.ahead=[])(w:Λ)(E:Env)(s:gK)(hr:bU w R M g cap T dp E s)(hd:p.depth≤dp∧p.ahead.length≤p.depth)(ho:cr T dp (N+1) [] p s≠.out):Ω prog 196 #[aq R,jd p.depth p.passed (.slice none 0 0)] w λe w'=>k9 R M g cap T dp none w E s (cr T dp (N+1) [] p s) e w':=by
 have mixed:prog.follows Ξ=true:=by kernel_rfl
 have Ws:R<w.heap.size:=hr.lt;have nT:M<w.heap.size:=hr.mlt;have hrg:g<w.heap.size:=(hr.row.lt g rfl).2;have hb0:ζ w.heap.size w (w.alloc (jR p.depth p.passed none 0 0)):=(zad _ w).alloc (zab _) _;have HP:Hid _:=zas w (jR p.depth p.passed none 0 0);have HR:Hid _:=hr.below hb0;have HB:Hid _:=hb0;have HI:Hid _:=ih;have HO:Hid _:=ho;have hsm:=hr.small;have HA:Hid (∀(w':Λ) (E':Env) (s':gK),jF w' E' s' p.ahead (.slice none 0 0)):=λw' E' s'=>by rw[hp];exact⟨⟨rfl,.inl ⟨rfl,rfl⟩⟩,⟨_,_,_,rfl⟩,λn hn=>by cases hn⟩
 clear hr hb0 ih ho;unfold jd aq;go_enter func196,ntmps196;go_wp2_with fail;go_loopw [6] (λsv wr=>∃(m:Nat) (E1:Env) (s1:gK) (ds:List Dt) (vs:List Θ),m≤N+1∧w.heap.size+1≤wr.heap.size∧ds.length=vs.length∧vs.length≤s1.k∧Hid (cr T dp (N+1) [] p s=cr T dp m ds p s1)∧Hid (bU wr R M g cap T dp E1 s1)∧Hid (Ext w wr E E1 s s1)∧Hid (Kp R M w wr)∧Hid (wr.heap[w.heap.size]?=some (jR p.depth p.passed none 0 0))∧Hid (wr.ownsRow (w.heap.size+1) 58 1 sv vs.length vs)∧Hid (∀(j:Nat) d x,ds[j]?=some d→vs[j]?=some x→Held wr (w.heap.size+1) s1.fresh s1.aT E1 sv.ownBlock d x)) (λ_ wr=>T.length+1-(intOf ((wr.cell? ⟨R,1,none⟩).getD undef)).toNat)
 case atStart=>exact⟨N+1,E,s,[],[],zab _,by simp,rfl,zaw _,rfl,HR.out,Ext.refl rfl rfl,Kp.aA HB.out,HP.out,zbO _ _ _ _,λj d x h=>by simp at h⟩
 case round=>
  obtain⟨m,E1,s1,ds,vs,hm,hsz,hl,hlen,HE,ou,HX,HK,Z9,HW,HH⟩:=hrel;have PF:cr T dp m ds p s1≠.out:=by rw[←HE.out];exact HO.out
  obtain⟨m',rfl⟩:∃m',m=m'+1:=by
   cases m with
   |zero=>exact absurd (by unfold cr;rfl) PF
   |succ m'=>exact⟨m',rfl⟩
  have U3:Hid (cr T dp (N+1) [] p s=(bg T dp m' p s1).bind λt s=>
   if t.kind=3 then .ok (aS ds .nil s.fresh).1 { s with fresh:=(aS ds .nil s.fresh).2 }
   else if t.kind=7∧ds≠[]then
    (aO T dp m' p s).bind λrest s=>(bg T dp m' p s).bind λt s=>
      if t.kind=3 then .ok (aS ds rest s.fresh).1 { s with fresh:=(aS ds rest s.fresh).2 } else .fail 3 t.from_
   else(cE T dp m' t p s).bind λd s=>cr T dp m' (ds++[d]) p s):=by
    show _=_;rw[HE.out]
    conv=>lhs;unfold cr
  clear PF HE;obtain⟨a1,c1,rfl⟩:=bq HW.out;obtain⟨p0,p1,p2⟩:=fR Z9.out;have hne:bg T dp m' p s1≠.out:=λh=>HO.out (by rw[U3.out,h];rfl);have HT:Hid _:=(HI.out m' (by omega)).take p (.slice none 0 0) _ E1 s1 ou.out (HA.out _ _ _) hd hne;have Yd:∀x∈vs,∃t y,x=.iface t y:=λx hx=>by
   obtain⟨j,hj,rfl⟩:=List.getElem_of_mem hx;exact(HH.out j (ds[j]'(by omega)) vs[j] (zaq (by omega)) (zaq hj)).1
  have HIF:Hid _:=Yd;clear hne Yd;cases hT:bg T dp m' p s1 with
  |out=>exact absurd (by rw[U3.out,hT];rfl) HO.out
  |fail er a=>
   rw[hT]at HT;have nU:Hid (cr T dp (N+1) [] p s=.fail er a):=by show _=_;rw[U3.out,hT];rfl
   unfold jd aq at HT;go_wp2_with fail;refine zae HT.out ?_;rintro e w2 ⟨⟨b,t,rfl,hf⟩,hk⟩;have HF:Hid _:=hf;have oy:Hid _:=hk;clear hf hk HT;unfold bB aq;go_wp2_with fail;go_ret2;rw[nU.out];exact⟨⟨b,rfl,cQ.alloc HF.out _⟩,(Kp.trans (Kp.trans HK.out oy.out) (Kp.aA ((zad _ _).alloc (zab _) _))).a none⟩
  |ok t s3=>
   have HMt:Hid (t∈T):=zU _ _ _ _ _ hT;have htl:=Ww hT;rw[hT]at HT;have nU:Hid (cr T dp (N+1) [] p s=if t.kind=3 then .ok (aS ds .nil s3.fresh).1 { s3 with fresh:=(aS ds .nil s3.fresh).2 }
   else if t.kind=7∧ds≠[]then
    (aO T dp m' p s3).bind λrest s=>(bg T dp m' p s).bind λt s=>
      if t.kind=3 then .ok (aS ds rest s.fresh).1 { s with fresh:=(aS ds rest s.fresh).2 } else .fail 3 t.from_
   else(cE T dp m' t p s3).bind λd s=>cr T dp m' (ds++[d]) p s):=by show _=_;rw[U3.out,hT];rfl
   unfold jd aq at HT;go_wp2_with fail;refine zae HT.out ?_;rintro e w2 ⟨E3,rfl,hx3,hr3,hk3⟩;have hs3:=hk3.size;have hb4:ζ w2.heap.size w2 (w2.alloc (jQ t)):=(zad _ w2).alloc (zab _) _;have Re:(w2.alloc (jQ t)).heap.size=w2.heap.size+1:=by simp
   have hk4:=Kp.trans hk3 (Kp.aA hb4);have Yg:Hid _:=hr3.below hb4;have xV:Hid _:=Kp.trans HK.out hk4;have HX4:Hid _:=Ext.wid (w:=w) (w3:=(w2.alloc (jQ t))) (Ext.trans HX.out hx3 (Kp.size HK.out) hs3) (zab _) (by omega);have BN:Hid _:=aX HW.out (zab _) (Kp.ge hk4 (by omega) (by omega));have HH4:Hid (∀(j:Nat) d x,ds[j]?=some d→vs[j]?=some x→Held (w2.alloc (jQ t)) (w.heap.size+1) s3.fresh s3.aT E3 (Θ.slice a1 vs.length c1).ownBlock d x):=λj d x h1 h2=>
    Held.keep (HH.out j d x h1 h2) (by omega) hx3.fresh hx3.aT hx3.agree (λb b1 b2 _=>Kp.ge hk4 (lo:=w.heap.size+1) (by omega) (by omega) b b1 b2) (.inl rfl)
   have HP4:Hid _:=(hk4.block w.heap.size (by omega) (by omega) (by omega)).trans Z9.out;obtain⟨y0,y1,y2⟩:=fR HP4.out;obtain⟨⟨o0,o1,o2,o3,o4,o5,o6⟩,-⟩:=dn (zad _ _) (zas w2 (jQ t));clear hx3 hr3 hk3 hk4 hb4 HT p0 p1 p2;unfold bB;by_cases k3:t.kind=3
   ·have q3:(((t.kind:Nat):Int)==3)=true:=by rw[k3];rfl
    rw[zac k3]at nU;clear k3;have HC:Hid _:=CL vs (.slice a1 vs.length c1) (w.heap.size+1) (.iface 272 (.agg #[])) _ BN.out (by omega) HIF.out ⟨_,_,rfl⟩;go_wp2_with fail;refine zae HC.out ?_;rintro e w5 ⟨v,rfl,hc,hs5,mF⟩;obtain⟨tv,yv,rfl⟩:=hc.iface ⟨_,_,rfl⟩;have HG:Hid _:=CM (T:=T) (dp:=dp) (g:=g) (cap:=cap) (w:=w) (lo:=w.heap.size+1) (ds:=ds) (rest:= .nil) (s1:=s3) (E1:=E3) (by omega) (by omega)
     (λj d x h1 h2=>(HH4.out j d x h1 h2).dat) (by unfold bf;rfl) hl ⟨_,_,rfl⟩ hc hs5 mF Yg.out HX4.out xV.out
    clear hc mF;go_wp2_with fail;go_ret2;rw[nU.out];exact HG.out
   have q3:(((t.kind:Nat):Int)==3)=false:=by rw[zai];omega
   rw[zaa k3]at nU;clear k3;by_cases k7:t.kind=7∧ds≠[]
   ·have q7:(((t.kind:Nat):Int)==7)=true:=by rw[k7.1];rfl
    have jy:0<vs.length:=by have:=List.length_pos_iff.2 k7.2;omega
    have q8:decide ((0:Int)<(vs.length:Int))=true:=by simp;omega
    rw[zac k7]at nU;clear k7;have HC:Hid _:=G5 (HI.out m' (by omega)) p hp hd w _ E E3 s s3 Yg.out HX4.out xV.out (w.heap.size+1) (by omega) (by omega) (by omega) (by omega) ds vs hl (by omega) a1 vs.length c1 BN.out HH4.out HIF.out _ nU.out HO.out;unfold jd aq at HC;go_wp2_with fail;refine zae HC.out ?_;intro e w5 cg;cases hF:cr T dp (N+1) [] p s with
    |out=>exact absurd hF HO.out
    |fail er a=>
     rw[hF]at cg;obtain⟨⟨b,rfl,hf⟩,hk2⟩:=cg;have HG:Hid (k9 R M g cap T dp none w E s (RR.fail er a) (.returned (.tuple #[.nilIface,aq b])) w5):=⟨⟨b,rfl,hf⟩,hk2⟩;clear hf hk2;unfold aq;go_wp2_with fail;go_ret2;rw[hF];exact HG.out
    |ok d s2=>
     rw[hF]at cg;obtain⟨v,E2,rfl,⟨ty,y,rfl⟩,cI,hx2,hr2,hk2⟩:=cg;have HG:Hid (k9 R M g cap T dp none w E s (RR.ok d s2) (.returned (.tuple #[.iface ty y,.pointer none])) w5):=⟨.iface ty y,E2,rfl,⟨ty,y,rfl⟩,cI,hx2,hr2,hk2⟩;clear cI hx2 hr2 hk2;go_wp2_with fail;go_ret2;rw[hF];exact HG.out
   ·rw[zaa k7]at nU;have hq:(((t.kind:Nat):Int)==7)=false∨((((t.kind:Nat):Int)==7)=true∧¬0<vs.length∧¬((0:Int)<(vs.length:Int))):=by
     by_cases h7:t.kind=7
     ·refine .inr ⟨by rw[h7];rfl,?_⟩;have:ds=[]:=by
       cases ds with
       |nil=>rfl
       |cons x l=>exact absurd ⟨h7,by simp⟩ k7
      have h0:vs.length=0:=by rw[←hl,this];rfl
      exact⟨by omega,by omega⟩
     ·exact .inl (by rw[zai];omega)
    clear k7;have hne:cE T dp m' t p s3≠.out:=λh=>HO.out (by rw[nU.out,h];rfl);have HC:Hid _:=(HI.out m' (by omega)).RJ t p (.slice none 0 0) _ E3 s3 HMt.out Yg.out (HA.out _ _ _) hd hne;clear hne;unfold bB jd aq at HC;obtain⟨i0,hi,hz0,hz1,hz2⟩:=info_parts rb;rcases hq with q7|⟨q7,q9,q10⟩
    all_goals
     go_wp2_with fail;refine zae HC.out ?_;intro e w5 cg;cases hF:cE T dp m' t p s3 with
     |out=>exact absurd (by rw[nU.out,hF];rfl) HO.out
     |fail er a=>
      rw[hF]at cg;have HE5:Hid (cr T dp (N+1) [] p s=.fail er a):=by show _=_;rw[nU.out,hF];rfl
      obtain⟨⟨b,rfl,hf⟩,hk2⟩:=cg;have HG:Hid (k9 R M g cap T dp none w E s (RR.fail er a) (.returned (.tuple #[.nilIface,aq b])) w5):=⟨⟨b,rfl,hf⟩,(Kp.trans xV.out (kZ.plain hk2)).a none⟩;clear hf hk2;unfold aq;go_wp2_with fail;go_ret2;rw[HE5.out];exact HG.out
     |ok d s5=>
      rw[hF]at cg;have HE5:Hid (cr T dp (N+1) [] p s=cr T dp m' (ds++[d]) p s5):=by show _=_;rw[nU.out,hF];rfl
      have hg5:=(grows T dp m').RJ _ _ _ _ _ hF;obtain⟨v,E5,rfl,⟨ty,y,rfl⟩,cI,U4,ZB,CO⟩:=cg;replace CO:=kZ.plain CO;have hs5:=CO.size;have Mv:Hid _:=Kp.trans xV.out CO;have HX5:Hid _:=Ext.trans HX4.out U4 (Kp.size xV.out) hs5;have HP5:Hid _:=(CO.block w.heap.size (by omega) (by omega) (by omega)).trans HP4.out;have u7:Hid _:=aX BN.out (zab _) (Kp.ge CO (by omega) (by omega));have HR5:Hid _:=ZB;have HD5:Hid _:=cI;have HH5:Hid (∀(j:Nat) d x,ds[j]?=some d→vs[j]?=some x→Held w5 (w.heap.size+1) s5.fresh s5.aT E5 (Θ.slice a1 vs.length c1).ownBlock d x):=λj d x h1 h2=>
       Held.keep (HH4.out j d x h1 h2) (by omega) U4.fresh U4.aT U4.agree (λb b1 b2 _=>Kp.ge CO (lo:=w.heap.size+1) (by omega) (by omega) b b1 b2) (.inl rfl)
      clear cI U4 ZB CO hF y0 y1 y2 o0 o1 o2 o3 o4 o5 o6;have G6:∀k,(Θ.slice a1 vs.length c1).ownBlock=some k→w.heap.size+1≤k∧k<w5.heap.size:=zcx u7.out;go_wp2_with (at_builtin;refine fH rfl _ _ 162 rfl (w.heap.size+1) 58 i0 .nilIface 16 underlying162 hi hz0 hz1 hz2 (by decide) rfl _ vs.length vs rfl (zcw u7.out _) ⟨w5.heap.size,0,none⟩ 1 1 [.iface ty y] rfl (by decide) rfl ?c1 ?c2 ?c3 ?c4 ?_)
      case c1=>
       intro j u hj
       match j,hj with
       |0,hj=>simp at hj;subst hj;simp[Addr.add]
      case c2=>intro u hu;simp at hu;subst hu;rfl
      case c3=>omega
      case c4=>simp;omega
      intro v' w6 hown' hgrow nB;obtain⟨BI,Wy,nz,hs6⟩:=RV HR5.out Mv.out hgrow (λk hk=>by have:=G6 k hk;omega) (Wx u7.out) Ws nT hrg;have Kw:Hid _:=BI;have HK6:Hid _:=Wy;have HW6:Hid (w6.ownsRow (w.heap.size+1) 58 1 v' (vs++[Θ.iface ty y]).length (vs++[Θ.iface ty y])):=by show Λ.ownsRow _ _ _ _ _ _ _;rw[zbg];exact hown'
      have HP6:Hid _:=(nz w.heap.size (by omega) (λe=>by have:=G6 _ e.symm;omega)).trans HP5.out;have hc6:v'.ownBlock=(Θ.slice a1 vs.length c1).ownBlock∨∃b,v'.ownBlock=some b∧w5.heap.size≤b:=nB.imp id λ⟨k,k1,k2⟩=>⟨k,k1,zah (by simp) k2⟩;have HH6:Hid (∀(j:Nat) d' x,(ds++[d])[j]?=some d'→(vs++[Θ.iface ty y])[j]?=some x→Held w6 (w.heap.size+1) s5.fresh s5.aT E5 v'.ownBlock d' x):=λj d' x h1 h2=>by
       rcases zay j ds.length with hj|hj
       ·rw[zbF hj]at h1;rw[zbF (by omega)]at h2;exact Held.keep (HH5.out j d' x h1 h2) (by omega) (zab _) (λ_ h=>h) ⟨λ_ _=>rfl,λ_ _=>rfl⟩ (λb _ b2 b3=>nz b b2 b3) hc6
       ·have e0:j=ds.length:=by
         have:=(zbV.1 h1).1;simp at this;omega
        subst e0;rw[zbw (zab _)]at h1;rw[zbw (by omega)]at h2;simp at h1;simp[hl]at h2;subst h1 h2;refine⟨⟨_,_,rfl⟩,w5,_,?_,by omega,HD5.out,λb b1 b2=>nz b b2 λe=>?_,λb e=>?_⟩
        ·omega
        ·have:=zcx BN.out b e.symm;omega
        ·rcases hc6 with q|⟨b',q,q'⟩
         ·have:=zcx BN.out b (q.symm.trans e);omega
         ·rw[q]at e;cases e;exact .inr q'
      have abM:ds.length+1=vs.length+1:=by omega
      clear BI Wy hown' hgrow nB;obtain⟨a6,c6,rfl⟩:=bq HW6.out;go_wp2_with fail;refine⟨⟨m',E5,s5,ds++[d],vs++[Θ.iface ty y],by omega,by omega,by simp;omega,by simp;omega,HE5,Kw,Ext.wid HX5.out (zab _) (by omega),HK6,HP6,HW6,HH6⟩,?_⟩;rw[(jG Kw.out.blk).1.2.1,(jG ou.out.blk).1.2.1];simp only[zbl,intOf,zbp];omega
end
end Go.Proofs.YtlhimdjkkiflhaaGreatDoor
namespace Go.Proofs.YtlhimdjkkiflhaaGreatDoor
open Go.RowKit Go.Loop
section
variable {R M g cap:Nat}{T:List Tok}{dp:Nat}
def Env.one (E:Env)(i b:Nat):Env:=⟨λj=>if j=i then b else E.α j,E.eG⟩
theorem Ext.one {w w':Λ}{E:Env}{s:gK}{b:Nat}(h1:w.heap.size≤b)(h2:b<w'.heap.size):Ext w w' E (E.one s.fresh b) s { s with fresh:=s.fresh+1 }:=by
 refine⟨⟨λi hi=>zaa (by omega),λ_ _=>rfl⟩,Nat.le_succ _,λ_ h=>h,λi i1 i2=>?_,λi j i1 i2 j1 j2 _=>?_⟩
 ·have:i=s.fresh:=by have:i<s.fresh+1:=i2;omega
  subst this;show w.heap.size≤(if s.fresh=s.fresh then b else _)∧(if s.fresh=s.fresh then b else _)<_;rw[zac rfl];exact⟨h1,h2⟩
 ·have:i<s.fresh+1:=i2;have:j<s.fresh+1:=j2;omega
theorem bU.name {w:Λ}{R M g cap:Nat}{T:List Tok}{dp:Nat}{E E':Env}{s s':gK}(h:bU w R M g cap T dp E s)(h1:E'.eG=E.eG)(h2:s'.k=s.k)(h3:s'.aT=s.aT):bU w R M g cap T dp E' s':=by
 obtain⟨α,eG⟩:=E';obtain⟨k,f,aT⟩:=s';simp only at h1 h2 h3;subst h1 h2 h3;exact⟨h.rm,h.gr,h.gm,h.blk,h.row,h.lm,h.low,h.inj,h.small,h.deep⟩
end
theorem aev (w:Λ)(x y:Θ):(w.alloc (.cells #[x,y] 58)).ownsRow w.heap.size 58 1 (.slice (some ⟨w.heap.size,0,none⟩) 2 2) 2 [x,y]:=
 ⟨rfl,.inr ⟨w.heap.size,2,#[x,y],rfl,zab _,zas w _,zab _,by decide,rfl,rfl⟩⟩
section
variable {R M g cap:Nat}{T:List Tok}{dp:Nat}
end
end Go.Proofs.YtlhimdjkkiflhaaGreatDoor
namespace Go.Proofs.YtlhimdjkkiflhaaGreatDoor
open Go.Proofs.Tryz
open Go.RowKit Go.Loop
section
variable {R M g cap:Nat}{T:List Tok}{dp:Nat}
theorem k9.from {A:Option Nat}{w w2 w':Λ}{E:Env}{s:gK}{r:RR Dt}{e:Ending}(h:k9 R M g cap T dp A w2 E s r e w')(hk:Kp R M w w2):k9 R M g cap T dp A w E s r e w':=by
 cases r with
 |out=>trivial
 |fail er a=>exact⟨h.1,(hk.a A).trans h.2⟩
 |ok d s'=>
  obtain⟨v,E',h1,h2,h3,h4,h5,h6⟩:=h;exact⟨v,E',h1,h2,bf.keep hk.size (zab _) (λ_ h=>h) (λ_ _ _=>rfl) ⟨λ_ _=>rfl,λ_ _=>rfl⟩ d v h3,Ext.wid h4 hk.size (zab _),h5,(hk.a A).trans h6⟩
theorem G7 {n:Nat}(ih:∀m,m≤n→IH R M g cap T dp m)(t:Tok)(Yh:Hid ((t.kind=5→Ks R M g cap T dp)∧(t.kind=4→Kt R M g cap T dp)))(p:Pl)(a0:Option Addr)(n0 c0:Nat)(w:Λ)(E:Env)(s:gK)(hr:bU w R M g cap T dp E s)(hd:p.depth≤dp∧p.ahead.length≤p.depth)(r:RR Dt)
 (eF:r=if p.depth=dp then .fail 6 t.from_
   else if t.kind=5 then(rP T dp n [] ⟨p.depth+1,p.passed,[]⟩ { s with fresh:=s.fresh+1 }).bind λl s'=> .ok (.vec s.fresh (Wq l)) s'
   else if t.kind=4 then(aO T dp n ⟨p.depth+1,p.passed,[]⟩ s).bind λd s=> .ok (aS [.sym [113,117,111,116,101],d] .nil s.fresh).1 { s with fresh:=s.fresh+2 }
   else cr T dp n [] ⟨p.depth+1,p.passed,[]⟩ s)(ho:r≠.out):
 Ω prog 162 #[aq R,bB t,jd p.depth p.passed (.slice a0 n0 c0)] w λe w'=>k9 R M g cap T dp none w E s r e w':=by
 have mixed:prog.follows Ξ=true:=by kernel_rfl
 have Ws:R<w.heap.size:=hr.lt;have Cg:=hr.deep;have hb0:ζ w.heap.size w ((w.alloc (jQ t)).alloc (jR p.depth p.passed a0 n0 c0)):=((zad _ w).alloc (zab _) _).alloc (by simp) _;have hs0:((w.alloc (jQ t)).alloc (jR p.depth p.passed a0 n0 c0)).heap.size=w.heap.size+1+1:=by simp
 have hP:((w.alloc (jQ t)).alloc (jR p.depth p.passed a0 n0 c0)).heap[w.heap.size+1]?=some (jR p.depth p.passed a0 n0 c0):=dM w _ _;have hT:((w.alloc (jQ t)).alloc (jR p.depth p.passed a0 n0 c0)).heap[w.heap.size]?=some (jQ t):=(zaK _ _ _ (by simp)).trans (zas w _);have wP:=hr.below hb0;have hc0:((w.alloc (jQ t)).alloc (jR p.depth p.passed a0 n0 c0)).cell? ⟨R,2,none⟩=some (Γ Δ dp):=(jG wP.blk).1.2.2.1;have tZ:Hid (Kp R M w ((w.alloc (jQ t)).alloc (jR p.depth p.passed a0 n0 c0))):=Kp.aA hb0;have sR:Hid _:=wP;have HI:Hid _:=ih;have HO:Hid _:=ho;have Fl:Hid _:=eF;have HT:Hid _:=hT;by_cases hdd:p.depth=dp
 ·have HE:Hid (r=.fail 6 t.from_):=by show _=_;rw[eF,zac hdd]
  have HC:Hid _:=xb R dp t p.depth p.passed a0 n0 c0 _ hc0 (by omega) hdd;clear hr wP hb0 ih ho eF hdd hc0 hP hT;unfold jd aq bB at HC ⊢;go_enter func162,ntmps162;go_wp2_with fail;refine zae HC.out ?_;rintro e w1 ⟨b,rfl,hf,hb1⟩;have HF:Hid _:=hf;have CN:Hid _:=Kp.trans tZ.out (Kp.aA hb1);clear hf hb1 HC;go_wp2_with fail;go_ret2;rw[HE.out];exact⟨⟨b,rfl,cQ.alloc HF.out _⟩,(Kp.trans CN.out (Kp.aA ((zad _ _).alloc (zab _) _))).a none⟩
 ·have HC:Hid _:=CG R dp t p.depth p.passed a0 n0 c0 _ hc0 (by omega) (by omega) hdd;have HE:Hid _:=eF.trans (zaa hdd);have Fo:p.depth+1≤dp:=by omega
  clear hr wP hb0 ih ho eF hdd hc0 hP hT;unfold jd aq bB at HC ⊢;go_enter func162,ntmps162;go_wp2_with fail;refine zae HC.out ?_;rintro e w1 ⟨rfl,hb1⟩;have hs1:=hb1.size;have oo:=(hb1.block w.heap.size (by omega)).trans HT.out;obtain⟨⟨o0,o1,o2,o3,o4,o5,o6⟩,-⟩:=dn (zad _ _) oo;have n1:¬w.heap.size=w1.heap.size:=by omega
  have n2:w.heap.size<w1.heap.size:=by omega
  have hb2:ζ w1.heap.size w1 (w1.alloc (.cells #[Γ Δ (p.depth+1),.bool p.passed,.slice none 0 0] 128)):=(zad _ _).alloc (zab _) _;have CJ:Hid _:=(bU.below sR.out hb1).below hb2;have rM:Hid _:=(Kp.trans tZ.out (Kp.aA hb1)).trans (Kp.aA hb2);clear hb1 hb2 HC oo;by_cases k5:t.kind=5
  ·have q5:(((t.kind:Nat):Int)==5)=true:=by rw[k5];rfl
   have nU:Hid _:=HE.out.trans (zac k5);have HV:Hid _:=Yh.out.1 k5;clear k5 Yh;cases n with
   |zero=>exact absurd (by rw[nU.out];unfold rP;rfl) HO.out
   |succ n=>
    have HC:Hid _:=HV.out n (λm hm=>HI.out m (by omega)) ⟨p.depth+1,p.passed,[]⟩ rfl _ E s CJ.out ⟨Fo,zaw _⟩ r nU.out HO.out;unfold jd aq at HC;go_wp2_with fail;refine zae HC.out ?_;intro e w3 cg;have nD:=k9.from cg rM.out;clear cg;cases r with
    |out=>exact absurd rfl HO.out
    |fail er a=>
     obtain⟨⟨b,rfl,hf⟩,hk2⟩:=nD;have HG:Hid (k9 R M g cap T dp none w E s (RR.fail er a) (.returned (.tuple #[.nilIface,aq b])) w3):=⟨⟨b,rfl,hf⟩,hk2⟩;clear hf hk2;unfold aq;go_wp2_with fail;go_ret2;exact HG.out
    |ok d s2=>
     obtain⟨v,E2,rfl,⟨ty,y,rfl⟩,cI,hx2,hr2,hk2⟩:=nD;have HG:Hid (k9 R M g cap T dp none w E s (RR.ok d s2) (.returned (.tuple #[.iface ty y,.pointer none])) w3):=⟨.iface ty y,E2,rfl,⟨ty,y,rfl⟩,cI,hx2,hr2,hk2⟩;clear cI hx2 hr2 hk2;go_wp2_with fail;go_ret2;exact HG.out
  have q5:(((t.kind:Nat):Int)==5)=false:=by rw[zai];omega
  by_cases k4:t.kind=4
  ·have q4:(((t.kind:Nat):Int)==4)=true:=by rw[k4];rfl
   have nU:Hid _:=(HE.out.trans (zaa k5)).trans (zac k4);have HV:Hid _:=Yh.out.2 k4;clear k5 k4 Yh
   ·have HC:Hid _:=HV.out n (HI.out n (by omega)) ⟨p.depth+1,p.passed,[]⟩ rfl _ E s CJ.out ⟨Fo,zaw _⟩ r nU.out HO.out;unfold jd aq at HC;go_wp2_with fail;refine zae HC.out ?_;intro e w3 cg;have nD:=k9.from cg rM.out;clear cg;cases r with
    |out=>exact absurd rfl HO.out
    |fail er a=>
     obtain⟨⟨b,rfl,hf⟩,hk2⟩:=nD;have HG:Hid (k9 R M g cap T dp none w E s (RR.fail er a) (.returned (.tuple #[.nilIface,aq b])) w3):=⟨⟨b,rfl,hf⟩,hk2⟩;clear hf hk2;unfold aq;go_wp2_with fail;go_ret2;exact HG.out
    |ok d s2=>
     obtain⟨v,E2,rfl,⟨ty,y,rfl⟩,cI,hx2,hr2,hk2⟩:=nD;have HG:Hid (k9 R M g cap T dp none w E s (RR.ok d s2) (.returned (.tuple #[.iface ty y,.pointer none])) w3):=⟨.iface ty y,E2,rfl,⟨ty,y,rfl⟩,cI,hx2,hr2,hk2⟩;clear cI hx2 hr2 hk2;go_wp2_with fail;go_ret2;exact HG.out
  ·have q4:(((t.kind:Nat):Int)==4)=false:=by rw[zai];omega
   have nU:Hid _:=(HE.out.trans (zaa k5)).trans (zaa k4);clear k5 k4;cases n with
   |zero=>exact absurd (by rw[nU.out];unfold cr;rfl) HO.out
   |succ n=>
    have HC:Hid _:=Oe (N:=n) (λm hm=>HI.out m (by omega)) ⟨p.depth+1,p.passed,[]⟩ rfl _ E s CJ.out ⟨Fo,zaw _⟩ (by rw[←nU.out];exact HO.out);rw[←nU.out]at HC;unfold jd aq at HC;go_wp2_with fail;refine zae HC.out ?_;intro e w3 cg;have nD:=k9.from cg rM.out;clear cg;cases r with
    |out=>exact absurd rfl HO.out
    |fail er a=>
     obtain⟨⟨b,rfl,hf⟩,hk2⟩:=nD;have HG:Hid (k9 R M g cap T dp none w E s (RR.fail er a) (.returned (.tuple #[.nilIface,aq b])) w3):=⟨⟨b,rfl,hf⟩,hk2⟩;clear hf hk2;unfold aq;go_wp2_with fail;go_ret2;exact HG.out
    |ok d s2=>
     obtain⟨v,E2,rfl,⟨ty,y,rfl⟩,cI,hx2,hr2,hk2⟩:=nD;have HG:Hid (k9 R M g cap T dp none w E s (RR.ok d s2) (.returned (.tuple #[.iface ty y,.pointer none])) w3):=⟨.iface ty y,E2,rfl,⟨ty,y,rfl⟩,cI,hx2,hr2,hk2⟩;clear cI hx2 hr2 hk2;go_wp2_with fail;go_ret2;exact HG.out
end
section
variable (R M g cap:Nat)(T:List Tok)(dp:Nat)
def Yi (n:Nat):Prop:=∀(t:Tok) (p:Pl) (a0:Option Addr) (n0 c0:Nat) (w:Λ) (E:Env) (s:gK) (r:RR Dt),bU w R M g cap T dp E s→jF w E s p.ahead (.slice a0 n0 c0)→(p.depth≤dp∧p.ahead.length≤p.depth)→(r=if p.passed∨t.n∈s.aT then .fail 5 t.from_
 else if p.depth=dp then .fail 6 t.from_
 else(aO T dp n ⟨p.depth+1,p.passed,p.ahead++[t.n]⟩ { s with aT:=t.n::s.aT }).bind λd s=> .ok (.put t.n d) s)→r≠.out→
    Ω prog 160 #[aq R,bB t,jd p.depth p.passed (.slice a0 n0 c0)] w λe w'=>k9 R M g cap T dp (Θ.slice a0 n0 c0).ownBlock w E s r e w'
def Yj:Prop:=∀(t:Tok) (p:Pl) (a0:Option Addr) (n0 c0:Nat) (w:Λ) (E:Env) (s:gK) (r:RR Dt),bU w R M g cap T dp E s→jF w E s p.ahead (.slice a0 n0 c0)→(p.depth≤dp∧p.ahead.length≤p.depth)→(r=if p.passed∨t.n∉s.aT∨t.n∈p.ahead then .fail 5 t.from_ else .ok (.ask t.n) s)→Ω prog 161 #[aq R,bB t,jd p.depth p.passed (.slice a0 n0 c0)] w λe w'=>k9 R M g cap T dp none w E s r e w'
end
section
variable {R M g cap:Nat}{T:List Tok}{dp:Nat}
theorem kZ.up {w w':Λ}(h:kZ R M none w w')(A:Option Nat):kZ R M A w w':=h.plain.a A
theorem RX {n:Nat}(ih:∀m,m≤n→IH R M g cap T dp m)(hput:Yi R M g cap T dp n)(Et:Yj R M g cap T dp)(BO:(∃t∈T,t.kind=5)→Ks R M g cap T dp)(BP:(∃t∈T,t.kind=4)→Kt R M g cap T dp)(t:Tok)(p:Pl)(av:Θ)(w:Λ)(E:Env)(s:gK)(hm:t∈T)(hr:bU w R M g cap T dp E s)(ha:jF w E s p.ahead av)(hd:p.depth≤dp∧p.ahead.length≤p.depth)(ho:cE T dp (n+1) t p s≠.out):Ω prog 106 #[aq R,bB t,jd p.depth p.passed av] w λe w'=>k9 R M g cap T dp av.ownBlock w E s (cE T dp (n+1) t p s) e w':=by
 have Yh:Hid ((t.kind=5→Ks R M g cap T dp)∧(t.kind=4→Kt R M g cap T dp)):=⟨λh=>BO ⟨t,hm,h⟩,λh=>BP ⟨t,hm,h⟩⟩;clear BO BP hm;have mixed:prog.follows Ξ=true:=by kernel_rfl
 obtain⟨⟨a0,n0,c0,rfl⟩⟩:=(⟨ha.2.1⟩:Nonempty _);have Ws:R<w.heap.size:=hr.lt;generalize eF:cE T dp (n+1) t p s=r at *;have oC:=eF.symm;unfold cE at oC;clear eF;have hb0:ζ w.heap.size w ((w.alloc (jQ t)).alloc (jR p.depth p.passed a0 n0 c0)):=((zad _ w).alloc (zab _) _).alloc (by simp) _;have tZ:Hid (Kp R M w ((w.alloc (jQ t)).alloc (jR p.depth p.passed a0 n0 c0))):=Kp.aA hb0;have sR:Hid _:=hr.below hb0;have Ky:Hid _:=ha.below hb0;have HO:Hid _:=ho;by_cases k37:t.kind=3∨t.kind=7
 ·have HE:Hid (r=.fail 3 t.from_):=oC.trans (zac k37);clear oC hb0 hr ha ih hput Et;have hq:(((t.kind:Nat):Int)==3)=true∨((((t.kind:Nat):Int)==3)=false∧(((t.kind:Nat):Int)==7)=true):=by
   rcases k37 with h|h
   ·exact .inl (by rw[h];rfl)
   ·exact .inr ⟨by rw[h];rfl,by rw[h];rfl⟩
  clear k37;unfold jd aq bB;rcases hq with q3|⟨q3,q7⟩
  all_goals
   go_enter func106,ntmps106;go_wp2_with fail;go_region;go_wp2_with fail;go_ret2;rw[HE.out];refine⟨⟨w.heap.size+1+1,rfl,?_⟩,(Kp.trans tZ.out (Kp.aA (((zad _ _).alloc (zab _) _).drew))).a _⟩;exact(show _=_ from by rw[show w.heap.size+1+1=((w.alloc (jQ t)).alloc (jR p.depth p.passed a0 n0 c0)).heap.size by simp];exact zas _ _)
 replace oC:=oC.trans (zaa k37);have q3:(((t.kind:Nat):Int)==3)=false:=by rw[zai];omega
 have q7:(((t.kind:Nat):Int)==7)=false:=by rw[zai];omega
 clear k37;by_cases k10:t.kind=10
 ·have q10:(((t.kind:Nat):Int)==10)=true:=by rw[k10];rfl
  have HC:Hid _:=hput t p a0 n0 c0 _ E s r sR.out Ky.out hd (oC.trans (zac k10)) ho;clear oC hb0 hr ha ih hput Et k10;unfold jd aq bB at HC ⊢;go_enter func106,ntmps106;go_wp2_with fail;refine zae HC.out ?_;intro e w3 cg;have nD:=k9.from cg tZ.out;clear cg HC;cases r with
  |out=>exact absurd rfl HO.out
  |fail er a=>
   obtain⟨⟨b,rfl,hf⟩,hk2⟩:=nD;have HG:Hid (k9 R M g cap T dp (Θ.slice a0 n0 c0).ownBlock w E s (RR.fail er a) (.returned (.tuple #[.nilIface,aq b])) w3):=⟨⟨b,rfl,hf⟩,hk2⟩;clear hf hk2;unfold aq;go_wp2_with fail;go_ret2;exact HG.out
  |ok d s2=>
   obtain⟨v,E2,rfl,⟨ty,y,rfl⟩,cI,hx2,hr2,hk2⟩:=nD;have HG:Hid (k9 R M g cap T dp (Θ.slice a0 n0 c0).ownBlock w E s (RR.ok d s2) (.returned (.tuple #[.iface ty y,.pointer none])) w3):=⟨.iface ty y,E2,rfl,⟨ty,y,rfl⟩,cI,hx2,hr2,hk2⟩;clear cI hx2 hr2 hk2;go_wp2_with fail;go_ret2;exact HG.out
 replace oC:=oC.trans (zaa k10);have q10:(((t.kind:Nat):Int)==10)=false:=by rw[zai];omega
 clear k10;by_cases PH:t.kind=11
 ·have q11:(((t.kind:Nat):Int)==11)=true:=by rw[PH];rfl
  have HC:Hid _:=Et t p a0 n0 c0 _ E s r sR.out Ky.out hd (oC.trans (zac PH));clear oC hb0 hr ha ih hput Et PH;unfold jd aq bB at HC ⊢;go_enter func106,ntmps106;go_wp2_with fail;refine zae HC.out ?_;intro e w3 cg;have nD:=k9.from cg tZ.out;clear cg HC;cases r with
  |out=>exact absurd rfl HO.out
  |fail er a=>
   obtain⟨⟨b,rfl,hf⟩,hk2⟩:=nD;have HG:Hid (k9 R M g cap T dp (Θ.slice a0 n0 c0).ownBlock w E s (RR.fail er a) (.returned (.tuple #[.nilIface,aq b])) w3):=⟨⟨b,rfl,hf⟩,kZ.up hk2 _⟩;clear hf hk2;unfold aq;go_wp2_with fail;go_ret2;exact HG.out
  |ok d s2=>
   obtain⟨v,E2,rfl,⟨ty,y,rfl⟩,cI,hx2,hr2,hk2⟩:=nD;have HG:Hid (k9 R M g cap T dp (Θ.slice a0 n0 c0).ownBlock w E s (RR.ok d s2) (.returned (.tuple #[.iface ty y,.pointer none])) w3):=⟨.iface ty y,E2,rfl,⟨ty,y,rfl⟩,cI,hx2,hr2,kZ.up hk2 _⟩;clear cI hx2 hr2 hk2;go_wp2_with fail;go_ret2;exact HG.out
 replace oC:=oC.trans (zaa PH);have q11:(((t.kind:Nat):Int)==11)=false:=by rw[zai];omega
 clear PH;by_cases kh:t.kind=2∨t.kind=5∨t.kind=4
 ·have HC:Hid _:=G7 ih t Yh p a0 n0 c0 _ E s sR.out hd r (oC.trans (zac kh)) ho;have hq:(((t.kind:Nat):Int)==2)=true∨((((t.kind:Nat):Int)==2)=false∧(((t.kind:Nat):Int)==5)=true)∨((((t.kind:Nat):Int)==2)=false∧(((t.kind:Nat):Int)==5)=false∧(((t.kind:Nat):Int)==4)=true):=by
   rcases kh with h|h|h
   ·exact .inl (by rw[h];rfl)
   ·exact .inr (.inl ⟨by rw[h];rfl,by rw[h];rfl⟩)
   ·exact .inr (.inr ⟨by rw[h];rfl,by rw[h];rfl,by rw[h];rfl⟩)
  clear oC hb0 hr ha ih hput Et kh;unfold jd aq bB at HC ⊢;rcases hq with q2|⟨q2,q5⟩|⟨q2,q5,q4⟩
  all_goals
   go_enter func106,ntmps106;go_wp2_with fail;refine zae HC.out ?_;intro e w3 cg;have nD:=k9.from cg tZ.out;clear cg HC;cases r with
   |out=>exact absurd rfl HO.out
   |fail er a=>
    obtain⟨⟨b,rfl,hf⟩,hk2⟩:=nD;have HG:Hid (k9 R M g cap T dp (Θ.slice a0 n0 c0).ownBlock w E s (RR.fail er a) (.returned (.tuple #[.nilIface,aq b])) w3):=⟨⟨b,rfl,hf⟩,kZ.up hk2 _⟩;clear hf hk2;unfold aq;go_wp2_with fail;go_ret2;exact HG.out
   |ok d s2=>
    obtain⟨v,E2,rfl,⟨ty,y,rfl⟩,cI,hx2,hr2,hk2⟩:=nD;have HG:Hid (k9 R M g cap T dp (Θ.slice a0 n0 c0).ownBlock w E s (RR.ok d s2) (.returned (.tuple #[.iface ty y,.pointer none])) w3):=⟨.iface ty y,E2,rfl,⟨ty,y,rfl⟩,cI,hx2,hr2,kZ.up hk2 _⟩;clear cI hx2 hr2 hk2;go_wp2_with fail;go_ret2;exact HG.out
 replace oC:=oC.trans (zaa kh);have q2:(((t.kind:Nat):Int)==2)=false:=by rw[zai];omega
 have q5:(((t.kind:Nat):Int)==5)=false:=by rw[zai];omega
 have q4:(((t.kind:Nat):Int)==4)=false:=by rw[zai];omega
 clear kh;have HC:Hid (Ω prog 163 #[bB t] ((w.alloc (jQ t)).alloc (jR p.depth p.passed a0 n0 c0)) λe w'=>k9 R M g cap T dp none ((w.alloc (jQ t)).alloc (jR p.depth p.passed a0 n0 c0)) E s r e w'):=by
  rw[oC];unfold zQ;by_cases h8:t.kind=8
  ·rw[zac h8];refine(RL t _ h8).mono ?_;rintro e w' ⟨b,rfl,hb,hc,hw⟩;have hbl:b<w'.heap.size:=(zaf.1 hc).1;refine⟨_,E.one s.fresh b,rfl,⟨_,_,rfl⟩,?_,Ext.one hb hbl,bU.name (bU.below sR.out hw) rfl rfl rfl,(Kp.aA hw).a none⟩;have e1:(E.one s.fresh b).α s.fresh=b:=zac rfl;unfold bf;rw[e1];exact⟨Nat.lt_succ_self _,hb,rfl,hc⟩
  rw[zaa h8];by_cases hv:t.kind=9∨t.kind=12∨t.kind=14∨t.fault=0
  ·refine(RM t _ h8 hv).mono ?_;rintro e w' ⟨rfl,hw⟩;have key:∀d:Dt,(∃t' y,kH t=.iface t' y)→bf ((w.alloc (jQ t)).alloc (jR p.depth p.passed a0 n0 c0)).heap.size s.fresh s.aT w' E d (kH t)→k9 R M g cap T dp none ((w.alloc (jQ t)).alloc (jR p.depth p.passed a0 n0 c0)) E s (.ok d s) (.returned (.tuple #[kH t,.pointer none])) w':=λd hi h=>⟨_,E,rfl,hi,h,Ext.refl rfl rfl,bU.below sR.out hw,(Kp.aA hw).a none⟩;by_cases h9:t.kind=9
   ·rw[zac h9];exact key _ (by simp[kH,h9]) (by unfold bf;simp[kH,h9])
   rw[zaa h9];by_cases xR:t.kind=12
   ·rw[zac xR];exact key _ (by simp[kH,xR]) (by unfold bf;simp[kH,xR])
   rw[zaa xR];by_cases Jm:t.kind=14
   ·rw[zac Jm];exact key _ (by simp[kH,Jm]) (by unfold bf;simp[kH,Jm])
   rw[zaa Jm,zaa (by omega)];exact key _ (by simp[kH,h9,xR,Jm]) (by unfold bf;simp[kH,h9,xR,Jm])
  ·rw[zaa (by omega),zaa (by omega),zaa (by omega),zac (by omega)];refine(Kr t _ ⟨h8,by omega,by omega,by omega⟩ (by omega)).mono ?_;rintro e w' ⟨b,rfl,hc,hw⟩;exact⟨⟨b,rfl,hc⟩,(Kp.aA hw).a none⟩
 clear oC hb0 hr ha ih hput Et
 ·unfold jd aq bB at *;go_enter func106,ntmps106;go_wp2_with fail;refine zae HC.out ?_;intro e w3 cg;have nD:=k9.from cg tZ.out;clear cg HC;cases r with
  |out=>exact absurd rfl HO.out
  |fail er a=>
   obtain⟨⟨b,rfl,hf⟩,hk2⟩:=nD;have HG:Hid (k9 R M g cap T dp (Θ.slice a0 n0 c0).ownBlock w E s (RR.fail er a) (.returned (.tuple #[.nilIface,aq b])) w3):=⟨⟨b,rfl,hf⟩,kZ.up hk2 _⟩;clear hf hk2;unfold aq;go_wp2_with fail;go_ret2;exact HG.out
  |ok d s2=>
   obtain⟨v,E2,rfl,⟨ty,y,rfl⟩,cI,hx2,hr2,hk2⟩:=nD;have HG:Hid (k9 R M g cap T dp (Θ.slice a0 n0 c0).ownBlock w E s (RR.ok d s2) (.returned (.tuple #[.iface ty y,.pointer none])) w3):=⟨.iface ty y,E2,rfl,⟨ty,y,rfl⟩,cI,hx2,hr2,kZ.up hk2 _⟩;clear cI hx2 hr2 hk2;go_wp2_with fail;go_ret2;exact HG.out
end
theorem G8:prog.underlying 212=some (.pointer 215):=by kernel_rfl
theorem Wz:(prog.info? 215).map (λi=>i.size)=some 1:=by kernel_rfl
theorem ab5 (w:Λ)(b c:Nat)(hb:∃v,w.heap[b]?=some (.cells #[v] 215))(hc:∃v,w.heap[c]?=some (.cells #[v] 215)):(binOp .eql 212 (.pointer (some ⟨b,0,none⟩)) (.pointer (some ⟨c,0,none⟩))).run prog w=.ok (.bool (decide (b=c))) w:=by
 obtain⟨vb,hb⟩:=hb;obtain⟨vc,hc⟩:=hc;have hi:=Wz;cases hj:prog.info? 215 with
 |none=>rw[hj]at hi;cases hi
 |some j=>
  rw[hj]at hi;have hs:j.size=1:=by simpa using hi
  by_cases e:b=c
  ·subst e;rw[run_eql_ptr_same w _ G8 hj];simp
  ·rw[run_eql_ptr_other w (ca:=#[vb]) (cb:=#[vc]) G8 hj (by omega) (λh=>e (by cases h;rfl)) hb hc];simp[e]
theorem Eu (l:List Nat)(g c lo b:Nat)(w:Λ)(hrow:w.ownsRow lo 212 1 (.slice (some ⟨g,0,none⟩) l.length c) l.length (l.map aq))(Og:∃v,w.heap[b]?=some (.cells #[v] 215))(WA:∀x∈l,∃v,w.heap[x]?=some (.cells #[v] 215)):Ω prog 220 #[.slice (some ⟨g,0,none⟩) l.length c,aq b] w λe w'=>(∃i:Int,e=.returned (Γ Δ i)∧(if b∈l then 0≤i else i=-1))∧w'=w:=by
 have hg:g<w.heap.size:=(hrow.lt g rfl).2;have hn:l.length≤9223372036854775807:=by
  rcases hrow.2 with⟨h,_⟩|⟨_,cp,_,_,_,_,h1,h2,_⟩
  ·cases h
  ·simp only[π]at h2;omega
 have hcell:Hid (∀(j:Nat) (x:Nat),l[j]?=some x→w.cell? ⟨g,j,none⟩=some (aq x)):=λj x hx=>by
  have hj:j<l.length:=(zbV.1 hx).1;rw[hrow.cellAt j (by omega),zbG,hx];rfl
 clear hrow;unfold aq;go_enter func220,ntmps220;go_wp2_with fail;go_loopw [8] (λi wr=>∃j:Nat,j≤l.length∧i=Γ Δ j∧wr=w∧Hid (∀(k:Nat) x,k<j→l[k]?=some x→x≠b)) (λi _=>l.length-(intOf i).toNat)
 case atStart=>exact⟨0,by omega,rfl,rfl,λk x hk=>by omega⟩
 case round=>
  obtain⟨j,hj,rfl,rfl,hB⟩:=hrel;by_cases tC:j<l.length
  ·have hx:l[j]?=some l[j]:=zaq tC;have hc:=hcell.out j _ hx;unfold aq at hc;have q:((j:Int)<(l.length:Int)):=by omega
   have hq:=ab5 wr b l[j] Og (WA _ (zbd tC));by_cases hb:l[j]=b
   ·have hm:b∈l:=by rw[←hb];exact zbd tC
    rw[hb]at hc hq;simp only[decide_true]at hq;go_wp2_with fail;go_ret;exact⟨⟨_,rfl,by omega⟩,rfl⟩
   ·have hb':decide (b=l[j])=false:=by rw[zbZ];exact λe=>hb e.symm
    rw[hb']at hq;go_wp2_with fail;refine⟨⟨j+1,by omega,by simp,trivial,λk x hk hkx=>?_⟩,?_⟩
    ·rcases zay k j with h|h
     ·exact hB.out k x h hkx
     ·have:k=j:=by omega
      subst this;rw[hx]at hkx;cases hkx;exact hb
    ·simp only[intOf];omega
  ·have hm:¬b∈l:=λh=>by
    obtain⟨k,hk,hkb⟩:=List.getElem_of_mem h;exact hB.out k _ (by omega) (zaq hk) hkb
   have q:¬((j:Int)<(l.length:Int)):=by omega
   go_wp2_with fail;go_ret;simp
theorem Oh (b:Nat)(w:Λ):Ω prog 220 #[.slice none 0 0,aq b] w λe w'=>e=.returned (Γ Δ (-1))∧w'=w:=by
 unfold aq;go_enter func220,ntmps220;go_wp2_with fail;go_loopw [8] (λi wr=>i=Γ Δ 0∧wr=w) (λ_ _=>0)
 case atStart=>exact⟨rfl,rfl⟩
 case round=>
  obtain⟨rfl,rfl⟩:=hrel;go_wp2_with fail;go_ret;exact⟨rfl,rfl⟩
theorem Ev (l:List Nat)(av:Θ)(lo b:Nat)(w:Λ)(hrow:w.ownsRow lo 212 1 av l.length (l.map aq))(Og:∃v,w.heap[b]?=some (.cells #[v] 215))(WA:∀x∈l,∃v,w.heap[x]?=some (.cells #[v] 215)):Ω prog 193 #[av,aq b] w λe w'=>e=.returned (.bool (decide (b∈l)))∧w'=w:=by
 rcases hrow.2 with⟨rfl,h0⟩|⟨g,cap,cur,rfl,_⟩
 ·have:l=[]:=zce h0;subst this;have HC:Hid _:=Oh b w;clear hrow;unfold aq at HC ⊢;go_enter func193,ntmps193;go_wp2_with fail;refine zae HC.out ?_;rintro e w' ⟨rfl,rfl⟩;go_wp2_with fail;go_ret;simp
 ·have HC:Hid _:=Eu l g cap lo b w hrow Og WA;clear hrow;unfold aq at HC ⊢;go_enter func193,ntmps193;go_wp2_with fail;refine zae HC.out ?_;rintro e w' ⟨⟨i,rfl,hi⟩,rfl⟩;by_cases hm:b∈l
  ·rw[zac hm]at hi;go_wp2_with fail;go_ret;simp[hm]
  ·rw[zaa hm]at hi;subst hi;go_wp2_with fail;go_ret;simp[hm]
theorem zW {f:Int→Θ}(n:Int):∀l:List Int,(l.map λm=>(m,f m)).lookup n=if n∈l then some (f n)else none
 |[]=>rfl
 |m::l=>by
  rw[zaD,zcm];by_cases h:n=m
  ·subst h;simp
  ·have:(n==m)=false:=by rw[zai];exact h
   rw[this,zW n l];simp[h]
theorem ua (E:Env)(aT:List Int)(n:Int):(xz E aT).lookup n=if n∈aT then some (aq (E.eG n))else none:=by
 unfold xz;rw[zW (f:=λm=>aq (E.eG m))];simp
theorem ld (w:Λ)(A B C:Obj):(((w.alloc A).alloc B).alloc C).heap[w.heap.size+1+1]?=some C:=by
 rw[show w.heap.size+1+1=((w.alloc A).alloc B).heap.size by simp];exact zas _ _
section
variable {R M g cap:Nat}{T:List Tok}{dp:Nat}
theorem aaa:Yj R M g cap T dp:=by
 intro t p a0 n0 c0 w E s r hr ha hd eF;have mixed:prog.follows Ξ=true:=by kernel_rfl
 have hb0:ζ w.heap.size w ((w.alloc (jQ t)).alloc (jR p.depth p.passed a0 n0 c0)):=((zad _ w).alloc (zab _) _).alloc (by simp) _;have hs0:((w.alloc (jQ t)).alloc (jR p.depth p.passed a0 n0 c0)).heap.size=w.heap.size+1+1:=by simp
 have tZ:Hid (Kp R M w ((w.alloc (jQ t)).alloc (jR p.depth p.passed a0 n0 c0))):=Kp.aA hb0;have wP:=hr.below hb0;have sR:Hid _:=wP;have cR:=qg (w:=((w.alloc (jQ t)).alloc (jR p.depth p.passed a0 n0 c0)).drew) (M:=M) (l:=xz E s.aT) wP.lm t.n;rw[ua]at cR;have Ws:R<w.heap.size:=hr.lt;have n1:¬R=w.heap.size:=by omega
 have n2:¬R=w.heap.size+1:=by omega
 have n3:R<w.heap.size+1:=by omega
 obtain⟨⟨r0,r1,r2,r3⟩,-⟩:=jG hr.blk;have Ky:Hid _:=ha.below hb0;by_cases hp:p.passed=true
 ·have HE:Hid (r=.fail 5 t.from_):=eF.trans (zac (.inl hp));rw[hp]at cR tZ ⊢;clear eF hr wP hb0 ha hs0 sR Ky;unfold jd aq bB;by_cases hl:t.n∈s.aT
  ·rw[zac hl,zbl]at cR;unfold aq at cR;go_enter func161,ntmps161;go_wp2_with fail;go_region;go_wp2_with fail;go_region;go_wp2_with fail;go_ret2;rw[HE.out];refine⟨⟨w.heap.size+1+1,rfl,?_⟩,(Kp.trans tZ.out (Kp.aA ((((zad _ _).alloc (zab _) _).drew).drew))).a none⟩;exact ld w _ _ _
  ·rw[zaa hl,zbB]at cR;go_enter func161,ntmps161;go_wp2_with fail;go_region;go_wp2_with fail;go_region;go_wp2_with fail;go_ret2;rw[HE.out];refine⟨⟨w.heap.size+1+1,rfl,?_⟩,(Kp.trans tZ.out (Kp.aA ((((zad _ _).alloc (zab _) _).drew).drew))).a none⟩;exact ld w _ _ _
 have Bt:p.passed=false:=by simpa using hp
 rw[Bt]at cR tZ sR Ky hs0 ⊢;by_cases hl:t.n∈s.aT
 ·rw[zac hl,zbl]at cR;have hrow:(((w.alloc (jQ t)).alloc (jR p.depth false a0 n0 c0)).drew).ownsRow 0 212 1 (.slice a0 n0 c0) (p.ahead.map E.eG).length ((p.ahead.map E.eG).map aq):=by
   rw[zbx,List.map_map];exact Ky.out.1
  have HC:Hid _:=Ev (p.ahead.map E.eG) (.slice a0 n0 c0) 0 (E.eG t.n) _ hrow (sR.out.low _ hl) (λx hx=>by
   obtain⟨m,hm,rfl⟩:=zbc.1 hx;exact sR.out.low m (Ky.out.2.2 m hm))
  have sf:E.eG t.n∈p.ahead.map E.eG↔t.n∈p.ahead:=by
   constructor
   ·intro h;obtain⟨m,hm,e⟩:=zbc.1 h;rw[←sR.out.inj m (Ky.out.2.2 m hm) t.n hl e];exact hm
   ·exact λh=>zbc.2 ⟨_,h,rfl⟩
  by_cases Mw:t.n∈p.ahead
  ·have HE:Hid (r=.fail 5 t.from_):=eF.trans (zac (.inr (.inr Mw)));rw[zbi (sf.2 Mw)]at HC;clear eF hr wP hb0 ha hs0 hrow sf;unfold aq at cR HC;unfold jd aq bB;go_enter func161,ntmps161;go_wp2_with fail;go_region;go_wp2_with fail;refine zae HC.out ?_;rintro e w' ⟨rfl,rfl⟩;go_wp2_with fail;go_region;go_wp2_with fail;go_ret2;rw[HE.out];refine⟨⟨w.heap.size+1+1,rfl,?_⟩,(Kp.trans tZ.out (Kp.aA ((((zad _ _).alloc (zab _) _).drew).drew))).a none⟩;exact ld w _ _ _
  ·have HE:Hid (r=.ok (.ask t.n) s):=eF.trans (zaa (by simp[Bt,hl,Mw]));rw[zaY (λh=>Mw (sf.1 h))]at HC;have HG:Hid (k9 R M g cap T dp none w E s (.ok (.ask t.n) s) (.returned (.tuple #[.iface 212 (aq (E.eG t.n)),.pointer none])) ((w.alloc (jQ t)).alloc (jR p.depth false a0 n0 c0)).drew):=
    ⟨_,E,rfl,⟨_,_,rfl⟩,by unfold bf;exact⟨hl,rfl⟩,Ext.refl rfl rfl,bU.below sR.out ((zad _ _).drew),(Kp.trans tZ.out (Kp.aA ((zad _ _).drew))).a none⟩
   clear eF hr wP hb0 ha hs0 hrow sf;unfold aq at cR HC;unfold jd aq bB;go_enter func161,ntmps161;go_wp2_with fail;go_region;go_wp2_with fail;refine zae HC.out ?_;rintro e w' ⟨rfl,rfl⟩;go_wp2_with fail;go_ret2;rw[HE.out];exact HG.out
 ·have HE:Hid (r=.fail 5 t.from_):=eF.trans (zac (.inr (.inl hl)));rw[zaa hl,zbB]at cR;clear eF hr wP hb0 ha hs0 sR Ky;unfold jd aq bB
  ·go_enter func161,ntmps161;go_wp2_with fail;go_region;go_wp2_with fail;go_region;go_wp2_with fail;go_ret2;rw[HE.out];refine⟨⟨w.heap.size+1+1,rfl,?_⟩,(Kp.trans tZ.out (Kp.aA ((((zad _ _).alloc (zab _) _).drew).drew))).a none⟩;exact ld w _ _ _
end
section
variable {R M g cap:Nat}{T:List Tok}{dp:Nat}
theorem Oi (n:Nat)(t:Tok)(p:Pl)(a0:Option Addr)(n0 c0:Nat)(w:Λ)(E:Env)(s:gK)(r:RR Dt)(hr:bU w R M g cap T dp E s)(eF:r=if p.passed∨t.n∈s.aT then .fail 5 t.from_
 else if p.depth=dp then .fail 6 t.from_
 else(aO T dp n ⟨p.depth+1,p.passed,p.ahead++[t.n]⟩ { s with aT:=t.n::s.aT }).bind λd s=> .ok (.put t.n d) s)(BQ:p.passed=true∨t.n∈s.aT∨p.depth=dp):
 Ω prog 160 #[aq R,bB t,jd p.depth p.passed (.slice a0 n0 c0)] w λe w'=>k9 R M g cap T dp (Θ.slice a0 n0 c0).ownBlock w E s r e w':=by
 have mixed:prog.follows Ξ=true:=by kernel_rfl
 have hb0:ζ w.heap.size w ((w.alloc (jQ t)).alloc (jR p.depth p.passed a0 n0 c0)):=((zad _ w).alloc (zab _) _).alloc (by simp) _;have hs0:((w.alloc (jQ t)).alloc (jR p.depth p.passed a0 n0 c0)).heap.size=w.heap.size+1+1:=by simp
 have tZ:Hid (Kp R M w ((w.alloc (jQ t)).alloc (jR p.depth p.passed a0 n0 c0))):=Kp.aA hb0;have wP:=hr.below hb0;have sR:Hid _:=wP;have cR:=qg (w:=((w.alloc (jQ t)).alloc (jR p.depth p.passed a0 n0 c0)).drew) (M:=M) (l:=xz E s.aT) wP.lm t.n;rw[ua]at cR;have Ws:R<w.heap.size:=hr.lt;have n1:¬R=w.heap.size:=by omega
 have n2:¬R=w.heap.size+1:=by omega
 have n3:R<w.heap.size+1:=by omega
 obtain⟨⟨r0,r1,r2,r3⟩,-⟩:=jG hr.blk;by_cases hp:p.passed=true
 ·have HE:Hid (r=.fail 5 t.from_):=eF.trans (zac (.inl hp));rw[hp]at cR tZ ⊢;clear eF hr wP hb0 hs0 sR cR;unfold jd aq bB
  ·go_enter func160,ntmps160;go_wp2_with fail;go_region;go_wp2_with fail;go_region;go_wp2_with fail;go_ret2;rw[HE.out];refine⟨⟨w.heap.size+1+1,rfl,?_⟩,(Kp.trans tZ.out (Kp.aA ((((zad _ _).alloc (zab _) _).drew).drew))).a _⟩;exact ld w _ _ _
 have Bt:p.passed=false:=by simpa using hp
 rw[Bt]at cR tZ sR hs0 ⊢;by_cases hl:t.n∈s.aT
 ·rw[zac hl,zbl]at cR;have HE:Hid (r=.fail 5 t.from_):=eF.trans (zac (.inr hl));clear eF hr wP hb0 hs0 sR;unfold aq at cR;unfold jd aq bB
  ·go_enter func160,ntmps160;go_wp2_with fail;go_region;go_wp2_with fail;go_region;go_wp2_with fail;go_ret2;rw[HE.out];refine⟨⟨w.heap.size+1+1,rfl,?_⟩,(Kp.trans tZ.out (Kp.aA ((((zad _ _).alloc (zab _) _).drew).drew))).a _⟩;exact ld w _ _ _
 rw[zaa hl,zbB]at cR;replace eF:=eF.trans (zaa (by simp[Bt,hl]));have hc0:(((w.alloc (jQ t)).alloc (jR p.depth false a0 n0 c0)).drew).cell? ⟨R,2,none⟩=some (Γ Δ dp):=(jG sR.out.blk).1.2.2.1;by_cases hdd:p.depth=dp
 ·have HE:Hid (r=.fail 6 t.from_):=eF.trans (zac hdd);have HC:Hid _:=xb R dp t p.depth false a0 n0 c0 (((w.alloc (jQ t)).alloc (jR p.depth false a0 n0 c0)).drew) hc0 (by simp;omega) hdd;clear eF hr wP hb0 hs0 sR hc0 hdd;unfold jd aq bB at HC ⊢;go_enter func160,ntmps160;go_wp2_with fail;go_region;go_wp2_with fail;refine zae HC.out ?_;rintro e w1 ⟨b,rfl,hf,hb1⟩;have HF:Hid _:=hf;have CN:Hid _:=Kp.trans (Kp.trans tZ.out (Kp.aA ((zad _ _).drew))) (Kp.aA hb1);clear hf hb1 HC;go_wp2_with fail;go_ret2;rw[HE.out];exact⟨⟨b,rfl,cQ.alloc HF.out _⟩,(Kp.trans CN.out (Kp.aA ((zad _ _).alloc (zab _) _))).a _⟩
 ·exact absurd (BQ.resolve_left hp) (by simp[hl,hdd])
end
end Go.Proofs.YtlhimdjkkiflhaaGreatDoor
namespace Go.Proofs.YtlhimdjkkiflhaaGreatDoor
open Go.RowKit Go.Loop
def Env.label (E:Env)(n:Int)(b:Nat):Env:=⟨E.α,λm=>if m=n then b else E.eG m⟩
theorem qi (E:Env)(n:Int)(b k:Nat){aT:List Int}(hn:¬n∈aT):E.agree (E.label n b) k aT:=
 ⟨λ_ _=>rfl,λm hm=>zaa λe=>hn (by rw[←e];exact hm)⟩
theorem Oj (E:Env)(n:Int)(b:Nat){aT:List Int}(hn:¬n∈aT):xz (E.label n b) (n::aT)=xz E aT++[(n,aq b)]:=by
 unfold xz;rw[List.reverse_cons,zck]
 congr 1
 ·exact List.map_congr_left λm hm=>by rw[(qi E n b 0 hn).2 m (List.mem_reverse.1 hm)]
 ·simp[Env.label]
theorem bU.label {w:Λ}{R M g cap:Nat}{T:List Tok}{dp:Nat}{E:Env}{s:gK}(h:bU w R M g cap T dp E s){n:Int}{b:Nat}{o:Obj}(hn:¬n∈s.aT)(hb:∃v,w.heap[b]?=some (.cells #[v] 215))(ru:∀m∈s.aT,E.eG m≠b)
 (hm:j0 { w with heap:=w.heap.setIfInBounds M o } M ((xz E s.aT++[(n,aq b)]).map λp=>(Θ.int .i64 p.1,p.2))):
 bU { w with heap:=w.heap.setIfInBounds M o } R M g cap T dp (E.label n b) { s with aT:=n::s.aT }:=by
 have ho:∀c,c≠M→(w.heap.setIfInBounds M o)[c]?=w.heap[c]?:=λc hc=>by rw[zaB (λe=>hc e.symm)]
 have hlM:∀(c:Nat) (v:Θ),w.heap[c]?=some (.cells #[v] 215)→c≠M:=λc v hc e=>by
  obtain⟨es,cl,q,_⟩:=h.lm;rw[e,q]at hc;cases hc
 refine⟨h.rm,h.gr,h.gm,(ho R h.rm).trans h.blk,?_,?_,λm U1=>?_,λm h1 k h2 e=>?_,h.small,h.deep⟩
 ·refine⟨h.row.1,h.row.2.imp id ?_⟩;rintro ⟨c,cp,cur,h1,h2,h3,h4⟩;have:c=g:=by cases h1;rfl
  exact⟨c,cp,cur,h1,h2,(ho c (by rw[this];exact h.gm)).trans h3,h4⟩
 ·show j0 _ M ((xz (E.label n b) (n::s.aT)).map _);rw[Oj E n b hn];exact hm
 ·show ∃v,(w.heap.setIfInBounds M o)[if m=n then b else E.eG m]?=_;by_cases e:m=n
  ·rw[zac e];obtain⟨v,hv⟩:=hb;exact⟨v,(ho b (hlM b v hv)).trans hv⟩
  ·rw[zaa e];have Pz:m∈s.aT:=(zav.1 U1).resolve_left e;obtain⟨v,hv⟩:=h.low m Pz;exact⟨v,(ho _ (hlM _ v hv)).trans hv⟩
 ·have e':(if m=n then b else E.eG m)=(if k=n then b else E.eG k):=e;by_cases e1:m=n<;>by_cases e2:k=n
  ·rw[e1,e2]
  ·rw[zac e1,zaa e2]at e';exact absurd e'.symm (ru k ((zav.1 h2).resolve_left e2))
  ·rw[zaa e1,zac e2]at e';exact absurd e' (ru m ((zav.1 h1).resolve_left e1))
  ·rw[zaa e1,zaa e2]at e';exact h.inj m ((zav.1 h1).resolve_left e1) k ((zav.1 h2).resolve_left e2) e'
end Go.Proofs.YtlhimdjkkiflhaaGreatDoor
namespace Go.Proofs.YtlhimdjkkiflhaaGreatDoor
open Go.Proofs.Tryz
open Go.RowKit Go.Loop
theorem Ol:prog.underlying 126=some (.slice 212):=by kernel_rfl
theorem ub {w:Λ}{v:Θ}{n:Nat}{xs:List Θ}(h:w.ownsRow 0 212 1 v n xs)(b:Nat)(o:Obj)(hb:w.heap[b]?=some o)(ho:∀cur,o≠.cells cur 212):some b≠v.ownBlock:=by
 intro e;rcases h.2 with⟨rfl,_⟩|⟨g,cap,cur,rfl,_,hg,_⟩
 ·cases e
 ·have:b=g:=by cases e;rfl
  rw[this,hg]at hb;exact ho cur (by cases hb;rfl)
section
variable {R M g cap:Nat}{T:List Tok}{dp:Nat}{E:Env}{s:gK}
theorem bU.tokens {w:Λ}(h:bU w R M g cap T dp E s):∃cur,w.heap[g]?=some (.cells cur 131):=by
 rcases h.row.2 with⟨e,_⟩|⟨b,cp,cur,h1,_,h3,_⟩
 ·cases e
 ·have:b=g:=by cases h1;rfl
  exact⟨cur,by rw[←this];exact h3⟩
theorem Om {w3 w4:Λ}{v:Θ}{n:Nat}{xs:List Θ}{A:Obj}(hr:bU w3 R M g cap T dp E s)(ho:w3.ownsRow 0 212 1 v n xs)(hg:(w3.alloc A).grownBy w4 v.ownBlock):bU w4 R M g cap T dp E s∧kZ R M v.ownBlock w3 w4∧(∀b,b<w3.heap.size→some b≠v.ownBlock→w4.heap[b]?=w3.heap[b]?)∧w3.heap.size+1≤w4.heap.size:=by
 have hs:(w3.alloc A).heap.size=w3.heap.size+1:=by simp
 have hb:∀b,b<w3.heap.size→some b≠v.ownBlock→w4.heap[b]?=w3.heap[b]?:=λb h h'=>(hg.block b (by omega) h').trans (zaK _ _ _ h);have hz:=hg.size;refine⟨?_,⟨hg.os,hg.tape,hg.output,by omega,λb b1 _ _ b4=>hb b b1 b4⟩,hb,by omega⟩;obtain⟨es,c,hm,-⟩:=hr.lm;obtain⟨cur,UY⟩:=hr.tokens;have q1:=ub ho R _ hr.blk (λcur e=>by simp at e);have q2:=ub ho g _ UY (λcur e=>by simp at e);have q3:=ub ho M _ hm (λcur e=>by simp at e);exact bU.step hr (k:=s.k) ((hb R hr.lt q1).trans hr.blk) (by omega) (λb b1 b2=>hb b b1 (b2.elim (λe=>by rw[e];exact q2) λe=>by rw[e];exact q3)) λb x hv=>hb b (zaf.1 hv).1 (ub ho b _ hv (λcur e=>by simp at e))
theorem bU.place {w:Λ}(h:bU w R M g cap T dp E s){b:Nat}{cs:Array Θ}(hb:w.heap[b]?=some (.cells cs 128))(i:Nat)(v:Θ):bU (w.setCell ⟨b,i,none⟩ v) R M g cap T dp E s:=by
 have ho:∀c,c≠b→(w.setCell ⟨b,i,none⟩ v).heap[c]?=w.heap[c]?:=λc hc=>zau _ _ _ _ hc;obtain⟨es,c,hm,-⟩:=h.lm;obtain⟨cur,UY⟩:=h.tokens;have q1:R≠b:=λe=>by rw[←e,h.blk]at hb;simp at hb
 have q2:g≠b:=λe=>by rw[←e,UY]at hb;simp at hb
 have q3:M≠b:=λe=>by rw[←e,hm]at hb;simp at hb
 exact bU.step h (k:=s.k) ((ho R q1).trans h.blk) (by simp) (λc _ c2=>ho c (c2.elim (λe=>by rw[e];exact q2) λe=>by rw[e];exact q3)) λc x hv=>ho c (λe=>by rw[e,hb]at hv;simp at hv)
theorem jF.more {w:Λ}{l:List Int}{v':Θ}{n:Int}{L0 b:Nat}{cs:Array Θ}(h:w.ownsRow 0 212 1 v' (l.length+1) (l.map (λm=>aq ((E.label n L0).eG m))++[aq L0]))(hb:w.heap[b]?=some (.cells cs 128))(hl:∀m∈l,m∈s.aT)(x:Θ):jF (w.setCell ⟨b,2,none⟩ x) (E.label n L0) { s with aT:=n::s.aT } (l++[n]) v':=by
 refine⟨?_,?_,λm hm=>?_⟩
 ·have e:((l++[n]).map λm=>aq ((E.label n L0).eG m))=l.map (λm=>aq ((E.label n L0).eG m))++[aq L0]:=by
   rw[zck]
   congr 1
   simp[Env.label]
  rw[e,zbg];refine⟨h.1,h.2.imp id ?_⟩;rintro ⟨c,cp,cur,h1,h2,h3,h4⟩;exact⟨c,cp,cur,h1,h2,(zau _ _ _ _ (λe=>by rw[e,hb]at h3;simp at h3)).trans h3,h4⟩
 ·obtain⟨a,c,e⟩:=bq h;exact⟨a,_,c,e⟩
 ·rcases zbm.1 hm with h1|h1
  ·exact zap _ (hl m h1)
  ·simp at h1;subst h1;exact zam
theorem kZ.put {A B:Option Nat}{w w5 w6:Λ}(h:kZ R M A w w5)(k:kZ R M B w5 w6)(hv:B=A∨∃k,B=some k∧w.heap.size≤k):kZ R M A w w6:=by
 have h1:=h.size;have h2:=k.size;refine⟨k.os.trans h.os,k.tape.trans h.tape,k.output.trans h.output,by omega,λb b1 b2 b3 b4=>(k.block b (by omega) b2 b3 λe=>?_).trans (h.block b b1 b2 b3 b4)⟩;rcases hv with hv|⟨c,hc,hlt⟩
 ·exact b4 (e.trans hv)
 ·rw[hc]at e;cases e;omega
theorem kZ.above {A:Option Nat}{w w':Λ}(h:kZ R M A w w'){b:Nat}(hb:w.heap.size≤b)(i:Nat)(v:Θ):kZ R M A w (w'.setCell ⟨b,i,none⟩ v):=
 ⟨h.os,h.tape,h.output,by have:=h.size;simpa using this,λc c1 c2 c3 c4=>(zau _ _ _ _ (show c≠b by omega)).trans (h.block c c1 c2 c3 c4)⟩
theorem WB {w w5 w6:Λ}{A:Option Nat}{v' x v:Θ}{E2:Env}{s2:gK}{n:Int}{d:Dt}{L0 m:Nat}{xs:List Θ}(hk:kZ R M A w w5)(hL:w.heap.size≤L0)(mF:w5.heap[L0]?=some (.cells #[x] 215))
 (ho:w5.ownsRow 0 212 1 v' m xs)(hv:v'.ownBlock=A∨∃k,v'.ownBlock=some k∧w.heap.size≤k)(ZB:bU w5 R M g cap T dp (E.label n L0) { s with aT:=n::s.aT })(hn:¬n∈s.aT)
 (hi:∃t y,v=.iface t y)(cI:bf w5.heap.size s2.fresh s2.aT w6 E2 d v)(hx:Ext w5 w6 (E.label n L0) E2 { s with aT:=n::s.aT } s2)(BI:bU w6 R M g cap T dp E2 s2)(Wy:kZ R M v'.ownBlock w5 w6):
 w6.heap[L0]?=some (.cells #[x] 215)∧k9 R M g cap T dp A w E s (.ok (.put n d) s2) (.returned (.tuple #[v,.pointer none])) (w6.setCell ⟨L0,0,none⟩ v):=by
 have hL5:L0<w5.heap.size:=(zaf.1 mF).1;have hs5:=hk.size;have hs6:=Wy.size;obtain⟨es,c,hm,-⟩:=ZB.lm;have q1:L0≠R:=λe=>by rw[e,ZB.blk]at mF;simp at mF
 have q3:L0≠M:=λe=>by rw[e,hm]at mF;simp at mF
 have nz:w6.heap[L0]?=some (.cells #[x] 215):=(Wy.block L0 hL5 q1 q3 (ub ho L0 _ mF (λcur e=>by simp at e))).trans mF;obtain⟨cur,UY⟩:=BI.tokens;have q2:g≠L0:=λe=>by rw[e,nz]at UY;simp at UY
 have hl0:(w6.setCell ⟨L0,0,none⟩ v).heap[L0]?=some (.cells #[v] 215):=eC nz 0 v;have ho7:∀c,c≠L0→(w6.setCell ⟨L0,0,none⟩ v).heap[c]?=w6.heap[c]?:=λc hc=>zau _ _ _ _ hc;have Kv:E2.eG n=L0:=(hx.agree.2 n zam).trans (zac rfl);refine⟨nz,v,E2,rfl,hi,?_,?_,?_,(hk.put Wy hv).above hL 0 v⟩
 ·unfold bf;rw[Kv];exact⟨hx.aT n zam,hL,hl0,bf.keep hs5 (zab _) (λ_ h=>h) (λb b1 _=>ho7 b (by omega)) ⟨λ_ _=>rfl,λ_ _=>rfl⟩ d v cI⟩
 ·have ag:=qi E n L0 s.fresh hn;refine⟨⟨λi hi=>(hx.agree.1 i hi).trans (ag.1 i hi),λm hm=>(hx.agree.2 m (zap _ hm)).trans (ag.2 m hm)⟩,hx.fresh,λm hm=>hx.aT m (zap _ hm),λi i1 i2=>?_,hx.inj⟩;have:=hx.new i i1 i2;rw[show(w6.setCell ⟨L0,0,none⟩ v).heap.size=w6.heap.size by simp];omega
 ·refine⟨BI.rm,BI.gr,BI.gm,(ho7 R q1.symm).trans BI.blk,?_,?_,λm hm=>?_,BI.inj,BI.small,BI.deep⟩
  ·refine⟨BI.row.1,BI.row.2.imp id ?_⟩;rintro ⟨b,cp,cur,h1,h2,h3,h4⟩;have:b=g:=by cases h1;rfl
   exact⟨b,cp,cur,h1,h2,(ho7 b (by rw[this];exact q2)).trans h3,h4⟩
  ·obtain⟨es,c,h1,h2⟩:=BI.lm;exact⟨es,c,(ho7 M q3.symm).trans h1,h2⟩
  ·obtain⟨y,hy⟩:=BI.low m hm;by_cases e:E2.eG m=L0
   ·rw[e];exact⟨v,hl0⟩
   ·exact⟨y,(ho7 _ e).trans hy⟩
end
section
variable {P:ξ}
theorem xB (w:Λ)(base:Nat)(t ty e:Φ)(i:ι)(z:Θ)(sz y:Nat)(ht:P.underlying t=some (.slice e))(hi:P.info? e=some i)(hz:i.zero=some z)
 (hsize:i.size=sz)(hby:i.bytes=y)(hsz:0<sz)(hy:y≤100)(hzs:z.cells.size=sz)
 (v:Θ)(n:Nat)(xs:List Θ)(hown:w.ownsRow base e sz v n xs)
 (a:Addr)(m c:Nat)(news:List Θ)(hm:m≠0)(hl:news.length=m*sz)(hnews:∀j u,news[j]?=some u→w.cell? (a.add j)=some u)(h1:∀u∈news,u.oneCell'=true)
 (hlen:n+m≤1000000)(hbase:base≤w.heap.size):
 ∃v' w',(Builtin.append_ #[t,t] ty #[v,.slice (some a) m c]).run P w=.ok v' w'∧w'.ownsRow base e sz v' (n+m) (xs++news)∧w.grownBy w' v.ownBlock∧
  (v'.ownBlock=v.ownBlock∨∃k,v'.ownBlock=some k∧w.heap.size≤k):=by
 have h63:n+m≤π:=by unfold π;omega
 have hbytes:(n+m)*y≤140737488355328:=zah (Nat.mul_le_mul hlen hy) (by decide);obtain⟨v',w',hr,h2,h3,h4⟩:=run_append_own (P:=P) w base t ty e i z sz y ht hi hz hsize hby hzs hsz v n xs hown a m c news hl hnews h1 h63 hbytes hbase;refine⟨v',w',hr,h2,h3,?_⟩;have Kk:n+m≤9223372036854775807:=by omega
 rcases hown.2 with⟨rfl,rfl⟩|⟨g,cap,cur,rfl,hbg,hg,hnc,hcm,hcs,GQ⟩
 ·have pN:=run_append_nil (P:=P) w t ty e i z ht hi hz a m c news (by rw[hsize];exact hl) hnews (by omega) (by omega) (by rw[hby];first|exact growslice_fits (by omega) (by simpa using hbytes)|exact zah (Nat.mul_le_mul (show m≤1000000 by omega) hy) (by decide));rw[pN]at hr;injection hr with a b;rw[←a];exact Or.inr ⟨_,rfl,zab _⟩
 ·by_cases hroom:n+m≤cap
  ·have pN:=run_append_room (P:=P) w t ty e i ht hi g n cap cur hg a m c news (by rw[hsize];exact hl) hnews h1 hroom (by rw[hsize,hcs,hl,←Nat.add_mul];exact Nat.mul_le_mul hroom (zab _));rw[pN]at hr;injection hr with a b;rw[←a];exact Or.inl rfl
  ·have holds:∀j u,xs[j]?=some u→w.cell? ((⟨g,0,none⟩:Addr).add j)=some u:=hown.cells (g:=g) rfl;have pN:=run_append_grow (P:=P) w t ty e i z ht hi hz ⟨g,0,none⟩ n cap xs (by rw[hsize];exact hown.1) holds a m c news (by rw[hsize];exact hl) hnews (by omega) (by omega) (by rw[hby];exact growslice_fits (by omega) hbytes);rw[pN]at hr;injection hr with a b;rw[←a];exact Or.inr ⟨_,rfl,zab _⟩
theorem vP {ops:Array Oper}{o:Oper}{a:Act}{w:Λ}{K:Act→Λ→Prop}{Q:Exit→Act→Λ→Prop}{X:Prop}
 (hg:o.guard=none)(s x:Operand)(t:Φ)(hop:o.op=Op.call { callee:=Callee.builtin Builtin.append,args:=#[s,x],argTypes:=#[t,t] })
 (base:Nat)(e:Φ)(i:ι)(z:Θ)(sz y:Nat)(ht:P.underlying t=some (.slice e))(hi:P.info? e=some i)(hz:i.zero=some z)
 (hsize:i.size=sz)(hby:i.bytes=y)(hsz:0<sz)(hy:y≤100)(hzs:z.cells.size=sz)
 (v:Θ)(n:Nat)(xs:List Θ)(hs:a.eval s=v)(hown:w.ownsRow base e sz v n xs)
 (ad:Addr)(m c:Nat)(news:List Θ)(hx:a.eval x=.slice (some ad) m c)(hm:m≠0)(hl:news.length=m*sz)(hnews:∀j u,news[j]?=some u→w.cell? (ad.add j)=some u)(h1:∀u∈news,u.oneCell'=true)
 (hlen:n+m≤1000000)(hbase:base≤w.heap.size)
 (hK:∀v' w',w'.ownsRow base e sz v' (n+m) (xs++news)→w.grownBy w' v.ownBlock→(v'.ownBlock=v.ownBlock∨∃k,v'.ownBlock=some k∧w.heap.size≤k)→K (a.put o.dst v') w'):
 if Region.wanted o (yielded ops a.tmps)=true then Oper.wp P o a w K Q else X:=by
 have hw:Region.wanted o (yielded ops a.tmps)=true:=by simp[Region.wanted,hg]
 rw[zac hw];obtain⟨v',w',hr,h2,h3,h4⟩:=xB (P:=P) w base t o.type e i z sz y ht hi hz hsize hby hsz hy hzs v n xs hown ad m c news hm hl hnews h1 hlen hbase;unfold Oper.wp;simp only[execOp,hop,resolve,invoke,builtin,zaV,zbb,zaW,zbT,zaD,zbu,hs,hx,hr];exact hK v' w' h2 h3 h4
end
theorem Oo:(prog.info? 45).map (λi=>(i.zero,i.size,i.bytes))=some (some (.agg #[Γ Δ 0,.string ⟨#[]⟩,Γ Δ 0,Γ Δ 0,.slice none 0 0]),5,64):=by kernel_rfl
theorem Kz:prog.underlying 28=some (.slice 45):=by kernel_rfl
def sS (x:mb)(sv:Θ):List Θ:=[Γ Δ x.kind,.string ⟨⟨x.text⟩⟩,Γ Δ x.n,Γ Δ x.d,sv]
def xC:List mb→List Θ→List Θ
 |x::l,sv::bC=>sS x sv++xC l bC
 |_,_=>[]
def Yk (w:Λ)(base:Nat)(sv:Θ)(l:List Nat):Prop:=
 (sv=.slice none 0 0∧l=[])∨∃b,sv=.slice (some ⟨b,0,none⟩) l.length l.length∧base≤b∧w.heap[b]?=some (.cells (l.map λk:Nat=>Θ.int .i64 (k:Int)).toArray 3)
structure dS (w0 w:Λ) (G M:Nat) (κ:Nat→HK) (E:Env) (g:mO) (bC:List Θ) (nv:Θ):Prop where
 gm:G≠M
 glo:w0.heap.size≤G
 mlo:w0.heap.size≤M
 low:ζ w0.heap.size w0 w
 blk:w.heap[G]?=some (.cells #[nv,.map (some M)] 100)
 row:w.ownsRow w0.heap.size 45 5 nv g.nodes.length (xC g.nodes bC)
 map:j0 w M (G0 κ E g.met)
 len:bC.length=g.nodes.length
 subs:∀(j:Nat) x sv,g.nodes[j]?=some x→bC[j]?=some sv→Yk w w0.heap.size sv x.subs
theorem G9:∀(l:List mb) (bC:List Θ) (x:mb) (sv:Θ),bC.length=l.length→xC (l++[x]) (bC++[sv])=xC l bC++sS x sv
 |[],[],x,sv,_=>by simp[xC]
 |[],_::_,_,_,h=>by simp at h
 |_::_,[],_,_,h=>by simp at h
 |y::l,s::bC,x,sv,h=>by
  have:=G9 l bC x sv (by simpa using h);simp only[zaM,xC,this,zcf]
end Go.Proofs.YtlhimdjkkiflhaaGreatDoor
