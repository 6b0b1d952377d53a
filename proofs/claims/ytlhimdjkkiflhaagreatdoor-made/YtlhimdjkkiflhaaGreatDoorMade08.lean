import Derived.LaidEqlPtr
import Derived.Test.YtlhimdjkkiflhaaGreatDoorMade07
set_option maxHeartbeats 8000000
set_option maxRecDepth 100000
open Go.Value renaming int→Γ
open Go.IntKind renaming i64→Δ
open Go renaming Value→Θ,World→Λ,Calls→Φ,TypeId→ζ,Program→η,maxLen→θ
open Go.Departure renaming mixedOrders→Ξ
open Go.RowKit renaming Below→Ω
namespace Go.Loop
inductive Dt where
 |nil
 |sym (s:List UInt8)
 |num (n d:Int)
 |cD (n:Int)
 |kB (n:Int)
 |txt (i:Nat) (s:List UInt8)
 |pair (i:Nat) (a b:Dt)
 |vec (i:Nat) (l:Dt)
 |cZ
 |br (a l:Dt)
 |put (n:Int) (d:Dt)
 |ask (n:Int)
deriving DecidableEq
structure eD where
 k:Nat
 fresh:Nat
 ak:List Int
deriving DecidableEq
structure Pl where
 depth:Nat
 passed:Bool
 ahead:List Int
inductive RR (α:Type) where
 |out
 |fail (e:Int) (at_:Nat)
 |ok (a:α) (s:eD)
def RR.bind {α β:Type}(x:RR α)(f:α→eD→RR β):RR β:=
 match x with
 |.out=> .out
 |.fail e a=> .fail e a
 |.ok a s=>f a s
def aU:List Dt→Dt→Nat→Dt×Nat
 |[],rest,i=>(rest,i)
 |d::l,rest,i=>(.pair (aU l rest i).2 d (aU l rest i).1,(aU l rest i).2+1)
def fX:List Dt→Dt
 |[]=> .cZ
 |d::l=> .br d (fX l)
def j9 (t:Tok)(s:eD):RR Dt:=
 if t.kind=8 then .ok (.txt s.fresh t.text) { s with fresh:=s.fresh+1 }
 else if t.kind=9 then .ok (.kB t.n) s
 else if t.kind=12 then .ok (.cD t.n) s
 else if t.kind=14 then .ok (.sym t.text) s
 else if t.fault≠0 then .fail t.fault t.from_
 else .ok (.num t.n t.d) s
section
variable (T:List Tok)(Kj:Nat)
mutual
def ay:Nat→Pl→eD→RR Dt
 |0,_,_=> .out
 |n+1,p,s=>(aM n p s).bind λt s=>aL n t p s
def aM:Nat→Pl→eD→RR Tok
 |0,_,_=> .out
 |n+1,p,s=>
  match T[s.k]? with
  |none=> .out
  |some t=>
   if t.kind=0 then .fail 4 t.from_
   else if t.kind=1 then .fail 3 t.from_
   else if t.kind=6 then(ay n ⟨p.depth,true,[]⟩ { s with k:=s.k+1 }).bind λ_ s=>aM n p s
   else .ok t { s with k:=s.k+1 }
def aL:Nat→Tok→Pl→eD→RR Dt
 |0,_,_,_=> .out
 |n+1,t,p,s=>
  if t.kind=3∨t.kind=7 then .fail 3 t.from_
  else if t.kind=10 then
   (if p.passed∨t.n∈s.ak then .fail 5 t.from_
    else if p.depth=Kj then .fail 6 t.from_
    else(ay n ⟨p.depth+1,p.passed,p.ahead++[t.n]⟩ { s with ak:=t.n::s.ak }).bind λd s=> .ok (.put t.n d) s)
  else if t.kind=11 then(if p.passed∨t.n∉s.ak∨t.n∈p.ahead then .fail 5 t.from_ else .ok (.ask t.n) s)
  else if t.kind=2∨t.kind=5∨t.kind=4 then
   (if p.depth=Kj then .fail 6 t.from_
    else if t.kind=5 then(cy n [] ⟨p.depth+1,p.passed,[]⟩ { s with fresh:=s.fresh+1 }).bind λl s'=> .ok (.vec s.fresh (fX l)) s'
    else if t.kind=4 then(ay n ⟨p.depth+1,p.passed,[]⟩ s).bind λd s=> .ok (aU [.sym [113,117,111,116,101],d] .nil s.fresh).1 { s with fresh:=s.fresh+2 }
    else bh n [] ⟨p.depth+1,p.passed,[]⟩ s)
  else j9 t s
def bh:Nat→List Dt→Pl→eD→RR Dt
 |0,_,_,_=> .out
 |n+1,data,p,s=>
  (aM n p s).bind λt s=>
    if t.kind=3 then .ok (aU data .nil s.fresh).1 { s with fresh:=(aU data .nil s.fresh).2 }
    else if t.kind=7∧data≠[]then
     (ay n p s).bind λrest s=>(aM n p s).bind λt s=>
       if t.kind=3 then .ok (aU data rest s.fresh).1 { s with fresh:=(aU data rest s.fresh).2 } else .fail 3 t.from_
    else(aL n t p s).bind λd s=>bh n (data++[d]) p s
def cy:Nat→List Dt→Pl→eD→RR (List Dt)
 |0,_,_,_=> .out
 |n+1,data,p,s=>
  (aM n p s).bind λt s=>
    if t.kind=3 then .ok data s
    else if data.length=20 then .fail 3 t.from_
    else(aL n t p s).bind λd s=>cy n (data++[d]) p s
end
end
def aO (n:Int):Dt→Option Dt
 |.put m d=>if m=n then some d else aO n d
 |.pair _ a b=>(aO n a).orElse λ_=>aO n b
 |.vec _ l=>aO n l
 |.br a l=>(aO n a).orElse λ_=>aO n l
 |_=>none
def bQ (root:Dt):Nat→Dt→Dt
 |0,d=>d
 |n+1,.put _ d=>bQ root n d
 |n+1,.ask m=>bQ root n ((aO m root).getD .nil)
 |_+1,d=>d
structure eO where
 kind:Int
 text:List UInt8
 n:Int
 d:Int
 subs:List Nat
deriving DecidableEq
structure fP where
 nodes:List eO
 met:List (Nat×Nat)
def fP.add (g:fP)(x:eO):fP:={ g with nodes:=g.nodes++[x] }
def bE (l:List eO)(i:Nat)(s:List Nat):List eO:=l.modify i λx=>{ x with subs:=s }
end Go.Loop
namespace Go.Proofs.YtlhimdjkkiflhaaGreatDoor
open Go.Proofs.Tryz
open Go.RowKit Go.Loop
variable {w w':Λ}{lo Fp:Nat}
structure Env where
 α:Nat→Nat
 cE:Int→Nat
def aC (b:Nat):Θ:= .pointer (some ⟨b,0,none⟩)
mutual
def ct (lo k:Nat)(L:List Int)(w:Λ)(E:Env):Dt→Θ→Prop
 |.nil,v=>v=.iface 272 (.agg #[])
 |.sym s,v=>v=.iface 168 (.agg #[.string ⟨⟨s⟩⟩])
 |.num n d,v=>v=.iface 153 (.agg #[Γ Δ n,Γ Δ d])
 |.cD n,v=>v=.iface 155 (.agg #[Γ Δ n])
 |.kB n,v=>v=.iface 157 (.agg #[Γ Δ n])
 |.txt i s,v=>i<k∧lo≤E.α i∧v=.iface 158 (aC (E.α i))∧w.heap[E.α i]?=some (.cells #[.string ⟨⟨s⟩⟩] 218)
 |.pair i a b,v=>i<k∧lo≤E.α i∧v=.iface 150 (aC (E.α i))∧∃va vb,w.heap[E.α i]?=some (.cells #[va,vb] 161)∧ct lo k L w E a va∧ct lo k L w E b vb
 |.vec i l,v=>i<k∧lo≤E.α i∧v=.iface 163 (aC (E.α i))∧∃sl vs,w.heap[E.α i]?=some (.cells #[sl] 165)∧w.ownsRow lo 58 1 sl vs.length vs∧df lo k L w E l vs
 |.put n d,v=>n∈L∧lo≤E.cE n∧w.heap[E.cE n]?=some (.cells #[v] 215)∧ct lo k L w E d v
 |.ask n,v=>n∈L∧v=.iface 212 (aC (E.cE n))
 |.cZ,_=>False
 |.br _ _,_=>False
def df (lo k:Nat)(L:List Int)(w:Λ)(E:Env):Dt→List Θ→Prop
 |.cZ,vs=>vs=[]
 |.br a l,vs=>∃v r,vs=v::r∧ct lo k L w E a v∧df lo k L w E l r
 |_,_=>False
end
def Env.agree (E E':Env)(k:Nat)(L:List Int):Prop:=(∀i,i<k→E'.α i=E.α i)∧∀n∈L,E'.cE n=E.cE n
theorem bC {e:ζ}{z:Nat}{v:Θ}{n:Nat}{xs:List Θ}(h:w.ownsRow lo e z v n xs)(hl:Fp≤lo)(hk:∀b,lo≤b→b<w.heap.size→w'.heap[b]?=w.heap[b]?):w'.ownsRow Fp e z v n xs:=by
 refine⟨h.1,h.2.imp id ?_⟩;rintro ⟨g,cap,cur,h1,h2,h3,h4⟩;exact⟨g,cap,cur,h1,by omega,(hk g h2 (zaj.1 h3).1).trans h3,h4⟩
mutual
theorem ct.keep {k k':Nat}{L L':List Int}{E E':Env}(hl:Fp≤lo)(hk:k≤k')(hL:∀n∈L,n∈L')(hw:∀b,lo≤b→b<w.heap.size→w'.heap[b]?=w.heap[b]?)(hE:E.agree E' k L):∀(d:Dt) (v:Θ),ct lo k L w E d v→ct Fp k' L' w' E' d v
 |.nil,v,h=>by unfold ct at h ⊢;exact h
 |.sym s,v,h=>by unfold ct at h ⊢;exact h
 |.num n d,v,h=>by unfold ct at h ⊢;exact h
 |.cD n,v,h=>by unfold ct at h ⊢;exact h
 |.kB n,v,h=>by unfold ct at h ⊢;exact h
 |.txt i s,v,h=>by
  unfold ct at h ⊢;obtain⟨h1,h2,h3,h4⟩:=h;rw[hE.1 i h1];exact⟨by omega,by omega,h3,(hw _ h2 (zaj.1 h4).1).trans h4⟩
 |.pair i a b,v,h=>by
  unfold ct at h ⊢;obtain⟨h1,h2,h3,va,vb,h4,h5,h6⟩:=h;rw[hE.1 i h1];exact⟨by omega,by omega,h3,va,vb,(hw _ h2 (zaj.1 h4).1).trans h4,ct.keep hl hk hL hw hE a va h5,ct.keep hl hk hL hw hE b vb h6⟩
 |.vec i l,v,h=>by
  unfold ct at h ⊢;obtain⟨h1,h2,h3,sl,vs,h4,h5,h6⟩:=h;rw[hE.1 i h1];exact⟨by omega,by omega,h3,sl,vs,(hw _ h2 (zaj.1 h4).1).trans h4,bC h5 hl hw,df.keep hl hk hL hw hE l vs h6⟩
 |.put n d,v,h=>by
  unfold ct at h ⊢;obtain⟨h1,h2,h3,h4⟩:=h;rw[hE.2 n h1];exact⟨hL n h1,by omega,(hw _ h2 (zaj.1 h3).1).trans h3,ct.keep hl hk hL hw hE d v h4⟩
 |.ask n,v,h=>by
  unfold ct at h ⊢;rw[hE.2 n h.1];exact⟨hL n h.1,h.2⟩
 |.cZ,v,h=>by unfold ct at h;exact h.elim
 |.br a l,v,h=>by unfold ct at h;exact h.elim
theorem df.keep {k k':Nat}{L L':List Int}{E E':Env}(hl:Fp≤lo)(hk:k≤k')(hL:∀n∈L,n∈L')(hw:∀b,lo≤b→b<w.heap.size→w'.heap[b]?=w.heap[b]?)(hE:E.agree E' k L):∀(d:Dt) (vs:List Θ),df lo k L w E d vs→df Fp k' L' w' E' d vs
 |.cZ,vs,h=>by unfold df at h ⊢;exact h
 |.br a l,vs,h=>by
  unfold df at h ⊢;obtain⟨v,r,rfl,h1,h2⟩:=h;exact⟨v,r,rfl,ct.keep hl hk hL hw hE a v h1,df.keep hl hk hL hw hE l r h2⟩
 |.nil,vs,h=>by unfold df at h;exact h.elim
 |.sym _,vs,h=>by unfold df at h;exact h.elim
 |.num _ _,vs,h=>by unfold df at h;exact h.elim
 |.cD _,vs,h=>by unfold df at h;exact h.elim
 |.kB _,vs,h=>by unfold df at h;exact h.elim
 |.txt _ _,vs,h=>by unfold df at h;exact h.elim
 |.pair _ _ _,vs,h=>by unfold df at h;exact h.elim
 |.vec _ _,vs,h=>by unfold df at h;exact h.elim
 |.put _ _,vs,h=>by unfold df at h;exact h.elim
 |.ask _,vs,h=>by unfold df at h;exact h.elim
end
def nQ (w:Λ)(M:Nat)(l:List (Θ×Θ)):Prop:=∃es clock,w.heap[M]?=some (.map es clock)∧es.toList.map (λe=>(e.key,e.val))=l
theorem oM:∀(es:List MapEntry) (l:List (Int×Θ)) (n:Int) (i:Nat),es.map (λe=>(e.key,e.val))=l.map (λp=>(Θ.int .i64 p.1,p.2))→∃j,Instr.findNow (.int .i64) (Γ Δ n) es i=some ((l.lookup n).map λv=>(j,v))
 |[],[],n,i,_=>⟨0,rfl⟩
 |[],_::_,_,_,h=>by simp at h
 |_::_,[],_,_,h=>by simp at h
 |e::es,(m,v)::l,n,i,h=>by
  simp only[zaB,zcN,zaf]at h;obtain⟨⟨h1,h2⟩,h3⟩:=h;unfold Instr.findNow;rw[h1];by_cases hn:n=m
  ·subst hn;refine⟨i,?_⟩;simp[Instr.sameNow,List.lookup,h2]
  ·obtain⟨j,hj⟩:=oM es l n (i+1) h3;refine⟨j,?_⟩;have:(n==m)=false:=by simpa using hn
   simp[Instr.sameNow,this,List.lookup,hj]
theorem Kk:prog.underlying 121=some (.map 3 212):=by kernel_rfl
theorem Iy:prog.underlying 3=some (.int .i64):=by kernel_rfl
theorem Fq (b:Bool)(n:Int)(w:Λ):(Instr.checkKey b 10000 3 (Γ Δ n)).run prog w=.ok () w:=by
 unfold Instr.checkKey;simp[run_underlying Iy]
theorem oN {M:Nat}{l:List (Int×Θ)}(h:nQ w M (l.map λp=>(Θ.int .i64 p.1,p.2)))(n:Int):(Instr.lookup 121 (.map (some M)) (Γ Δ n) false).run prog w=.ok ((l.lookup n).getD (.pointer none)) w:=by
 obtain⟨es,clock,h1,h2⟩:=h;obtain⟨j,hj⟩:=oM es.toList l n 0 h2;have hg:(getObj M).run prog w=.ok (.map es clock) w:=by simp[getObj,Sem.run,h1]
 unfold Instr.lookup Instr.findKey;simp only[zba,zbc Kk,zbb,hg,zbd,Fq,zbc Iy,hj];cases hq:l.lookup n with
 |none=>simp
 |some v=>simp
theorem Iz {M:Nat}{l:List (Int×Θ)}(h:nQ w M (l.map λp=>(Θ.int .i64 p.1,p.2)))(n:Int)(hn:l.lookup n=none)(v:Θ):∃o,(Instr.mapUpdate 121 (.map (some M)) (Γ Δ n) v).run prog w=.ok () { w with heap:=w.heap.setIfInBounds M o }∧nQ { w with heap:=w.heap.setIfInBounds M o } M ((l++[(n,v)]).map λp=>(Θ.int .i64 p.1,p.2)):=by
 obtain⟨es,clock,h1,h2⟩:=h;obtain⟨j,hj⟩:=oM es.toList l n 0 h2;rw[hn]at hj;have hlt:M<w.heap.size:=(zaj.1 h1).1;have hg:(getObj M).run prog w=.ok (.map es clock) w:=by simp[getObj,Sem.run,h1]
 refine⟨.map (es.push { key:= Γ Δ n,val:=v,born:=clock }) (clock+1),?_,es.push { key:= Γ Δ n,val:=v,born:=clock },clock+1,?_,?_⟩
 ·unfold Instr.mapUpdate Instr.findKey;simp only[zba,zbc Kk,zbb,hg,zbd,Fq,zbc Iy,hj];simp[setObj,Sem.run,h1]
 ·show(w.heap.setIfInBounds M _)[M]?=_;rw[zbG hlt]
 ·simp[h2]
end Go.Proofs.YtlhimdjkkiflhaaGreatDoor
namespace Go.Loop
def RR.good {α:Type}(T:List Tok)(k:Nat)(r:RR α):Prop:=
 match r with
 |.out=>False
 |.fail _ _=>True
 |.ok _ s'=>k≤s'.k∧s'.k<T.length
theorem RR.fh {α β:Type}{T:List Tok}{k j:Nat}{x:RR α}{f:α→eD→RR β}(h:x.good T k)(hf:∀a s,k≤s.k→s.k<T.length→(f a s).good T j):(x.bind f).good T j:=by
 cases x with
 |out=>exact h
 |fail e a=>trivial
 |ok a s=>exact hf a s h.1 h.2
theorem RR.mq {α:Type}{T:List Tok}{k j:Nat}{x:RR α}(h:x.good T k)(hj:j≤k):x.good T j:=by
 cases x with
 |out=>exact h
 |fail e a=>trivial
 |ok a s=>exact⟨zag hj h.1,h.2⟩
section
variable (T:List Tok)(dp:Nat)
structure Fuel (n:Nat):Prop where
 datum:∀p s,s.k<T.length→2*(T.length-s.k)+2≤n→(ay T dp n p s).good T (s.k+1)
 take:∀p s,s.k<T.length→2*(T.length-s.k)+1≤n→(aM T dp n p s).good T (s.k+1)
 nY:∀t p s,s.k<T.length→2*(T.length-s.k)+3≤n→(aL T dp n t p s).good T s.k
 list:∀l p s,s.k<T.length→2*(T.length-s.k)+2≤n→(bh T dp n l p s).good T (s.k+1)
 vec:∀l p s,s.k<T.length→2*(T.length-s.k)+2≤n→(cy T dp n l p s).good T (s.k+1)
theorem IB (t:Tok)(s:eD)(h:s.k<T.length):(j9 t s).good T s.k:=by
 unfold j9;repeat' split
 all_goals first|trivial|exact⟨zac _,h⟩
theorem fuel (hT:∀k t,T[k]?=some t→t.kind≠0→t.kind≠1→k+1<T.length):∀n,Fuel T dp n
 |0=>⟨λ_ _ _ h=>by omega,λ_ _ _ h=>by omega,λ_ _ _ _ h=>by omega,λ_ _ _ _ h=>by omega,λ_ _ _ _ h=>by omega⟩
 |n+1=>by
  have ih:=fuel hT n;refine⟨λp s hk hn=>?_,λp s hk hn=>?_,λt p s hk hn=>?_,λl p s hk hn=>?_,λl p s hk hn=>?_⟩
  ·unfold ay;refine RR.fh (ih.take p s hk (by omega)) λt s1 h1 h2=>?_;exact RR.mq (ih.nY t p s1 h2 (by omega)) h1
  ·unfold aM;have hs:T[s.k]?=some T[s.k]:=zat hk;rw[hs];dsimp only;split
   ·trivial
   ·rename_i h0;split
    ·trivial
    ·rename_i h1;have hlt:=hT s.k _ hs h0 h1;split
     ·refine RR.fh (ih.datum ⟨p.depth,true,[]⟩ { s with k:=s.k+1 } hlt (by show 2*(T.length-(s.k+1))+2≤n;omega)) λd s1 h2 h3=>?_;have jA:s.k+1+1≤s1.k:=h2;exact RR.mq (ih.take p s1 h3 (by omega)) (by omega)
     ·exact⟨zac _,hlt⟩
  ·unfold aL;split
   ·trivial
   ·split
    ·split
     ·trivial
     ·split
      ·trivial
      ·exact RR.fh (k:=s.k+1) (ih.datum _ { s with ak:=t.n::s.ak } hk (by show 2*(T.length-s.k)+2≤n;omega)) λd s1 h1 h2=>⟨by omega,h2⟩
    ·split
     ·split
      ·trivial
      ·exact⟨zac _,hk⟩
     ·split
      ·split
       ·trivial
       ·split
        ·exact RR.fh (k:=s.k+1) (ih.vec [] _ { s with fresh:=s.fresh+1 } hk (by show 2*(T.length-s.k)+2≤n;omega)) λd s1 h1 h2=>⟨by omega,h2⟩
        ·split
         ·exact RR.fh (k:=s.k+1) (ih.datum _ s hk (by omega)) λd s1 h1 h2=>⟨by show s.k≤s1.k;omega,h2⟩
         ·exact RR.mq (ih.list [] _ s hk (by omega)) (by omega)
      ·exact IB T t s hk
  ·unfold bh;refine RR.fh (ih.take p s hk (by omega)) λt s1 h1 h2=>?_;split
   ·exact⟨h1,h2⟩
   ·split
    ·refine RR.fh (ih.datum p s1 h2 (by omega)) λd s2 h3 h4=>?_;refine RR.fh (ih.take p s2 h4 (by omega)) λt2 s3 h5 h6=>?_;split
     ·exact⟨by show s.k+1≤s3.k;omega,h6⟩
     ·trivial
    ·refine RR.fh (ih.nY t p s1 h2 (by omega)) λd s2 h3 h4=>?_;exact RR.mq (ih.list _ p s2 h4 (by omega)) (by omega)
  ·unfold cy;refine RR.fh (ih.take p s hk (by omega)) λt s1 h1 h2=>?_;split
   ·exact⟨h1,h2⟩
   ·split
    ·trivial
    ·refine RR.fh (ih.nY t p s1 h2 (by omega)) λd s2 h3 h4=>?_;exact RR.mq (ih.vec _ p s2 h4 (by omega)) (by omega)
end
theorem lF:∀(n:Nat) (s:List UInt8) (a:Nat),a≤s.length→s.length-a<n→aw n s a≠[]∧∀k t,(aw n s a)[k]?=some t→t.kind≠0→t.kind≠1→k+1<(aw n s a).length
 |0,s,a,_,h=>by omega
 |n+1,s,a,ha,h=>by
  have hf:=ju ha;rw[aw];split
  ·rename_i hl;refine⟨by simp,λk t hk h0 h1=>?_⟩;cases k with
   |zero=>
    simp at hk;subst hk;simp[Tok.lastB]at hl;omega
   |succ k=>simp at hk
  ·rename_i hl;have hl':(aR s a).lastB=false:=by simpa using hl
   have h2:=hf.2.2 hl';have h3:=hf.2.1;have ih:=lF n s (aR s a).gw hf.2.1 (by omega);refine⟨by simp,λk t hk h0 h1=>?_⟩;cases k with
   |zero=>
    have:0<(aw n s (aR s a).gw).length:=zbT.2 ih.1;simp only[zar];omega
   |succ k=>
    rw[zcw]at hk;have:=ih.2 k t hk h0 h1;simp only[zar];omega
theorem pO:∀(n:Nat) (s:List UInt8) (a:Nat),(aw n s a).length≤n
 |0,s,a=>zac _
 |n+1,s,a=>by
  have:=pO n s (aR s a).gw;rw[aw];split
  ·simp
  ·simp;exact this
end Go.Loop
namespace Go.Proofs.YtlhimdjkkiflhaaGreatDoor
open Go.Proofs.Tryz
open Go.RowKit Go.Loop
variable {w w' w1 w3 w5 w6:Λ}{R M b c g cap dp N lo n:Nat}{A:Option Nat}{T:List Tok}{E E':Env}{s s':eD}{l:List Int}{e:ζ}{cs:Array Θ}{u0 u1 u2 u3 u4 u5 u6 v:Θ}{xs:List Θ}
theorem en (w:Λ)(A B:Obj):((w.alloc A).alloc B).heap[w.heap.size+1]?=some B:=by
 rw[show w.heap.size+1=(w.alloc A).heap.size by simp];exact zav _ _
theorem PU (t:Tok)(w:Λ)(hk:t.kind=8):Φ prog 163 #[bP t] w λe w'=>∃b,e=.returned (.tuple #[.iface 158 (aC b),.pointer none])∧w.heap.size≤b∧w'.heap[b]?=some (.cells #[.string ⟨⟨t.text⟩⟩] 218)∧Ω w.heap.size w w':=by
 have q:(((t.kind:Nat):Int)==8)=true:=by rw[hk];rfl
 clear hk;unfold bP;go_enter func163,ntmps163;go_wp2_with fail;go_ret2;refine⟨w.heap.size+1,rfl,by omega,?_,?_⟩
 ·exact en w _ _
 ·(repeat (first|with_reducible refine zaG ?_ (by simp) _|with_reducible refine zaH ?_ (by simp) _));with_reducible exact zad _ _
def kg (t:Tok):Θ:=
 if t.kind=9 then .iface 157 (.agg #[Γ Δ t.n])
 else if t.kind=12 then .iface 155 (.agg #[Γ Δ t.n])
 else if t.kind=14 then .iface 168 (.agg #[.string ⟨⟨t.text⟩⟩])
 else .iface 153 (.agg #[Γ Δ t.n,Γ Δ t.d])
theorem PV (t:Tok)(w:Λ)(h8:¬t.kind=8)(hf:t.kind=9∨t.kind=12∨t.kind=14∨t.fault=0):Φ prog 163 #[bP t] w λe w'=>e=.returned (.tuple #[kg t,.pointer none])∧Ω w.heap.size w w':=by
 have q8:(((t.kind:Nat):Int)==8)=false:=by rw[zah];omega
 by_cases h9:t.kind=9
 ·have e:Hid (kg t=.iface 157 (.agg #[Γ Δ t.n])):=zab h9;have q9:(((t.kind:Nat):Int)==9)=true:=by rw[h9];rfl
  clear h9 hf h8;unfold bP;go_enter func163,ntmps163;go_wp2_with fail;go_ret2;refine⟨by rw[e.out];rfl,?_⟩
  (repeat (first|with_reducible refine zaG ?_ (by simp) _|with_reducible refine zaH ?_ (by simp) _));with_reducible exact zad _ _
 have q9:(((t.kind:Nat):Int)==9)=false:=by rw[zah];omega
 by_cases DR:t.kind=12
 ·have e:Hid (kg t=.iface 155 (.agg #[Γ Δ t.n])):=(zaa h9).trans (zab DR);have q12:(((t.kind:Nat):Int)==12)=true:=by rw[DR];rfl
  clear h9 hf h8 DR;unfold bP;go_enter func163,ntmps163;go_wp2_with fail;go_ret2;refine⟨by rw[e.out];rfl,?_⟩
  (repeat (first|with_reducible refine zaG ?_ (by simp) _|with_reducible refine zaH ?_ (by simp) _));with_reducible exact zad _ _
 have q12:(((t.kind:Nat):Int)==12)=false:=by rw[zah];omega
 by_cases rG:t.kind=14
 ·have e:Hid (kg t=.iface 168 (.agg #[.string ⟨⟨t.text⟩⟩])):=((zaa h9).trans (zaa DR)).trans (zab rG);have q14:(((t.kind:Nat):Int)==14)=true:=by rw[rG];rfl
  clear h9 hf h8 DR rG;unfold bP;go_enter func163,ntmps163;go_wp2_with fail;go_ret2;refine⟨by rw[e.out];rfl,?_⟩
  (repeat (first|with_reducible refine zaG ?_ (by simp) _|with_reducible refine zaH ?_ (by simp) _));with_reducible exact zad _ _
 ·have q14:(((t.kind:Nat):Int)==14)=false:=by rw[zah];omega
  have e:Hid (kg t=.iface 153 (.agg #[Γ Δ t.n,Γ Δ t.d])):=((zaa h9).trans (zaa DR)).trans (zaa rG);have qf:(t.fault==0)=true:=by rw[zaJ];omega
  clear h9 hf h8 DR rG;unfold bP;go_enter func163,ntmps163;go_wp2_with fail;go_ret2;refine⟨by rw[e.out];rfl,?_⟩
  (repeat (first|with_reducible refine zaG ?_ (by simp) _|with_reducible refine zaH ?_ (by simp) _));with_reducible exact zad _ _
theorem IC (t:Tok)(w:Λ)(h:¬t.kind=8∧¬t.kind=9∧¬t.kind=12∧¬t.kind=14)(hf:¬t.fault=0):Φ prog 163 #[bP t] w λe w'=>∃b,e=.returned (.tuple #[.nilIface,aC b])∧w'.heap[b]?=some (.cells #[Γ Δ t.fault,Γ Δ t.from_] 65)∧Ω w.heap.size w w':=by
 obtain⟨h8,h9,DR,rG⟩:=h;have q8:(((t.kind:Nat):Int)==8)=false:=by rw[zah];omega
 have q9:(((t.kind:Nat):Int)==9)=false:=by rw[zah];omega
 have q12:(((t.kind:Nat):Int)==12)=false:=by rw[zah];omega
 have q14:(((t.kind:Nat):Int)==14)=false:=by rw[zah];omega
 have qf:(t.fault==0)=false:=by rw[zah];exact hf
 have mixed:prog.follows Ξ=true:=by kernel_rfl
 clear h8 h9 DR rG hf;unfold bP;go_enter func163,ntmps163;go_wp2_with fail;go_region;all_goals
  go_wp2
  go_ret2;refine⟨w.heap.size+1,rfl,?_,?_⟩
  ·exact en w _ _
  ·(repeat (first|with_reducible refine zaG ?_ (by simp) _|with_reducible refine zbf ?_ _|with_reducible refine Ω.drew ?_ |with_reducible refine zaH ?_ (by simp) _));with_reducible exact zad _ _
def fF (w:Λ)(base:Nat):List Θ→Θ→Θ→Prop
 |[],rest,v=>v=rest
 |x::vs,rest,v=>v=.iface 150 (aC (base+vs.length))∧∃v',w.heap[base+vs.length]?=some (.cells #[x,v'] 161)∧fF w base vs rest v'
theorem fF.keep {base:Nat}{rest:Θ}:∀(vs:List Θ) (v:Θ),fF w base vs rest v→(∀b,base≤b→b<w.heap.size→w'.heap[b]?=w.heap[b]?)→fF w' base vs rest v
 |[],_,h,_=>h
 |x::vs,v,⟨h1,v',h2,h3⟩,hk=>⟨h1,v',(hk _ (by omega) (zaj.1 h2).1).trans h2,fF.keep vs v' h3 hk⟩
theorem Mh (vs:List Θ)(g cap lo:Nat)(rest:Θ)(w:Λ)(hrow:w.ownsRow lo 58 1 (.slice (some ⟨g,0,none⟩) vs.length cap) vs.length vs)(hn:vs.length≤1000000)(W9:∀x∈vs,∃t y,x=.iface t y)(Xa:∃t y,rest=.iface t y):Φ prog 221 #[.slice (some ⟨g,0,none⟩) vs.length cap,rest] w λe w'=>∃v,e=.returned v∧fF w' w.heap.size vs rest v∧w'.heap.size=w.heap.size+vs.length∧Ω w.heap.size w w':=by
 have hg:g<w.heap.size:=(hrow.lt g rfl).2;have hcell:Hid (∀(j:Nat) (x:Θ),vs[j]?=some x→w.cell? ⟨g,j,none⟩=some x):=λj x hx=>by
  have hj:j<vs.length:=(zbh.1 hx).1;rw[hrow.cellAt j (by omega),hx]
 clear hrow;go_enter func221,ntmps221;go_wp2_with fail;go_loopw [5,1] (λi r wr=>∃j:Nat,j≤vs.length∧i=Γ Δ ((j:Int)-1)∧wr.heap.size=w.heap.size+(vs.length-j)∧(∃t y,r=.iface t y)∧Hid (fF wr w.heap.size (vs.drop j) rest r)∧Hid (Ω w.heap.size w wr)) (λi _ _=>(intOf i+1).toNat)
 case atStart=>exact⟨vs.length,zac _,by go_num,by omega,Xa,by show fF _ _ _ _ _;rw[List.drop_length];rfl,zad _ _⟩
 case round=>
  obtain⟨j,hj,rfl,hsz,⟨tr,yr,rfl⟩,hC,hB⟩:=hrel;by_cases h0:j=0
  ·subst h0;go_wp2_with fail;go_ret;exact⟨_,rfl,by simpa using hC.out,by simpa using hsz,hB.out⟩
  ·obtain⟨m,rfl⟩:∃m,j=m+1:=⟨j-1,by omega⟩;have hx:vs[m]?=some vs[m]:=zat (by omega);have hc:Hid (w.cell? ⟨g,m,none⟩=some vs[m]):=hcell.out m _ hx;have hcr:=(hB.out.cell (p:=⟨g,m,none⟩) hg).trans hc.out;obtain⟨tx,yx,hxi⟩:=W9 vs[m] (zbx (by omega));have hdr:Hid (vs.drop m=vs[m]::vs.drop (m+1)):=zcD (by omega);rw[hxi]at hcr hdr;clear hx hc hxi;have hm:m<vs.length:=by omega
   rw[show(((m+1:Nat):Int)-1)=(m:Int) by omega];go_wp2_with fail;go_roundw
   case rel=>exact⟨m,by omega,rfl,by simp;omega,⟨_,_,rfl⟩,by
    show fF _ _ _ _ _;rw[hdr.out];have hl:(vs.drop (m+1)).length=vs.length-(m+1):=zau;refine⟨by rw[hl,←hsz];rfl,.iface tr yr,?_,?_⟩
    ·rw[hl,←hsz];exact zav _ _
    ·exact fF.keep _ _ hC.out λb _ h=>zaT _ _ _ h,hB.out.alloc (by omega) _⟩
   case measure=>simp[intOf]
def gI (d:Nat)(p:Bool)(av:Θ):Θ:= .agg #[Γ Δ d,.bool p,av]
def dQ (w:Λ)(b:Nat)(e:Int)(a:Nat):Prop:=w.heap[b]?=some (.cells #[Γ Δ e,Γ Δ a] 65)
theorem Mi (w:Λ)(A B C D:Obj):((((w.alloc A).alloc B).alloc C).alloc D).heap[w.heap.size+1+1+1]?=some D:=by
 rw[show w.heap.size+1+1+1=(((w.alloc A).alloc B).alloc C).heap.size by simp];exact zav _ _
theorem BD (R dp:Nat)(t:Tok)(d:Nat)(p:Bool)(a:Option Addr)(l c:Nat)(w:Λ)(hR:w.cell? ⟨R,2,none⟩=some (Γ Δ dp))(hlt:R<w.heap.size)(hd:d<1000)(hne:¬d=dp):Φ prog 192 #[aC R,bP t,gI d p (.slice a l c)] w λe w'=>e=.returned (.tuple #[gI (d+1) p (.slice none 0 0),.pointer none])∧Ω w.heap.size w w':=by
 have mixed:prog.follows Ξ=true:=by kernel_rfl
 have q:(((d:Nat):Int)==((dp:Nat):Int))=false:=by rw[zah];omega
 have l1:R<w.heap.size+1:=by omega
 have l2:R<w.heap.size+1+1:=by omega
 have n0:¬R=w.heap.size:=by omega
 have n1:¬R=w.heap.size+1:=by omega
 have n2:¬R=w.heap.size+1+1:=by omega
 unfold bP gI aC;go_enter func192,ntmps192;go_wp2_with fail;go_region;go_wp2_with fail;refine zao (v:= .tuple #[gI (d+1) p (.slice none 0 0),.pointer none]) (by simp[results,results192,gI,go_sem]) rfl ⟨rfl,?_⟩
 (repeat (first|with_reducible refine zaG ?_ (by first|(simp;done)|(simp;omega)) _|with_reducible refine Ω.drew ?_ |with_reducible refine zbf ?_ _|with_reducible refine zaH ?_ (by first|(simp;done)|(simp;omega)) _));with_reducible exact zad _ _
theorem vg (R dp:Nat)(t:Tok)(d:Nat)(p:Bool)(a:Option Addr)(l c:Nat)(w:Λ)(hR:w.cell? ⟨R,2,none⟩=some (Γ Δ dp))(hlt:R<w.heap.size)(hd:d=dp):Φ prog 192 #[aC R,bP t,gI d p (.slice a l c)] w λe w'=>∃b,e=.returned (.tuple #[gI 0 false (.slice none 0 0),aC b])∧dQ w' b 6 t.from_∧Ω w.heap.size w w':=by
 have mixed:prog.follows Ξ=true:=by kernel_rfl
 subst hd;have l1:R<w.heap.size+1:=by omega
 have l2:R<w.heap.size+1+1:=by omega
 have n0:¬R=w.heap.size:=by omega
 have n1:¬R=w.heap.size+1:=by omega
 have n2:¬R=w.heap.size+1+1:=by omega
 unfold bP gI aC;go_enter func192,ntmps192;go_wp2_with fail;go_region;go_wp2_with fail;go_region;all_goals
  go_wp2_with fail;refine zao (v:= .tuple #[gI 0 false (.slice none 0 0),aC (w.heap.size+1+1+1)]) (by simp[results,results192,gI,aC,go_sem]) rfl ⟨w.heap.size+1+1+1,rfl,?_,?_⟩
  ·exact Mi w _ _ _ _
  ·(repeat (first|with_reducible refine zaG ?_ (by first|(simp;done)|(simp;omega)) _|with_reducible refine Ω.drew ?_ |with_reducible refine zbf ?_ _|with_reducible refine zaH ?_ (by first|(simp;done)|(simp;omega)) _));with_reducible exact zad _ _
def iR (t:Tok):List Θ:=[Γ Δ t.kind,Γ Δ t.from_,Γ Δ t.gw,.string ⟨⟨t.text⟩⟩,Γ Δ t.n,Γ Δ t.d,Γ Δ t.fault]
abbrev iz (t:Tok):Obj:= .cells #[Γ Δ t.kind,Γ Δ t.from_,Γ Δ t.gw,.string ⟨⟨t.text⟩⟩,Γ Δ t.n,Γ Δ t.d,Γ Δ t.fault] 131
abbrev gW (d:Nat)(b:Bool)(a:Option Addr)(n c:Nat):Obj:= .cells #[Γ Δ d,.bool b,.slice a n c] 128
structure Kp (R M:Nat) (w w':Λ):Prop where
 os:w'.os=w.os
 tape:w'.tape=w.tape
 output:w'.output=w.output
 size:w.heap.size≤w'.heap.size
 block:∀b,b<w.heap.size→b≠R→b≠M→w'.heap[b]?=w.heap[b]?
theorem Kp.refl (R M:Nat)(w:Λ):Kp R M w w:=⟨rfl,rfl,rfl,zac _,λ_ _ _ _=>rfl⟩
theorem Kp.trans {a b c:Λ}(h:Kp R M a b)(k:Kp R M b c):Kp R M a c:=
 ⟨k.os.trans h.os,k.tape.trans h.tape,k.output.trans h.output,zag h.size k.size,λx h1 h2 h3=>(k.block x (zaI h1 h.size) h2 h3).trans (h.block x h1 h2 h3)⟩
theorem Kp.aG (h:Ω w.heap.size w w'):Kp R M w w':=⟨h.os,h.tape,h.output,h.size,λb hb _ _=>h.block b hb⟩
structure jO (R M:Nat) (A:Option Nat) (w w':Λ):Prop where
 os:w'.os=w.os
 tape:w'.tape=w.tape
 output:w'.output=w.output
 size:w.heap.size≤w'.heap.size
 block:∀b,b<w.heap.size→b≠R→b≠M→some b≠A→w'.heap[b]?=w.heap[b]?
theorem Kp.a (h:Kp R M w w')(A:Option Nat):jO R M A w w':=⟨h.os,h.tape,h.output,h.size,λb h1 h2 h3 _=>h.block b h1 h2 h3⟩
theorem jO.plain (h:jO R M none w w'):Kp R M w w':=⟨h.os,h.tape,h.output,h.size,λb h1 h2 h3=>h.block b h1 h2 h3 (by simp)⟩
theorem jO.trans {a b c:Λ}(h:jO R M A a b)(k:jO R M A b c):jO R M A a c:=
 ⟨k.os.trans h.os,k.tape.trans h.tape,k.output.trans h.output,zag h.size k.size,λx h1 h2 h3 h4=>(k.block x (zaI h1 h.size) h2 h3 h4).trans (h.block x h1 h2 h3 h4)⟩
def vO (E:Env)(ak:List Int):List (Int×Θ):=ak.reverse.map λn=>(n,aC (E.cE n))
structure bS (w:Λ) (R M g cap:Nat) (T:List Tok) (dp:Nat) (E:Env) (s:eD):Prop where
 rm:R≠M
 gr:g≠R
 gm:g≠M
 blk:w.heap[R]?=some (.cells #[.slice (some ⟨g,0,none⟩) T.length cap,Γ Δ s.k,Γ Δ dp,.map (some M)] 123)
 row:w.ownsRow 0 131 7 (.slice (some ⟨g,0,none⟩) T.length cap) T.length (T.flatMap iR)
 lm:nQ w M ((vO E s.ak).map λp=>(Θ.int .i64 p.1,p.2))
 low:∀n∈s.ak,∃v,w.heap[E.cE n]?=some (.cells #[v] 215)
 inj:∀n∈s.ak,∀m∈s.ak,E.cE n=E.cE m→n=m
 small:T.length≤100000
 deep:dp≤30
theorem bS.lt {w:Λ}{R M g cap:Nat}{T:List Tok}{dp:Nat}{E:Env}{s:eD}(h:bS w R M g cap T dp E s):R<w.heap.size:=(zaj.1 h.blk).1
theorem bS.mlt (h:bS w R M g cap T dp E s):M<w.heap.size:=by
 obtain⟨es,c,h1,_⟩:=h.lm;exact(zaj.1 h1).1
theorem bS.below (h:bS w R M g cap T dp E s)(hb:Ω w.heap.size w w'):bS w' R M g cap T dp E s:=by
 refine⟨h.rm,h.gr,h.gm,(hb.block R h.lt).trans h.blk,bC h.row (zac _) λb _ hlt=>hb.block b hlt,?_,λn hn=>(h.low n hn).imp λv hv=>(hb.block _ (zaj.1 hv).1).trans hv,h.inj,h.small,h.deep⟩;obtain⟨es,c,h1,h2⟩:=h.lm;exact⟨es,c,(hb.block M h.mlt).trans h1,h2⟩
structure Ext (w w':Λ) (E E':Env) (s s':eD):Prop where
 agree:E.agree E' s.fresh s.ak
 fresh:s.fresh≤s'.fresh
 ak:∀n∈s.ak,n∈s'.ak
 new:∀i,s.fresh≤i→i<s'.fresh→w.heap.size≤E'.α i∧E'.α i<w'.heap.size
 inj:∀i j,s.fresh≤i→i<s'.fresh→s.fresh≤j→j<s'.fresh→E'.α i=E'.α j→i=j
theorem Ext.refl {w w':Λ}{E:Env}{s s':eD}(hf:s'.fresh=s.fresh)(hl:s'.ak=s.ak):Ext w w' E E s s':=
 ⟨⟨λ_ _=>rfl,λ_ _=>rfl⟩,by omega,λn h=>by rw[hl];exact h,λi h1 h2=>by omega,λi j h1 h2=>by omega⟩
theorem Ext.trans {a b c:Λ}{E'':Env}{s'':eD}(h:Ext a b E E' s s')(k:Ext b c E' E'' s' s'')(h1:a.heap.size≤b.heap.size)(h2:b.heap.size≤c.heap.size):Ext a c E E'' s s'':=by
 have hf:=h.fresh;have kf:=k.fresh;have ag:∀i,i<s'.fresh→E''.α i=E'.α i:=k.agree.1;refine⟨⟨λi hi=>(ag i (by omega)).trans (h.agree.1 i hi),λn hn=>(k.agree.2 n (h.ak n hn)).trans (h.agree.2 n hn)⟩,by omega,λn hn=>k.ak n (h.ak n hn),λi i1 i2=>?_,λi j i1 i2 j1 j2 e=>?_⟩
 ·rcases zaw i s'.fresh with hlt|jB
  ·rw[ag i hlt];have:=h.new i i1 hlt;omega
  ·have:=k.new i jB i2;omega
 ·rcases zaw i s'.fresh with hi|hi<;>rcases zaw j s'.fresh with hj|hj
  ·rw[ag i hi,ag j hj]at e;exact h.inj i j i1 hi j1 hj e
  ·rw[ag i hi]at e;have:=h.new i i1 hi;have:=k.new j hj j2;omega
  ·rw[ag j hj]at e;have:=h.new j j1 hj;have:=k.new i hi i2;omega
  ·exact k.inj i j hi i2 hj j2 e
def jd (w:Λ)(E:Env)(s:eD)(l:List Int)(av:Θ):Prop:=w.ownsRow 0 212 1 av l.length (l.map λn=>aC (E.cE n))∧(∃a n c,av=.slice a n c)∧∀n∈l,n∈s.ak
def jP (R M g cap:Nat)(T:List Tok)(dp:Nat)(A:Option Nat)(w:Λ)(E:Env)(s:eD)(r:RR Dt)(e:Ending)(w':Λ):Prop:=
 match r with
 |.out=>True
 |.fail er a=>(∃b,e=.returned (.tuple #[.nilIface,aC b])∧dQ w' b er a)∧jO R M A w w'
 |.ok d s'=>∃v E',e=.returned (.tuple #[v,.pointer none])∧(∃t y,v=.iface t y)∧ct w.heap.size s'.fresh s'.ak w' E' d v∧Ext w w' E E' s s'∧bS w' R M g cap T dp E' s'∧jO R M A w w'
def OkT (R M g cap:Nat)(T:List Tok)(dp:Nat)(w:Λ)(E:Env)(s:eD)(r:RR Tok)(e:Ending)(w':Λ):Prop:=
 match r with
 |.out=>True
 |.fail er a=>(∃b t,e=.returned (.tuple #[bP t,aC b])∧dQ w' b er a)∧Kp R M w w'
 |.ok t s'=>∃E',e=.returned (.tuple #[bP t,.pointer none])∧Ext w w' E E' s s'∧bS w' R M g cap T dp E' s'∧Kp R M w w'
theorem sR {T:List Tok}{dp:Nat}:∀n p s t s',aM T dp n p s=.ok t s'→t∈T
 |0,p,s,t,s',h=>by unfold aM at h;cases h
 |n+1,p,s,t,s',h=>by
  unfold aM at h;split at h
  ·cases h
  ·rename_i t0 ID;split at h
   ·cases h
   ·split at h
    ·cases h
    ·split at h
     ·cases hD:ay T dp n ⟨p.depth,true,[]⟩ { s with k:=s.k+1 } with
      |out=>rw[hD]at h;cases h
      |fail e a=>rw[hD]at h;cases h
      |ok d s1=>rw[hD]at h;exact sR n p s1 t s' h
     ·cases h;exact zbr ID
section
variable (R M g cap:Nat)(T:List Tok)(dp:Nat)
structure IH (n:Nat):Prop where
 datum:∀p av w E s,bS w R M g cap T dp E s→jd w E s p.ahead av→(p.depth≤dp∧p.ahead.length≤p.depth)→ay T dp n p s≠.out→Φ prog 67 #[aC R,gI p.depth p.passed av] w λe w'=>jP R M g cap T dp av.ownBlock w E s (ay T dp n p s) e w'
 take:∀p av w E s,bS w R M g cap T dp E s→jd w E s p.ahead av→(p.depth≤dp∧p.ahead.length≤p.depth)→aM T dp n p s≠.out→Φ prog 105 #[aC R,gI p.depth p.passed av] w λe w'=>OkT R M g cap T dp w E s (aM T dp n p s) e w'
 nY:∀t p av w E s,t∈T→bS w R M g cap T dp E s→jd w E s p.ahead av→(p.depth≤dp∧p.ahead.length≤p.depth)→aL T dp n t p s≠.out→Φ prog 106 #[aC R,bP t,gI p.depth p.passed av] w λe w'=>jP R M g cap T dp av.ownBlock w E s (aL T dp n t p s) e w'
def Fx:Prop:=∀N,(∀n,n≤N→IH R M g cap T dp n)→∀(p:Pl),p.ahead=[]→∀(w:Λ) (E:Env) (s:eD),bS w R M g cap T dp E s→(p.depth≤dp∧p.ahead.length≤p.depth)→∀r:RR Dt,(r=(cy T dp (N+1) [] p { s with fresh:=s.fresh+1 }).bind λl s'=> .ok (.vec s.fresh (fX l)) s')→r≠.out→Φ prog 194 #[aC R,gI p.depth p.passed (.slice none 0 0)] w λe w'=>jP R M g cap T dp none w E s r e w'
def Fy:Prop:=∀n,IH R M g cap T dp n→∀(p:Pl),p.ahead=[]→∀(w:Λ) (E:Env) (s:eD),bS w R M g cap T dp E s→(p.depth≤dp∧p.ahead.length≤p.depth)→∀r:RR Dt,(r=(ay T dp n p s).bind λd s=> .ok (aU [.sym [113,117,111,116,101],d] .nil s.fresh).1 { s with fresh:=s.fresh+2 })→r≠.out→Φ prog 195 #[aC R,gI p.depth p.passed (.slice none 0 0)] w λe w'=>jP R M g cap T dp none w E s r e w'
end
theorem Ext.wid {w2:Λ}(h:Ext w1 w2 E E' s s')(h1:w.heap.size≤w1.heap.size)(h2:w2.heap.size≤w3.heap.size):Ext w w3 E E' s s':=
 ⟨h.agree,h.fresh,h.ak,λi a b=>by have:=h.new i a b;omega,h.inj⟩
theorem jd.kp {av:Θ}(h:jd w E s l av)(hr:bS w R M g cap T dp E s)(hk:Kp R M w w')(ha:E.agree E' s.fresh s.ak)(hl:∀n∈s.ak,n∈s'.ak):jd w' E' s' l av:=by
 refine⟨?_,h.2.1,λn hn=>hl n (h.2.2 n hn)⟩;have e:(l.map λn=>aC (E'.cE n))=l.map λn=>aC (E.cE n):=List.map_congr_left λn hn=>by rw[ha.2 n (h.2.2 n hn)]
 rw[e];refine⟨h.1.1,h.1.2.imp id ?_⟩;rintro ⟨b,cp,cur,h1,h2,h3,h4⟩;have hlt:b<w.heap.size:=(zaj.1 h3).1;have hR:b≠R:=λe=>by rw[e,hr.blk]at h3;simp at h3
 have hM:b≠M:=λe=>by obtain⟨es,c,q,_⟩:=hr.lm;rw[e,q]at h3;cases h3
 exact⟨b,cp,cur,h1,h2,(hk.block b hlt hR hM).trans h3,h4⟩
theorem jd.below {av:Θ}(h:jd w E s l av)(hb:Ω w.heap.size w w'):jd w' E s l av:=
 ⟨bC h.1 (zac _) λb _ hlt=>hb.block b hlt,h.2.1,h.2.2⟩
theorem dQ.alloc {w:Λ}{b:Nat}{e:Int}{a:Nat}(h:dQ w b e a)(o:Obj):dQ (w.alloc o) b e a:=(zaT _ _ _ (zaj.1 h).1).trans h
theorem fG {x0 x1 x2:Θ}(h:w1.heap[b]?=some (.cells #[x0,x1,x2] e)):(w1.cell? ⟨b,0,none⟩=some x0∧w1.cell? ⟨b,1,none⟩=some x1∧w1.cell? ⟨b,2,none⟩=some x2):=by
 refine⟨?_,?_,?_⟩<;>simp[Λ.cell?,h]
section
variable {R M g cap:Nat}{T:List Tok}{dp:Nat}
theorem IE (ih:IH R M g cap T dp N)(p:Pl)(av:Θ)(w:Λ)(E:Env)(s:eD)(hr:bS w R M g cap T dp E s)(ha:jd w E s p.ahead av)(hd:p.depth≤dp∧p.ahead.length≤p.depth)(ho:ay T dp (N+1) p s≠.out):Φ prog 67 #[aC R,gI p.depth p.passed av] w λe w'=>jP R M g cap T dp av.ownBlock w E s (ay T dp (N+1) p s) e w':=by
 have heq:ay T dp (N+1) p s=(aM T dp N p s).bind λt s=>aL T dp N t p s:=rfl;rw[heq]at ho ⊢;obtain⟨⟨a0,n0,c0,rfl⟩⟩:=(⟨ha.2.1⟩:Nonempty _);have hb0:Ω w.heap.size w (w.alloc (gW p.depth p.passed a0 n0 c0)):=(zad _ w).alloc (zac _) _;have HR:Hid _:=hr.below hb0;have HA:Hid _:=ha.below hb0;have HB:Hid _:=hb0;have HP:Hid _:=zav w (gW p.depth p.passed a0 n0 c0);have PW:(w.alloc (gW p.depth p.passed a0 n0 c0)).heap.size=w.heap.size+1:=by simp
 have hne:aM T dp N p s≠.out:=λh=>ho (by rw[h];rfl);have HT:Hid _:=ih.take p (.slice a0 n0 c0) _ E s HR.out HA.out hd hne;have NH:R<w.heap.size:=hr.lt;have lS:M<w.heap.size:=hr.mlt;have HI:Hid _:=ih;have HO:Hid _:=ho;clear hr ha hb0 ih ho heq hne;generalize hw0:w.alloc (gW p.depth p.passed a0 n0 c0)=w0 at *;have NJ:Hid _:=hw0;clear hw0;cases hT:aM T dp N p s with
 |out=>exact absurd (by rw[hT];rfl) HO.out
 |fail er a=>
  rw[hT]at HT;unfold gI aC at HT ⊢;go_enter func67,ntmps67;go_wp2_with fail;rw[NJ.out];refine zai HT.out ?_;rintro e w1 ⟨⟨b,t,rfl,hf⟩,hk⟩;have HF:Hid _:=hf;have HK:Hid _:=hk;clear hf hk HT;unfold bP aC;go_wp2_with fail;go_ret2;have hs1:=HK.out.size;exact⟨⟨b,rfl,dQ.alloc HF.out _⟩,((Kp.aG HB.out).trans (Kp.trans HK.out (Kp.aG ((zad _ _).alloc (zac _) _)))).a _⟩
 |ok t s1=>
  have HMt:Hid (t∈T):=sR _ _ _ _ _ hT;rw[hT]at HT;have HO':Hid (aL T dp N t p s1≠.out):=by have:=HO.out;rw[hT]at this;exact this
  unfold gI aC at HT ⊢;go_enter func67,ntmps67;go_wp2_with fail;rw[NJ.out];refine zai HT.out ?_;rintro e w1 ⟨E1,rfl,hx,hr1,hk⟩;have Ag:=(hk.block w.heap.size (by omega) (by omega) (by omega)).trans HP.out;obtain⟨x0,x1,x2⟩:=fG Ag;have hs1:=hk.size;have hl0:w.heap.size<w1.heap.size:=by omega
  have rq:¬w.heap.size=w1.heap.size:=by omega
  have hl2:¬w1.heap.size=w.heap.size:=by omega
  have hb1:Ω w1.heap.size w1 (w1.alloc (iz t)):=(zad _ _).alloc (zac _) _;have wO:Hid _:=hr1.below hb1;have HA1:Hid _:=jd.below (jd.kp HA.out HR.out hk hx.agree hx.ak) hb1;have HF:Hid _:=HI.out.nY t p (.slice a0 n0 c0) _ E1 s1 HMt.out wO.out HA1.out hd HO'.out;have HX:Hid _:=hx;have HK:Hid _:=hk;have jb:Hid _:=hb1;clear hx hk hr1 hb1 HT Ag;unfold bP aC gI at HF;unfold bP;go_wp2_with fail;refine zai HF.out ?_;clear HF;intro e2 w2 cG;have eF:Kp R M w (w1.alloc (iz t)):=(Kp.aG HB.out).trans (Kp.trans HK.out (Kp.aG jb.out));have SR:Ext w (w1.alloc (iz t)) E E1 s s1:=Ext.wid HX.out (by omega) (by simp);generalize w1.alloc (iz t)=w3 at *;cases hF:aL T dp N t p s1 with
  |out=>exact absurd hF HO'.out
  |fail er a=>
   rw[hF]at cG;obtain⟨⟨b,rfl,hf⟩,hk2⟩:=cG;have HG:Hid (jP R M g cap T dp (Θ.slice a0 n0 c0).ownBlock w E s (RR.fail er a) (.returned (.tuple #[.nilIface,aC b])) w2):=⟨⟨b,rfl,hf⟩,(eF.a _).trans hk2⟩;have HE:Hid (((RR.ok t s1).bind λt s=>aL T dp N t p s)=RR.fail er a):=hF;clear hf hk2 eF SR;unfold aC;go_wp2_with fail;go_ret2;rw[HE.out];exact HG.out
  |ok d s2=>
   rw[hF]at cG;obtain⟨v,E2,rfl,⟨ty,y,rfl⟩,cK,hx2,hr2,hk2⟩:=cG;have h3:=eF.size;have h4:=hk2.size;have HG:Hid (jP R M g cap T dp (Θ.slice a0 n0 c0).ownBlock w E s (RR.ok d s2) (.returned (.tuple #[.iface ty y,.pointer none])) w2):=
    ⟨.iface ty y,E2,rfl,⟨ty,y,rfl⟩,ct.keep h3 (zac _) (λ_ h=>h) (λ_ _ _=>rfl) ⟨λ_ _=>rfl,λ_ _=>rfl⟩ d _ cK,SR.trans hx2 h3 h4,hr2,(eF.a _).trans hk2⟩
   have HE:Hid (((RR.ok t s1).bind λt s=>aL T dp N t p s)=RR.ok d s2):=hF;clear cK hx2 hr2 hk2 eF SR;go_wp2_with fail;go_ret2;rw[HE.out];exact HG.out
end
theorem RR.bk {α β:Type}{x:RR α}{f:α→eD→RR β}{b:β}(h:x.bind f=.ok b s'):∃a s1,x=.ok a s1∧f a s1=.ok b s':=by
 cases x with
 |out=>cases h
 |fail e a=>cases h
 |ok a s1=>exact⟨a,s1,rfl,h⟩
section
variable (T:List Tok)(dp:Nat)
structure aa4 (n:Nat):Prop where
 datum:∀p s d s',ay T dp n p s=.ok d s'→s.k≤s'.k
 take:∀p s d s',aM T dp n p s=.ok d s'→s.k≤s'.k
 nY:∀t p s d s',aL T dp n t p s=.ok d s'→s.k≤s'.k
 list:∀l p s d s',bh T dp n l p s=.ok d s'→s.k≤s'.k
 vec:∀l p s d s',cy T dp n l p s=.ok d s'→s.k≤s'.k
theorem grows:∀n,aa4 T dp n
 |0=>⟨λ_ _ _ _ h=>(by unfold ay at h;cases h),λ_ _ _ _ h=>(by unfold aM at h;cases h),λ_ _ _ _ _ h=>(by unfold aL at h;cases h),λ_ _ _ _ _ h=>(by unfold bh at h;cases h),λ_ _ _ _ _ h=>(by unfold cy at h;cases h)⟩
 |n+1=>by
  have ih:=grows n;refine⟨λp s d s' h=>?_,λp s d s' h=>?_,λt p s d s' h=>?_,λl p s d s' h=>?_,λl p s d s' h=>?_⟩
  ·unfold ay at h;obtain⟨t,s1,h1,h2⟩:=RR.bk h;have:=ih.take _ _ _ _ h1;have:=ih.nY _ _ _ _ _ h2;omega
  ·unfold aM at h;split at h
   ·cases h
   ·split at h
    ·cases h
    ·split at h
     ·cases h
     ·split at h
      ·obtain⟨t,s1,h1,h2⟩:=RR.bk h;have:=ih.datum _ _ _ _ h1;have:=ih.take _ _ _ _ h2;simp at *;omega
      ·cases h;simp
  ·unfold aL at h;split at h
   ·cases h
   ·split at h
    ·split at h
     ·cases h
     ·split at h
      ·cases h
      ·obtain⟨t,s1,h1,h2⟩:=RR.bk h;have:=ih.datum _ _ _ _ h1;cases h2;exact this
    ·split at h
     ·split at h
      ·cases h
      ·cases h;exact zac _
     ·split at h
      ·split at h
       ·cases h
       ·split at h
        ·obtain⟨t,s1,h1,h2⟩:=RR.bk h;have:=ih.vec _ _ _ _ _ h1;cases h2;exact this
        ·split at h
         ·obtain⟨t,s1,h1,h2⟩:=RR.bk h;have:=ih.datum _ _ _ _ h1;cases h2;exact this
         ·exact ih.list _ _ _ _ _ h
      ·unfold j9 at h;repeat' split at h
       all_goals first|(cases h;done)|(cases h;exact zac _)
  ·unfold bh at h;obtain⟨t,s1,h1,h2⟩:=RR.bk h;have a1:=ih.take _ _ _ _ h1;split at h2
   ·cases h2;exact a1
   ·split at h2
    ·obtain⟨r,s2,h3,h4⟩:=RR.bk h2;have a2:=ih.datum _ _ _ _ h3;obtain⟨r',s3,h5,h6⟩:=RR.bk h4;have a3:=ih.take _ _ _ _ h5;split at h6
     ·cases h6;simp;omega
     ·cases h6
    ·obtain⟨r,s2,h3,h4⟩:=RR.bk h2;have a2:=ih.nY _ _ _ _ _ h3;have a3:=ih.list _ _ _ _ _ h4;omega
  ·unfold cy at h;obtain⟨t,s1,h1,h2⟩:=RR.bk h;have a1:=ih.take _ _ _ _ h1;split at h2
   ·cases h2;exact a1
   ·split at h2
    ·cases h2
    ·obtain⟨r,s2,h3,h4⟩:=RR.bk h2;have a2:=ih.nY _ _ _ _ _ h3;have a3:=ih.vec _ _ _ _ _ h4;omega
end
theorem PX:∀(T:List Tok) (k j:Nat) (t:Tok),T[k]?=some t→j<7→(T.flatMap iR)[k*7+j]?=(iR t)[j]?
 |[],k,j,t,h,_=>by simp at h
 |x::T,0,j,t,h,hj=>by
  simp at h;subst h;rw[zbB,zbi (by simp[iR];omega)];simp
 |x::T,k+1,j,t,h,hj=>by
  rw[zbB,zbv (by simp[iR];omega)];have:=PX T k j t (by simpa using h) hj;rw[show(k+1)*7+j-(iR x).length=k*7+j by simp[iR];omega];exact this
theorem bS.tok (h:bS w R M g cap T dp E s){t:Tok}(ht:T[s.k]?=some t):w.cell? ⟨g,s.k*7,none⟩=some (Γ Δ t.kind)∧w.cell? ⟨g,s.k*7+1,none⟩=some (Γ Δ t.from_)∧w.cell? ⟨g,s.k*7+2,none⟩=some (Γ Δ t.gw)∧w.cell? ⟨g,s.k*7+3,none⟩=some (.string ⟨⟨t.text⟩⟩)∧w.cell? ⟨g,s.k*7+4,none⟩=some (Γ Δ t.n)∧w.cell? ⟨g,s.k*7+5,none⟩=some (Γ Δ t.d)∧w.cell? ⟨g,s.k*7+6,none⟩=some (Γ Δ t.fault):=by
 have hlt:s.k<T.length:=(zbh.1 ht).1;have key:∀j,j<7→w.cell? ⟨g,s.k*7+j,none⟩=(iR t)[j]?:=λj hj=>by rw[h.row.cellAt _ (by omega),PX T s.k j t ht hj]
 exact⟨key 0 (by omega),key 1 (by omega),key 2 (by omega),key 3 (by omega),key 4 (by omega),key 5 (by omega),key 6 (by omega)⟩
theorem ig {x0 x1 x2 x3:Θ}(h:w1.heap[b]?=some (.cells #[x0,x1,x2,x3] e)):(w1.cell? ⟨b,0,none⟩=some x0∧w1.cell? ⟨b,1,none⟩=some x1∧w1.cell? ⟨b,2,none⟩=some x2∧w1.cell? ⟨b,3,none⟩=some x3)∧w1.frozen? ⟨b,1,none⟩=false:=by
 refine⟨⟨?_,?_,?_,?_⟩,?_⟩<;>simp[Λ.cell?,Λ.frozen?,h]
theorem Kp.kV {wr:Λ}(h:Kp R M w wr)(k:Ω w.heap.size wr w'):Kp R M w w':=
 ⟨k.os.trans h.os,k.tape.trans h.tape,k.output.trans h.output,zag h.size k.size,λb h1 h2 h3=>(k.block b h1).trans (h.block b h1 h2 h3)⟩
theorem Xb (w1:Λ)(c b:Nat)(hb:b≠c)(v0 v1 v2 v3 v4 v5 v6:Θ):(((((((w1.setCell ⟨c,0,none⟩ v0).setCell ⟨c,1,none⟩ v1).setCell ⟨c,2,none⟩ v2).setCell ⟨c,3,none⟩ v3).setCell ⟨c,4,none⟩ v4).setCell ⟨c,5,none⟩ v5).setCell ⟨c,6,none⟩ v6).heap[b]?=w1.heap[b]?:=by
 rw[zax _ _ _ _ hb,zax _ _ _ _ hb,zax _ _ _ _ hb,zax _ _ _ _ hb,zax _ _ _ _ hb,zax _ _ _ _ hb,zax _ _ _ _ hb]
@[reducible] def mV (w1:Λ) (c:Nat) (v0 v1 v2 v3 v4 v5 v6:Θ):Λ:=((((((w1.setCell ⟨c,0,none⟩ v0).setCell ⟨c,1,none⟩ v1).setCell ⟨c,2,none⟩ v2).setCell ⟨c,3,none⟩ v3).setCell ⟨c,4,none⟩ v4).setCell ⟨c,5,none⟩ v5).setCell ⟨c,6,none⟩ v6
theorem FA (w1:Λ)(c:Nat)(v0 v1 v2 v3 v4 v5 v6:Θ):(mV w1 c v0 v1 v2 v3 v4 v5 v6).heap.size=w1.heap.size:=by simp[mV]
theorem BF (wr:Λ)(c:Nat)(v0 v1 v2 v3 v4 v5 v6:Θ)(A B:Obj):((((mV wr c v0 v1 v2 v3 v4 v5 v6).alloc A).alloc B).drew.drew).heap[wr.heap.size+1]?=some B:=by
 have:=en (mV wr c v0 v1 v2 v3 v4 v5 v6) A B;rw[FA]at this;exact this
theorem rz (wr:Λ)(c B:Nat)(h:B≤c)(v0 v1 v2 v3 v4 v5 v6:Θ):Ω B wr (mV wr c v0 v1 v2 v3 v4 v5 v6):=
 (((((((zad B wr).setCell (p:=⟨c,0,none⟩) h _).setCell (p:=⟨c,1,none⟩) h _).setCell (p:=⟨c,2,none⟩) h _).setCell (p:=⟨c,3,none⟩) h _).setCell (p:=⟨c,4,none⟩) h _).setCell (p:=⟨c,5,none⟩) h _).setCell (p:=⟨c,6,none⟩) h _
theorem BG (wr:Λ)(c B:Nat)(h:B≤c)(hB:B≤wr.heap.size)(v0 v1 v2 v3 v4 v5 v6:Θ)(A C:Obj):Ω B wr ((((mV wr c v0 v1 v2 v3 v4 v5 v6).alloc A).alloc C).drew.drew):=
 ((((rz wr c B h v0 v1 v2 v3 v4 v5 v6).alloc (by rw[FA];exact hB) _).alloc (by simp;omega) _).drew).drew
theorem eE (h:w1.heap[c]?=some (.cells cs e))(j:Nat)(v:Θ):(w1.setCell ⟨c,j,none⟩ v).heap[c]?=some (.cells (cs.setIfInBounds j v) e):=by
 unfold Λ.setCell;simp only[Array.getElem?_modify,if_true,h,zbp];rfl
theorem yH (h:w1.heap[c]?=some (.cells #[u0,u1,u2,u3,u4,u5,u6] e))(v0 v1 v2 v3 v4 v5 v6:Θ):(mV w1 c v0 v1 v2 v3 v4 v5 v6).heap[c]?=some (.cells #[v0,v1,v2,v3,v4,v5,v6] e):=by
 have:=eE (eE (eE (eE (eE (eE (eE h 0 v0) 1 v1) 2 v2) 3 v3) 4 v4) 5 v5) 6 v6;unfold mV;rw[this];simp
theorem Mj {wr:Λ}(h:wr.heap[c]?=some (.cells #[u0,u1,u2,u3,u4,u5,u6] e))(v0 v1 v2 v3 v4 v5 v6:Θ)(A B:Obj)(W:Λ)(hW:W=(((mV wr c v0 v1 v2 v3 v4 v5 v6).alloc A).alloc B).drew.drew):W.cell? ⟨c,0,none⟩=some v0∧W.cell? ⟨c,1,none⟩=some v1∧W.cell? ⟨c,2,none⟩=some v2∧W.cell? ⟨c,3,none⟩=some v3∧W.cell? ⟨c,4,none⟩=some v4∧W.cell? ⟨c,5,none⟩=some v5∧W.cell? ⟨c,6,none⟩=some v6:=by
 have hl:c<wr.heap.size:=(zaj.1 h).1;have h7:=yH h v0 v1 v2 v3 v4 v5 v6;have hs:=FA wr c v0 v1 v2 v3 v4 v5 v6;have hd:W.heap=(((mV wr c v0 v1 v2 v3 v4 v5 v6).alloc A).alloc B).heap:=by rw[hW];rfl
 clear hW;generalize mV wr c v0 v1 v2 v3 v4 v5 v6=w1 at *;have hb:W.heap[c]?=some (.cells #[v0,v1,v2,v3,v4,v5,v6] e):=by
  rw[hd,zaT _ _ _ (by simp;omega),zaT _ _ _ (by omega),h7]
 refine⟨?_,?_,?_,?_,?_,?_,?_⟩<;>simp[Λ.cell?,hb]
theorem qI {P:η}{fn:Func}{Q:Ending→Λ→Prop}{a:Act}{wr:Λ}(h:wr.heap[c]?=some (.cells #[u0,u1,u2,u3,u4,u5,u6] e)){v0 v1 v2 v3 v4 v5 v6:Θ}{A B:Obj}
 (hr:∀W:Λ,W.cell? ⟨c,0,none⟩=some v0→W.cell? ⟨c,1,none⟩=some v1→W.cell? ⟨c,2,none⟩=some v2→W.cell? ⟨c,3,none⟩=some v3→W.cell? ⟨c,4,none⟩=some v4→W.cell? ⟨c,5,none⟩=some v5→W.cell? ⟨c,6,none⟩=some v6→(results fn a.tmps).run P W=.ok v W)
 (hd:a.defers=[])(hR:Q (.returned v) (((mV wr c v0 v1 v2 v3 v4 v5 v6).alloc A).alloc B).drew.drew):bodyPost P fn Q .ret a (((mV wr c v0 v1 v2 v3 v4 v5 v6).alloc A).alloc B).drew.drew:=by
 obtain⟨y0,y1,y2,y3,y4,y5,y6⟩:=Mj h v0 v1 v2 v3 v4 v5 v6 A B _ rfl;exact zao (hr _ y0 y1 y2 y3 y4 y5 y6) hd hR
theorem nR {P:η}{fn:Func}{Q:Ending→Λ→Prop}{a:Act}{W:Λ}{v0 v1 v2 v3 v4 v5 v6:Θ}(h:W.heap[c]?=some (.cells #[v0,v1,v2,v3,v4,v5,v6] e))
 (hr:W.cell? ⟨c,0,none⟩=some v0→W.cell? ⟨c,1,none⟩=some v1→W.cell? ⟨c,2,none⟩=some v2→W.cell? ⟨c,3,none⟩=some v3→W.cell? ⟨c,4,none⟩=some v4→W.cell? ⟨c,5,none⟩=some v5→W.cell? ⟨c,6,none⟩=some v6→(results fn a.tmps).run P W=.ok v W)
 (hd:a.defers=[])(hR:Q (.returned v) W):bodyPost P fn Q .ret a W:=
 zao (hr (by simp[Λ.cell?,h]) (by simp[Λ.cell?,h]) (by simp[Λ.cell?,h]) (by simp[Λ.cell?,h]) (by simp[Λ.cell?,h]) (by simp[Λ.cell?,h]) (by simp[Λ.cell?,h])) hd hR
theorem PY (w:Λ)(j:Nat)(v:Θ):Kp R M w (w.setCell ⟨R,j,none⟩ v):=
 ⟨rfl,rfl,rfl,by simp,λb _ h2 _=>zax _ _ _ _ h2⟩
theorem Un (w:Λ)(j:Nat)(v:Θ)(A:Obj):Kp R M w ((w.setCell ⟨R,j,none⟩ v).alloc A).drew:=
 (PY w j v).trans (Kp.aG (((zad _ _).alloc (zac _) _).drew))
theorem bS.step {w w':Λ}{R M g cap:Nat}{T:List Tok}{dp:Nat}{E:Env}{s:eD}(h:bS w R M g cap T dp E s){k:Nat}(hR:w'.heap[R]?=some (.cells #[.slice (some ⟨g,0,none⟩) T.length cap,Γ Δ k,Γ Δ dp,.map (some M)] 123))(_:w.heap.size≤w'.heap.size)(hk:∀b,b<w.heap.size→b=g∨b=M→w'.heap[b]?=w.heap[b]?)(hl:∀(b:Nat) (v:Θ),w.heap[b]?=some (.cells #[v] 215)→w'.heap[b]?=w.heap[b]?):bS w' R M g cap T dp E { s with k:=k }:=by
 have hg:=(h.row.lt g rfl).2;refine⟨h.rm,h.gr,h.gm,hR,?_,?_,λn hn=>(h.low n hn).imp λv hv=>(hl _ v hv).trans hv,h.inj,h.small,h.deep⟩
 ·refine⟨h.row.1,h.row.2.imp id ?_⟩;rintro ⟨b,cp,cur,h1,h2,h3,h4⟩;have:b=g:=by cases h1;rfl
  exact⟨b,cp,cur,h1,h2,(hk b (zaj.1 h3).1 (.inl this)).trans h3,h4⟩
 ·obtain⟨es,c,h1,h2⟩:=h.lm;exact⟨es,c,(hk M h.mlt (.inr rfl)).trans h1,h2⟩
theorem bS.step1 {wr:Λ}(h:bS wr R M g cap T dp E s)(A:Obj):bS ((wr.setCell ⟨R,1,none⟩ (Γ Δ ((s.k:Int)+1))).alloc A).drew R M g cap T dp E { s with k:=s.k+1 }:=by
 have hb:=eE h.blk 1 (Γ Δ ((s.k:Int)+1));have hl:=h.lt;have e0:∀b,b<wr.heap.size→(((wr.setCell ⟨R,1,none⟩ (Γ Δ ((s.k:Int)+1))).alloc A).drew).heap[b]?=(wr.setCell ⟨R,1,none⟩ (Γ Δ ((s.k:Int)+1))).heap[b]?:=λb h=>zaT _ _ _ (by simp;exact h);refine bS.step h ?_ (by simp) (λb hb1 hb2=>?_) λb v hv=>?_
 ·rw[e0 R hl,hb];simp
 rotate_left
 ·rw[e0 b (zaj.1 hv).1];exact zax _ _ _ _ (λe=>by rw[e,h.blk]at hv;simp at hv)
 ·rw[e0 b hb1];exact zax _ _ _ _ (hb2.elim (λe=>by rw[e];exact h.gr) (λe=>by rw[e];exact λx=>h.rm x.symm))
theorem YL {wr:Λ}(hc:c≠R)(h:wr.heap[c]?=some (.cells #[u0,u1,u2,u3,u4,u5,u6] e))(v v0 v1 v2 v3 v4 v5 v6:Θ)(A:Obj):((mV (wr.setCell ⟨R,1,none⟩ v) c v0 v1 v2 v3 v4 v5 v6).alloc A).drew.heap[c]?=some (.cells #[v0,v1,v2,v3,v4,v5,v6] e):=by
 have h7:=yH ((zax wr ⟨R,1,none⟩ v c hc).trans h) v0 v1 v2 v3 v4 v5 v6;generalize mV (wr.setCell ⟨R,1,none⟩ v) c v0 v1 v2 v3 v4 v5 v6=w1 at *;show(w1.alloc A).heap[c]?=_;rw[zaT _ _ _ (zaj.1 h7).1,h7]
theorem Uo {wr:Λ}(hk:Kp R M w wr)(h:w.heap.size≤c)(v v0 v1 v2 v3 v4 v5 v6:Θ)(A:Obj):Kp R M w ((mV (wr.setCell ⟨R,1,none⟩ v) c v0 v1 v2 v3 v4 v5 v6).alloc A).drew:=
 Kp.kV (hk.trans (PY wr 1 v)) (((rz _ c w.heap.size h v0 v1 v2 v3 v4 v5 v6).alloc (by rw[FA];simp;exact hk.size) _).drew)
theorem bS.YL {wr:Λ}(h:bS wr R M g cap T dp E s)(h1:c≠R)(h2:c≠M)(h3:c≠g)(h4:wr.heap[c]?=some T0)(v0 v1 v2 v3 v4 v5 v6:Θ)(A:Obj):bS ((mV (wr.setCell ⟨R,1,none⟩ (Γ Δ ((s.k:Int)+1))) c v0 v1 v2 v3 v4 v5 v6).alloc A).drew R M g cap T dp E { s with k:=s.k+1 }:=by
 have hb:=eE h.blk 1 (Γ Δ ((s.k:Int)+1));have hl:=h.lt;have hs:=FA (wr.setCell ⟨R,1,none⟩ (Γ Δ ((s.k:Int)+1))) c v0 v1 v2 v3 v4 v5 v6;have hh:∀b,b≠c→(mV (wr.setCell ⟨R,1,none⟩ (Γ Δ ((s.k:Int)+1))) c v0 v1 v2 v3 v4 v5 v6).heap[b]?=(wr.setCell ⟨R,1,none⟩ (Γ Δ ((s.k:Int)+1))).heap[b]?:=λb hc=>Xb _ c b hc _ _ _ _ _ _ _;generalize mV (wr.setCell ⟨R,1,none⟩ (Γ Δ ((s.k:Int)+1))) c v0 v1 v2 v3 v4 v5 v6=w1 at *;have hs1:w1.heap.size=wr.heap.size:=by rw[hs];simp
 have e0:∀b,b<wr.heap.size→b≠c→(w1.alloc A).drew.heap[b]?=(wr.setCell ⟨R,1,none⟩ (Γ Δ ((s.k:Int)+1))).heap[b]?:=λb h hc=>by
  show(w1.alloc A).heap[b]?=_;rw[zaT _ _ _ (by omega),hh b hc]
 refine bS.step h ?_ ?_ (λb hb1 hb2=>?_) λb v hv=>?_
 ·rw[e0 R hl h1.symm,hb];simp
 ·simp;omega
 rotate_left
 ·rw[e0 b (zaj.1 hv).1 (λe=>by rw[e,h4]at hv;simp[T0]at hv)];exact zax _ _ _ _ (λe=>by rw[e,h.blk]at hv;simp at hv)
 ·rw[e0 b hb1 (hb2.elim (λe=>by rw[e];exact h3.symm) (λe=>by rw[e];exact h2.symm))];exact zax _ _ _ _ (hb2.elim (λe=>by rw[e];exact h.gr) (λe=>by rw[e];exact λx=>h.rm x.symm))
theorem Ext.to {s'':eD}(h:Ext w w' E E' s s')(hf:s''.fresh=s'.fresh)(hl:s''.ak=s'.ak):Ext w w' E E' s s'':=
 ⟨h.agree,by rw[hf];exact h.fresh,by rw[hl];exact h.ak,by rw[hf];exact h.new,by rw[hf];exact h.inj⟩
theorem FB (wr:Λ)(R c:Nat)(hc:c≠R)(h:c<wr.heap.size)(v:Θ)(A:Obj):((wr.setCell ⟨R,1,none⟩ v).alloc A).drew.heap[c]?=wr.heap[c]?:=
 (zaT _ _ _ (by simp;exact h)).trans (zax _ _ _ _ hc)
theorem PZ (wr:Λ)(R:Nat)(v:Θ)(A:Obj):((wr.setCell ⟨R,1,none⟩ v).alloc A).drew.heap[wr.heap.size]?=some A:=by
 have:=zav (wr.setCell ⟨R,1,none⟩ v) A;rw[show(wr.setCell ⟨R,1,none⟩ v).heap.size=wr.heap.size by simp]at this;exact this
section
variable {R M g cap:Nat}{T:List Tok}{dp:Nat}
theorem Mk (ih:∀n,n≤N→IH R M g cap T dp n)(p:Pl)(av:Θ)(w:Λ)(E:Env)(s:eD)(hr:bS w R M g cap T dp E s)(ha:jd w E s p.ahead av)(hd:p.depth≤dp∧p.ahead.length≤p.depth)(ho:aM T dp (N+1) p s≠.out):Φ prog 105 #[aC R,gI p.depth p.passed av] w λe w'=>OkT R M g cap T dp w E s (aM T dp (N+1) p s) e w':=by
 have mixed:prog.follows Ξ=true:=by kernel_rfl
 obtain⟨⟨a0,n0,c0,rfl⟩⟩:=(⟨ha.2.1⟩:Nonempty _);have NH:R<w.heap.size:=hr.lt;have lS:M<w.heap.size:=hr.mlt;have hrg:g<w.heap.size:=(hr.row.lt g rfl).2;have hb0:Ω w.heap.size w ((w.alloc (gW p.depth p.passed a0 n0 c0)).alloc T0):=((zad _ w).alloc (zac _) _).alloc (by simp) _;have HP:Hid (((w.alloc (gW p.depth p.passed a0 n0 c0)).alloc T0).heap[w.heap.size]?=some (gW p.depth p.passed a0 n0 c0)):=(zaT _ _ _ (by simp)).trans (zav w _);have HQ:Hid (((w.alloc (gW p.depth p.passed a0 n0 c0)).alloc T0).heap[w.heap.size+1]?=some T0):=en w _ _;have HR:Hid _:=hr.below hb0;have HB:Hid _:=hb0;have HI:Hid _:=ih;have HO:Hid _:=ho;have hsm:=hr.small;clear hr ha hb0 ih ho;unfold gI aC;go_enter func105,ntmps105;go_wp2_with fail;go_loopw [] (λwr=>∃(m:Nat) (E1:Env) (s1:eD),m≤N+1∧w.heap.size+2≤wr.heap.size∧Hid (aM T dp (N+1) p s=aM T dp m p s1)∧Hid (bS wr R M g cap T dp E1 s1)∧Hid (Ext w wr E E1 s s1)∧Hid (Kp R M w wr)∧Hid (wr.heap[w.heap.size]?=some (gW p.depth p.passed a0 n0 c0))∧Hid (wr.heap[w.heap.size+1]?=some T0)) (λwr=>T.length+1-(intOf ((wr.cell? ⟨R,1,none⟩).getD undef)).toNat)
 case atStart=>exact⟨N+1,E,s,zac _,by simp,rfl,HR.out,Ext.refl rfl rfl,Kp.aG HB.out,HP.out,HQ.out⟩
 case round=>
  obtain⟨m,E1,s1,hm,hsz,HE,wO,HX,HK,SS,HQ1⟩:=hrel;have yg:aM T dp m p s1≠.out:=by rw[←HE.out];exact HO.out
  obtain⟨m',rfl⟩:∃m',m=m'+1:=by
   cases m with
   |zero=>exact absurd (by unfold aM;rfl) yg
   |succ m'=>exact⟨m',rfl⟩
  cases ht:T[s1.k]? with
  |none=>exact absurd (by unfold aM;rw[ht]) yg
  |some t=>
   have hlt:s1.k<T.length:=(zbh.1 ht).1;obtain⟨⟨r0,r1,r2,r3⟩,rf⟩:=ig wO.out.blk;obtain⟨t0,t1,t2,t3,t4,t5,t6⟩:=wO.out.tok ht;obtain⟨p0,p1,p2⟩:=fG SS.out;obtain⟨⟨x0,x1,x2,x3,x4,x5,x6⟩,f0,f1,f2,f3,f4,f5,f6⟩:=dt (b:=w.heap.size+1) (zad _ wr) HQ1.out;have hRr:R<wr.heap.size:=wO.out.lt;have hgr:g<wr.heap.size:=(wO.out.row.lt g rfl).2;have e1:¬R=wr.heap.size:=by omega
   have e2:¬g=wr.heap.size:=by omega
   have e3:¬w.heap.size=wr.heap.size:=by omega
   have e4:¬w.heap.size+1=wr.heap.size:=by omega
   have e5:w.heap.size<wr.heap.size:=by omega
   have e6:w.heap.size+1<wr.heap.size:=by omega
   have NK:Hid (aM T dp (m'+1) p s1=if t.kind=0 then .fail 4 t.from_ else if t.kind=1 then .fail 3 t.from_ else if t.kind=6 then(ay T dp m' ⟨p.depth,true,[]⟩ { s1 with k:=s1.k+1 }).bind λ_ s=>aM T dp m' p s else .ok t { s1 with k:=s1.k+1 }):=by
    show _=_
    conv=>lhs;unfold aM
    rw[ht]
   by_cases k0:t.kind=0
   ·have HF:Hid (aM T dp (N+1) p s=.fail 4 t.from_):=by show _=_;rw[HE.out,NK.out,zab k0]
    have q0:(((t.kind:Nat):Int)==0)=true:=by rw[k0];rfl
    clear k0;go_wp2_with fail;go_region;go_wp2_with fail;go_region;go_wp2_with fail;refine qI HQ1.out (v:= .tuple #[bP t,aC (wr.heap.size+1)]) (λW y0 y1 y2 y3 y4 y5 y6=>by simp[results,results105,bP,aC,go_sem,y0,y1,y2,y3,y4,y5,y6]) rfl ?_;rw[HF.out];refine⟨⟨_,_,rfl,?_⟩,Kp.kV HK.out ?_⟩
    ·exact BF wr (w.heap.size+1) _ _ _ _ _ _ _ _ _
    ·exact BG wr (w.heap.size+1) w.heap.size (by omega) (by omega) _ _ _ _ _ _ _ _ _
   have q0:(((t.kind:Nat):Int)==0)=false:=by rw[zah];omega
   by_cases k1:t.kind=1
   ·have HF:Hid (aM T dp (N+1) p s=.fail 3 t.from_):=by show _=_;rw[HE.out,NK.out,zaa k0,zab k1]
    have q1:(((t.kind:Nat):Int)==1)=true:=by rw[k1];rfl
    clear k0 k1;go_wp2_with fail;go_region;go_wp2_with fail;go_region;go_wp2_with fail;refine qI HQ1.out (v:= .tuple #[bP t,aC (wr.heap.size+1)]) (λW y0 y1 y2 y3 y4 y5 y6=>by simp[results,results105,bP,aC,go_sem,y0,y1,y2,y3,y4,y5,y6]) rfl ?_;rw[HF.out];refine⟨⟨_,_,rfl,?_⟩,Kp.kV HK.out ?_⟩
    ·exact BF wr (w.heap.size+1) _ _ _ _ _ _ _ _ _
    ·exact BG wr (w.heap.size+1) w.heap.size (by omega) (by omega) _ _ _ _ _ _ _ _ _
   have q1:(((t.kind:Nat):Int)==1)=false:=by rw[zah];omega
   by_cases k6:t.kind=6
   ·have q6:(((t.kind:Nat):Int)==6)=true:=by rw[k6];rfl
    have HF:Hid (aM T dp (N+1) p s=(ay T dp m' ⟨p.depth,true,[]⟩ { s1 with k:=s1.k+1 }).bind λ_ s=>aM T dp m' p s):=by show _=_;rw[HE.out,NK.out,zaa k0,zaa k1,zab k6]
    clear k0 k1 k6;have IG:Hid _:=bS.step1 wO.out (iz t);have pM:Hid _:=Kp.trans HK.out (Un wr 1 (Γ Δ ((s1.k:Int)+1)) (iz t));have hne:ay T dp m' ⟨p.depth,true,[]⟩ { s1 with k:=s1.k+1 }≠.out:=λh=>HO.out (by rw[HF.out,h];rfl);have HC:Hid _:=(HI.out m' (by omega)).datum ⟨p.depth,true,[]⟩ (.slice none 0 0) _ E1 _ IG.out ⟨⟨rfl,.inl ⟨rfl,rfl⟩⟩,⟨_,_,_,rfl⟩,λn hn=>by cases hn⟩ ⟨hd.1,zaq _⟩ hne;clear hne;unfold aC gI at HC;go_wp2_with fail;go_region;go_wp2_with fail;refine zai HC.out ?_;clear HC;intro e w2 cG;have HP2:Hid _:=(FB wr R w.heap.size (by omega) (by omega) (Γ Δ ((s1.k:Int)+1)) (iz t)).trans SS.out;have HQ2:Hid _:=(FB wr R (w.heap.size+1) (by omega) (by omega) (Γ Δ ((s1.k:Int)+1)) (iz t)).trans HQ1.out;have SU:Hid _:=PZ wr R (Γ Δ ((s1.k:Int)+1)) (iz t);have aaj:(((wr.setCell ⟨R,1,none⟩ (Γ Δ ((s1.k:Int)+1))).alloc (iz t)).drew).heap.size=wr.heap.size+1:=by simp
    generalize ((wr.setCell ⟨R,1,none⟩ (Γ Δ ((s1.k:Int)+1))).alloc (iz t)).drew=wm at *;cases hF:ay T dp m' ⟨p.depth,true,[]⟩ { s1 with k:=s1.k+1 } with
    |out=>exact absurd (by rw[HF.out,hF];rfl) HO.out
    |fail er a=>
     rw[hF]at cG;obtain⟨⟨b,rfl,hf⟩,hk2⟩:=cG;replace hk2:=jO.plain hk2;have hs2:=hk2.size;have HF2:Hid _:=hf;have nZ:Hid _:=Kp.trans pM.out hk2;have jL:Hid (aM T dp (N+1) p s=.fail er a):=by show _=_;rw[HF.out,hF];rfl
     have P0:Hid _:=(hk2.block (w.heap.size+1) (by omega) (by omega) (by omega)).trans HQ2.out;have ht2:=(hk2.block wr.heap.size (by omega) (by omega) (by omega)).trans SU.out;obtain⟨⟨y0,y1,y2,y3,y4,y5,y6⟩,-⟩:=dt (zad _ w2) ht2;obtain⟨⟨z0,z1,z2,z3,z4,z5,z6⟩,g0,g1,g2,g3,g4,g5,g6⟩:=dt (b:=w.heap.size+1) (zad _ w2) P0.out;have i1:¬wr.heap.size=w2.heap.size:=by omega
     have i2:¬w.heap.size+1=w2.heap.size:=by omega
     have i3:¬wr.heap.size=w.heap.size+1:=by omega
     clear ht2 hf hk2 hF x0 x1 x2 x3 x4 x5 x6 f0 f1 f2 f3 f4 f5 f6 t0 t1 t2 t3 t4 t5 t6 r0 r1 r2 r3 rf p0 p1 p2;unfold aC;go_wp2_with fail;refine nR (yH P0.out _ _ _ _ _ _ _) (v:= .tuple #[bP t,aC b]) ?_ rfl ?_
     ·intro o0 o1 o2 o3 o4 o5 o6;simp[results,results105,bP,aC,go_sem,o0,o1,o2,o3,o4,o5,o6]
     have hbc:b≠w.heap.size+1:=λe=>by
      have q:=HF2.out;unfold dQ at q;rw[e,P0.out]at q;simp[T0]at q
     rw[jL.out];exact⟨⟨b,t,rfl,(Xb w2 _ b hbc _ _ _ _ _ _ _).trans HF2.out⟩,Kp.kV nZ.out (rz w2 (w.heap.size+1) w.heap.size (by omega) _ _ _ _ _ _ _)⟩
    |ok d s2=>
     rw[hF]at cG;obtain⟨v,E2,rfl,⟨ty,y,rfl⟩,-,hx2,hr2,hk2⟩:=cG;replace hk2:=jO.plain hk2;have hs2:=hk2.size;have nZ:Hid _:=Kp.trans pM.out hk2;have jL:Hid (aM T dp (N+1) p s=aM T dp m' p s2):=by show _=_;rw[HF.out,hF];rfl
     have Up:Hid _:=Ext.trans (Ext.to (s'':={ s1 with k:=s1.k+1 }) (Ext.wid (w3:=wm) HX.out (zac _) (by omega)) rfl rfl) hx2 (by omega) hs2;have P3:Hid _:=hr2;have Ml:Hid _:=(hk2.block w.heap.size (by omega) (by omega) (by omega)).trans HP2.out;have P0:Hid _:=(hk2.block (w.heap.size+1) (by omega) (by omega) (by omega)).trans HQ2.out;have hgrow:s1.k+1≤s2.k:=(grows T dp m').datum _ _ _ _ hF;clear hx2 hr2 hk2 hF x0 x1 x2 x3 x4 x5 x6 f0 f1 f2 f3 f4 f5 f6 t0 t1 t2 t3 t4 t5 t6 p0 p1 p2;go_wp2_with fail;refine⟨⟨m',E2,s2,by omega,by omega,jL,P3,Up,nZ,Ml,P0⟩,?_⟩;rw[(ig P3.out.blk).1.2.1,(ig wO.out.blk).1.2.1];simp only[zbg,intOf,zbn];omega
   ·have q6:(((t.kind:Nat):Int)==6)=false:=by rw[zah];omega
    have HF:Hid (aM T dp (N+1) p s=.ok t { s1 with k:=s1.k+1 }):=by show _=_;rw[HE.out,NK.out,zaa k0,zaa k1,zaa k6]
    clear k0 k1 k6;go_wp2_with fail;go_region;go_wp2_with fail;refine nR (YL (by omega) HQ1.out _ _ _ _ _ _ _ _ _) (v:= .tuple #[bP t,.pointer none]) ?_ rfl ?_
    ·intro y0 y1 y2 y3 y4 y5 y6;simp[results,results105,bP,go_sem,y0,y1,y2,y3,y4,y5,y6]
    rw[HF.out];exact⟨E1,rfl,Ext.to (Ext.wid HX.out (zac _) (by simp)) rfl rfl,bS.YL wO.out (by omega) (by omega) (by omega) HQ1.out _ _ _ _ _ _ _ _,Uo HK.out (by omega) _ _ _ _ _ _ _ _ _⟩
end
section
variable {P:η}
theorem vP (w:Λ)(base:Nat)(t ty e:ζ)(i:TypeInfo)(z:Θ)(y:Nat)(ht:P.underlying t=some (.slice e))(hi:P.info? e=some i)(hz:i.zero=some z)
 (hsize:i.size=1)(hby:i.bytes=y)(hy:y≤16)(hzs:z.cells.size=1)
 (v:Θ)(n:Nat)(xs:List Θ)(hown:w.ownsRow base e 1 v n xs)
 (a:Addr)(m c:Nat)(news:List Θ)(hm:m≠0)(hl:news.length=m*1)(hnews:∀j u,news[j]?=some u→w.cell? (a.add j)=some u)(h1:∀u∈news,u.oneCell'=true)
 (hlen:n+m≤1000000)(hbase:base≤w.heap.size):
 ∃v' w',(Builtin.append_ #[t,t] ty #[v,.slice (some a) m c]).run P w=.ok v' w'∧w'.ownsRow base e 1 v' (n+m) (xs++news)∧w.grownBy w' v.ownBlock∧
  (v'.ownBlock=v.ownBlock∨∃k,v'.ownBlock=some k∧w.heap.size≤k):=by
 have h63:n+m≤θ:=by unfold θ;omega
 have hbytes:(n+m)*y≤140737488355328:=zag (Nat.mul_le_mul hlen hy) (by decide);have adH:m*y≤281474976710656:=zag (Nat.mul_le_mul (show m≤1000000 by omega) hy) (by decide);obtain⟨v',w',hr,h2,h3,h4⟩:=run_append_own (P:=P) w base t ty e i z 1 y ht hi hz hsize hby hzs (by decide) v n xs hown a m c news hl hnews h1 h63 hbytes hbase;refine⟨v',w',hr,h2,h3,?_⟩;have Ir:n+m≤9223372036854775807:=by omega
 rcases hown.2 with⟨rfl,rfl⟩|⟨g,cap,cur,rfl,hbg,hg,hnc,hcm,hcs,Fl⟩
 ·have qy:=run_append_nil (P:=P) w t ty e i z ht hi hz a m c news (by rw[hsize];exact hl) hnews (by omega) (by omega) (by rw[hby];first|exact growslice_fits (by omega) (by simpa using hbytes)|exact adH);rw[qy]at hr;injection hr with a b;rw[←a];exact Or.inr ⟨_,rfl,zac _⟩
 ·by_cases hroom:n+m≤cap
  ·have qy:=run_append_room (P:=P) w t ty e i ht hi g n cap cur hg a m c news (by rw[hsize];exact hl) hnews h1 hroom (by rw[hsize];omega);rw[qy]at hr;injection hr with a b;rw[←a];exact Or.inl rfl
  ·have holds:∀j u,xs[j]?=some u→w.cell? ((⟨g,0,none⟩:Addr).add j)=some u:=hown.cells (g:=g) rfl;have qy:=run_append_grow (P:=P) w t ty e i z ht hi hz ⟨g,0,none⟩ n cap xs (by rw[hsize];exact hown.1) holds a m c news (by rw[hsize];exact hl) hnews (by omega) (by omega) (by rw[hby];exact growslice_fits (by omega) hbytes);rw[qy]at hr;injection hr with a b;rw[←a];exact Or.inr ⟨_,rfl,zac _⟩
theorem fH {ops:Array Oper}{rest:List Oper}{o:Oper}{a:Act}{Q:Exit→Act→Λ→Prop}(hgd:o.guard=none)(sl x:Operand)(t:ζ)
 (ho:o.op=.call { callee:= .builtin .append,args:=#[sl,x],argTypes:=#[t,t] })
 (base:Nat)(e:ζ)(i:TypeInfo)(z:Θ)(y:Nat)(ht:P.underlying t=some (.slice e))(hi:P.info? e=some i)(hz:i.zero=some z)
 (hsize:i.size=1)(hby:i.bytes=y)(hy:y≤16)(hzs:z.cells.size=1)
 (v:Θ)(n:Nat)(xs:List Θ)(hs:a.eval sl=v)(hown:w.ownsRow base e 1 v n xs)
 (ad:Addr)(m c:Nat)(news:List Θ)(hx:a.eval x=.slice (some ad) m c)(hm:m≠0)(hl:news.length=m*1)(hnews:∀j u,news[j]?=some u→w.cell? (ad.add j)=some u)(h1:∀u∈news,u.oneCell'=true)
 (hlen:n+m≤1000000)(hbase:base≤w.heap.size)
 (h:∀v' w',w'.ownsRow base e 1 v' (n+m) (xs++news)→w.grownBy w' v.ownBlock→(v'.ownBlock=v.ownBlock∨∃k,v'.ownBlock=some k∧w.heap.size≤k)→wpList P ops Q rest (a.put o.dst v') w'):wpList P ops Q (o::rest) a w:=by
 refine wpList_plain hgd λK hK=>?_;obtain⟨v',w',hr,h2,h3,h4⟩:=vP (P:=P) w base t o.type e i z y ht hi hz hsize hby hy hzs v n xs hown ad m c news hm hl hnews h1 hlen hbase;unfold Oper.wp execOp;simp only[ho,resolve,invoke,builtin,zba,zbd,zbb,zbR,zaB,zbt,hs,hx,hr];exact hK _ _ (h v' w' h2 h3 h4)
end
theorem BH:(prog.info? 58).map (λi=>(i.zero,i.size,i.bytes))=some (some .nilIface,1,16):=by kernel_rfl
theorem Mm:(prog.info? 212).map (λi=>(i.zero,i.size,i.bytes))=some (some (.pointer none),1,8):=by kernel_rfl
def Held (wr:Λ)(lo k:Nat)(L:List Int)(E:Env)(c:Option Nat)(d:Dt)(v:Θ):Prop:=
 (∃t y,v=.iface t y)∧∃wi z,lo≤z∧wi.heap.size≤wr.heap.size∧ct z k L wi E d v∧(∀b,z≤b→b<wi.heap.size→wr.heap[b]?=wi.heap[b]?)∧∀b,c=some b→b<z∨wi.heap.size≤b
theorem Held.dat {wr:Λ}{k:Nat}{L:List Int}{c:Option Nat}{d:Dt}(h:Held wr lo k L E c d v):ct lo k L wr E d v:=by
 obtain⟨-,wi,z,h1,h2,h3,h4,-⟩:=h;exact ct.keep h1 (zac _) (λ_ h=>h) h4 ⟨λ_ _=>rfl,λ_ _=>rfl⟩ d v h3
theorem Held.keep {wr:Λ}{k k':Nat}{L L':List Int}{c c':Option Nat}{d:Dt}(h:Held wr lo k L E c d v)(hs:wr.heap.size≤w'.heap.size)(hk:k≤k')(hL:∀n∈L,n∈L')(hE:E.agree E' k L)
 (hw:∀b,lo≤b→b<wr.heap.size→some b≠c→w'.heap[b]?=wr.heap[b]?)(hc:c'=c∨∃b,c'=some b∧wr.heap.size≤b):Held w' lo k' L' E' c' d v:=by
 obtain⟨hi,wi,z,h1,h2,h3,h4,h5⟩:=h;refine⟨hi,wi,z,h1,by omega,ct.keep (zac _) hk hL (λ_ _ _=>rfl) hE d v h3,λb b1 b2=>?_,λb hb=>?_⟩
 ·refine(hw b (by omega) (by omega) λe=>?_).trans (h4 b b1 b2);have:=h5 b e.symm;omega
 ·rcases hc with hc|⟨b',hc,hlt⟩
  ·exact h5 b (by rw[←hc];exact hb)
  ·rw[hc]at hb;cases hb;exact .inr (by omega)
theorem mW:∀(l:List Dt) (r:Dt) (k:Nat),(aU l r k).2=k+l.length
 |[],_,_=>rfl
 |d::l,r,k=>by simp only[aU,mW l r k,zar];omega
theorem BI {w:Λ}{base lo K k0:Nat}{L:List Int}{E:Env}{rest:Dt}{vr:Θ}(hr:ct lo K L w E rest vr)(AJ:lo≤base):∀(ds:List Dt) (vs:List Θ) (v:Θ),fF w base vs vr v→ds.length=vs.length→(∀(j:Nat) d x,ds[j]?=some d→vs[j]?=some x→ct lo K L w E d x)→k0+ds.length≤K→(∀j,j<ds.length→E.α (k0+j)=base+j)→ct lo K L w E (aU ds rest k0).1 v
 |[],[],v,hc,_,_,_,_=>by
  have:v=vr:=hc;subst this;exact hr
 |d::ds,x::vs,v,⟨h1,v',h2,h3⟩,hl,hd,hK,Ar=>by
  simp only[zar]at hl hK Ar;have hl':ds.length=vs.length:=by omega
  have ih:=BI hr AJ ds vs v' h3 hl' (λj d' x' q1 q2=>hd (j+1) d' x' (by simpa using q1) (by simpa using q2)) (by omega) λj hj=>Ar j (by omega);have hp:E.α (aU ds rest k0).2=base+vs.length:=by rw[mW,Ar ds.length (by omega),hl']
  have hx:=hd 0 d x (by simp) (by simp);show ct lo K L w E (.pair (aU ds rest k0).2 d (aU ds rest k0).1) v;unfold ct;rw[hp];exact⟨by rw[mW];omega,by omega,h1,x,v',h2,hx,ih⟩
 |[],_::_,_,_,hl,_,_,_=>by simp at hl
 |_::_,[],_,_,hl,_,_,_=>by simp at hl
theorem Km {p:Pl}{t:Tok}(h:aM T dp n p s=.ok t s'):s.k<T.length∧s.k<s'.k:=by
 cases n with
 |zero=>unfold aM at h;cases h
 |succ n=>
  unfold aM at h;split at h
  ·cases h
  ·rename_i t' ht;refine⟨(zbh.1 ht).1,?_⟩;split at h
   ·cases h
   ·split at h
    ·cases h
    ·split at h
     ·obtain⟨d,s1,h1,h2⟩:=RR.bk h;have a1:=(grows T dp n).datum _ _ _ _ h1;have a2:=(grows T dp n).take _ _ _ _ h2;simp at a1;omega
     ·cases h;simp
theorem Mn (rest:Θ)(w:Λ)(Xa:∃t y,rest=.iface t y):Φ prog 221 #[.slice none 0 0,rest] w λe w'=>e=.returned rest∧w'=w:=by
 obtain⟨tr,yr,rfl⟩:=Xa;go_enter func221,ntmps221;go_wp2_with fail;go_loopw [5,1] (λi r wr=>i=Γ Δ (-1)∧r=.iface tr yr∧wr=w) (λ_ _ _=>0)
 case atStart=>exact⟨by go_num,rfl,rfl⟩
 case round=>
  obtain⟨rfl,rfl,rfl⟩:=hrel;go_wp2_with fail;go_ret;exact⟨rfl,rfl⟩
theorem uu (vs:List Θ)(sv:Θ)(lo:Nat)(rest:Θ)(w:Λ)(hrow:w.ownsRow lo 58 1 sv vs.length vs)(hn:vs.length≤1000000)(W9:∀x∈vs,∃t y,x=.iface t y)(Xa:∃t y,rest=.iface t y):Φ prog 221 #[sv,rest] w λe w'=>∃v,e=.returned v∧fF w' w.heap.size vs rest v∧w'.heap.size=w.heap.size+vs.length∧Ω w.heap.size w w':=by
 rcases hrow.2 with⟨rfl,h0⟩|⟨g,cap,cur,rfl,_⟩
 ·have:vs=[]:=zcf h0;subst this;refine(Mn rest w Xa).mono ?_;rintro e w' ⟨rfl,rfl⟩;exact⟨rest,rfl,rfl,rfl,zad _ _⟩
 ·exact Mh vs g cap lo rest w hrow hn W9 Xa
theorem fF.iface {base:Nat}{vs:List Θ}{rest:Θ}(h:fF w base vs rest v)(hr:∃t y,rest=.iface t y):∃t y,v=.iface t y:=by
 cases vs with
 |nil=>have:v=rest:=h
       rw[this];exact hr
 |cons x vs=>obtain⟨h1,_⟩:=h;exact⟨_,_,h1⟩
theorem uv {wr:Λ}{E1:Env}{s1:eD}{ds:List Dt}{vs:List Θ}{rest:Dt}{vr:Θ}(AJ:w.heap.size≤lo)(fV:lo≤wr.heap.size)(hds:∀(j:Nat) d x,ds[j]?=some d→vs[j]?=some x→ct lo s1.fresh s1.ak wr E1 d x)(Bw:ct lo s1.fresh s1.ak wr E1 rest vr)(hl:ds.length=vs.length)(Xa:∃t y,vr=.iface t y)
 (hc:fF w3 wr.heap.size vs vr v)(hsz:w3.heap.size=wr.heap.size+vs.length)(hb:Ω wr.heap.size wr w3)(hr:bS wr R M g cap T dp E1 s1)(hx:Ext w wr E E1 s s1)(hk:Kp R M w wr):
 jP R M g cap T dp none w E s (.ok (aU ds rest s1.fresh).1 { s1 with fresh:=(aU ds rest s1.fresh).2 }) (.returned (.tuple #[v,.pointer none])) w3:=by
 have ag:E1.agree ⟨λi=>if i<s1.fresh then E1.α i else wr.heap.size+(i-s1.fresh),E1.cE⟩ s1.fresh s1.ak:=⟨λi hi=>zab hi,λ_ _=>rfl⟩;have hlen:=mW ds rest s1.fresh;have kp:∀d x,ct lo s1.fresh s1.ak wr E1 d x→ct lo (aU ds rest s1.fresh).2 s1.ak w3 ⟨λi=>if i<s1.fresh then E1.α i else wr.heap.size+(i-s1.fresh),E1.cE⟩ d x:=λd x h=>
  ct.keep (zac _) (by omega) (λ_ h=>h) (λb _ h2=>hb.block b h2) ag d x h
 have cK:=BI (base:=wr.heap.size) (k0:=s1.fresh) (kp rest vr Bw) fV ds vs v hc hl (λj d x h1 h2=>kp d x (hds j d x h1 h2)) (by omega) λj hj=>by
  show(if s1.fresh+j<s1.fresh then _ else _)=_;rw[zaa (by omega)];congr 1;omega
 have h1:=hr.below hb;refine⟨v,⟨λi=>if i<s1.fresh then E1.α i else wr.heap.size+(i-s1.fresh),E1.cE⟩,rfl,hc.iface Xa,ct.keep AJ (zac _) (λ_ h=>h) (λ_ _ _=>rfl) ⟨λ_ _=>rfl,λ_ _=>rfl⟩ _ _ cK,?_,⟨h1.rm,h1.gr,h1.gm,h1.blk,h1.row,h1.lm,h1.low,h1.inj,h1.small,h1.deep⟩,(hk.trans (Kp.aG hb)).a none⟩;refine Ext.trans hx ⟨ag,by show s1.fresh≤(aU ds rest s1.fresh).2;omega,λ_ h=>h,λi i1 i2=>?_,λi j i1 i2 j1 j2 e=>?_⟩ hk.size (by omega)
 ·have i2':i<(aU ds rest s1.fresh).2:=i2;show wr.heap.size≤(if i<s1.fresh then _ else _)∧(if i<s1.fresh then _ else _)<_;rw[zaa (by omega)];omega
 ·have e':(if i<s1.fresh then E1.α i else wr.heap.size+(i-s1.fresh))=(if j<s1.fresh then E1.α j else wr.heap.size+(j-s1.fresh)):=e;rw[zaa (by omega),zaa (by omega)]at e';omega
theorem Kp.ge (h:Kp R M w w')(hR:R<lo)(hM:M<lo):∀b,lo≤b→b<w.heap.size→w'.heap[b]?=w.heap[b]?:=λb h1 h2=>h.block b h2 (by omega) (by omega)
section
variable {R M g cap:Nat}{T:List Tok}{dp:Nat}
theorem FC (ih:IH R M g cap T dp n)(p:Pl)(hp:p.ahead=[])(hd:p.depth≤dp∧p.ahead.length≤p.depth)(w wr:Λ)(E E1:Env)(s s1:eD)(hr:bS wr R M g cap T dp E1 s1)(hx:Ext w wr E E1 s s1)(hk:Kp R M w wr)(lo:Nat)(AJ:w.heap.size≤lo)(fV:lo≤wr.heap.size)(hRl:R<lo)(hMl:M<lo)
 (ds:List Dt)(vs:List Θ)(hl:ds.length=vs.length)(hn:vs.length≤1000000)(a0:Option Addr)(n0 c0:Nat)(hrow:wr.ownsRow lo 58 1 (.slice a0 n0 c0) vs.length vs)(hh:∀(j:Nat) d x,ds[j]?=some d→vs[j]?=some x→Held wr lo s1.fresh s1.ak E1 (Θ.slice a0 n0 c0).ownBlock d x)(W9:∀x∈vs,∃t y,x=.iface t y)
 (r:RR Dt)(eK:r=((ay T dp n p s1).bind λrest s=>(aM T dp n p s).bind λt s=>
   if t.kind=3 then .ok (aU ds rest s.fresh).1 { s with fresh:=(aU ds rest s.fresh).2 } else .fail 3 t.from_))(ho:r≠.out):
 Φ prog 222 #[aC R,.slice a0 n0 c0,gI p.depth p.passed (.slice none 0 0)] wr λe w'=>jP R M g cap T dp none w E s r e w':=by
 have mixed:prog.follows Ξ=true:=by kernel_rfl
 have hb0:Ω wr.heap.size wr (wr.alloc (gW p.depth p.passed none 0 0)):=(zad _ wr).alloc (zac _) _;have HR:Hid _:=hr.below hb0;have HP:Hid _:=zav wr (gW p.depth p.passed none 0 0);have PW:(wr.alloc (gW p.depth p.passed none 0 0)).heap.size=wr.heap.size+1:=by simp
 have hne:ay T dp n p s1≠.out:=λh=>ho (by rw[eK,h];rfl);have ah:∀(w':Λ) (E':Env) (s':eD),jd w' E' s' p.ahead (.slice none 0 0):=λw' E' s'=>by rw[hp];exact⟨⟨rfl,.inl ⟨rfl,rfl⟩⟩,⟨_,_,_,rfl⟩,λn hn=>by cases hn⟩
 have HT:Hid _:=ih.datum p (.slice none 0 0) _ E1 s1 HR.out (ah _ _ _) hd hne;have HK:Hid _:=hk.trans (Kp.aG hb0);have HX:Hid _:=Ext.wid (w:=w) (w3:=(wr.alloc (gW p.depth p.passed none 0 0))) hx (zac _) (by omega);have HH:Hid (∀(j:Nat) d x,ds[j]?=some d→vs[j]?=some x→ct lo s1.fresh s1.ak (wr.alloc (gW p.depth p.passed none 0 0)) E1 d x):=λj d x h1 h2=>ct.keep (zac _) (zac _) (λ_ h=>h) (λb _ h=>hb0.block b h) ⟨λ_ _=>rfl,λ_ _=>rfl⟩ d x (hh j d x h1 h2).dat
 have HW:Hid _:=bC hrow (zac _) λb _ h=>hb0.block b h;have NH:R<wr.heap.size:=hr.lt;have lS:M<wr.heap.size:=hr.mlt;have HI:Hid _:=ih;have HO:Hid _:=ho;have HA:Hid _:=ah;have NL:Hid _:=eK;clear hr hb0 ih ho hne ah hx hk hrow hh eK;generalize hw0:wr.alloc (gW p.depth p.passed none 0 0)=w0 at *;have NJ:Hid _:=hw0;clear hw0;cases hT:ay T dp n p s1 with
 |out=>exact absurd (by rw[NL.out,hT];rfl) HO.out
 |fail er a=>
  rw[hT]at HT;have HE:Hid (r=.fail er a):=by show _=_;rw[NL.out,hT];rfl
  unfold gI aC at HT ⊢;go_enter func222,ntmps222;go_wp2_with fail;rw[NJ.out];refine zai HT.out ?_;rintro e w1 ⟨⟨b,rfl,hf⟩,hk⟩;have HF:Hid _:=hf;have BJ:Hid _:=jO.plain hk;clear hf hk HT;unfold aC;go_wp2_with fail;go_ret2;rw[HE.out];exact⟨⟨b,rfl,HF.out⟩,(Kp.trans HK.out BJ.out).a none⟩
 |ok rest s2=>
  rw[hT]at HT;unfold gI aC at HT ⊢;go_enter func222,ntmps222;go_wp2_with fail;rw[NJ.out];refine zai HT.out ?_;rintro e w1 ⟨vr,E2,rfl,⟨ty,yy,rfl⟩,cK,hx2,hr2,hk2⟩;replace hk2:=jO.plain hk2;have hs1:=hk2.size;obtain⟨x0,x1,x2⟩:=fG ((hk2.block wr.heap.size (by omega) (by omega) (by omega)).trans HP.out);have HE:Hid (r=(aM T dp n p s2).bind λt s=>if t.kind=3 then .ok (aU ds rest s.fresh).1 { s with fresh:=(aU ds rest s.fresh).2 } else .fail 3 t.from_):=by show _=_;rw[NL.out,hT];rfl
  have hne:aM T dp n p s2≠.out:=λh=>HO.out (by rw[HE.out,h];rfl);have pM:Hid _:=Kp.trans HK.out hk2;have Mo:Hid _:=Ext.trans HX.out hx2 (Kp.size HK.out) hs1;have HH2:Hid (∀(j:Nat) d x,ds[j]?=some d→vs[j]?=some x→ct lo s2.fresh s2.ak w1 E2 d x):=λj d x h1 h2=>ct.keep (zac _) hx2.fresh hx2.ak (Kp.ge hk2 hRl hMl) hx2.agree d x (HH.out j d x h1 h2);have HD2:Hid (ct lo s2.fresh s2.ak w1 E2 rest (.iface ty yy)):=ct.keep (by omega) (zac _) (λ_ h=>h) (λ_ _ _=>rfl) ⟨λ_ _=>rfl,λ_ _=>rfl⟩ _ _ cK;have wP:Hid _:=bC HW.out (zac _) (Kp.ge hk2 hRl hMl);have IG:Hid _:=hr2;have SU:Hid _:=HI.out.take p (.slice none 0 0) _ E2 s2 hr2 (HA.out _ _ _) hd hne;clear cK hx2 hr2 hk2 HT hne;cases Ah:aM T dp n p s2 with
  |out=>exact absurd (by rw[HE.out,Ah];rfl) HO.out
  |fail er a=>
   rw[Ah]at SU;have jL:Hid (r=.fail er a):=by show _=_;rw[HE.out,Ah];rfl
   unfold gI aC at SU;go_wp2_with fail;refine zai SU.out ?_;rintro e w2 ⟨⟨b,t,rfl,hf⟩,hk⟩;have HF:Hid _:=hf;have nZ:Hid _:=hk;clear hf hk SU;unfold bP aC;go_wp2_with fail;go_ret2;rw[jL.out];exact⟨⟨b,rfl,dQ.alloc HF.out _⟩,(Kp.trans (Kp.trans pM.out nZ.out) (Kp.aG ((zad _ _).alloc (zac _) _))).a none⟩
  |ok t s3=>
   rw[Ah]at SU;have jL:Hid (r=if t.kind=3 then .ok (aU ds rest s3.fresh).1 { s3 with fresh:=(aU ds rest s3.fresh).2 } else .fail 3 t.from_):=by show _=_;rw[HE.out,Ah];rfl
   unfold gI aC at SU;go_wp2_with fail;refine zai SU.out ?_;rintro e w2 ⟨E3,rfl,hx3,hr3,hk3⟩;have nZ:Hid _:=hk3;have Up:Hid _:=hx3;have P3:Hid _:=hr3;have hs3:=hk3.size;clear hx3 hr3 hk3 SU;unfold bP;by_cases k3:t.kind=3
   ·have q3:(((t.kind:Nat):Int)==3)=true:=by rw[k3];rfl
    rw[zab k3]at jL;clear k3;have hb4:Ω w2.heap.size w2 (w2.alloc (iz t)):=(zad _ w2).alloc (zac _) _;have qJ:Hid _:=hb4;have NB:(w2.alloc (iz t)).heap.size=w2.heap.size+1:=by simp
    have vh:Hid _:=bC (bC wP.out (zac _) (Kp.ge nZ.out hRl hMl)) (zac _) λb _ h=>hb4.block b h;have HC:Hid _:=uu vs (.slice a0 n0 c0) lo (.iface ty yy) _ vh.out hn W9 ⟨_,_,rfl⟩;clear hb4;go_wp2_with fail;refine zai HC.out ?_;rintro e w5 ⟨v,rfl,hc,hs5,j8⟩;obtain⟨tv,yv,rfl⟩:=hc.iface ⟨_,_,rfl⟩;have rJ:Hid _:=Kp.trans (Kp.trans pM.out nZ.out) (Kp.aG qJ.out);have adI:lo≤(w2.alloc (iz t)).heap.size:=by have:=(wP.out.2);have:=Kp.size HK.out;omega
    have HG:Hid _:=uv (T:=T) (dp:=dp) (g:=g) (cap:=cap) (w:=w) (lo:=lo) (ds:=ds) (rest:=rest) (s1:=s3) (E1:=E3) AJ adI
     (λj d x h1 h2=>ct.keep (zac _) (zac _) (λ_ h=>h) (λb _ h=>qJ.out.block b h) ⟨λ_ _=>rfl,λ_ _=>rfl⟩ d x (ct.keep (zac _) (Ext.fresh Up.out) (Ext.ak Up.out) (Kp.ge nZ.out hRl hMl) (Ext.agree Up.out) d x (HH2.out j d x h1 h2)))
     (ct.keep (zac _) (zac _) (λ_ h=>h) (λb _ h=>qJ.out.block b h) ⟨λ_ _=>rfl,λ_ _=>rfl⟩ _ _ (ct.keep (zac _) (Ext.fresh Up.out) (Ext.ak Up.out) (Kp.ge nZ.out hRl hMl) (Ext.agree Up.out) _ _ HD2.out))
     hl ⟨_,_,rfl⟩ hc hs5 j8 (bS.below P3.out qJ.out) (Ext.wid (w:=w) (Ext.trans Mo.out Up.out (Kp.size pM.out) hs3) (zac _) (by omega)) rJ.out
    clear hc j8;go_wp2_with fail;go_ret2;rw[jL.out];exact HG.out
   ·have q3:(((t.kind:Nat):Int)==3)=false:=by rw[zah];omega
    rw[zaa k3]at jL;clear k3;go_wp2_with fail;go_region;go_wp2_with fail;go_ret2;rw[jL.out];refine⟨⟨w2.heap.size+1,rfl,?_⟩,(Kp.trans (Kp.trans pM.out nZ.out) (Kp.aG ((((zad _ w2).alloc (zac _) _).alloc (by simp) _).drew))).a none⟩;exact en w2 _ _
end
theorem bD {z:Nat}(h:w.ownsRow lo e z v n xs):∃a c,v=.slice a n c:=by
 rcases h.2 with⟨rfl,rfl⟩|⟨g,cap,cur,rfl,_⟩
 ·exact⟨_,_,rfl⟩
 ·exact⟨_,_,rfl⟩
theorem FD {row:Option Nat}{A:Obj}(hr:bS w5 R M g cap T dp E s)(hk:Kp R M w w5)(hg:(w5.alloc A).grownBy w6 row)(hrow:∀k,row=some k→w.heap.size≤k)(II:∀(b:Nat) (v:Θ),w5.heap[b]?=some (.cells #[v] 215)→some b≠row)(h1:R<w.heap.size)(h2:M<w.heap.size)(h3:g<w.heap.size):bS w6 R M g cap T dp E s∧Kp R M w w6∧(∀b,b<w5.heap.size→some b≠row→w6.heap[b]?=w5.heap[b]?)∧w5.heap.size+1≤w6.heap.size:=by
 have hs:(w5.alloc A).heap.size=w5.heap.size+1:=by simp
 have hb:∀b,b<w5.heap.size→some b≠row→w6.heap[b]?=w5.heap[b]?:=λb h h'=>(hg.block b (by omega) h').trans (zaT _ _ _ h);have hz:=hg.size;have fV:∀b,b<w.heap.size→some b≠row:=λb h e=>by have:=hrow b e.symm;omega
 have h5:=hk.size;refine⟨?_,⟨hg.os.trans hk.os,hg.tape.trans hk.tape,hg.output.trans hk.output,by omega,λb b1 b2 b3=>(hb b (by omega) (fV b b1)).trans (hk.block b b1 b2 b3)⟩,hb,by omega⟩;exact bS.step hr (k:=s.k) ((hb R (by omega) (fV R h1)).trans hr.blk) (by omega) (λb b1 b2=>hb b b1 (b2.elim (λe=>by rw[e];exact fV g h3) (λe=>by rw[e];exact fV M h2))) λb v hv=>hb b (zaj.1 hv).1 (II b v hv)
theorem Kn (h:w.ownsRow lo 58 1 v n xs):∀(b:Nat) (x:Θ),w.heap[b]?=some (.cells #[x] 215)→some b≠v.ownBlock:=by
 intro b x hb e;rcases h.2 with⟨rfl,_⟩|⟨g,cap,cur,rfl,_,hg,_⟩
 ·cases e
 ·have:b=g:=by cases e;rfl
  rw[this,hg]at hb;simp at hb
section
variable {R M g cap:Nat}{T:List Tok}{dp:Nat}
theorem Mp (ih:∀n,n≤N→IH R M g cap T dp n)(p:Pl)(hp:p.ahead=[])(w:Λ)(E:Env)(s:eD)(hr:bS w R M g cap T dp E s)(hd:p.depth≤dp∧p.ahead.length≤p.depth)(ho:bh T dp (N+1) [] p s≠.out):Φ prog 196 #[aC R,gI p.depth p.passed (.slice none 0 0)] w λe w'=>jP R M g cap T dp none w E s (bh T dp (N+1) [] p s) e w':=by
 have mixed:prog.follows Ξ=true:=by kernel_rfl
 have NH:R<w.heap.size:=hr.lt;have lS:M<w.heap.size:=hr.mlt;have hrg:g<w.heap.size:=(hr.row.lt g rfl).2;have hb0:Ω w.heap.size w (w.alloc (gW p.depth p.passed none 0 0)):=(zad _ w).alloc (zac _) _;have HP:Hid _:=zav w (gW p.depth p.passed none 0 0);have HR:Hid _:=hr.below hb0;have HB:Hid _:=hb0;have HI:Hid _:=ih;have HO:Hid _:=ho;have hsm:=hr.small;have HA:Hid (∀(w':Λ) (E':Env) (s':eD),jd w' E' s' p.ahead (.slice none 0 0)):=λw' E' s'=>by rw[hp];exact⟨⟨rfl,.inl ⟨rfl,rfl⟩⟩,⟨_,_,_,rfl⟩,λn hn=>by cases hn⟩
 clear hr hb0 ih ho;unfold gI aC;go_enter func196,ntmps196;go_wp2_with fail;go_loopw [6] (λsv wr=>∃(m:Nat) (E1:Env) (s1:eD) (ds:List Dt) (vs:List Θ),m≤N+1∧w.heap.size+1≤wr.heap.size∧ds.length=vs.length∧vs.length≤s1.k∧Hid (bh T dp (N+1) [] p s=bh T dp m ds p s1)∧Hid (bS wr R M g cap T dp E1 s1)∧Hid (Ext w wr E E1 s s1)∧Hid (Kp R M w wr)∧Hid (wr.heap[w.heap.size]?=some (gW p.depth p.passed none 0 0))∧Hid (wr.ownsRow (w.heap.size+1) 58 1 sv vs.length vs)∧Hid (∀(j:Nat) d x,ds[j]?=some d→vs[j]?=some x→Held wr (w.heap.size+1) s1.fresh s1.ak E1 sv.ownBlock d x)) (λ_ wr=>T.length+1-(intOf ((wr.cell? ⟨R,1,none⟩).getD undef)).toNat)
 case atStart=>exact⟨N+1,E,s,[],[],zac _,by simp,rfl,zaq _,rfl,HR.out,Ext.refl rfl rfl,Kp.aG HB.out,HP.out,zck _ _ _ _,λj d x h=>by simp at h⟩
 case round=>
  obtain⟨m,E1,s1,ds,vs,hm,hsz,hl,hlen,HE,wO,HX,HK,SS,HW,HH⟩:=hrel;have yg:bh T dp m ds p s1≠.out:=by rw[←HE.out];exact HO.out
  obtain⟨m',rfl⟩:∃m',m=m'+1:=by
   cases m with
   |zero=>exact absurd (by unfold bh;rfl) yg
   |succ m'=>exact⟨m',rfl⟩
  have Uq:Hid (bh T dp (N+1) [] p s=(aM T dp m' p s1).bind λt s=>
   if t.kind=3 then .ok (aU ds .nil s.fresh).1 { s with fresh:=(aU ds .nil s.fresh).2 }
   else if t.kind=7∧ds≠[]then
    (ay T dp m' p s).bind λrest s=>(aM T dp m' p s).bind λt s=>
      if t.kind=3 then .ok (aU ds rest s.fresh).1 { s with fresh:=(aU ds rest s.fresh).2 } else .fail 3 t.from_
   else(aL T dp m' t p s).bind λd s=>bh T dp m' (ds++[d]) p s):=by
    show _=_;rw[HE.out]
    conv=>lhs;unfold bh
  clear yg HE;obtain⟨a1,c1,rfl⟩:=bD HW.out;obtain⟨p0,p1,p2⟩:=fG SS.out;have hne:aM T dp m' p s1≠.out:=λh=>HO.out (by rw[Uq.out,h];rfl);have HT:Hid _:=(HI.out m' (by omega)).take p (.slice none 0 0) _ E1 s1 wO.out (HA.out _ _ _) hd hne;have W9:∀x∈vs,∃t y,x=.iface t y:=λx hx=>by
   obtain⟨j,hj,rfl⟩:=List.getElem_of_mem hx;exact(HH.out j (ds[j]'(by omega)) vs[j] (zat (by omega)) (zat hj)).1
  have HIF:Hid _:=W9;clear hne W9;cases hT:aM T dp m' p s1 with
  |out=>exact absurd (by rw[Uq.out,hT];rfl) HO.out
  |fail er a=>
   rw[hT]at HT;have jL:Hid (bh T dp (N+1) [] p s=.fail er a):=by show _=_;rw[Uq.out,hT];rfl
   unfold gI aC at HT;go_wp2_with fail;refine zai HT.out ?_;rintro e w2 ⟨⟨b,t,rfl,hf⟩,hk⟩;have HF:Hid _:=hf;have nZ:Hid _:=hk;clear hf hk HT;unfold bP aC;go_wp2_with fail;go_ret2;rw[jL.out];exact⟨⟨b,rfl,dQ.alloc HF.out _⟩,(Kp.trans (Kp.trans HK.out nZ.out) (Kp.aG ((zad _ _).alloc (zac _) _))).a none⟩
  |ok t s3=>
   have HMt:Hid (t∈T):=sR _ _ _ _ _ hT;have htl:=Km hT;rw[hT]at HT;have jL:Hid (bh T dp (N+1) [] p s=if t.kind=3 then .ok (aU ds .nil s3.fresh).1 { s3 with fresh:=(aU ds .nil s3.fresh).2 }
   else if t.kind=7∧ds≠[]then
    (ay T dp m' p s3).bind λrest s=>(aM T dp m' p s).bind λt s=>
      if t.kind=3 then .ok (aU ds rest s.fresh).1 { s with fresh:=(aU ds rest s.fresh).2 } else .fail 3 t.from_
   else(aL T dp m' t p s3).bind λd s=>bh T dp m' (ds++[d]) p s):=by show _=_;rw[Uq.out,hT];rfl
   unfold gI aC at HT;go_wp2_with fail;refine zai HT.out ?_;rintro e w2 ⟨E3,rfl,hx3,hr3,hk3⟩;have hs3:=hk3.size;have hb4:Ω w2.heap.size w2 (w2.alloc (iz t)):=(zad _ w2).alloc (zac _) _;have NB:(w2.alloc (iz t)).heap.size=w2.heap.size+1:=by simp
   have hk4:=Kp.trans hk3 (Kp.aG hb4);have HR4:Hid _:=hr3.below hb4;have rJ:Hid _:=Kp.trans HK.out hk4;have HX4:Hid _:=Ext.wid (w:=w) (w3:=(w2.alloc (iz t))) (Ext.trans HX.out hx3 (Kp.size HK.out) hs3) (zac _) (by omega);have vh:Hid _:=bC HW.out (zac _) (Kp.ge hk4 (by omega) (by omega));have HH4:Hid (∀(j:Nat) d x,ds[j]?=some d→vs[j]?=some x→Held (w2.alloc (iz t)) (w.heap.size+1) s3.fresh s3.ak E3 (Θ.slice a1 vs.length c1).ownBlock d x):=λj d x h1 h2=>
    Held.keep (HH.out j d x h1 h2) (by omega) hx3.fresh hx3.ak hx3.agree (λb b1 b2 _=>Kp.ge hk4 (lo:=w.heap.size+1) (by omega) (by omega) b b1 b2) (.inl rfl)
   have HP4:Hid _:=(hk4.block w.heap.size (by omega) (by omega) (by omega)).trans SS.out;obtain⟨y0,y1,y2⟩:=fG HP4.out;obtain⟨⟨o0,o1,o2,o3,o4,o5,o6⟩,-⟩:=dt (zad _ _) (zav w2 (iz t));clear hx3 hr3 hk3 hk4 hb4 HT p0 p1 p2;unfold bP;by_cases k3:t.kind=3
   ·have q3:(((t.kind:Nat):Int)==3)=true:=by rw[k3];rfl
    rw[zab k3]at jL;clear k3;have HC:Hid _:=uu vs (.slice a1 vs.length c1) (w.heap.size+1) (.iface 272 (.agg #[])) _ vh.out (by omega) HIF.out ⟨_,_,rfl⟩;go_wp2_with fail;refine zai HC.out ?_;rintro e w5 ⟨v,rfl,hc,hs5,j8⟩;obtain⟨tv,yv,rfl⟩:=hc.iface ⟨_,_,rfl⟩;have HG:Hid _:=uv (T:=T) (dp:=dp) (g:=g) (cap:=cap) (w:=w) (lo:=w.heap.size+1) (ds:=ds) (rest:= .nil) (s1:=s3) (E1:=E3) (by omega) (by omega)
     (λj d x h1 h2=>(HH4.out j d x h1 h2).dat) (by unfold ct;rfl) hl ⟨_,_,rfl⟩ hc hs5 j8 HR4.out HX4.out rJ.out
    clear hc j8;go_wp2_with fail;go_ret2;rw[jL.out];exact HG.out
   have q3:(((t.kind:Nat):Int)==3)=false:=by rw[zah];omega
   rw[zaa k3]at jL;clear k3;by_cases k7:t.kind=7∧ds≠[]
   ·have q7:(((t.kind:Nat):Int)==7)=true:=by rw[k7.1];rfl
    have jT:0<vs.length:=by have:=zbT.2 k7.2;omega
    have q8:decide ((0:Int)<(vs.length:Int))=true:=by simp;omega
    rw[zab k7]at jL;clear k7;have HC:Hid _:=FC (HI.out m' (by omega)) p hp hd w _ E E3 s s3 HR4.out HX4.out rJ.out (w.heap.size+1) (by omega) (by omega) (by omega) (by omega) ds vs hl (by omega) a1 vs.length c1 vh.out HH4.out HIF.out _ jL.out HO.out;unfold gI aC at HC;go_wp2_with fail;refine zai HC.out ?_;intro e w5 cG;cases hF:bh T dp (N+1) [] p s with
    |out=>exact absurd hF HO.out
    |fail er a=>
     rw[hF]at cG;obtain⟨⟨b,rfl,hf⟩,hk2⟩:=cG;have HG:Hid (jP R M g cap T dp none w E s (RR.fail er a) (.returned (.tuple #[.nilIface,aC b])) w5):=⟨⟨b,rfl,hf⟩,hk2⟩;clear hf hk2;unfold aC;go_wp2_with fail;go_ret2;rw[hF];exact HG.out
    |ok d s2=>
     rw[hF]at cG;obtain⟨v,E2,rfl,⟨ty,y,rfl⟩,cK,hx2,hr2,hk2⟩:=cG;have HG:Hid (jP R M g cap T dp none w E s (RR.ok d s2) (.returned (.tuple #[.iface ty y,.pointer none])) w5):=⟨.iface ty y,E2,rfl,⟨ty,y,rfl⟩,cK,hx2,hr2,hk2⟩;clear cK hx2 hr2 hk2;go_wp2_with fail;go_ret2;rw[hF];exact HG.out
   ·rw[zaa k7]at jL;have hq:(((t.kind:Nat):Int)==7)=false∨((((t.kind:Nat):Int)==7)=true∧¬0<vs.length∧¬((0:Int)<(vs.length:Int))):=by
     by_cases h7:t.kind=7
     ·refine .inr ⟨by rw[h7];rfl,?_⟩;have:ds=[]:=by
       cases ds with
       |nil=>rfl
       |cons x l=>exact absurd ⟨h7,by simp⟩ k7
      have h0:vs.length=0:=by rw[←hl,this];rfl
      exact⟨by omega,by omega⟩
     ·exact .inl (by rw[zah];omega)
    clear k7;have hne:aL T dp m' t p s3≠.out:=λh=>HO.out (by rw[jL.out,h];rfl);have HC:Hid _:=(HI.out m' (by omega)).nY t p (.slice none 0 0) _ E3 s3 HMt.out HR4.out (HA.out _ _ _) hd hne;clear hne;unfold bP gI aC at HC;obtain⟨i0,hi,hz0,hz1,hz2⟩:=info_parts BH;rcases hq with q7|⟨q7,q9,Ur⟩
    all_goals
     go_wp2_with fail;refine zai HC.out ?_;intro e w5 cG;cases hF:aL T dp m' t p s3 with
     |out=>exact absurd (by rw[jL.out,hF];rfl) HO.out
     |fail er a=>
      rw[hF]at cG;have YM:Hid (bh T dp (N+1) [] p s=.fail er a):=by show _=_;rw[jL.out,hF];rfl
      obtain⟨⟨b,rfl,hf⟩,hk2⟩:=cG;have HG:Hid (jP R M g cap T dp none w E s (RR.fail er a) (.returned (.tuple #[.nilIface,aC b])) w5):=⟨⟨b,rfl,hf⟩,(Kp.trans rJ.out (jO.plain hk2)).a none⟩;clear hf hk2;unfold aC;go_wp2_with fail;go_ret2;rw[YM.out];exact HG.out
     |ok d s5=>
      rw[hF]at cG;have YM:Hid (bh T dp (N+1) [] p s=bh T dp m' (ds++[d]) p s5):=by show _=_;rw[jL.out,hF];rfl
      have hg5:=(grows T dp m').nY _ _ _ _ _ hF;obtain⟨v,E5,rfl,⟨ty,y,rfl⟩,cK,Mq,SN,rK⟩:=cG;replace rK:=jO.plain rK;have hs5:=rK.size;have G2:Hid _:=Kp.trans rJ.out rK;have HX5:Hid _:=Ext.trans HX4.out Mq (Kp.size rJ.out) hs5;have HP5:Hid _:=(rK.block w.heap.size (by omega) (by omega) (by omega)).trans HP4.out;have vn:Hid _:=bC vh.out (zac _) (Kp.ge rK (by omega) (by omega));have Xc:Hid _:=SN;have HD5:Hid _:=cK;have HH5:Hid (∀(j:Nat) d x,ds[j]?=some d→vs[j]?=some x→Held w5 (w.heap.size+1) s5.fresh s5.ak E5 (Θ.slice a1 vs.length c1).ownBlock d x):=λj d x h1 h2=>
       Held.keep (HH4.out j d x h1 h2) (by omega) Mq.fresh Mq.ak Mq.agree (λb b1 b2 _=>Kp.ge rK (lo:=w.heap.size+1) (by omega) (by omega) b b1 b2) (.inl rfl)
      clear cK Mq SN rK hF y0 y1 y2 o0 o1 o2 o3 o4 o5 o6;have BK:∀k,(Θ.slice a1 vs.length c1).ownBlock=some k→w.heap.size+1≤k∧k<w5.heap.size:=zcr vn.out;go_wp2_with (at_builtin;refine fH rfl _ _ 162 rfl (w.heap.size+1) 58 i0 .nilIface 16 underlying162 hi hz0 hz1 hz2 (by decide) rfl _ vs.length vs rfl (zcI vn.out _) ⟨w5.heap.size,0,none⟩ 1 1 [.iface ty y] rfl (by decide) rfl ?c1 ?c2 ?c3 ?c4 ?_)
      case c1=>
       intro j u hj
       match j,hj with
       |0,hj=>simp at hj;subst hj;simp[Addr.add]
      case c2=>intro u hu;simp at hu;subst hu;rfl
      case c3=>omega
      case c4=>simp;omega
      intro v' w6 hown' hgrow kT;obtain⟨AE,NM,nX,hs6⟩:=FD Xc.out G2.out hgrow (λk hk=>by have:=BK k hk;omega) (Kn vn.out) NH lS hrg;have YN:Hid _:=AE;have HK6:Hid _:=NM;have HW6:Hid (w6.ownsRow (w.heap.size+1) 58 1 v' (vs++[Θ.iface ty y]).length (vs++[Θ.iface ty y])):=by show Λ.ownsRow _ _ _ _ _ _ _;rw[zaR];exact hown'
      have HP6:Hid _:=(nX w.heap.size (by omega) (λe=>by have:=BK _ e.symm;omega)).trans HP5.out;have hc6:v'.ownBlock=(Θ.slice a1 vs.length c1).ownBlock∨∃b,v'.ownBlock=some b∧w5.heap.size≤b:=kT.imp id λ⟨k,k1,k2⟩=>⟨k,k1,zag (by simp) k2⟩;have HH6:Hid (∀(j:Nat) d' x,(ds++[d])[j]?=some d'→(vs++[Θ.iface ty y])[j]?=some x→Held w6 (w.heap.size+1) s5.fresh s5.ak E5 v'.ownBlock d' x):=λj d' x h1 h2=>by
       rcases zaw j ds.length with hj|hj
       ·rw[zbi hj]at h1;rw[zbi (by omega)]at h2;exact Held.keep (HH5.out j d' x h1 h2) (by omega) (zac _) (λ_ h=>h) ⟨λ_ _=>rfl,λ_ _=>rfl⟩ (λb _ b2 b3=>nX b b2 b3) hc6
       ·have e0:j=ds.length:=by
         have:=(zbh.1 h1).1;simp at this;omega
        subst e0;rw[zbv (zac _)]at h1;rw[zbv (by omega)]at h2;simp at h1;simp[hl]at h2;subst h1 h2;refine⟨⟨_,_,rfl⟩,w5,_,?_,by omega,HD5.out,λb b1 b2=>nX b b2 λe=>?_,λb e=>?_⟩
        ·omega
        ·have:=zcr vh.out b e.symm;omega
        ·rcases hc6 with q|⟨b',q,q'⟩
         ·have:=zcr vh.out b (q.symm.trans e);omega
         ·rw[q]at e;cases e;exact .inr q'
      have aaL:ds.length+1=vs.length+1:=by omega
      clear AE NM hown' hgrow kT;obtain⟨a6,c6,rfl⟩:=bD HW6.out;go_wp2_with fail;refine⟨⟨m',E5,s5,ds++[d],vs++[Θ.iface ty y],by omega,by omega,by simp;omega,by simp;omega,YM,YN,Ext.wid HX5.out (zac _) (by omega),HK6,HP6,HW6,HH6⟩,?_⟩;rw[(ig YN.out.blk).1.2.1,(ig wO.out.blk).1.2.1];simp only[zbg,intOf,zbn];omega
end
theorem Ko {lo k:Nat}{L:List Int}{w:Λ}{E:Env}:∀(ds:List Dt) (vs:List Θ),ds.length=vs.length→(∀(j:Nat) d x,ds[j]?=some d→vs[j]?=some x→ct lo k L w E d x)→df lo k L w E (fX ds) vs
 |[],[],_,_=>by unfold fX df;rfl
 |d::ds,x::vs,hl,h=>by
  unfold fX df;exact⟨x,vs,rfl,h 0 d x (by simp) (by simp),Ko ds vs (by simpa using hl) λj d' x' h1 h2=>h (j+1) d' x' (by simpa using h1) (by simpa using h2)⟩
 |[],_::_,hl,_=>by simp at hl
 |_::_,[],hl,_=>by simp at hl
section
variable {R M g cap:Nat}{T:List Tok}{dp:Nat}
def Env.one (E:Env)(i b:Nat):Env:=⟨λj=>if j=i then b else E.α j,E.cE⟩
theorem Ext.one (h1:w.heap.size≤b)(h2:b<w'.heap.size):Ext w w' E (E.one s.fresh b) s { s with fresh:=s.fresh+1 }:=by
 refine⟨⟨λi hi=>zaa (by omega),λ_ _=>rfl⟩,Nat.le_succ _,λ_ h=>h,λi i1 i2=>?_,λi j i1 i2 j1 j2 _=>?_⟩
 ·have:i=s.fresh:=by have:i<s.fresh+1:=i2;omega
  subst this;show w.heap.size≤(if s.fresh=s.fresh then b else _)∧(if s.fresh=s.fresh then b else _)<_;rw[zab rfl];exact⟨h1,h2⟩
 ·have:i<s.fresh+1:=i2;have:j<s.fresh+1:=j2;omega
theorem bS.name {R M g cap:Nat}{T:List Tok}{dp:Nat}(h:bS w R M g cap T dp E s)(h1:E'.cE=E.cE)(h2:s'.k=s.k)(h3:s'.ak=s.ak):bS w R M g cap T dp E' s':=by
 obtain⟨α,cE⟩:=E';obtain⟨k,f,ak⟩:=s';simp only at h1 h2 h3;subst h1 h2 h3;exact⟨h.rm,h.gr,h.gm,h.blk,h.row,h.lm,h.low,h.inj,h.small,h.deep⟩
theorem AP (ih:∀n,n≤N→IH R M g cap T dp n)(p:Pl)(hp:p.ahead=[])(w:Λ)(E:Env)(s:eD)(hr:bS w R M g cap T dp E s)(hd:p.depth≤dp∧p.ahead.length≤p.depth)(r:RR Dt)(eK:r=(cy T dp (N+1) [] p { s with fresh:=s.fresh+1 }).bind λl s'=> .ok (.vec s.fresh (fX l)) s')(ho:r≠.out):Φ prog 194 #[aC R,gI p.depth p.passed (.slice none 0 0)] w λe w'=>jP R M g cap T dp none w E s r e w':=by
 have mixed:prog.follows Ξ=true:=by kernel_rfl
 have NH:R<w.heap.size:=hr.lt;have lS:M<w.heap.size:=hr.mlt;have hrg:g<w.heap.size:=(hr.row.lt g rfl).2;have hb0:Ω w.heap.size w ((w.alloc (gW p.depth p.passed none 0 0)).alloc (.cells #[.slice none 0 0] 165)):=((zad _ w).alloc (zac _) _).alloc (by simp) _;have HP:Hid (((w.alloc (gW p.depth p.passed none 0 0)).alloc (.cells #[.slice none 0 0] 165)).heap[w.heap.size]?=some (gW p.depth p.passed none 0 0)):=(zaT _ _ _ (by simp)).trans (zav w _);have HV:Hid (((w.alloc (gW p.depth p.passed none 0 0)).alloc (.cells #[.slice none 0 0] 165)).heap[w.heap.size+1]?=some (.cells #[.slice none 0 0] 165)):=en w _ _;have HR:Hid (bS ((w.alloc (gW p.depth p.passed none 0 0)).alloc (.cells #[.slice none 0 0] 165)) R M g cap T dp (E.one s.fresh (w.heap.size+1)) { s with fresh:=s.fresh+1 }):=bS.name (hr.below hb0) rfl rfl rfl;have HB:Hid _:=hb0;have HI:Hid _:=ih;have HO:Hid _:=ho;have NL:Hid _:=eK;have hsm:=hr.small;have HA:Hid (∀(w':Λ) (E':Env) (s':eD),jd w' E' s' p.ahead (.slice none 0 0)):=λw' E' s'=>by rw[hp];exact⟨⟨rfl,.inl ⟨rfl,rfl⟩⟩,⟨_,_,_,rfl⟩,λn hn=>by cases hn⟩
 clear hr hb0 ih ho eK;unfold gI aC;go_enter func194,ntmps194;go_wp2_with fail;go_loopw [] (λwr=>∃(m:Nat) (E1:Env) (s1:eD) (ds:List Dt) (vs:List Θ) (sv:Θ),m≤N+1∧w.heap.size+2≤wr.heap.size∧ds.length=vs.length∧vs.length≤s1.k∧s.fresh<s1.fresh∧E1.α s.fresh=w.heap.size+1∧Hid (r=(cy T dp m ds p s1).bind λl s'=> .ok (.vec s.fresh (fX l)) s')∧Hid (bS wr R M g cap T dp E1 s1)∧Hid (Ext w wr E E1 s s1)∧Hid (Kp R M w wr)∧Hid (wr.heap[w.heap.size]?=some (gW p.depth p.passed none 0 0))∧Hid (wr.heap[w.heap.size+1]?=some (.cells #[sv] 165))∧Hid (wr.ownsRow (w.heap.size+2) 58 1 sv vs.length vs)∧Hid (∀(j:Nat) d x,ds[j]?=some d→vs[j]?=some x→Held wr (w.heap.size+2) s1.fresh s1.ak E1 sv.ownBlock d x)) (λwr=>T.length+1-(intOf ((wr.cell? ⟨R,1,none⟩).getD undef)).toNat)
 case atStart=>exact⟨N+1,E.one s.fresh (w.heap.size+1),{ s with fresh:=s.fresh+1 },[],[],.slice none 0 0,zac _,by simp,rfl,zaq _,Nat.lt_succ_self _,zab rfl,NL.out,HR.out,Ext.one (by omega) (by simp),Kp.aG HB.out,HP.out,HV.out,zck _ _ _ _,λj d x h=>by simp at h⟩
 case round=>
  obtain⟨m,E1,s1,ds,vs,sv,hm,hsz,hl,hlen,Lr,hE1,HE,wO,HX,HK,SS,HV1,HW,HH⟩:=hrel;have yg:cy T dp m ds p s1≠.out:=λh=>HO.out (by rw[HE.out,h];rfl);obtain⟨m',rfl⟩:∃m',m=m'+1:=by
   cases m with
   |zero=>exact absurd (by unfold cy;rfl) yg
   |succ m'=>exact⟨m',rfl⟩
  have Uq:Hid (r=((aM T dp m' p s1).bind λt s=>
   if t.kind=3 then .ok ds s
   else if ds.length=20 then .fail 3 t.from_
   else(aL T dp m' t p s).bind λd s=>cy T dp m' (ds++[d]) p s).bind λl s'=> .ok (.vec s.fresh (fX l)) s'):=by
    show _=_;rw[HE.out]
    conv=>lhs;unfold cy
  clear yg HE;obtain⟨a1,c1,rfl⟩:=bD HW.out;obtain⟨p0,p1,p2⟩:=fG SS.out;have hne:aM T dp m' p s1≠.out:=λh=>HO.out (by rw[Uq.out,h];rfl);have HT:Hid _:=(HI.out m' (by omega)).take p (.slice none 0 0) _ E1 s1 wO.out (HA.out _ _ _) hd hne;clear hne;cases hT:aM T dp m' p s1 with
  |out=>exact absurd (by rw[Uq.out,hT];rfl) HO.out
  |fail er a=>
   rw[hT]at HT;have jL:Hid (r=.fail er a):=by show _=_;rw[Uq.out,hT];rfl
   unfold gI aC at HT;go_wp2_with fail;refine zai HT.out ?_;rintro e w2 ⟨⟨b,t,rfl,hf⟩,hk⟩;have HF:Hid _:=hf;have nZ:Hid _:=hk;clear hf hk HT;unfold bP aC;go_wp2_with fail;go_ret2;rw[jL.out];exact⟨⟨b,rfl,dQ.alloc HF.out _⟩,(Kp.trans (Kp.trans HK.out nZ.out) (Kp.aG ((zad _ _).alloc (zac _) _))).a none⟩
  |ok t s3=>
   have HMt:Hid (t∈T):=sR _ _ _ _ _ hT;have htl:=Km hT;rw[hT]at HT;have jL:Hid (r=(if t.kind=3 then .ok ds s3
   else if ds.length=20 then .fail 3 t.from_
   else(aL T dp m' t p s3).bind λd s=>cy T dp m' (ds++[d]) p s:RR (List Dt)).bind λl s'=> .ok (.vec s.fresh (fX l)) s'):=by show _=_;rw[Uq.out,hT];rfl
   unfold gI aC at HT;go_wp2_with fail;refine zai HT.out ?_;rintro e w2 ⟨E3,rfl,hx3,hr3,hk3⟩;have hs3:=hk3.size;have hb4:Ω w2.heap.size w2 (w2.alloc (iz t)):=(zad _ w2).alloc (zac _) _;have NB:(w2.alloc (iz t)).heap.size=w2.heap.size+1:=by simp
   have hk4:=Kp.trans hk3 (Kp.aG hb4);have HR4:Hid _:=hr3.below hb4;have rJ:Hid _:=Kp.trans HK.out hk4;have HX4:Hid _:=Ext.wid (w:=w) (w3:=(w2.alloc (iz t))) (Ext.trans HX.out hx3 (Kp.size HK.out) hs3) (zac _) (by omega);have vh:Hid _:=bC HW.out (zac _) (Kp.ge hk4 (by omega) (by omega));have HH4:Hid (∀(j:Nat) d x,ds[j]?=some d→vs[j]?=some x→Held (w2.alloc (iz t)) (w.heap.size+2) s3.fresh s3.ak E3 (Θ.slice a1 vs.length c1).ownBlock d x):=λj d x h1 h2=>
    Held.keep (HH.out j d x h1 h2) (by omega) hx3.fresh hx3.ak hx3.agree (λb b1 b2 _=>Kp.ge hk4 (lo:=w.heap.size+2) (by omega) (by omega) b b1 b2) (.inl rfl)
   have HP4:Hid _:=(hk4.block w.heap.size (by omega) (by omega) (by omega)).trans SS.out;have HV4:Hid _:=(hk4.block (w.heap.size+1) (by omega) (by omega) (by omega)).trans HV1.out;have hf3:s.fresh<s3.fresh:=zaI Lr hx3.fresh;have hE3:E3.α s.fresh=w.heap.size+1:=(hx3.agree.1 _ Lr).trans hE1;obtain⟨y0,y1,y2⟩:=fG HP4.out;have z0:(w2.alloc (iz t)).cell? ⟨w.heap.size+1,0,none⟩=some (.slice a1 vs.length c1):=by simp only[Λ.cell?,HV4.out];rfl
   have z1:w2.cell? ⟨w.heap.size+1,0,none⟩=some (.slice a1 vs.length c1):=by simp only[Λ.cell?,(hk3.block (w.heap.size+1) (by omega) (by omega) (by omega)).trans HV1.out];rfl
   obtain⟨⟨o0,o1,o2,o3,o4,o5,o6⟩,-⟩:=dt (zad _ _) (zav w2 (iz t));have n1:¬w.heap.size+1=w2.heap.size:=by omega
   have n2:w.heap.size+1<w2.heap.size:=by omega
   clear hx3 hr3 hk3 hk4 hb4 HT p0 p1 p2;unfold bP;by_cases k3:t.kind=3
   ·have q3:(((t.kind:Nat):Int)==3)=true:=by rw[k3];rfl
    rw[zab k3]at jL;clear k3;have HG:Hid (jP R M g cap T dp none w E s (.ok (.vec s.fresh (fX ds)) s3) (.returned (.tuple #[.iface 163 (aC (w.heap.size+1)),.pointer none])) (w2.alloc (iz t))):=by
     refine⟨_,E3,rfl,⟨_,_,rfl⟩,?_,HX4.out,HR4.out,Kp.a rJ.out none⟩;unfold ct;refine⟨hf3,by rw[hE3];omega,by rw[hE3],.slice a1 vs.length c1,vs,by rw[hE3];exact HV4.out,bC vh.out (by omega) λ_ _ _=>rfl,Ko ds vs hl λj d x h1 h2=>?_⟩;exact ct.keep (by omega) (zac _) (λ_ h=>h) (λ_ _ _=>rfl) ⟨λ_ _=>rfl,λ_ _=>rfl⟩ d x (HH4.out j d x h1 h2).dat
    go_wp2_with fail;go_ret2;rw[jL.out];exact HG.out
   have q3:(((t.kind:Nat):Int)==3)=false:=by rw[zah];omega
   rw[zaa k3]at jL;clear k3;by_cases k7:ds.length=20
   ·have q7:(((vs.length:Nat):Int)==20)=true:=by rw[←hl,k7];rfl
    rw[zab k7]at jL;clear k7;go_wp2_with fail;go_region;go_wp2_with fail;go_ret2;rw[jL.out];refine⟨⟨w2.heap.size+1,rfl,?_⟩,(Kp.trans rJ.out (Kp.aG (((zad _ _).alloc (zac _) _).drew))).a none⟩;exact en w2 _ _
   ·rw[zaa k7]at jL;have q7:(((vs.length:Nat):Int)==20)=false:=by rw[zah];omega
    clear k7;have hne:aL T dp m' t p s3≠.out:=λh=>HO.out (by rw[jL.out,h];rfl);have HC:Hid _:=(HI.out m' (by omega)).nY t p (.slice none 0 0) _ E3 s3 HMt.out HR4.out (HA.out _ _ _) hd hne;clear hne;unfold bP gI aC at HC;obtain⟨i0,hi,hz0,hz1,hz2⟩:=info_parts BH;go_wp2_with fail;refine zai HC.out ?_;intro e w5 cG;cases hF:aL T dp m' t p s3 with
    |out=>exact absurd (by rw[jL.out,hF];rfl) HO.out
    |fail er a=>
     rw[hF]at cG;have YM:Hid (r=.fail er a):=by show _=_;rw[jL.out,hF];rfl
     obtain⟨⟨b,rfl,hf⟩,hk2⟩:=cG;have HG:Hid (jP R M g cap T dp none w E s (RR.fail er a) (.returned (.tuple #[.nilIface,aC b])) w5):=⟨⟨b,rfl,hf⟩,(Kp.trans rJ.out (jO.plain hk2)).a none⟩;clear hf hk2;unfold aC;go_wp2_with fail;go_ret2;rw[YM.out];exact HG.out
    |ok d s5=>
     rw[hF]at cG;have YM:Hid (r=(cy T dp m' (ds++[d]) p s5).bind λl s'=> .ok (.vec s.fresh (fX l)) s'):=by show _=_;rw[jL.out,hF];rfl
     have hg5:=(grows T dp m').nY _ _ _ _ _ hF;obtain⟨v,E5,rfl,⟨ty,y,rfl⟩,cK,Mq,SN,rK⟩:=cG;replace rK:=jO.plain rK;have hs5:=rK.size;have G2:Hid _:=Kp.trans rJ.out rK;have HX5:Hid _:=Ext.trans HX4.out Mq (Kp.size rJ.out) hs5;have HP5:Hid _:=(rK.block w.heap.size (by omega) (by omega) (by omega)).trans HP4.out;have YO:Hid _:=(rK.block (w.heap.size+1) (by omega) (by omega) (by omega)).trans HV4.out;have vn:Hid _:=bC vh.out (zac _) (Kp.ge rK (by omega) (by omega));have Xc:Hid _:=SN;have HD5:Hid _:=cK;have hf5:s.fresh<s5.fresh:=zaI hf3 Mq.fresh;have hE5:E5.α s.fresh=w.heap.size+1:=(Mq.agree.1 _ hf3).trans hE3;have HH5:Hid (∀(j:Nat) d x,ds[j]?=some d→vs[j]?=some x→Held w5 (w.heap.size+2) s5.fresh s5.ak E5 (Θ.slice a1 vs.length c1).ownBlock d x):=λj d x h1 h2=>
      Held.keep (HH4.out j d x h1 h2) (by omega) Mq.fresh Mq.ak Mq.agree (λb b1 b2 _=>Kp.ge rK (lo:=w.heap.size+2) (by omega) (by omega) b b1 b2) (.inl rfl)
     have z5:w5.cell? ⟨w.heap.size+1,0,none⟩=some (.slice a1 vs.length c1):=by simp only[Λ.cell?,YO.out];rfl
     have n5:¬w.heap.size+1=w5.heap.size:=by omega
     have n6:w.heap.size+1<w5.heap.size:=by omega
     clear cK Mq SN rK hF y0 y1 y2 o0 o1 o2 o3 o4 o5 o6 z0 z1 n1 n2;have BK:∀k,(Θ.slice a1 vs.length c1).ownBlock=some k→w.heap.size+2≤k∧k<w5.heap.size:=zcr vn.out;go_wp2_with (at_builtin;refine fH rfl _ _ 162 rfl (w.heap.size+2) 58 i0 .nilIface 16 underlying162 hi hz0 hz1 hz2 (by decide) rfl _ vs.length vs rfl (zcI vn.out _) ⟨w5.heap.size,0,none⟩ 1 1 [.iface ty y] rfl (by decide) rfl ?c1 ?c2 ?c3 ?c4 ?_)
     case c1=>
      intro j u hj
      match j,hj with
      |0,hj=>simp at hj;subst hj;simp[Addr.add]
     case c2=>intro u hu;simp at hu;subst hu;rfl
     case c3=>omega
     case c4=>simp;omega
     intro v' w6 hown' hgrow kT;obtain⟨AE,NM,nX,hs6⟩:=FD Xc.out G2.out hgrow (λk hk=>by have:=BK k hk;omega) (Kn vn.out) NH lS hrg;have hv6:=(nX (w.heap.size+1) (by omega) (λe=>by have:=BK _ e.symm;omega)).trans YO.out;obtain⟨g6,z6⟩:w6.cell? ⟨w.heap.size+1,0,none⟩=some (.slice a1 vs.length c1)∧w6.frozen? ⟨w.heap.size+1,0,none⟩=false:=by constructor<;>simp[Λ.cell?,Λ.frozen?,hv6]
     have YP:Hid (∀b,b≠w.heap.size+1→(w6.setCell ⟨w.heap.size+1,0,none⟩ v').heap[b]?=w6.heap[b]?):=λb hb=>zax _ _ _ _ hb;have HV7:Hid ((w6.setCell ⟨w.heap.size+1,0,none⟩ v').heap[w.heap.size+1]?=some (.cells #[v'] 165)):=eE hv6 0 v';have hs7:(w6.setCell ⟨w.heap.size+1,0,none⟩ v').heap.size=w6.heap.size:=by simp
     have Us:Hid (bS (w6.setCell ⟨w.heap.size+1,0,none⟩ v') R M g cap T dp E5 s5):=bS.step AE (k:=s5.k) ((YP.out R (by omega)).trans AE.blk) (by omega) (λb _ b2=>YP.out b (by omega)) λb x hb=>YP.out b (λe=>by rw[e,hv6]at hb;simp at hb);have HK7:Hid (Kp R M w (w6.setCell ⟨w.heap.size+1,0,none⟩ v')):=Kp.kV NM ((zad _ _).setCell (p:=⟨w.heap.size+1,0,none⟩) (by show w.heap.size≤w.heap.size+1;omega) _);have HW7:Hid ((w6.setCell ⟨w.heap.size+1,0,none⟩ v').ownsRow (w.heap.size+2) 58 1 v' (vs++[Θ.iface ty y]).length (vs++[Θ.iface ty y])):=by
      show Λ.ownsRow _ _ _ _ _ _ _;rw[zaR];exact bC hown' (zac _) λb b1 _=>YP.out b (by omega)
     have HP7:Hid _:=(YP.out w.heap.size (by omega)).trans ((nX w.heap.size (by omega) (λe=>by have:=BK _ e.symm;omega)).trans HP5.out);have hc6:v'.ownBlock=(Θ.slice a1 vs.length c1).ownBlock∨∃b,v'.ownBlock=some b∧w5.heap.size≤b:=kT.imp id λ⟨k,k1,k2⟩=>⟨k,k1,zag (by simp) k2⟩;have HH7:Hid (∀(j:Nat) d' x,(ds++[d])[j]?=some d'→(vs++[Θ.iface ty y])[j]?=some x→Held (w6.setCell ⟨w.heap.size+1,0,none⟩ v') (w.heap.size+2) s5.fresh s5.ak E5 v'.ownBlock d' x):=λj d' x h1 h2=>by
      rcases zaw j ds.length with hj|hj
      ·rw[zbi hj]at h1;rw[zbi (by omega)]at h2;exact Held.keep (HH5.out j d' x h1 h2) (by omega) (zac _) (λ_ h=>h) ⟨λ_ _=>rfl,λ_ _=>rfl⟩ (λb b1 b2 b3=>(YP.out b (by omega)).trans (nX b b2 b3)) hc6
      ·have e0:j=ds.length:=by
        have:=(zbh.1 h1).1;simp at this;omega
       subst e0;rw[zbv (zac _)]at h1;rw[zbv (by omega)]at h2;simp at h1;simp[hl]at h2;subst h1 h2;refine⟨⟨_,_,rfl⟩,w5,_,?_,by omega,HD5.out,λb b1 b2=>(YP.out b (by omega)).trans (nX b b2 λe=>?_),λb e=>?_⟩
       ·omega
       ·have:=zcr vh.out b e.symm;omega
       ·rcases hc6 with q|⟨b',q,q'⟩
        ·have:=zcr vh.out b (q.symm.trans e);omega
        ·rw[q]at e;cases e;exact .inr q'
     obtain⟨a6,c6,rfl⟩:=bD hown';clear AE NM hown' hgrow kT;go_wp2_with fail;refine⟨⟨m',E5,s5,ds++[d],vs++[Θ.iface ty y],_,by omega,by omega,by simp;omega,by simp;omega,hf5,hE5,YM,Us,Ext.wid HX5.out (zac _) (by omega),HK7,HP7,HV7,HW7,HH7⟩,?_⟩;rw[(ig Us.out.blk).1.2.1,(ig wO.out.blk).1.2.1];simp only[zbg,intOf,zbn];omega
theorem aa5:Fx R M g cap T dp:=λ_ ih p hp w E s hr hd r eK ho=>AP ih p hp w E s hr hd r eK ho
end
theorem aa6 (w:Λ)(x y:Θ):(w.alloc (.cells #[x,y] 58)).ownsRow w.heap.size 58 1 (.slice (some ⟨w.heap.size,0,none⟩) 2 2) 2 [x,y]:=
 ⟨rfl,.inr ⟨w.heap.size,2,#[x,y],rfl,zac _,zav w _,zac _,by decide,rfl,rfl⟩⟩
section
variable {R M g cap:Nat}{T:List Tok}{dp:Nat}
theorem IJ (ih:IH R M g cap T dp n)(p:Pl)(hp:p.ahead=[])(w:Λ)(E:Env)(s:eD)(hr:bS w R M g cap T dp E s)(hd:p.depth≤dp∧p.ahead.length≤p.depth)(r:RR Dt)(eK:r=(ay T dp n p s).bind λd s=> .ok (aU [.sym [113,117,111,116,101],d] .nil s.fresh).1 { s with fresh:=s.fresh+2 })(ho:r≠.out):Φ prog 195 #[aC R,gI p.depth p.passed (.slice none 0 0)] w λe w'=>jP R M g cap T dp none w E s r e w':=by
 have mixed:prog.follows Ξ=true:=by kernel_rfl
 have hb0:Ω w.heap.size w (w.alloc (gW p.depth p.passed none 0 0)):=(zad _ w).alloc (zac _) _;have HR:Hid _:=hr.below hb0;have HK:Hid (Kp R M w (w.alloc (gW p.depth p.passed none 0 0))):=Kp.aG hb0;have PW:(w.alloc (gW p.depth p.passed none 0 0)).heap.size=w.heap.size+1:=by simp
 have hne:ay T dp n p s≠.out:=λh=>ho (by rw[eK,h];rfl);have HT:Hid _:=ih.datum p (.slice none 0 0) _ E s HR.out (by rw[hp];exact⟨⟨rfl,.inl ⟨rfl,rfl⟩⟩,⟨_,_,_,rfl⟩,λn hn=>by cases hn⟩) hd hne;have HO:Hid _:=ho;have NL:Hid _:=eK;have NH:R<w.heap.size:=hr.lt;have lS:M<w.heap.size:=hr.mlt;clear hr hb0 ih ho hne eK;generalize hw0:w.alloc (gW p.depth p.passed none 0 0)=w0 at *;have NJ:Hid _:=hw0;clear hw0;cases hT:ay T dp n p s with
 |out=>exact absurd (by rw[NL.out,hT];rfl) HO.out
 |fail er a=>
  rw[hT]at HT;have HE:Hid (r=.fail er a):=by show _=_;rw[NL.out,hT];rfl
  unfold gI aC at HT ⊢;go_enter func195,ntmps195;go_wp2_with fail;rw[NJ.out];refine zai HT.out ?_;rintro e w1 ⟨⟨b,rfl,hf⟩,hk⟩;have HF:Hid _:=hf;have BJ:Hid _:=jO.plain hk;clear hf hk HT;unfold aC;go_wp2_with fail;go_ret2;rw[HE.out];exact⟨⟨b,rfl,HF.out⟩,(Kp.trans HK.out BJ.out).a none⟩
 |ok d s2=>
  rw[hT]at HT;have HE:Hid (r=.ok (aU [.sym [113,117,111,116,101],d] .nil s2.fresh).1 { s2 with fresh:=(aU [.sym [113,117,111,116,101],d] .nil s2.fresh).2 }):=by show _=_;rw[NL.out,hT];rfl
  unfold gI aC at HT ⊢;go_enter func195,ntmps195;go_wp2_with fail;rw[NJ.out];refine zai HT.out ?_;rintro e w1 ⟨vr,E2,rfl,⟨ty,yy,rfl⟩,cK,hx2,hr2,hk2⟩;replace hk2:=jO.plain hk2;have hs1:=hk2.size;have HD:Hid _:=cK;have HX:Hid (Ext w w1 E E2 s s2):=Ext.wid hx2 (by omega) (zac _);have IG:Hid _:=hr2;have pM:Hid _:=Kp.trans HK.out hk2;clear cK hx2 hr2 hk2 HT;have hb3:Ω w1.heap.size w1 (w1.alloc (.cells #[.iface 168 (.agg #[.string ⟨#[113,117,111,116,101]⟩]),.iface ty yy] 58)):=(zad _ w1).alloc (zac _) _;have hs3:(w1.alloc (.cells #[.iface 168 (.agg #[.string ⟨#[113,117,111,116,101]⟩]),.iface ty yy] 58)).heap.size=w1.heap.size+1:=by simp
  have HC:Hid _:=uu [.iface 168 (.agg #[.string ⟨#[113,117,111,116,101]⟩]),.iface ty yy] (.slice (some ⟨w1.heap.size,0,none⟩) 2 2) w1.heap.size (.iface 272 (.agg #[])) (w1.alloc (.cells #[.iface 168 (.agg #[.string ⟨#[113,117,111,116,101]⟩]),.iface ty yy] 58)) (aa6 w1 _ _) (by simp) (λx hx=>by simp at hx;rcases hx with rfl|rfl<;>exact⟨_,_,rfl⟩) ⟨_,_,rfl⟩;have iT:Hid _:=hb3;clear hb3;go_wp2_with fail;refine zai HC.out ?_;rintro e w5 ⟨v,rfl,hc,hs5,j8⟩;obtain⟨tv,yv,rfl⟩:=hc.iface ⟨_,_,rfl⟩;have HG:Hid _:=uv (T:=T) (dp:=dp) (g:=g) (cap:=cap) (w:=w) (lo:=w0.heap.size) (ds:=[.sym [113,117,111,116,101],d]) (rest:= .nil) (s1:=s2) (E1:=E2) (by omega) (by omega)
   (λj d' x h1 h2=>by
     match j,h1,h2 with
     |0,h1,h2=>simp at h1 h2;subst h1 h2;unfold ct;rfl
     |1,h1,h2=>
      simp at h1 h2;subst h1 h2;exact ct.keep (zac _) (zac _) (λ_ h=>h) (λb _ h=>iT.out.block b h) ⟨λ_ _=>rfl,λ_ _=>rfl⟩ _ _ HD.out
     |j+2,h1,_=>simp at h1) (by unfold ct;rfl) rfl ⟨_,_,rfl⟩ hc hs5 j8 (bS.below IG.out iT.out) (Ext.wid (w:=w) HX.out (zac _) (by omega)) (Kp.trans pM.out (Kp.aG iT.out))
  clear hc j8;go_wp2_with fail;go_ret2;rw[HE.out];exact HG.out
theorem aa7:Fy R M g cap T dp:=λ_ ih p hp w E s hr hd r eK ho=>IJ ih p hp w E s hr hd r eK ho
end
section
variable {R M g cap:Nat}{T:List Tok}{dp:Nat}
theorem jP.from {w2:Λ}{r:RR Dt}{e:Ending}(h:jP R M g cap T dp A w2 E s r e w')(hk:Kp R M w w2):jP R M g cap T dp A w E s r e w':=by
 cases r with
 |out=>trivial
 |fail er a=>exact⟨h.1,(hk.a A).trans h.2⟩
 |ok d s'=>
  obtain⟨v,E',h1,h2,h3,h4,h5,h6⟩:=h;exact⟨v,E',h1,h2,ct.keep hk.size (zac _) (λ_ h=>h) (λ_ _ _=>rfl) ⟨λ_ _=>rfl,λ_ _=>rfl⟩ d v h3,Ext.wid h4 hk.size (zac _),h5,(hk.a A).trans h6⟩
theorem FE (ih:∀m,m≤n→IH R M g cap T dp m)(t:Tok)(HVQ:Hid ((t.kind=5→Fx R M g cap T dp)∧(t.kind=4→Fy R M g cap T dp)))(p:Pl)(a0:Option Addr)(n0 c0:Nat)(w:Λ)(E:Env)(s:eD)(hr:bS w R M g cap T dp E s)(hd:p.depth≤dp∧p.ahead.length≤p.depth)(r:RR Dt)
 (eK:r=if p.depth=dp then .fail 6 t.from_
   else if t.kind=5 then(cy T dp n [] ⟨p.depth+1,p.passed,[]⟩ { s with fresh:=s.fresh+1 }).bind λl s'=> .ok (.vec s.fresh (fX l)) s'
   else if t.kind=4 then(ay T dp n ⟨p.depth+1,p.passed,[]⟩ s).bind λd s=> .ok (aU [.sym [113,117,111,116,101],d] .nil s.fresh).1 { s with fresh:=s.fresh+2 }
   else bh T dp n [] ⟨p.depth+1,p.passed,[]⟩ s)(ho:r≠.out):
 Φ prog 162 #[aC R,bP t,gI p.depth p.passed (.slice a0 n0 c0)] w λe w'=>jP R M g cap T dp none w E s r e w':=by
 have mixed:prog.follows Ξ=true:=by kernel_rfl
 have NH:R<w.heap.size:=hr.lt;have qz:=hr.deep;have hb0:Ω w.heap.size w ((w.alloc (iz t)).alloc (gW p.depth p.passed a0 n0 c0)):=((zad _ w).alloc (zac _) _).alloc (by simp) _;have hs0:((w.alloc (iz t)).alloc (gW p.depth p.passed a0 n0 c0)).heap.size=w.heap.size+1+1:=by simp
 have hP:((w.alloc (iz t)).alloc (gW p.depth p.passed a0 n0 c0)).heap[w.heap.size+1]?=some (gW p.depth p.passed a0 n0 c0):=en w _ _;have hT:((w.alloc (iz t)).alloc (gW p.depth p.passed a0 n0 c0)).heap[w.heap.size]?=some (iz t):=(zaT _ _ _ (by simp)).trans (zav w _);have Ai:=hr.below hb0;have hc0:((w.alloc (iz t)).alloc (gW p.depth p.passed a0 n0 c0)).cell? ⟨R,2,none⟩=some (Γ Δ dp):=(ig Ai.blk).1.2.2.1;have vo:Hid (Kp R M w ((w.alloc (iz t)).alloc (gW p.depth p.passed a0 n0 c0))):=Kp.aG hb0;have rL:Hid _:=Ai;have HI:Hid _:=ih;have HO:Hid _:=ho;have NL:Hid _:=eK;have HT:Hid _:=hT;by_cases hdd:p.depth=dp
 ·have HE:Hid (r=.fail 6 t.from_):=by show _=_;rw[eK,zab hdd]
  have HC:Hid _:=vg R dp t p.depth p.passed a0 n0 c0 _ hc0 (by omega) hdd;clear hr Ai hb0 ih ho eK hdd hc0 hP hT;unfold gI aC bP at HC ⊢;go_enter func162,ntmps162;go_wp2_with fail;refine zai HC.out ?_;rintro e w1 ⟨b,rfl,hf,hb1⟩;have HF:Hid _:=hf;have BJ:Hid _:=Kp.trans vo.out (Kp.aG hb1);clear hf hb1 HC;go_wp2_with fail;go_ret2;rw[HE.out];exact⟨⟨b,rfl,dQ.alloc HF.out _⟩,(Kp.trans BJ.out (Kp.aG ((zad _ _).alloc (zac _) _))).a none⟩
 ·have HC:Hid _:=BD R dp t p.depth p.passed a0 n0 c0 _ hc0 (by omega) (by omega) hdd;have HE:Hid _:=eK.trans (zaa hdd);have IK:p.depth+1≤dp:=by omega
  clear hr Ai hb0 ih ho eK hdd hc0 hP hT;unfold gI aC bP at HC ⊢;go_enter func162,ntmps162;go_wp2_with fail;refine zai HC.out ?_;rintro e w1 ⟨rfl,hb1⟩;have hs1:=hb1.size;have rH:=(hb1.block w.heap.size (by omega)).trans HT.out;obtain⟨⟨o0,o1,o2,o3,o4,o5,o6⟩,-⟩:=dt (zad _ _) rH;have n1:¬w.heap.size=w1.heap.size:=by omega
  have n2:w.heap.size<w1.heap.size:=by omega
  have hb2:Ω w1.heap.size w1 (w1.alloc (.cells #[Γ Δ (p.depth+1),.bool p.passed,.slice none 0 0] 128)):=(zad _ _).alloc (zac _) _;have IG:Hid _:=(bS.below rL.out hb1).below hb2;have pM:Hid _:=(Kp.trans vo.out (Kp.aG hb1)).trans (Kp.aG hb2);clear hb1 hb2 HC rH;by_cases k5:t.kind=5
  ·have q5:(((t.kind:Nat):Int)==5)=true:=by rw[k5];rfl
   have jL:Hid _:=HE.out.trans (zab k5);have HV:Hid _:=HVQ.out.1 k5;clear k5 HVQ;cases n with
   |zero=>exact absurd (by rw[jL.out];unfold cy;rfl) HO.out
   |succ n=>
    have HC:Hid _:=HV.out n (λm hm=>HI.out m (by omega)) ⟨p.depth+1,p.passed,[]⟩ rfl _ E s IG.out ⟨IK,zaq _⟩ r jL.out HO.out;unfold gI aC at HC;go_wp2_with fail;refine zai HC.out ?_;intro e w3 cG;have mr:=jP.from cG pM.out;clear cG;cases r with
    |out=>exact absurd rfl HO.out
    |fail er a=>
     obtain⟨⟨b,rfl,hf⟩,hk2⟩:=mr;have HG:Hid (jP R M g cap T dp none w E s (RR.fail er a) (.returned (.tuple #[.nilIface,aC b])) w3):=⟨⟨b,rfl,hf⟩,hk2⟩;clear hf hk2;unfold aC;go_wp2_with fail;go_ret2;exact HG.out
    |ok d s2=>
     obtain⟨v,E2,rfl,⟨ty,y,rfl⟩,cK,hx2,hr2,hk2⟩:=mr;have HG:Hid (jP R M g cap T dp none w E s (RR.ok d s2) (.returned (.tuple #[.iface ty y,.pointer none])) w3):=⟨.iface ty y,E2,rfl,⟨ty,y,rfl⟩,cK,hx2,hr2,hk2⟩;clear cK hx2 hr2 hk2;go_wp2_with fail;go_ret2;exact HG.out
  have q5:(((t.kind:Nat):Int)==5)=false:=by rw[zah];omega
  by_cases k4:t.kind=4
  ·have q4:(((t.kind:Nat):Int)==4)=true:=by rw[k4];rfl
   have jL:Hid _:=(HE.out.trans (zaa k5)).trans (zab k4);have HV:Hid _:=HVQ.out.2 k4;clear k5 k4 HVQ
   ·have HC:Hid _:=HV.out n (HI.out n (by omega)) ⟨p.depth+1,p.passed,[]⟩ rfl _ E s IG.out ⟨IK,zaq _⟩ r jL.out HO.out;unfold gI aC at HC;go_wp2_with fail;refine zai HC.out ?_;intro e w3 cG;have mr:=jP.from cG pM.out;clear cG;cases r with
    |out=>exact absurd rfl HO.out
    |fail er a=>
     obtain⟨⟨b,rfl,hf⟩,hk2⟩:=mr;have HG:Hid (jP R M g cap T dp none w E s (RR.fail er a) (.returned (.tuple #[.nilIface,aC b])) w3):=⟨⟨b,rfl,hf⟩,hk2⟩;clear hf hk2;unfold aC;go_wp2_with fail;go_ret2;exact HG.out
    |ok d s2=>
     obtain⟨v,E2,rfl,⟨ty,y,rfl⟩,cK,hx2,hr2,hk2⟩:=mr;have HG:Hid (jP R M g cap T dp none w E s (RR.ok d s2) (.returned (.tuple #[.iface ty y,.pointer none])) w3):=⟨.iface ty y,E2,rfl,⟨ty,y,rfl⟩,cK,hx2,hr2,hk2⟩;clear cK hx2 hr2 hk2;go_wp2_with fail;go_ret2;exact HG.out
  ·have q4:(((t.kind:Nat):Int)==4)=false:=by rw[zah];omega
   have jL:Hid _:=(HE.out.trans (zaa k5)).trans (zaa k4);clear k5 k4;cases n with
   |zero=>exact absurd (by rw[jL.out];unfold bh;rfl) HO.out
   |succ n=>
    have HC:Hid _:=Mp (N:=n) (λm hm=>HI.out m (by omega)) ⟨p.depth+1,p.passed,[]⟩ rfl _ E s IG.out ⟨IK,zaq _⟩ (by rw[←jL.out];exact HO.out);rw[←jL.out]at HC;unfold gI aC at HC;go_wp2_with fail;refine zai HC.out ?_;intro e w3 cG;have mr:=jP.from cG pM.out;clear cG;cases r with
    |out=>exact absurd rfl HO.out
    |fail er a=>
     obtain⟨⟨b,rfl,hf⟩,hk2⟩:=mr;have HG:Hid (jP R M g cap T dp none w E s (RR.fail er a) (.returned (.tuple #[.nilIface,aC b])) w3):=⟨⟨b,rfl,hf⟩,hk2⟩;clear hf hk2;unfold aC;go_wp2_with fail;go_ret2;exact HG.out
    |ok d s2=>
     obtain⟨v,E2,rfl,⟨ty,y,rfl⟩,cK,hx2,hr2,hk2⟩:=mr;have HG:Hid (jP R M g cap T dp none w E s (RR.ok d s2) (.returned (.tuple #[.iface ty y,.pointer none])) w3):=⟨.iface ty y,E2,rfl,⟨ty,y,rfl⟩,cK,hx2,hr2,hk2⟩;clear cK hx2 hr2 hk2;go_wp2_with fail;go_ret2;exact HG.out
end
section
variable (R M g cap:Nat)(T:List Tok)(dp:Nat)
def Xd (n:Nat):Prop:=∀(t:Tok) (p:Pl) (a0:Option Addr) (n0 c0:Nat) (w:Λ) (E:Env) (s:eD) (r:RR Dt),bS w R M g cap T dp E s→jd w E s p.ahead (.slice a0 n0 c0)→(p.depth≤dp∧p.ahead.length≤p.depth)→(r=if p.passed∨t.n∈s.ak then .fail 5 t.from_
 else if p.depth=dp then .fail 6 t.from_
 else(ay T dp n ⟨p.depth+1,p.passed,p.ahead++[t.n]⟩ { s with ak:=t.n::s.ak }).bind λd s=> .ok (.put t.n d) s)→r≠.out→
    Φ prog 160 #[aC R,bP t,gI p.depth p.passed (.slice a0 n0 c0)] w λe w'=>jP R M g cap T dp (Θ.slice a0 n0 c0).ownBlock w E s r e w'
def Xe:Prop:=∀(t:Tok) (p:Pl) (a0:Option Addr) (n0 c0:Nat) (w:Λ) (E:Env) (s:eD) (r:RR Dt),bS w R M g cap T dp E s→jd w E s p.ahead (.slice a0 n0 c0)→(p.depth≤dp∧p.ahead.length≤p.depth)→(r=if p.passed∨t.n∉s.ak∨t.n∈p.ahead then .fail 5 t.from_ else .ok (.ask t.n) s)→Φ prog 161 #[aC R,bP t,gI p.depth p.passed (.slice a0 n0 c0)] w λe w'=>jP R M g cap T dp none w E s r e w'
end
section
variable {R M g cap:Nat}{T:List Tok}{dp:Nat}
theorem jO.up (h:jO R M none w w')(A:Option Nat):jO R M A w w':=h.plain.a A
theorem P4 (ih:∀m,m≤n→IH R M g cap T dp m)(hput:Xd R M g cap T dp n)(vQ:Xe R M g cap T dp)(AQ:(∃t∈T,t.kind=5)→Fx R M g cap T dp)(AR:(∃t∈T,t.kind=4)→Fy R M g cap T dp)(t:Tok)(p:Pl)(av:Θ)(w:Λ)(E:Env)(s:eD)(hm:t∈T)(hr:bS w R M g cap T dp E s)(ha:jd w E s p.ahead av)(hd:p.depth≤dp∧p.ahead.length≤p.depth)(ho:aL T dp (n+1) t p s≠.out):Φ prog 106 #[aC R,bP t,gI p.depth p.passed av] w λe w'=>jP R M g cap T dp av.ownBlock w E s (aL T dp (n+1) t p s) e w':=by
 have HVQ:Hid ((t.kind=5→Fx R M g cap T dp)∧(t.kind=4→Fy R M g cap T dp)):=⟨λh=>AQ ⟨t,hm,h⟩,λh=>AR ⟨t,hm,h⟩⟩;clear AQ AR hm;have mixed:prog.follows Ξ=true:=by kernel_rfl
 obtain⟨⟨a0,n0,c0,rfl⟩⟩:=(⟨ha.2.1⟩:Nonempty _);have NH:R<w.heap.size:=hr.lt;generalize eK:aL T dp (n+1) t p s=r at *;have lX:=eK.symm;unfold aL at lX;clear eK;have hb0:Ω w.heap.size w ((w.alloc (iz t)).alloc (gW p.depth p.passed a0 n0 c0)):=((zad _ w).alloc (zac _) _).alloc (by simp) _;have vo:Hid (Kp R M w ((w.alloc (iz t)).alloc (gW p.depth p.passed a0 n0 c0))):=Kp.aG hb0;have rL:Hid _:=hr.below hb0;have NP:Hid _:=ha.below hb0;have HO:Hid _:=ho;by_cases k37:t.kind=3∨t.kind=7
 ·have HE:Hid (r=.fail 3 t.from_):=lX.trans (zab k37);clear lX hb0 hr ha ih hput vQ;have hq:(((t.kind:Nat):Int)==3)=true∨((((t.kind:Nat):Int)==3)=false∧(((t.kind:Nat):Int)==7)=true):=by
   rcases k37 with h|h
   ·exact .inl (by rw[h];rfl)
   ·exact .inr ⟨by rw[h];rfl,by rw[h];rfl⟩
  clear k37;unfold gI aC bP;rcases hq with q3|⟨q3,q7⟩
  all_goals
   go_enter func106,ntmps106;go_wp2_with fail;go_region;go_wp2_with fail;go_ret2;rw[HE.out];refine⟨⟨w.heap.size+1+1,rfl,?_⟩,(Kp.trans vo.out (Kp.aG (((zad _ _).alloc (zac _) _).drew))).a _⟩;exact(show _=_ from by rw[show w.heap.size+1+1=((w.alloc (iz t)).alloc (gW p.depth p.passed a0 n0 c0)).heap.size by simp];exact zav _ _)
 replace lX:=lX.trans (zaa k37);have q3:(((t.kind:Nat):Int)==3)=false:=by rw[zah];omega
 have q7:(((t.kind:Nat):Int)==7)=false:=by rw[zah];omega
 clear k37;by_cases k10:t.kind=10
 ·have Ur:(((t.kind:Nat):Int)==10)=true:=by rw[k10];rfl
  have HC:Hid _:=hput t p a0 n0 c0 _ E s r rL.out NP.out hd (lX.trans (zab k10)) ho;clear lX hb0 hr ha ih hput vQ k10;unfold gI aC bP at HC ⊢;go_enter func106,ntmps106;go_wp2_with fail;refine zai HC.out ?_;intro e w3 cG;have mr:=jP.from cG vo.out;clear cG HC;cases r with
  |out=>exact absurd rfl HO.out
  |fail er a=>
   obtain⟨⟨b,rfl,hf⟩,hk2⟩:=mr;have HG:Hid (jP R M g cap T dp (Θ.slice a0 n0 c0).ownBlock w E s (RR.fail er a) (.returned (.tuple #[.nilIface,aC b])) w3):=⟨⟨b,rfl,hf⟩,hk2⟩;clear hf hk2;unfold aC;go_wp2_with fail;go_ret2;exact HG.out
  |ok d s2=>
   obtain⟨v,E2,rfl,⟨ty,y,rfl⟩,cK,hx2,hr2,hk2⟩:=mr;have HG:Hid (jP R M g cap T dp (Θ.slice a0 n0 c0).ownBlock w E s (RR.ok d s2) (.returned (.tuple #[.iface ty y,.pointer none])) w3):=⟨.iface ty y,E2,rfl,⟨ty,y,rfl⟩,cK,hx2,hr2,hk2⟩;clear cK hx2 hr2 hk2;go_wp2_with fail;go_ret2;exact HG.out
 replace lX:=lX.trans (zaa k10);have Ur:(((t.kind:Nat):Int)==10)=false:=by rw[zah];omega
 clear k10;by_cases Nz:t.kind=11
 ·have Xf:(((t.kind:Nat):Int)==11)=true:=by rw[Nz];rfl
  have HC:Hid _:=vQ t p a0 n0 c0 _ E s r rL.out NP.out hd (lX.trans (zab Nz));clear lX hb0 hr ha ih hput vQ Nz;unfold gI aC bP at HC ⊢;go_enter func106,ntmps106;go_wp2_with fail;refine zai HC.out ?_;intro e w3 cG;have mr:=jP.from cG vo.out;clear cG HC;cases r with
  |out=>exact absurd rfl HO.out
  |fail er a=>
   obtain⟨⟨b,rfl,hf⟩,hk2⟩:=mr;have HG:Hid (jP R M g cap T dp (Θ.slice a0 n0 c0).ownBlock w E s (RR.fail er a) (.returned (.tuple #[.nilIface,aC b])) w3):=⟨⟨b,rfl,hf⟩,jO.up hk2 _⟩;clear hf hk2;unfold aC;go_wp2_with fail;go_ret2;exact HG.out
  |ok d s2=>
   obtain⟨v,E2,rfl,⟨ty,y,rfl⟩,cK,hx2,hr2,hk2⟩:=mr;have HG:Hid (jP R M g cap T dp (Θ.slice a0 n0 c0).ownBlock w E s (RR.ok d s2) (.returned (.tuple #[.iface ty y,.pointer none])) w3):=⟨.iface ty y,E2,rfl,⟨ty,y,rfl⟩,cK,hx2,hr2,jO.up hk2 _⟩;clear cK hx2 hr2 hk2;go_wp2_with fail;go_ret2;exact HG.out
 replace lX:=lX.trans (zaa Nz);have Xf:(((t.kind:Nat):Int)==11)=false:=by rw[zah];omega
 clear Nz;by_cases kh:t.kind=2∨t.kind=5∨t.kind=4
 ·have HC:Hid _:=FE ih t HVQ p a0 n0 c0 _ E s rL.out hd r (lX.trans (zab kh)) ho;have hq:(((t.kind:Nat):Int)==2)=true∨((((t.kind:Nat):Int)==2)=false∧(((t.kind:Nat):Int)==5)=true)∨((((t.kind:Nat):Int)==2)=false∧(((t.kind:Nat):Int)==5)=false∧(((t.kind:Nat):Int)==4)=true):=by
   rcases kh with h|h|h
   ·exact .inl (by rw[h];rfl)
   ·exact .inr (.inl ⟨by rw[h];rfl,by rw[h];rfl⟩)
   ·exact .inr (.inr ⟨by rw[h];rfl,by rw[h];rfl,by rw[h];rfl⟩)
  clear lX hb0 hr ha ih hput vQ kh;unfold gI aC bP at HC ⊢;rcases hq with q2|⟨q2,q5⟩|⟨q2,q5,q4⟩
  all_goals
   go_enter func106,ntmps106;go_wp2_with fail;refine zai HC.out ?_;intro e w3 cG;have mr:=jP.from cG vo.out;clear cG HC;cases r with
   |out=>exact absurd rfl HO.out
   |fail er a=>
    obtain⟨⟨b,rfl,hf⟩,hk2⟩:=mr;have HG:Hid (jP R M g cap T dp (Θ.slice a0 n0 c0).ownBlock w E s (RR.fail er a) (.returned (.tuple #[.nilIface,aC b])) w3):=⟨⟨b,rfl,hf⟩,jO.up hk2 _⟩;clear hf hk2;unfold aC;go_wp2_with fail;go_ret2;exact HG.out
   |ok d s2=>
    obtain⟨v,E2,rfl,⟨ty,y,rfl⟩,cK,hx2,hr2,hk2⟩:=mr;have HG:Hid (jP R M g cap T dp (Θ.slice a0 n0 c0).ownBlock w E s (RR.ok d s2) (.returned (.tuple #[.iface ty y,.pointer none])) w3):=⟨.iface ty y,E2,rfl,⟨ty,y,rfl⟩,cK,hx2,hr2,jO.up hk2 _⟩;clear cK hx2 hr2 hk2;go_wp2_with fail;go_ret2;exact HG.out
 replace lX:=lX.trans (zaa kh);have q2:(((t.kind:Nat):Int)==2)=false:=by rw[zah];omega
 have q5:(((t.kind:Nat):Int)==5)=false:=by rw[zah];omega
 have q4:(((t.kind:Nat):Int)==4)=false:=by rw[zah];omega
 clear kh;have HC:Hid (Φ prog 163 #[bP t] ((w.alloc (iz t)).alloc (gW p.depth p.passed a0 n0 c0)) λe w'=>jP R M g cap T dp none ((w.alloc (iz t)).alloc (gW p.depth p.passed a0 n0 c0)) E s r e w'):=by
  rw[lX];unfold j9;by_cases h8:t.kind=8
  ·rw[zab h8];refine(PU t _ h8).mono ?_;rintro e w' ⟨b,rfl,hb,hc,hw⟩;have hbl:b<w'.heap.size:=(zaj.1 hc).1;refine⟨_,E.one s.fresh b,rfl,⟨_,_,rfl⟩,?_,Ext.one hb hbl,bS.name (bS.below rL.out hw) rfl rfl rfl,(Kp.aG hw).a none⟩;have e1:(E.one s.fresh b).α s.fresh=b:=zab rfl;unfold ct;rw[e1];exact⟨Nat.lt_succ_self _,hb,rfl,hc⟩
  rw[zaa h8];by_cases hv:t.kind=9∨t.kind=12∨t.kind=14∨t.fault=0
  ·refine(PV t _ h8 hv).mono ?_;rintro e w' ⟨rfl,hw⟩;have key:∀d:Dt,(∃t' y,kg t=.iface t' y)→ct ((w.alloc (iz t)).alloc (gW p.depth p.passed a0 n0 c0)).heap.size s.fresh s.ak w' E d (kg t)→jP R M g cap T dp none ((w.alloc (iz t)).alloc (gW p.depth p.passed a0 n0 c0)) E s (.ok d s) (.returned (.tuple #[kg t,.pointer none])) w':=λd hi h=>⟨_,E,rfl,hi,h,Ext.refl rfl rfl,bS.below rL.out hw,(Kp.aG hw).a none⟩;by_cases h9:t.kind=9
   ·rw[zab h9];exact key _ (by simp[kg,h9]) (by unfold ct;simp[kg,h9])
   rw[zaa h9];by_cases DR:t.kind=12
   ·rw[zab DR];exact key _ (by simp[kg,DR]) (by unfold ct;simp[kg,DR])
   rw[zaa DR];by_cases rG:t.kind=14
   ·rw[zab rG];exact key _ (by simp[kg,rG]) (by unfold ct;simp[kg,rG])
   rw[zaa rG,zaa (by omega)];exact key _ (by simp[kg,h9,DR,rG]) (by unfold ct;simp[kg,h9,DR,rG])
  ·rw[zaa (by omega),zaa (by omega),zaa (by omega),zab (by omega)];refine(IC t _ ⟨h8,by omega,by omega,by omega⟩ (by omega)).mono ?_;rintro e w' ⟨b,rfl,hc,hw⟩;exact⟨⟨b,rfl,hc⟩,(Kp.aG hw).a none⟩
 clear lX hb0 hr ha ih hput vQ
 ·unfold gI aC bP at *;go_enter func106,ntmps106;go_wp2_with fail;refine zai HC.out ?_;intro e w3 cG;have mr:=jP.from cG vo.out;clear cG HC;cases r with
  |out=>exact absurd rfl HO.out
  |fail er a=>
   obtain⟨⟨b,rfl,hf⟩,hk2⟩:=mr;have HG:Hid (jP R M g cap T dp (Θ.slice a0 n0 c0).ownBlock w E s (RR.fail er a) (.returned (.tuple #[.nilIface,aC b])) w3):=⟨⟨b,rfl,hf⟩,jO.up hk2 _⟩;clear hf hk2;unfold aC;go_wp2_with fail;go_ret2;exact HG.out
  |ok d s2=>
   obtain⟨v,E2,rfl,⟨ty,y,rfl⟩,cK,hx2,hr2,hk2⟩:=mr;have HG:Hid (jP R M g cap T dp (Θ.slice a0 n0 c0).ownBlock w E s (RR.ok d s2) (.returned (.tuple #[.iface ty y,.pointer none])) w3):=⟨.iface ty y,E2,rfl,⟨ty,y,rfl⟩,cK,hx2,hr2,jO.up hk2 _⟩;clear cK hx2 hr2 hk2;go_wp2_with fail;go_ret2;exact HG.out
end
theorem FH:prog.underlying 212=some (.pointer 215):=by kernel_rfl
theorem Ut:(prog.info? 215).map (λi=>i.size)=some 1:=by kernel_rfl
theorem aa8 (w:Λ)(b c:Nat)(hb:∃v,w.heap[b]?=some (.cells #[v] 215))(hc:∃v,w.heap[c]?=some (.cells #[v] 215)):(binOp .eql 212 (.pointer (some ⟨b,0,none⟩)) (.pointer (some ⟨c,0,none⟩))).run prog w=.ok (.bool (decide (b=c))) w:=by
 obtain⟨vb,hb⟩:=hb;obtain⟨vc,hc⟩:=hc;have hi:=Ut;cases hj:prog.info? 215 with
 |none=>rw[hj]at hi;cases hi
 |some j=>
  rw[hj]at hi;have hs:j.size=1:=by simpa using hi
  by_cases e:b=c
  ·subst e;rw[run_eql_ptr_same w _ FH hj];simp
  ·rw[run_eql_ptr_other w (ca:=#[vb]) (cb:=#[vc]) FH hj (by omega) (λh=>e (by cases h;rfl)) hb hc];simp[e]
theorem Df (l:List Nat)(g c lo b:Nat)(w:Λ)(hrow:w.ownsRow lo 212 1 (.slice (some ⟨g,0,none⟩) l.length c) l.length (l.map aC))(NQ:∃v,w.heap[b]?=some (.cells #[v] 215))(Uu:∀x∈l,∃v,w.heap[x]?=some (.cells #[v] 215)):Φ prog 220 #[.slice (some ⟨g,0,none⟩) l.length c,aC b] w λe w'=>(∃i:Int,e=.returned (Γ Δ i)∧(if b∈l then 0≤i else i=-1))∧w'=w:=by
 have hg:g<w.heap.size:=(hrow.lt g rfl).2;have hn:l.length≤9223372036854775807:=by
  rcases hrow.2 with⟨h,_⟩|⟨_,cp,_,_,_,_,h1,h2,_⟩
  ·cases h
  ·simp only[θ]at h2;omega
 have hcell:Hid (∀(j:Nat) (x:Nat),l[j]?=some x→w.cell? ⟨g,j,none⟩=some (aC x)):=λj x hx=>by
  have hj:j<l.length:=(zbh.1 hx).1;rw[hrow.cellAt j (by omega),zbU,hx];rfl
 clear hrow;unfold aC;go_enter func220,ntmps220;go_wp2_with fail;go_loopw [8] (λi wr=>∃j:Nat,j≤l.length∧i=Γ Δ j∧wr=w∧Hid (∀(k:Nat) x,k<j→l[k]?=some x→x≠b)) (λi _=>l.length-(intOf i).toNat)
 case atStart=>exact⟨0,by omega,rfl,rfl,λk x hk=>by omega⟩
 case round=>
  obtain⟨j,hj,rfl,rfl,hB⟩:=hrel;by_cases xJ:j<l.length
  ·have hx:l[j]?=some l[j]:=zat xJ;have hc:=hcell.out j _ hx;unfold aC at hc;have q:((j:Int)<(l.length:Int)):=by omega
   have hq:=aa8 wr b l[j] NQ (Uu _ (zbx xJ));by_cases hb:l[j]=b
   ·have hm:b∈l:=by rw[←hb];exact zbx xJ
    rw[hb]at hc hq;simp only[decide_true]at hq;go_wp2_with fail;go_ret;exact⟨⟨_,rfl,by omega⟩,rfl⟩
   ·have hb':decide (b=l[j])=false:=by rw[zbW];exact λe=>hb e.symm
    rw[hb']at hq;go_wp2_with fail;refine⟨⟨j+1,by omega,by simp,trivial,λk x hk hkx=>?_⟩,?_⟩
    ·rcases zaw k j with h|h
     ·exact hB.out k x h hkx
     ·have:k=j:=by omega
      subst this;rw[hx]at hkx;cases hkx;exact hb
    ·simp only[intOf];omega
  ·have hm:¬b∈l:=λh=>by
    obtain⟨k,hk,hkb⟩:=List.getElem_of_mem h;exact hB.out k _ (by omega) (zat hk) hkb
   have q:¬((j:Int)<(l.length:Int)):=by omega
   go_wp2_with fail;go_ret;simp
theorem Mr (b:Nat)(w:Λ):Φ prog 220 #[.slice none 0 0,aC b] w λe w'=>e=.returned (Γ Δ (-1))∧w'=w:=by
 unfold aC;go_enter func220,ntmps220;go_wp2_with fail;go_loopw [8] (λi wr=>i=Γ Δ 0∧wr=w) (λ_ _=>0)
 case atStart=>exact⟨rfl,rfl⟩
 case round=>
  obtain⟨rfl,rfl⟩:=hrel;go_wp2_with fail;go_ret;exact⟨rfl,rfl⟩
theorem Dg (l:List Nat)(av:Θ)(lo b:Nat)(w:Λ)(hrow:w.ownsRow lo 212 1 av l.length (l.map aC))(NQ:∃v,w.heap[b]?=some (.cells #[v] 215))(Uu:∀x∈l,∃v,w.heap[x]?=some (.cells #[v] 215)):Φ prog 193 #[av,aC b] w λe w'=>e=.returned (.bool (decide (b∈l)))∧w'=w:=by
 rcases hrow.2 with⟨rfl,h0⟩|⟨g,cap,cur,rfl,_⟩
 ·have:l=[]:=zcf h0;subst this;have HC:Hid _:=Mr b w;clear hrow;unfold aC at HC ⊢;go_enter func193,ntmps193;go_wp2_with fail;refine zai HC.out ?_;rintro e w' ⟨rfl,rfl⟩;go_wp2_with fail;go_ret;simp
 ·have HC:Hid _:=Df l g cap lo b w hrow NQ Uu;clear hrow;unfold aC at HC ⊢;go_enter func193,ntmps193;go_wp2_with fail;refine zai HC.out ?_;rintro e w' ⟨⟨i,rfl,hi⟩,rfl⟩;by_cases hm:b∈l
  ·rw[zab hm]at hi;go_wp2_with fail;go_ret;simp[hm]
  ·rw[zaa hm]at hi;subst hi;go_wp2_with fail;go_ret;simp[hm]
theorem yI {f:Int→Θ}(n:Int):∀l:List Int,(l.map λm=>(m,f m)).lookup n=if n∈l then some (f n)else none
 |[]=>rfl
 |m::l=>by
  rw[zaB,List.lookup_cons];by_cases h:n=m
  ·subst h;simp
  ·have:(n==m)=false:=by rw[zah];exact h
   rw[this,yI n l];simp[h]
theorem sS (E:Env)(ak:List Int)(n:Int):(vO E ak).lookup n=if n∈ak then some (aC (E.cE n))else none:=by
 unfold vO;rw[yI (f:=λm=>aC (E.cE m))];simp
theorem kC (w:Λ)(A B C:Obj):(((w.alloc A).alloc B).alloc C).heap[w.heap.size+1+1]?=some C:=by
 rw[show w.heap.size+1+1=((w.alloc A).alloc B).heap.size by simp];exact zav _ _
section
variable {R M g cap:Nat}{T:List Tok}{dp:Nat}
theorem YQ:Xe R M g cap T dp:=by
 intro t p a0 n0 c0 w E s r hr ha hd eK;have mixed:prog.follows Ξ=true:=by kernel_rfl
 have hb0:Ω w.heap.size w ((w.alloc (iz t)).alloc (gW p.depth p.passed a0 n0 c0)):=((zad _ w).alloc (zac _) _).alloc (by simp) _;have hs0:((w.alloc (iz t)).alloc (gW p.depth p.passed a0 n0 c0)).heap.size=w.heap.size+1+1:=by simp
 have vo:Hid (Kp R M w ((w.alloc (iz t)).alloc (gW p.depth p.passed a0 n0 c0))):=Kp.aG hb0;have Ai:=hr.below hb0;have rL:Hid _:=Ai;have cU:=oN (w:=((w.alloc (iz t)).alloc (gW p.depth p.passed a0 n0 c0)).drew) (M:=M) (l:=vO E s.ak) Ai.lm t.n;rw[sS]at cU;have NH:R<w.heap.size:=hr.lt;have n1:¬R=w.heap.size:=by omega
 have n2:¬R=w.heap.size+1:=by omega
 have n3:R<w.heap.size+1:=by omega
 obtain⟨⟨r0,r1,r2,r3⟩,-⟩:=ig hr.blk;have NP:Hid _:=ha.below hb0;by_cases hp:p.passed=true
 ·have HE:Hid (r=.fail 5 t.from_):=eK.trans (zab (.inl hp));rw[hp]at cU vo ⊢;clear eK hr Ai hb0 ha hs0 rL NP;unfold gI aC bP;by_cases hl:t.n∈s.ak
  ·rw[zab hl,zbg]at cU;unfold aC at cU;go_enter func161,ntmps161;go_wp2_with fail;go_region;go_wp2_with fail;go_region;go_wp2_with fail;go_ret2;rw[HE.out];refine⟨⟨w.heap.size+1+1,rfl,?_⟩,(Kp.trans vo.out (Kp.aG ((((zad _ _).alloc (zac _) _).drew).drew))).a none⟩;exact kC w _ _ _
  ·rw[zaa hl,zbH]at cU;go_enter func161,ntmps161;go_wp2_with fail;go_region;go_wp2_with fail;go_region;go_wp2_with fail;go_ret2;rw[HE.out];refine⟨⟨w.heap.size+1+1,rfl,?_⟩,(Kp.trans vo.out (Kp.aG ((((zad _ _).alloc (zac _) _).drew).drew))).a none⟩;exact kC w _ _ _
 have wN:p.passed=false:=by simpa using hp
 rw[wN]at cU vo rL NP hs0 ⊢;by_cases hl:t.n∈s.ak
 ·rw[zab hl,zbg]at cU;have hrow:(((w.alloc (iz t)).alloc (gW p.depth false a0 n0 c0)).drew).ownsRow 0 212 1 (.slice a0 n0 c0) (p.ahead.map E.cE).length ((p.ahead.map E.cE).map aC):=by
   rw[zby,List.map_map];exact NP.out.1
  have HC:Hid _:=Dg (p.ahead.map E.cE) (.slice a0 n0 c0) 0 (E.cE t.n) _ hrow (rL.out.low _ hl) (λx hx=>by
   obtain⟨m,hm,rfl⟩:=zbo.1 hx;exact rL.out.low m (NP.out.2.2 m hm))
  have AH:E.cE t.n∈p.ahead.map E.cE↔t.n∈p.ahead:=by
   constructor
   ·intro h;obtain⟨m,hm,e⟩:=zbo.1 h;rw[←rL.out.inj m (NP.out.2.2 m hm) t.n hl e];exact hm
   ·exact λh=>zbo.2 ⟨_,h,rfl⟩
  by_cases hin:t.n∈p.ahead
  ·have HE:Hid (r=.fail 5 t.from_):=eK.trans (zab (.inr (.inr hin)));rw[zaY (AH.2 hin)]at HC;clear eK hr Ai hb0 ha hs0 hrow AH;unfold aC at cU HC;unfold gI aC bP;go_enter func161,ntmps161;go_wp2_with fail;go_region;go_wp2_with fail;refine zai HC.out ?_;rintro e w' ⟨rfl,rfl⟩;go_wp2_with fail;go_region;go_wp2_with fail;go_ret2;rw[HE.out];refine⟨⟨w.heap.size+1+1,rfl,?_⟩,(Kp.trans vo.out (Kp.aG ((((zad _ _).alloc (zac _) _).drew).drew))).a none⟩;exact kC w _ _ _
  ·have HE:Hid (r=.ok (.ask t.n) s):=eK.trans (zaa (by simp[wN,hl,hin]));rw[zaS (λh=>hin (AH.1 h))]at HC;have HG:Hid (jP R M g cap T dp none w E s (.ok (.ask t.n) s) (.returned (.tuple #[.iface 212 (aC (E.cE t.n)),.pointer none])) ((w.alloc (iz t)).alloc (gW p.depth false a0 n0 c0)).drew):=
    ⟨_,E,rfl,⟨_,_,rfl⟩,by unfold ct;exact⟨hl,rfl⟩,Ext.refl rfl rfl,bS.below rL.out ((zad _ _).drew),(Kp.trans vo.out (Kp.aG ((zad _ _).drew))).a none⟩
   clear eK hr Ai hb0 ha hs0 hrow AH;unfold aC at cU HC;unfold gI aC bP;go_enter func161,ntmps161;go_wp2_with fail;go_region;go_wp2_with fail;refine zai HC.out ?_;rintro e w' ⟨rfl,rfl⟩;go_wp2_with fail;go_ret2;rw[HE.out];exact HG.out
 ·have HE:Hid (r=.fail 5 t.from_):=eK.trans (zab (.inr (.inl hl)));rw[zaa hl,zbH]at cU;clear eK hr Ai hb0 ha hs0 rL NP;unfold gI aC bP
  ·go_enter func161,ntmps161;go_wp2_with fail;go_region;go_wp2_with fail;go_region;go_wp2_with fail;go_ret2;rw[HE.out];refine⟨⟨w.heap.size+1+1,rfl,?_⟩,(Kp.trans vo.out (Kp.aG ((((zad _ _).alloc (zac _) _).drew).drew))).a none⟩;exact kC w _ _ _
end
section
variable {R M g cap:Nat}{T:List Tok}{dp:Nat}
theorem Ms (n:Nat)(t:Tok)(p:Pl)(a0:Option Addr)(n0 c0:Nat)(w:Λ)(E:Env)(s:eD)(r:RR Dt)(hr:bS w R M g cap T dp E s)(eK:r=if p.passed∨t.n∈s.ak then .fail 5 t.from_
 else if p.depth=dp then .fail 6 t.from_
 else(ay T dp n ⟨p.depth+1,p.passed,p.ahead++[t.n]⟩ { s with ak:=t.n::s.ak }).bind λd s=> .ok (.put t.n d) s)(AU:p.passed=true∨t.n∈s.ak∨p.depth=dp):
 Φ prog 160 #[aC R,bP t,gI p.depth p.passed (.slice a0 n0 c0)] w λe w'=>jP R M g cap T dp (Θ.slice a0 n0 c0).ownBlock w E s r e w':=by
 have mixed:prog.follows Ξ=true:=by kernel_rfl
 have hb0:Ω w.heap.size w ((w.alloc (iz t)).alloc (gW p.depth p.passed a0 n0 c0)):=((zad _ w).alloc (zac _) _).alloc (by simp) _;have hs0:((w.alloc (iz t)).alloc (gW p.depth p.passed a0 n0 c0)).heap.size=w.heap.size+1+1:=by simp
 have vo:Hid (Kp R M w ((w.alloc (iz t)).alloc (gW p.depth p.passed a0 n0 c0))):=Kp.aG hb0;have Ai:=hr.below hb0;have rL:Hid _:=Ai;have cU:=oN (w:=((w.alloc (iz t)).alloc (gW p.depth p.passed a0 n0 c0)).drew) (M:=M) (l:=vO E s.ak) Ai.lm t.n;rw[sS]at cU;have NH:R<w.heap.size:=hr.lt;have n1:¬R=w.heap.size:=by omega
 have n2:¬R=w.heap.size+1:=by omega
 have n3:R<w.heap.size+1:=by omega
 obtain⟨⟨r0,r1,r2,r3⟩,-⟩:=ig hr.blk;by_cases hp:p.passed=true
 ·have HE:Hid (r=.fail 5 t.from_):=eK.trans (zab (.inl hp));rw[hp]at cU vo ⊢;clear eK hr Ai hb0 hs0 rL cU;unfold gI aC bP
  ·go_enter func160,ntmps160;go_wp2_with fail;go_region;go_wp2_with fail;go_region;go_wp2_with fail;go_ret2;rw[HE.out];refine⟨⟨w.heap.size+1+1,rfl,?_⟩,(Kp.trans vo.out (Kp.aG ((((zad _ _).alloc (zac _) _).drew).drew))).a _⟩;exact kC w _ _ _
 have wN:p.passed=false:=by simpa using hp
 rw[wN]at cU vo rL hs0 ⊢;by_cases hl:t.n∈s.ak
 ·rw[zab hl,zbg]at cU;have HE:Hid (r=.fail 5 t.from_):=eK.trans (zab (.inr hl));clear eK hr Ai hb0 hs0 rL;unfold aC at cU;unfold gI aC bP
  ·go_enter func160,ntmps160;go_wp2_with fail;go_region;go_wp2_with fail;go_region;go_wp2_with fail;go_ret2;rw[HE.out];refine⟨⟨w.heap.size+1+1,rfl,?_⟩,(Kp.trans vo.out (Kp.aG ((((zad _ _).alloc (zac _) _).drew).drew))).a _⟩;exact kC w _ _ _
 rw[zaa hl,zbH]at cU;replace eK:=eK.trans (zaa (by simp[wN,hl]));have hc0:(((w.alloc (iz t)).alloc (gW p.depth false a0 n0 c0)).drew).cell? ⟨R,2,none⟩=some (Γ Δ dp):=(ig rL.out.blk).1.2.2.1;by_cases hdd:p.depth=dp
 ·have HE:Hid (r=.fail 6 t.from_):=eK.trans (zab hdd);have HC:Hid _:=vg R dp t p.depth false a0 n0 c0 (((w.alloc (iz t)).alloc (gW p.depth false a0 n0 c0)).drew) hc0 (by simp;omega) hdd;clear eK hr Ai hb0 hs0 rL hc0 hdd;unfold gI aC bP at HC ⊢;go_enter func160,ntmps160;go_wp2_with fail;go_region;go_wp2_with fail;refine zai HC.out ?_;rintro e w1 ⟨b,rfl,hf,hb1⟩;have HF:Hid _:=hf;have BJ:Hid _:=Kp.trans (Kp.trans vo.out (Kp.aG ((zad _ _).drew))) (Kp.aG hb1);clear hf hb1 HC;go_wp2_with fail;go_ret2;rw[HE.out];exact⟨⟨b,rfl,dQ.alloc HF.out _⟩,(Kp.trans BJ.out (Kp.aG ((zad _ _).alloc (zac _) _))).a _⟩
 ·exact absurd (AU.resolve_left hp) (by simp[hl,hdd])
end
def Env.label (E:Env)(n:Int)(b:Nat):Env:=⟨E.α,λm=>if m=n then b else E.cE m⟩
theorem oP (E:Env)(n:Int)(b k:Nat){ak:List Int}(hn:¬n∈ak):E.agree (E.label n b) k ak:=
 ⟨λ_ _=>rfl,λm hm=>zaa λe=>hn (by rw[←e];exact hm)⟩
theorem Mt (E:Env)(n:Int)(b:Nat){ak:List Int}(hn:¬n∈ak):vO (E.label n b) (n::ak)=vO E ak++[(n,aC b)]:=by
 unfold vO;rw[List.reverse_cons,zcO]
 congr 1
 ·exact List.map_congr_left λm hm=>by rw[(oP E n b 0 hn).2 m (List.mem_reverse.1 hm)]
 ·simp[Env.label]
theorem bS.label (h:bS w R M g cap T dp E s){n:Int}{o:Obj}(hn:¬n∈s.ak)(hb:∃v,w.heap[b]?=some (.cells #[v] 215))(Ej:∀m∈s.ak,E.cE m≠b)
 (hm:nQ { w with heap:=w.heap.setIfInBounds M o } M ((vO E s.ak++[(n,aC b)]).map λp=>(Θ.int .i64 p.1,p.2))):
 bS { w with heap:=w.heap.setIfInBounds M o } R M g cap T dp (E.label n b) { s with ak:=n::s.ak }:=by
 have ho:∀c,c≠M→(w.heap.setIfInBounds M o)[c]?=w.heap[c]?:=λc hc=>by rw[zaA (λe=>hc e.symm)]
 have hlM:∀(c:Nat) (v:Θ),w.heap[c]?=some (.cells #[v] 215)→c≠M:=λc v hc e=>by
  obtain⟨es,cl,q,_⟩:=h.lm;rw[e,q]at hc;cases hc
 refine⟨h.rm,h.gr,h.gm,(ho R h.rm).trans h.blk,?_,?_,λm ND=>?_,λm h1 k h2 e=>?_,h.small,h.deep⟩
 ·refine⟨h.row.1,h.row.2.imp id ?_⟩;rintro ⟨c,cp,cur,h1,h2,h3,h4⟩;have:c=g:=by cases h1;rfl
  exact⟨c,cp,cur,h1,h2,(ho c (by rw[this];exact h.gm)).trans h3,h4⟩
 ·show nQ _ M ((vO (E.label n b) (n::s.ak)).map _);rw[Mt E n b hn];exact hm
 ·show ∃v,(w.heap.setIfInBounds M o)[if m=n then b else E.cE m]?=_;by_cases e:m=n
  ·rw[zab e];obtain⟨v,hv⟩:=hb;exact⟨v,(ho b (hlM b v hv)).trans hv⟩
  ·rw[zaa e];have DN:m∈s.ak:=(zal.1 ND).resolve_left e;obtain⟨v,hv⟩:=h.low m DN;exact⟨v,(ho _ (hlM _ v hv)).trans hv⟩
 ·have e':(if m=n then b else E.cE m)=(if k=n then b else E.cE k):=e;by_cases e1:m=n<;>by_cases e2:k=n
  ·rw[e1,e2]
  ·rw[zab e1,zaa e2]at e';exact absurd e'.symm (Ej k ((zal.1 h2).resolve_left e2))
  ·rw[zaa e1,zab e2]at e';exact absurd e' (Ej m ((zal.1 h1).resolve_left e1))
  ·rw[zaa e1,zaa e2]at e';exact h.inj m ((zal.1 h1).resolve_left e1) k ((zal.1 h2).resolve_left e2) e'
theorem Mu:prog.underlying 126=some (.slice 212):=by kernel_rfl
theorem sT (h:w.ownsRow 0 212 1 v n xs)(b:Nat)(o:Obj)(hb:w.heap[b]?=some o)(ho:∀cur,o≠.cells cur 212):some b≠v.ownBlock:=by
 intro e;rcases h.2 with⟨rfl,_⟩|⟨g,cap,cur,rfl,_,hg,_⟩
 ·cases e
 ·have:b=g:=by cases e;rfl
  rw[this,hg]at hb;exact ho cur (by cases hb;rfl)
section
variable {R M g cap:Nat}{T:List Tok}{dp:Nat}{E:Env}{s:eD}
theorem bS.tokens (h:bS w R M g cap T dp E s):∃cur,w.heap[g]?=some (.cells cur 131):=by
 rcases h.row.2 with⟨e,_⟩|⟨b,cp,cur,h1,_,h3,_⟩
 ·cases e
 ·have:b=g:=by cases h1;rfl
  exact⟨cur,by rw[←this];exact h3⟩
theorem Mv {w4:Λ}{A:Obj}(hr:bS w3 R M g cap T dp E s)(ho:w3.ownsRow 0 212 1 v n xs)(hg:(w3.alloc A).grownBy w4 v.ownBlock):bS w4 R M g cap T dp E s∧jO R M v.ownBlock w3 w4∧(∀b,b<w3.heap.size→some b≠v.ownBlock→w4.heap[b]?=w3.heap[b]?)∧w3.heap.size+1≤w4.heap.size:=by
 have hs:(w3.alloc A).heap.size=w3.heap.size+1:=by simp
 have hb:∀b,b<w3.heap.size→some b≠v.ownBlock→w4.heap[b]?=w3.heap[b]?:=λb h h'=>(hg.block b (by omega) h').trans (zaT _ _ _ h);have hz:=hg.size;refine⟨?_,⟨hg.os,hg.tape,hg.output,by omega,λb b1 _ _ b4=>hb b b1 b4⟩,hb,by omega⟩;obtain⟨es,c,hm,-⟩:=hr.lm;obtain⟨cur,SM⟩:=hr.tokens;have q1:=sT ho R _ hr.blk (λcur e=>by simp at e);have q2:=sT ho g _ SM (λcur e=>by simp at e);have q3:=sT ho M _ hm (λcur e=>by simp at e);exact bS.step hr (k:=s.k) ((hb R hr.lt q1).trans hr.blk) (by omega) (λb b1 b2=>hb b b1 (b2.elim (λe=>by rw[e];exact q2) λe=>by rw[e];exact q3)) λb x hv=>hb b (zaj.1 hv).1 (sT ho b _ hv (λcur e=>by simp at e))
theorem bS.place (h:bS w R M g cap T dp E s)(hb:w.heap[b]?=some (.cells cs 128))(i:Nat)(v:Θ):bS (w.setCell ⟨b,i,none⟩ v) R M g cap T dp E s:=by
 have ho:∀c,c≠b→(w.setCell ⟨b,i,none⟩ v).heap[c]?=w.heap[c]?:=λc hc=>zax _ _ _ _ hc;obtain⟨es,c,hm,-⟩:=h.lm;obtain⟨cur,SM⟩:=h.tokens;have q1:R≠b:=λe=>by rw[←e,h.blk]at hb;simp at hb
 have q2:g≠b:=λe=>by rw[←e,SM]at hb;simp at hb
 have q3:M≠b:=λe=>by rw[←e,hm]at hb;simp at hb
 exact bS.step h (k:=s.k) ((ho R q1).trans h.blk) (by simp) (λc _ c2=>ho c (c2.elim (λe=>by rw[e];exact q2) λe=>by rw[e];exact q3)) λc x hv=>ho c (λe=>by rw[e,hb]at hv;simp at hv)
theorem jd.more {v':Θ}{n:Int}{L0:Nat}(h:w.ownsRow 0 212 1 v' (l.length+1) (l.map (λm=>aC ((E.label n L0).cE m))++[aC L0]))(hb:w.heap[b]?=some (.cells cs 128))(hl:∀m∈l,m∈s.ak)(x:Θ):jd (w.setCell ⟨b,2,none⟩ x) (E.label n L0) { s with ak:=n::s.ak } (l++[n]) v':=by
 refine⟨?_,?_,λm hm=>?_⟩
 ·have e:((l++[n]).map λm=>aC ((E.label n L0).cE m))=l.map (λm=>aC ((E.label n L0).cE m))++[aC L0]:=by
   rw[zcO]
   congr 1
   simp[Env.label]
  rw[e,zaR];refine⟨h.1,h.2.imp id ?_⟩;rintro ⟨c,cp,cur,h1,h2,h3,h4⟩;exact⟨c,cp,cur,h1,h2,(zax _ _ _ _ (λe=>by rw[e,hb]at h3;simp at h3)).trans h3,h4⟩
 ·obtain⟨a,c,e⟩:=bD h;exact⟨a,_,c,e⟩
 ·rcases zaF.1 hm with h1|h1
  ·exact zaQ _ (hl m h1)
  ·simp at h1;subst h1;exact zaD
theorem jO.put {B:Option Nat}(h:jO R M A w w5)(k:jO R M B w5 w6)(hv:B=A∨∃k,B=some k∧w.heap.size≤k):jO R M A w w6:=by
 have h1:=h.size;have h2:=k.size;refine⟨k.os.trans h.os,k.tape.trans h.tape,k.output.trans h.output,by omega,λb b1 b2 b3 b4=>(k.block b (by omega) b2 b3 λe=>?_).trans (h.block b b1 b2 b3 b4)⟩;rcases hv with hv|⟨c,hc,hlt⟩
 ·exact b4 (e.trans hv)
 ·rw[hc]at e;cases e;omega
theorem jO.above (h:jO R M A w w')(hb:w.heap.size≤b)(i:Nat)(v:Θ):jO R M A w (w'.setCell ⟨b,i,none⟩ v):=
 ⟨h.os,h.tape,h.output,by have:=h.size;simpa using this,λc c1 c2 c3 c4=>(zax _ _ _ _ (show c≠b by omega)).trans (h.block c c1 c2 c3 c4)⟩
theorem Uv {v' x:Θ}{E2:Env}{s2:eD}{n:Int}{d:Dt}{L0 m:Nat}(hk:jO R M A w w5)(hL:w.heap.size≤L0)(j8:w5.heap[L0]?=some (.cells #[x] 215))
 (ho:w5.ownsRow 0 212 1 v' m xs)(hv:v'.ownBlock=A∨∃k,v'.ownBlock=some k∧w.heap.size≤k)(SN:bS w5 R M g cap T dp (E.label n L0) { s with ak:=n::s.ak })(hn:¬n∈s.ak)
 (hi:∃t y,v=.iface t y)(cK:ct w5.heap.size s2.fresh s2.ak w6 E2 d v)(hx:Ext w5 w6 (E.label n L0) E2 { s with ak:=n::s.ak } s2)(AE:bS w6 R M g cap T dp E2 s2)(NM:jO R M v'.ownBlock w5 w6):
 w6.heap[L0]?=some (.cells #[x] 215)∧jP R M g cap T dp A w E s (.ok (.put n d) s2) (.returned (.tuple #[v,.pointer none])) (w6.setCell ⟨L0,0,none⟩ v):=by
 have hL5:L0<w5.heap.size:=(zaj.1 j8).1;have hs5:=hk.size;have hs6:=NM.size;obtain⟨es,c,hm,-⟩:=SN.lm;have q1:L0≠R:=λe=>by rw[e,SN.blk]at j8;simp at j8
 have q3:L0≠M:=λe=>by rw[e,hm]at j8;simp at j8
 have nX:w6.heap[L0]?=some (.cells #[x] 215):=(NM.block L0 hL5 q1 q3 (sT ho L0 _ j8 (λcur e=>by simp at e))).trans j8;obtain⟨cur,SM⟩:=AE.tokens;have q2:g≠L0:=λe=>by rw[e,nX]at SM;simp at SM
 have hl0:(w6.setCell ⟨L0,0,none⟩ v).heap[L0]?=some (.cells #[v] 215):=eE nX 0 v;have ho7:∀c,c≠L0→(w6.setCell ⟨L0,0,none⟩ v).heap[c]?=w6.heap[c]?:=λc hc=>zax _ _ _ _ hc;have II:E2.cE n=L0:=(hx.agree.2 n zaD).trans (zab rfl);refine⟨nX,v,E2,rfl,hi,?_,?_,?_,(hk.put NM hv).above hL 0 v⟩
 ·unfold ct;rw[II];exact⟨hx.ak n zaD,hL,hl0,ct.keep hs5 (zac _) (λ_ h=>h) (λb b1 _=>ho7 b (by omega)) ⟨λ_ _=>rfl,λ_ _=>rfl⟩ d v cK⟩
 ·have ag:=oP E n L0 s.fresh hn;refine⟨⟨λi hi=>(hx.agree.1 i hi).trans (ag.1 i hi),λm hm=>(hx.agree.2 m (zaQ _ hm)).trans (ag.2 m hm)⟩,hx.fresh,λm hm=>hx.ak m (zaQ _ hm),λi i1 i2=>?_,hx.inj⟩;have:=hx.new i i1 i2;rw[show(w6.setCell ⟨L0,0,none⟩ v).heap.size=w6.heap.size by simp];omega
 ·refine⟨AE.rm,AE.gr,AE.gm,(ho7 R q1.symm).trans AE.blk,?_,?_,λm hm=>?_,AE.inj,AE.small,AE.deep⟩
  ·refine⟨AE.row.1,AE.row.2.imp id ?_⟩;rintro ⟨b,cp,cur,h1,h2,h3,h4⟩;have:b=g:=by cases h1;rfl
   exact⟨b,cp,cur,h1,h2,(ho7 b (by rw[this];exact q2)).trans h3,h4⟩
  ·obtain⟨es,c,h1,h2⟩:=AE.lm;exact⟨es,c,(ho7 M q3.symm).trans h1,h2⟩
  ·obtain⟨y,hy⟩:=AE.low m hm;by_cases e:E2.cE m=L0
   ·rw[e];exact⟨v,hl0⟩
   ·exact⟨y,(ho7 _ e).trans hy⟩
end
end Go.Proofs.YtlhimdjkkiflhaaGreatDoor
