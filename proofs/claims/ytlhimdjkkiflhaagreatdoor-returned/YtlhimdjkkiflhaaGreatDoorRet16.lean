import Derived.Test.YtlhimdjkkiflhaaGreatDoorRet15
set_option maxHeartbeats 8000000
set_option maxRecDepth 100000
open Go.Value renaming int→Γ
open Go.IntKind renaming i64→Δ
open Go renaming World→Θ,Value→Λ,Calls→Ξ
open Go.RowKit renaming Below→Φ
open Go.Departure renaming mixedOrders→Ω
namespace Go.Loop
inductive Dt where
 |nil
 |sym (s:List UInt8)
 |num (n d:Int)
 |cD (n:Int)
 |kB (n:Int)
 |txt (i:Nat) (s:List UInt8)
 |pair (i:Nat) (a b:Dt)
 |vec (i:Nat) (l:Dt)
 |cZ
 |br (a l:Dt)
 |put (n:Int) (d:Dt)
 |ask (n:Int)
deriving DecidableEq
structure eD where
 k:Nat
 fresh:Nat
 ak:List Int
deriving DecidableEq
structure Pl where
 depth:Nat
 passed:Bool
 ahead:List Int
inductive RR (α:Type) where
 |out
 |fail (e:Int) (at_:Nat)
 |ok (a:α) (s:eD)
def RR.bind {α β:Type}(x:RR α)(f:α→eD→RR β):RR β:=
 match x with
 |.out=> .out
 |.fail e a=> .fail e a
 |.ok a s=>f a s
def aU:List Dt→Dt→Nat→Dt×Nat
 |[],rest,i=>(rest,i)
 |d::l,rest,i=>(.pair (aU l rest i).2 d (aU l rest i).1,(aU l rest i).2+1)
def fX:List Dt→Dt
 |[]=> .cZ
 |d::l=> .br d (fX l)
def j9 (t:Tok)(s:eD):RR Dt:=
 if t.kind=8 then .ok (.txt s.fresh t.text) { s with fresh:=s.fresh+1 }
 else if t.kind=9 then .ok (.kB t.n) s
 else if t.kind=12 then .ok (.cD t.n) s
 else if t.kind=14 then .ok (.sym t.text) s
 else if t.fault≠0 then .fail t.fault t.from_
 else .ok (.num t.n t.d) s
section
variable (T:List Tok)(Kj:Nat)
mutual
def ay:Nat→Pl→eD→RR Dt
 |0,_,_=> .out
 |n+1,p,s=>(aM n p s).bind λt s=>aL n t p s
def aM:Nat→Pl→eD→RR Tok
 |0,_,_=> .out
 |n+1,p,s=>
  match T[s.k]? with
  |none=> .out
  |some t=>
   if t.kind=0 then .fail 4 t.from_
   else if t.kind=1 then .fail 3 t.from_
   else if t.kind=6 then(ay n ⟨p.depth,true,[]⟩ { s with k:=s.k+1 }).bind λ_ s=>aM n p s
   else .ok t { s with k:=s.k+1 }
def aL:Nat→Tok→Pl→eD→RR Dt
 |0,_,_,_=> .out
 |n+1,t,p,s=>
  if t.kind=3∨t.kind=7 then .fail 3 t.from_
  else if t.kind=10 then
   (if p.passed∨t.n∈s.ak then .fail 5 t.from_
    else if p.depth=Kj then .fail 6 t.from_
    else(ay n ⟨p.depth+1,p.passed,p.ahead++[t.n]⟩ { s with ak:=t.n::s.ak }).bind λd s=> .ok (.put t.n d) s)
  else if t.kind=11 then(if p.passed∨t.n∉s.ak∨t.n∈p.ahead then .fail 5 t.from_ else .ok (.ask t.n) s)
  else if t.kind=2∨t.kind=5∨t.kind=4 then
   (if p.depth=Kj then .fail 6 t.from_
    else if t.kind=5 then(cy n [] ⟨p.depth+1,p.passed,[]⟩ { s with fresh:=s.fresh+1 }).bind λl s'=> .ok (.vec s.fresh (fX l)) s'
    else if t.kind=4 then(ay n ⟨p.depth+1,p.passed,[]⟩ s).bind λd s=> .ok (aU [.sym [113,117,111,116,101],d] .nil s.fresh).1 { s with fresh:=s.fresh+2 }
    else bh n [] ⟨p.depth+1,p.passed,[]⟩ s)
  else j9 t s
def bh:Nat→List Dt→Pl→eD→RR Dt
 |0,_,_,_=> .out
 |n+1,data,p,s=>
  (aM n p s).bind λt s=>
    if t.kind=3 then .ok (aU data .nil s.fresh).1 { s with fresh:=(aU data .nil s.fresh).2 }
    else if t.kind=7∧data≠[]then
     (ay n p s).bind λrest s=>(aM n p s).bind λt s=>
       if t.kind=3 then .ok (aU data rest s.fresh).1 { s with fresh:=(aU data rest s.fresh).2 } else .fail 3 t.from_
    else(aL n t p s).bind λd s=>bh n (data++[d]) p s
def cy:Nat→List Dt→Pl→eD→RR (List Dt)
 |0,_,_,_=> .out
 |n+1,data,p,s=>
  (aM n p s).bind λt s=>
    if t.kind=3 then .ok data s
    else if data.length=20 then .fail 3 t.from_
    else(aL n t p s).bind λd s=>cy n (data++[d]) p s
end
end
def aO (n:Int):Dt→Option Dt
 |.put m d=>if m=n then some d else aO n d
 |.pair _ a b=>(aO n a).orElse λ_=>aO n b
 |.vec _ l=>aO n l
 |.br a l=>(aO n a).orElse λ_=>aO n l
 |_=>none
def bQ (root:Dt):Nat→Dt→Dt
 |0,d=>d
 |n+1,.put _ d=>bQ root n d
 |n+1,.ask m=>bQ root n ((aO m root).getD .nil)
 |_+1,d=>d
structure eO where
 kind:Int
 text:List UInt8
 n:Int
 d:Int
 subs:List Nat
deriving DecidableEq
structure fP where
 nodes:List eO
 met:List (Nat×Nat)
def fP.add (g:fP)(x:eO):fP:={ g with nodes:=g.nodes++[x] }
def bE (l:List eO)(i:Nat)(s:List Nat):List eO:=l.modify i λx=>{ x with subs:=s }
end Go.Loop
namespace Go.Proofs.YtlhimdjkkiflhaaGreatDoor
open Go.Proofs.Tryz
open Go.RowKit Go.Loop
structure Env where
 α:Nat→Nat
 cE:Int→Nat
def aC (b:Nat):Λ:= .pointer (some ⟨b,0,none⟩)
mutual
def ct (lo k:Nat)(L:List Int)(w:Θ)(E:Env):Dt→Λ→Prop
 |.nil,v=>v=.iface 272 (.agg #[])
 |.sym s,v=>v=.iface 168 (.agg #[.string ⟨⟨s⟩⟩])
 |.num n d,v=>v=.iface 153 (.agg #[Γ Δ n,Γ Δ d])
 |.cD n,v=>v=.iface 155 (.agg #[Γ Δ n])
 |.kB n,v=>v=.iface 157 (.agg #[Γ Δ n])
 |.txt i s,v=>i<k∧lo≤E.α i∧v=.iface 158 (aC (E.α i))∧w.heap[E.α i]?=some (.cells #[.string ⟨⟨s⟩⟩] 218)
 |.pair i a b,v=>i<k∧lo≤E.α i∧v=.iface 150 (aC (E.α i))∧∃va vb,w.heap[E.α i]?=some (.cells #[va,vb] 161)∧ct lo k L w E a va∧ct lo k L w E b vb
 |.vec i l,v=>i<k∧lo≤E.α i∧v=.iface 163 (aC (E.α i))∧∃sl vs,w.heap[E.α i]?=some (.cells #[sl] 165)∧w.ownsRow lo 58 1 sl vs.length vs∧df lo k L w E l vs
 |.put n d,v=>n∈L∧lo≤E.cE n∧w.heap[E.cE n]?=some (.cells #[v] 215)∧ct lo k L w E d v
 |.ask n,v=>n∈L∧v=.iface 212 (aC (E.cE n))
 |.cZ,_=>False
 |.br _ _,_=>False
def df (lo k:Nat)(L:List Int)(w:Θ)(E:Env):Dt→List Λ→Prop
 |.cZ,vs=>vs=[]
 |.br a l,vs=>∃v r,vs=v::r∧ct lo k L w E a v∧df lo k L w E l r
 |_,_=>False
end
def Env.agree (E E':Env)(k:Nat)(L:List Int):Prop:=(∀i,i<k→E'.α i=E.α i)∧∀n∈L,E'.cE n=E.cE n
theorem bC {w w':Θ}{lo Fp:Nat}{e:TypeId}{z:Nat}{v:Λ}{n:Nat}{xs:List Λ}(h:w.ownsRow lo e z v n xs)(hl:Fp≤lo)(hk:∀b,lo≤b→b<w.heap.size→w'.heap[b]?=w.heap[b]?):w'.ownsRow Fp e z v n xs:=by
 refine⟨h.1,h.2.imp id ?_⟩;rintro ⟨g,cap,cur,h1,h2,h3,h4⟩;exact⟨g,cap,cur,h1,by omega,(hk g h2 (zaj.1 h3).1).trans h3,h4⟩
mutual
theorem ct.keep {lo Fp k k':Nat}{L L':List Int}{w w':Θ}{E E':Env}(hl:Fp≤lo)(hk:k≤k')(hL:∀n∈L,n∈L')(hw:∀b,lo≤b→b<w.heap.size→w'.heap[b]?=w.heap[b]?)(hE:E.agree E' k L):∀(d:Dt) (v:Λ),ct lo k L w E d v→ct Fp k' L' w' E' d v
 |.nil,v,h=>by unfold ct at h ⊢;exact h
 |.sym s,v,h=>by unfold ct at h ⊢;exact h
 |.num n d,v,h=>by unfold ct at h ⊢;exact h
 |.cD n,v,h=>by unfold ct at h ⊢;exact h
 |.kB n,v,h=>by unfold ct at h ⊢;exact h
 |.txt i s,v,h=>by
  unfold ct at h ⊢;obtain⟨h1,h2,h3,h4⟩:=h;rw[hE.1 i h1];exact⟨by omega,by omega,h3,(hw _ h2 (zaj.1 h4).1).trans h4⟩
 |.pair i a b,v,h=>by
  unfold ct at h ⊢;obtain⟨h1,h2,h3,va,vb,h4,h5,h6⟩:=h;rw[hE.1 i h1];exact⟨by omega,by omega,h3,va,vb,(hw _ h2 (zaj.1 h4).1).trans h4,ct.keep hl hk hL hw hE a va h5,ct.keep hl hk hL hw hE b vb h6⟩
 |.vec i l,v,h=>by
  unfold ct at h ⊢;obtain⟨h1,h2,h3,sl,vs,h4,h5,h6⟩:=h;rw[hE.1 i h1];exact⟨by omega,by omega,h3,sl,vs,(hw _ h2 (zaj.1 h4).1).trans h4,bC h5 hl hw,df.keep hl hk hL hw hE l vs h6⟩
 |.put n d,v,h=>by
  unfold ct at h ⊢;obtain⟨h1,h2,h3,h4⟩:=h;rw[hE.2 n h1];exact⟨hL n h1,by omega,(hw _ h2 (zaj.1 h3).1).trans h3,ct.keep hl hk hL hw hE d v h4⟩
 |.ask n,v,h=>by
  unfold ct at h ⊢;rw[hE.2 n h.1];exact⟨hL n h.1,h.2⟩
 |.cZ,v,h=>by unfold ct at h;exact h.elim
 |.br a l,v,h=>by unfold ct at h;exact h.elim
theorem df.keep {lo Fp k k':Nat}{L L':List Int}{w w':Θ}{E E':Env}(hl:Fp≤lo)(hk:k≤k')(hL:∀n∈L,n∈L')(hw:∀b,lo≤b→b<w.heap.size→w'.heap[b]?=w.heap[b]?)(hE:E.agree E' k L):∀(d:Dt) (vs:List Λ),df lo k L w E d vs→df Fp k' L' w' E' d vs
 |.cZ,vs,h=>by unfold df at h ⊢;exact h
 |.br a l,vs,h=>by
  unfold df at h ⊢;obtain⟨v,r,rfl,h1,h2⟩:=h;exact⟨v,r,rfl,ct.keep hl hk hL hw hE a v h1,df.keep hl hk hL hw hE l r h2⟩
 |.nil,vs,h=>by unfold df at h;exact h.elim
 |.sym _,vs,h=>by unfold df at h;exact h.elim
 |.num _ _,vs,h=>by unfold df at h;exact h.elim
 |.cD _,vs,h=>by unfold df at h;exact h.elim
 |.kB _,vs,h=>by unfold df at h;exact h.elim
 |.txt _ _,vs,h=>by unfold df at h;exact h.elim
 |.pair _ _ _,vs,h=>by unfold df at h;exact h.elim
 |.vec _ _,vs,h=>by unfold df at h;exact h.elim
 |.put _ _,vs,h=>by unfold df at h;exact h.elim
 |.ask _,vs,h=>by unfold df at h;exact h.elim
end
def nQ (w:Θ)(M:Nat)(l:List (Λ×Λ)):Prop:=∃es clock,w.heap[M]?=some (.map es clock)∧es.toList.map (λe=>(e.key,e.val))=l
theorem oM:∀(es:List MapEntry) (l:List (Int×Λ)) (n:Int) (i:Nat),es.map (λe=>(e.key,e.val))=l.map (λp=>(Λ.int .i64 p.1,p.2))→∃j,Instr.findNow (.int .i64) (Γ Δ n) es i=some ((l.lookup n).map λv=>(j,v))
 |[],[],n,i,_=>⟨0,rfl⟩
 |[],_::_,_,_,h=>by simp at h
 |_::_,[],_,_,h=>by simp at h
 |e::es,(m,v)::l,n,i,h=>by
  simp only[zaB,List.cons.injEq,zaf]at h;obtain⟨⟨h1,h2⟩,h3⟩:=h;unfold Instr.findNow;rw[h1];by_cases hn:n=m
  ·subst hn;refine⟨i,?_⟩;simp[Instr.sameNow,List.lookup,h2]
  ·obtain⟨j,hj⟩:=oM es l n (i+1) h3;refine⟨j,?_⟩;have:(n==m)=false:=by simpa using hn
   simp[Instr.sameNow,this,List.lookup,hj]
theorem Kk:prog.underlying 121=some (.map 3 212):=by kernel_rfl
theorem Iy:prog.underlying 3=some (.int .i64):=by kernel_rfl
theorem Fq (b:Bool)(n:Int)(w:Θ):(Instr.checkKey b 10000 3 (Γ Δ n)).run prog w=.ok () w:=by
 unfold Instr.checkKey;simp[run_underlying Iy]
theorem oN {w:Θ}{M:Nat}{l:List (Int×Λ)}(h:nQ w M (l.map λp=>(Λ.int .i64 p.1,p.2)))(n:Int):(Instr.lookup 121 (.map (some M)) (Γ Δ n) false).run prog w=.ok ((l.lookup n).getD (.pointer none)) w:=by
 obtain⟨es,clock,h1,h2⟩:=h;obtain⟨j,hj⟩:=oM es.toList l n 0 h2;have hg:(getObj M).run prog w=.ok (.map es clock) w:=by simp[getObj,Sem.run,h1]
 unfold Instr.lookup Instr.findKey;simp only[zba,zbc Kk,zbb,hg,zbd,Fq,zbc Iy,hj];cases hq:l.lookup n with
 |none=>simp
 |some v=>simp
theorem Iz {w:Θ}{M:Nat}{l:List (Int×Λ)}(h:nQ w M (l.map λp=>(Λ.int .i64 p.1,p.2)))(n:Int)(hn:l.lookup n=none)(v:Λ):∃o,(Instr.mapUpdate 121 (.map (some M)) (Γ Δ n) v).run prog w=.ok () { w with heap:=w.heap.setIfInBounds M o }∧nQ { w with heap:=w.heap.setIfInBounds M o } M ((l++[(n,v)]).map λp=>(Λ.int .i64 p.1,p.2)):=by
 obtain⟨es,clock,h1,h2⟩:=h;obtain⟨j,hj⟩:=oM es.toList l n 0 h2;rw[hn]at hj;have hlt:M<w.heap.size:=(zaj.1 h1).1;have hg:(getObj M).run prog w=.ok (.map es clock) w:=by simp[getObj,Sem.run,h1]
 refine⟨.map (es.push { key:= Γ Δ n,val:=v,born:=clock }) (clock+1),?_,es.push { key:= Γ Δ n,val:=v,born:=clock },clock+1,?_,?_⟩
 ·unfold Instr.mapUpdate Instr.findKey;simp only[zba,zbc Kk,zbb,hg,zbd,Fq,zbc Iy,hj];simp[setObj,Sem.run,h1]
 ·show(w.heap.setIfInBounds M _)[M]?=_;rw[zbG hlt]
 ·simp[h2]
end Go.Proofs.YtlhimdjkkiflhaaGreatDoor
namespace Go.Loop
def RR.good {α:Type}(T:List Tok)(k:Nat)(r:RR α):Prop:=
 match r with
 |.out=>False
 |.fail _ _=>True
 |.ok _ s'=>k≤s'.k∧s'.k<T.length
theorem RR.fh {α β:Type}{T:List Tok}{k j:Nat}{x:RR α}{f:α→eD→RR β}(h:x.good T k)(hf:∀a s,k≤s.k→s.k<T.length→(f a s).good T j):(x.bind f).good T j:=by
 cases x with
 |out=>exact h
 |fail e a=>trivial
 |ok a s=>exact hf a s h.1 h.2
theorem RR.mq {α:Type}{T:List Tok}{k j:Nat}{x:RR α}(h:x.good T k)(hj:j≤k):x.good T j:=by
 cases x with
 |out=>exact h
 |fail e a=>trivial
 |ok a s=>exact⟨zag hj h.1,h.2⟩
section
variable (T:List Tok)(dp:Nat)
structure Fuel (n:Nat):Prop where
 datum:∀p s,s.k<T.length→2*(T.length-s.k)+2≤n→(ay T dp n p s).good T (s.k+1)
 take:∀p s,s.k<T.length→2*(T.length-s.k)+1≤n→(aM T dp n p s).good T (s.k+1)
 nY:∀t p s,s.k<T.length→2*(T.length-s.k)+3≤n→(aL T dp n t p s).good T s.k
 list:∀l p s,s.k<T.length→2*(T.length-s.k)+2≤n→(bh T dp n l p s).good T (s.k+1)
 vec:∀l p s,s.k<T.length→2*(T.length-s.k)+2≤n→(cy T dp n l p s).good T (s.k+1)
theorem IB (t:Tok)(s:eD)(h:s.k<T.length):(j9 t s).good T s.k:=by
 unfold j9;repeat' split
 all_goals first|trivial|exact⟨zac _,h⟩
theorem fuel (hT:∀k t,T[k]?=some t→t.kind≠0→t.kind≠1→k+1<T.length):∀n,Fuel T dp n
 |0=>⟨λ_ _ _ h=>by omega,λ_ _ _ h=>by omega,λ_ _ _ _ h=>by omega,λ_ _ _ _ h=>by omega,λ_ _ _ _ h=>by omega⟩
 |n+1=>by
  have ih:=fuel hT n;refine⟨λp s hk hn=>?_,λp s hk hn=>?_,λt p s hk hn=>?_,λl p s hk hn=>?_,λl p s hk hn=>?_⟩
  ·unfold ay;refine RR.fh (ih.take p s hk (by omega)) λt s1 h1 h2=>?_;exact RR.mq (ih.nY t p s1 h2 (by omega)) h1
  ·unfold aM;have hs:T[s.k]?=some T[s.k]:=zat hk;rw[hs];dsimp only;split
   ·trivial
   ·rename_i h0;split
    ·trivial
    ·rename_i h1;have hlt:=hT s.k _ hs h0 h1;split
     ·refine RR.fh (ih.datum ⟨p.depth,true,[]⟩ { s with k:=s.k+1 } hlt (by show 2*(T.length-(s.k+1))+2≤n;omega)) λd s1 h2 h3=>?_;have jA:s.k+1+1≤s1.k:=h2;exact RR.mq (ih.take p s1 h3 (by omega)) (by omega)
     ·exact⟨zac _,hlt⟩
  ·unfold aL;split
   ·trivial
   ·split
    ·split
     ·trivial
     ·split
      ·trivial
      ·exact RR.fh (k:=s.k+1) (ih.datum _ { s with ak:=t.n::s.ak } hk (by show 2*(T.length-s.k)+2≤n;omega)) λd s1 h1 h2=>⟨by omega,h2⟩
    ·split
     ·split
      ·trivial
      ·exact⟨zac _,hk⟩
     ·split
      ·split
       ·trivial
       ·split
        ·exact RR.fh (k:=s.k+1) (ih.vec [] _ { s with fresh:=s.fresh+1 } hk (by show 2*(T.length-s.k)+2≤n;omega)) λd s1 h1 h2=>⟨by omega,h2⟩
        ·split
         ·exact RR.fh (k:=s.k+1) (ih.datum _ s hk (by omega)) λd s1 h1 h2=>⟨by show s.k≤s1.k;omega,h2⟩
         ·exact RR.mq (ih.list [] _ s hk (by omega)) (by omega)
      ·exact IB T t s hk
  ·unfold bh;refine RR.fh (ih.take p s hk (by omega)) λt s1 h1 h2=>?_;split
   ·exact⟨h1,h2⟩
   ·split
    ·refine RR.fh (ih.datum p s1 h2 (by omega)) λd s2 h3 h4=>?_;refine RR.fh (ih.take p s2 h4 (by omega)) λt2 s3 h5 h6=>?_;split
     ·exact⟨by show s.k+1≤s3.k;omega,h6⟩
     ·trivial
    ·refine RR.fh (ih.nY t p s1 h2 (by omega)) λd s2 h3 h4=>?_;exact RR.mq (ih.list _ p s2 h4 (by omega)) (by omega)
  ·unfold cy;refine RR.fh (ih.take p s hk (by omega)) λt s1 h1 h2=>?_;split
   ·exact⟨h1,h2⟩
   ·split
    ·trivial
    ·refine RR.fh (ih.nY t p s1 h2 (by omega)) λd s2 h3 h4=>?_;exact RR.mq (ih.vec _ p s2 h4 (by omega)) (by omega)
end
theorem lF:∀(n:Nat) (s:List UInt8) (a:Nat),a≤s.length→s.length-a<n→aw n s a≠[]∧∀k t,(aw n s a)[k]?=some t→t.kind≠0→t.kind≠1→k+1<(aw n s a).length
 |0,s,a,_,h=>by omega
 |n+1,s,a,ha,h=>by
  have hf:=ju ha;rw[aw];split
  ·rename_i hl;refine⟨by simp,λk t hk h0 h1=>?_⟩;cases k with
   |zero=>
    simp at hk;subst hk;simp[Tok.lastB]at hl;omega
   |succ k=>simp at hk
  ·rename_i hl;have hl':(aR s a).lastB=false:=by simpa using hl
   have h2:=hf.2.2 hl';have h3:=hf.2.1;have ih:=lF n s (aR s a).gw hf.2.1 (by omega);refine⟨by simp,λk t hk h0 h1=>?_⟩;cases k with
   |zero=>
    have:0<(aw n s (aR s a).gw).length:=zbT.2 ih.1;simp only[zar];omega
   |succ k=>
    rw[zcw]at hk;have:=ih.2 k t hk h0 h1;simp only[zar];omega
theorem pO:∀(n:Nat) (s:List UInt8) (a:Nat),(aw n s a).length≤n
 |0,s,a=>zac _
 |n+1,s,a=>by
  have:=pO n s (aR s a).gw;rw[aw];split
  ·simp
  ·simp;exact this
end Go.Loop
namespace Go.Proofs.YtlhimdjkkiflhaaGreatDoor
open Go.Proofs.Tryz
open Go.RowKit Go.Loop
theorem en (w:Θ)(A B:Obj):((w.alloc A).alloc B).heap[w.heap.size+1]?=some B:=by
 rw[show w.heap.size+1=(w.alloc A).heap.size by simp];exact zav _ _
theorem PU (t:Tok)(w:Θ)(hk:t.kind=8):Ξ prog 163 #[bP t] w λe w'=>∃b,e=.returned (.tuple #[.iface 158 (aC b),.pointer none])∧w.heap.size≤b∧w'.heap[b]?=some (.cells #[.string ⟨⟨t.text⟩⟩] 218)∧Φ w.heap.size w w':=by
 have q:(((t.kind:Nat):Int)==8)=true:=by rw[hk];rfl
 clear hk;unfold bP;go_enter func163,ntmps163;go_wp2_with fail;go_ret2;refine⟨w.heap.size+1,rfl,by omega,?_,?_⟩
 ·exact en w _ _
 ·(repeat (first|with_reducible refine zaG ?_ (by simp) _|with_reducible refine zaH ?_ (by simp) _));with_reducible exact zad _ _
def kg (t:Tok):Λ:=
 if t.kind=9 then .iface 157 (.agg #[Γ Δ t.n])
 else if t.kind=12 then .iface 155 (.agg #[Γ Δ t.n])
 else if t.kind=14 then .iface 168 (.agg #[.string ⟨⟨t.text⟩⟩])
 else .iface 153 (.agg #[Γ Δ t.n,Γ Δ t.d])
theorem PV (t:Tok)(w:Θ)(h8:¬t.kind=8)(hf:t.kind=9∨t.kind=12∨t.kind=14∨t.fault=0):Ξ prog 163 #[bP t] w λe w'=>e=.returned (.tuple #[kg t,.pointer none])∧Φ w.heap.size w w':=by
 have q8:(((t.kind:Nat):Int)==8)=false:=by rw[zah];omega
 by_cases h9:t.kind=9
 ·have e:Hid (kg t=.iface 157 (.agg #[Γ Δ t.n])):=zab h9;have q9:(((t.kind:Nat):Int)==9)=true:=by rw[h9];rfl
  clear h9 hf h8;unfold bP;go_enter func163,ntmps163;go_wp2_with fail;go_ret2;refine⟨by rw[e.out];rfl,?_⟩
  (repeat (first|with_reducible refine zaG ?_ (by simp) _|with_reducible refine zaH ?_ (by simp) _));with_reducible exact zad _ _
 have q9:(((t.kind:Nat):Int)==9)=false:=by rw[zah];omega
 by_cases DR:t.kind=12
 ·have e:Hid (kg t=.iface 155 (.agg #[Γ Δ t.n])):=(zaa h9).trans (zab DR);have q12:(((t.kind:Nat):Int)==12)=true:=by rw[DR];rfl
  clear h9 hf h8 DR;unfold bP;go_enter func163,ntmps163;go_wp2_with fail;go_ret2;refine⟨by rw[e.out];rfl,?_⟩
  (repeat (first|with_reducible refine zaG ?_ (by simp) _|with_reducible refine zaH ?_ (by simp) _));with_reducible exact zad _ _
 have q12:(((t.kind:Nat):Int)==12)=false:=by rw[zah];omega
 by_cases rG:t.kind=14
 ·have e:Hid (kg t=.iface 168 (.agg #[.string ⟨⟨t.text⟩⟩])):=((zaa h9).trans (zaa DR)).trans (zab rG);have q14:(((t.kind:Nat):Int)==14)=true:=by rw[rG];rfl
  clear h9 hf h8 DR rG;unfold bP;go_enter func163,ntmps163;go_wp2_with fail;go_ret2;refine⟨by rw[e.out];rfl,?_⟩
  (repeat (first|with_reducible refine zaG ?_ (by simp) _|with_reducible refine zaH ?_ (by simp) _));with_reducible exact zad _ _
 ·have q14:(((t.kind:Nat):Int)==14)=false:=by rw[zah];omega
  have e:Hid (kg t=.iface 153 (.agg #[Γ Δ t.n,Γ Δ t.d])):=((zaa h9).trans (zaa DR)).trans (zaa rG);have qf:(t.fault==0)=true:=by rw[zaJ];omega
  clear h9 hf h8 DR rG;unfold bP;go_enter func163,ntmps163;go_wp2_with fail;go_ret2;refine⟨by rw[e.out];rfl,?_⟩
  (repeat (first|with_reducible refine zaG ?_ (by simp) _|with_reducible refine zaH ?_ (by simp) _));with_reducible exact zad _ _
theorem IC (t:Tok)(w:Θ)(h:¬t.kind=8∧¬t.kind=9∧¬t.kind=12∧¬t.kind=14)(hf:¬t.fault=0):Ξ prog 163 #[bP t] w λe w'=>∃b,e=.returned (.tuple #[.nilIface,aC b])∧w'.heap[b]?=some (.cells #[Γ Δ t.fault,Γ Δ t.from_] 65)∧Φ w.heap.size w w':=by
 obtain⟨h8,h9,DR,rG⟩:=h;have q8:(((t.kind:Nat):Int)==8)=false:=by rw[zah];omega
 have q9:(((t.kind:Nat):Int)==9)=false:=by rw[zah];omega
 have q12:(((t.kind:Nat):Int)==12)=false:=by rw[zah];omega
 have q14:(((t.kind:Nat):Int)==14)=false:=by rw[zah];omega
 have qf:(t.fault==0)=false:=by rw[zah];exact hf
 have mixed:prog.follows Ω=true:=by kernel_rfl
 clear h8 h9 DR rG hf;unfold bP;go_enter func163,ntmps163;go_wp2_with fail;go_region;all_goals
  go_wp2
  go_ret2;refine⟨w.heap.size+1,rfl,?_,?_⟩
  ·exact en w _ _
  ·(repeat (first|with_reducible refine zaG ?_ (by simp) _|with_reducible refine zbf ?_ _|with_reducible refine Φ.drew ?_ |with_reducible refine zaH ?_ (by simp) _));with_reducible exact zad _ _
def fF (w:Θ)(base:Nat):List Λ→Λ→Λ→Prop
 |[],rest,v=>v=rest
 |x::vs,rest,v=>v=.iface 150 (aC (base+vs.length))∧∃v',w.heap[base+vs.length]?=some (.cells #[x,v'] 161)∧fF w base vs rest v'
theorem fF.keep {w w':Θ}{base:Nat}{rest:Λ}:∀(vs:List Λ) (v:Λ),fF w base vs rest v→(∀b,base≤b→b<w.heap.size→w'.heap[b]?=w.heap[b]?)→fF w' base vs rest v
 |[],_,h,_=>h
 |x::vs,v,⟨h1,v',h2,h3⟩,hk=>⟨h1,v',(hk _ (by omega) (zaj.1 h2).1).trans h2,fF.keep vs v' h3 hk⟩
theorem Mh (vs:List Λ)(g cap lo:Nat)(rest:Λ)(w:Θ)(hrow:w.ownsRow lo 58 1 (.slice (some ⟨g,0,none⟩) vs.length cap) vs.length vs)(hn:vs.length≤1000000)(W9:∀x∈vs,∃t y,x=.iface t y)(Xa:∃t y,rest=.iface t y):Ξ prog 221 #[.slice (some ⟨g,0,none⟩) vs.length cap,rest] w λe w'=>∃v,e=.returned v∧fF w' w.heap.size vs rest v∧w'.heap.size=w.heap.size+vs.length∧Φ w.heap.size w w':=by
 have hg:g<w.heap.size:=(hrow.lt g rfl).2;have hcell:Hid (∀(j:Nat) (x:Λ),vs[j]?=some x→w.cell? ⟨g,j,none⟩=some x):=λj x hx=>by
  have hj:j<vs.length:=(zbh.1 hx).1;rw[hrow.cellAt j (by omega),hx]
 clear hrow;go_enter func221,ntmps221;go_wp2_with fail;go_loopw [5,1] (λi r wr=>∃j:Nat,j≤vs.length∧i=Γ Δ ((j:Int)-1)∧wr.heap.size=w.heap.size+(vs.length-j)∧(∃t y,r=.iface t y)∧Hid (fF wr w.heap.size (vs.drop j) rest r)∧Hid (Φ w.heap.size w wr)) (λi _ _=>(intOf i+1).toNat)
 case atStart=>exact⟨vs.length,zac _,by go_num,by omega,Xa,by show fF _ _ _ _ _;rw[List.drop_length];rfl,zad _ _⟩
 case round=>
  obtain⟨j,hj,rfl,hsz,⟨tr,yr,rfl⟩,hC,hB⟩:=hrel;by_cases h0:j=0
  ·subst h0;go_wp2_with fail;go_ret;exact⟨_,rfl,by simpa using hC.out,by simpa using hsz,hB.out⟩
  ·obtain⟨m,rfl⟩:∃m,j=m+1:=⟨j-1,by omega⟩;have hx:vs[m]?=some vs[m]:=zat (by omega);have hc:Hid (w.cell? ⟨g,m,none⟩=some vs[m]):=hcell.out m _ hx;have hcr:=(hB.out.cell (p:=⟨g,m,none⟩) hg).trans hc.out;obtain⟨tx,yx,hxi⟩:=W9 vs[m] (zbx (by omega));have hdr:Hid (vs.drop m=vs[m]::vs.drop (m+1)):=zcD (by omega);rw[hxi]at hcr hdr;clear hx hc hxi;have hm:m<vs.length:=by omega
   rw[show(((m+1:Nat):Int)-1)=(m:Int) by omega];go_wp2_with fail;go_roundw
   case rel=>exact⟨m,by omega,rfl,by simp;omega,⟨_,_,rfl⟩,by
    show fF _ _ _ _ _;rw[hdr.out];have hl:(vs.drop (m+1)).length=vs.length-(m+1):=zau;refine⟨by rw[hl,←hsz];rfl,.iface tr yr,?_,?_⟩
    ·rw[hl,←hsz];exact zav _ _
    ·exact fF.keep _ _ hC.out λb _ h=>zaT _ _ _ h,hB.out.alloc (by omega) _⟩
   case measure=>simp[intOf]
def gI (d:Nat)(p:Bool)(av:Λ):Λ:= .agg #[Γ Δ d,.bool p,av]
def dQ (w:Θ)(b:Nat)(e:Int)(a:Nat):Prop:=w.heap[b]?=some (.cells #[Γ Δ e,Γ Δ a] 65)
theorem Mi (w:Θ)(A B C D:Obj):((((w.alloc A).alloc B).alloc C).alloc D).heap[w.heap.size+1+1+1]?=some D:=by
 rw[show w.heap.size+1+1+1=(((w.alloc A).alloc B).alloc C).heap.size by simp];exact zav _ _
theorem BD (R dp:Nat)(t:Tok)(d:Nat)(p:Bool)(a:Option Addr)(l c:Nat)(w:Θ)(hR:w.cell? ⟨R,2,none⟩=some (Γ Δ dp))(hlt:R<w.heap.size)(hd:d<1000)(hne:¬d=dp):Ξ prog 192 #[aC R,bP t,gI d p (.slice a l c)] w λe w'=>e=.returned (.tuple #[gI (d+1) p (.slice none 0 0),.pointer none])∧Φ w.heap.size w w':=by
 have mixed:prog.follows Ω=true:=by kernel_rfl
 have q:(((d:Nat):Int)==((dp:Nat):Int))=false:=by rw[zah];omega
 have l1:R<w.heap.size+1:=by omega
 have l2:R<w.heap.size+1+1:=by omega
 have n0:¬R=w.heap.size:=by omega
 have n1:¬R=w.heap.size+1:=by omega
 have n2:¬R=w.heap.size+1+1:=by omega
 unfold bP gI aC;go_enter func192,ntmps192;go_wp2_with fail;go_region;go_wp2_with fail;refine zao (v:= .tuple #[gI (d+1) p (.slice none 0 0),.pointer none]) (by simp[results,results192,gI,go_sem]) rfl ⟨rfl,?_⟩
 (repeat (first|with_reducible refine zaG ?_ (by first|(simp;done)|(simp;omega)) _|with_reducible refine Φ.drew ?_ |with_reducible refine zbf ?_ _|with_reducible refine zaH ?_ (by first|(simp;done)|(simp;omega)) _));with_reducible exact zad _ _
theorem vg (R dp:Nat)(t:Tok)(d:Nat)(p:Bool)(a:Option Addr)(l c:Nat)(w:Θ)(hR:w.cell? ⟨R,2,none⟩=some (Γ Δ dp))(hlt:R<w.heap.size)(hd:d=dp):Ξ prog 192 #[aC R,bP t,gI d p (.slice a l c)] w λe w'=>∃b,e=.returned (.tuple #[gI 0 false (.slice none 0 0),aC b])∧dQ w' b 6 t.from_∧Φ w.heap.size w w':=by
 have mixed:prog.follows Ω=true:=by kernel_rfl
 subst hd;have l1:R<w.heap.size+1:=by omega
 have l2:R<w.heap.size+1+1:=by omega
 have n0:¬R=w.heap.size:=by omega
 have n1:¬R=w.heap.size+1:=by omega
 have n2:¬R=w.heap.size+1+1:=by omega
 unfold bP gI aC;go_enter func192,ntmps192;go_wp2_with fail;go_region;go_wp2_with fail;go_region;all_goals
  go_wp2_with fail;refine zao (v:= .tuple #[gI 0 false (.slice none 0 0),aC (w.heap.size+1+1+1)]) (by simp[results,results192,gI,aC,go_sem]) rfl ⟨w.heap.size+1+1+1,rfl,?_,?_⟩
  ·exact Mi w _ _ _ _
  ·(repeat (first|with_reducible refine zaG ?_ (by first|(simp;done)|(simp;omega)) _|with_reducible refine Φ.drew ?_ |with_reducible refine zbf ?_ _|with_reducible refine zaH ?_ (by first|(simp;done)|(simp;omega)) _));with_reducible exact zad _ _
def iR (t:Tok):List Λ:=[Γ Δ t.kind,Γ Δ t.from_,Γ Δ t.gw,.string ⟨⟨t.text⟩⟩,Γ Δ t.n,Γ Δ t.d,Γ Δ t.fault]
abbrev iz (t:Tok):Obj:= .cells #[Γ Δ t.kind,Γ Δ t.from_,Γ Δ t.gw,.string ⟨⟨t.text⟩⟩,Γ Δ t.n,Γ Δ t.d,Γ Δ t.fault] 131
abbrev gW (d:Nat)(b:Bool)(a:Option Addr)(n c:Nat):Obj:= .cells #[Γ Δ d,.bool b,.slice a n c] 128
structure Kp (R M:Nat) (w w':Θ):Prop where
 os:w'.os=w.os
 tape:w'.tape=w.tape
 output:w'.output=w.output
 size:w.heap.size≤w'.heap.size
 block:∀b,b<w.heap.size→b≠R→b≠M→w'.heap[b]?=w.heap[b]?
theorem Kp.refl (R M:Nat)(w:Θ):Kp R M w w:=⟨rfl,rfl,rfl,zac _,λ_ _ _ _=>rfl⟩
theorem Kp.trans {R M:Nat}{a b c:Θ}(h:Kp R M a b)(k:Kp R M b c):Kp R M a c:=
 ⟨k.os.trans h.os,k.tape.trans h.tape,k.output.trans h.output,zag h.size k.size,λx h1 h2 h3=>(k.block x (zaI h1 h.size) h2 h3).trans (h.block x h1 h2 h3)⟩
theorem Kp.aG {R M:Nat}{w w':Θ}(h:Φ w.heap.size w w'):Kp R M w w':=⟨h.os,h.tape,h.output,h.size,λb hb _ _=>h.block b hb⟩
structure jO (R M:Nat) (A:Option Nat) (w w':Θ):Prop where
 os:w'.os=w.os
 tape:w'.tape=w.tape
 output:w'.output=w.output
 size:w.heap.size≤w'.heap.size
 block:∀b,b<w.heap.size→b≠R→b≠M→some b≠A→w'.heap[b]?=w.heap[b]?
theorem Kp.a {R M:Nat}{w w':Θ}(h:Kp R M w w')(A:Option Nat):jO R M A w w':=⟨h.os,h.tape,h.output,h.size,λb h1 h2 h3 _=>h.block b h1 h2 h3⟩
theorem jO.plain {R M:Nat}{w w':Θ}(h:jO R M none w w'):Kp R M w w':=⟨h.os,h.tape,h.output,h.size,λb h1 h2 h3=>h.block b h1 h2 h3 (by simp)⟩
theorem jO.trans {R M:Nat}{A:Option Nat}{a b c:Θ}(h:jO R M A a b)(k:jO R M A b c):jO R M A a c:=
 ⟨k.os.trans h.os,k.tape.trans h.tape,k.output.trans h.output,zag h.size k.size,λx h1 h2 h3 h4=>(k.block x (zaI h1 h.size) h2 h3 h4).trans (h.block x h1 h2 h3 h4)⟩
def vO (E:Env)(ak:List Int):List (Int×Λ):=ak.reverse.map λn=>(n,aC (E.cE n))
structure bS (w:Θ) (R M g cap:Nat) (T:List Tok) (dp:Nat) (E:Env) (s:eD):Prop where
 rm:R≠M
 gr:g≠R
 gm:g≠M
 blk:w.heap[R]?=some (.cells #[.slice (some ⟨g,0,none⟩) T.length cap,Γ Δ s.k,Γ Δ dp,.map (some M)] 123)
 row:w.ownsRow 0 131 7 (.slice (some ⟨g,0,none⟩) T.length cap) T.length (T.flatMap iR)
 lm:nQ w M ((vO E s.ak).map λp=>(Λ.int .i64 p.1,p.2))
 low:∀n∈s.ak,∃v,w.heap[E.cE n]?=some (.cells #[v] 215)
 inj:∀n∈s.ak,∀m∈s.ak,E.cE n=E.cE m→n=m
 small:T.length≤100000
 deep:dp≤30
theorem bS.lt {w:Θ}{R M g cap:Nat}{T:List Tok}{dp:Nat}{E:Env}{s:eD}(h:bS w R M g cap T dp E s):R<w.heap.size:=(zaj.1 h.blk).1
theorem bS.mlt {w:Θ}{R M g cap:Nat}{T:List Tok}{dp:Nat}{E:Env}{s:eD}(h:bS w R M g cap T dp E s):M<w.heap.size:=by
 obtain⟨es,c,h1,_⟩:=h.lm;exact(zaj.1 h1).1
theorem bS.below {w w':Θ}{R M g cap:Nat}{T:List Tok}{dp:Nat}{E:Env}{s:eD}(h:bS w R M g cap T dp E s)(hb:Φ w.heap.size w w'):bS w' R M g cap T dp E s:=by
 refine⟨h.rm,h.gr,h.gm,(hb.block R h.lt).trans h.blk,bC h.row (zac _) λb _ hlt=>hb.block b hlt,?_,λn hn=>(h.low n hn).imp λv hv=>(hb.block _ (zaj.1 hv).1).trans hv,h.inj,h.small,h.deep⟩;obtain⟨es,c,h1,h2⟩:=h.lm;exact⟨es,c,(hb.block M h.mlt).trans h1,h2⟩
structure Ext (w w':Θ) (E E':Env) (s s':eD):Prop where
 agree:E.agree E' s.fresh s.ak
 fresh:s.fresh≤s'.fresh
 ak:∀n∈s.ak,n∈s'.ak
 new:∀i,s.fresh≤i→i<s'.fresh→w.heap.size≤E'.α i∧E'.α i<w'.heap.size
 inj:∀i j,s.fresh≤i→i<s'.fresh→s.fresh≤j→j<s'.fresh→E'.α i=E'.α j→i=j
theorem Ext.refl {w w':Θ}{E:Env}{s s':eD}(hf:s'.fresh=s.fresh)(hl:s'.ak=s.ak):Ext w w' E E s s':=
 ⟨⟨λ_ _=>rfl,λ_ _=>rfl⟩,by omega,λn h=>by rw[hl];exact h,λi h1 h2=>by omega,λi j h1 h2=>by omega⟩
theorem Ext.trans {a b c:Θ}{E E' E'':Env}{s s' s'':eD}(h:Ext a b E E' s s')(k:Ext b c E' E'' s' s'')(h1:a.heap.size≤b.heap.size)(h2:b.heap.size≤c.heap.size):Ext a c E E'' s s'':=by
 have hf:=h.fresh;have kf:=k.fresh;have ag:∀i,i<s'.fresh→E''.α i=E'.α i:=k.agree.1;refine⟨⟨λi hi=>(ag i (by omega)).trans (h.agree.1 i hi),λn hn=>(k.agree.2 n (h.ak n hn)).trans (h.agree.2 n hn)⟩,by omega,λn hn=>k.ak n (h.ak n hn),λi i1 i2=>?_,λi j i1 i2 j1 j2 e=>?_⟩
 ·rcases zaw i s'.fresh with hlt|jB
  ·rw[ag i hlt];have:=h.new i i1 hlt;omega
  ·have:=k.new i jB i2;omega
 ·rcases zaw i s'.fresh with hi|hi<;>rcases zaw j s'.fresh with hj|hj
  ·rw[ag i hi,ag j hj]at e;exact h.inj i j i1 hi j1 hj e
  ·rw[ag i hi]at e;have:=h.new i i1 hi;have:=k.new j hj j2;omega
  ·rw[ag j hj]at e;have:=h.new j j1 hj;have:=k.new i hi i2;omega
  ·exact k.inj i j hi i2 hj j2 e
def jd (w:Θ)(E:Env)(s:eD)(l:List Int)(av:Λ):Prop:=w.ownsRow 0 212 1 av l.length (l.map λn=>aC (E.cE n))∧(∃a n c,av=.slice a n c)∧∀n∈l,n∈s.ak
def jP (R M g cap:Nat)(T:List Tok)(dp:Nat)(A:Option Nat)(w:Θ)(E:Env)(s:eD)(r:RR Dt)(e:Ending)(w':Θ):Prop:=
 match r with
 |.out=>True
 |.fail er a=>(∃b,e=.returned (.tuple #[.nilIface,aC b])∧dQ w' b er a)∧jO R M A w w'
 |.ok d s'=>∃v E',e=.returned (.tuple #[v,.pointer none])∧(∃t y,v=.iface t y)∧ct w.heap.size s'.fresh s'.ak w' E' d v∧Ext w w' E E' s s'∧bS w' R M g cap T dp E' s'∧jO R M A w w'
def OkT (R M g cap:Nat)(T:List Tok)(dp:Nat)(w:Θ)(E:Env)(s:eD)(r:RR Tok)(e:Ending)(w':Θ):Prop:=
 match r with
 |.out=>True
 |.fail er a=>(∃b t,e=.returned (.tuple #[bP t,aC b])∧dQ w' b er a)∧Kp R M w w'
 |.ok t s'=>∃E',e=.returned (.tuple #[bP t,.pointer none])∧Ext w w' E E' s s'∧bS w' R M g cap T dp E' s'∧Kp R M w w'
theorem sR {T:List Tok}{dp:Nat}:∀n p s t s',aM T dp n p s=.ok t s'→t∈T
 |0,p,s,t,s',h=>by unfold aM at h;cases h
 |n+1,p,s,t,s',h=>by
  unfold aM at h;split at h
  ·cases h
  ·rename_i t0 ID;split at h
   ·cases h
   ·split at h
    ·cases h
    ·split at h
     ·cases hD:ay T dp n ⟨p.depth,true,[]⟩ { s with k:=s.k+1 } with
      |out=>rw[hD]at h;cases h
      |fail e a=>rw[hD]at h;cases h
      |ok d s1=>rw[hD]at h;exact sR n p s1 t s' h
     ·cases h;exact zbr ID
section
variable (R M g cap:Nat)(T:List Tok)(dp:Nat)
structure IH (n:Nat):Prop where
 datum:∀p av w E s,bS w R M g cap T dp E s→jd w E s p.ahead av→(p.depth≤dp∧p.ahead.length≤p.depth)→ay T dp n p s≠.out→Ξ prog 67 #[aC R,gI p.depth p.passed av] w λe w'=>jP R M g cap T dp av.ownBlock w E s (ay T dp n p s) e w'
 take:∀p av w E s,bS w R M g cap T dp E s→jd w E s p.ahead av→(p.depth≤dp∧p.ahead.length≤p.depth)→aM T dp n p s≠.out→Ξ prog 105 #[aC R,gI p.depth p.passed av] w λe w'=>OkT R M g cap T dp w E s (aM T dp n p s) e w'
 nY:∀t p av w E s,t∈T→bS w R M g cap T dp E s→jd w E s p.ahead av→(p.depth≤dp∧p.ahead.length≤p.depth)→aL T dp n t p s≠.out→Ξ prog 106 #[aC R,bP t,gI p.depth p.passed av] w λe w'=>jP R M g cap T dp av.ownBlock w E s (aL T dp n t p s) e w'
def Fx:Prop:=∀N,(∀n,n≤N→IH R M g cap T dp n)→∀(p:Pl),p.ahead=[]→∀(w:Θ) (E:Env) (s:eD),bS w R M g cap T dp E s→(p.depth≤dp∧p.ahead.length≤p.depth)→∀r:RR Dt,(r=(cy T dp (N+1) [] p { s with fresh:=s.fresh+1 }).bind λl s'=> .ok (.vec s.fresh (fX l)) s')→r≠.out→Ξ prog 194 #[aC R,gI p.depth p.passed (.slice none 0 0)] w λe w'=>jP R M g cap T dp none w E s r e w'
def Fy:Prop:=∀n,IH R M g cap T dp n→∀(p:Pl),p.ahead=[]→∀(w:Θ) (E:Env) (s:eD),bS w R M g cap T dp E s→(p.depth≤dp∧p.ahead.length≤p.depth)→∀r:RR Dt,(r=(ay T dp n p s).bind λd s=> .ok (aU [.sym [113,117,111,116,101],d] .nil s.fresh).1 { s with fresh:=s.fresh+2 })→r≠.out→Ξ prog 195 #[aC R,gI p.depth p.passed (.slice none 0 0)] w λe w'=>jP R M g cap T dp none w E s r e w'
end
theorem Ext.wid {w w1 w2 w3:Θ}{E E':Env}{s s':eD}(h:Ext w1 w2 E E' s s')(h1:w.heap.size≤w1.heap.size)(h2:w2.heap.size≤w3.heap.size):Ext w w3 E E' s s':=
 ⟨h.agree,h.fresh,h.ak,λi a b=>by have:=h.new i a b;omega,h.inj⟩
theorem jd.kp {w w':Θ}{R M g cap:Nat}{T:List Tok}{dp:Nat}{E E':Env}{s s':eD}{l:List Int}{av:Λ}(h:jd w E s l av)(hr:bS w R M g cap T dp E s)(hk:Kp R M w w')(ha:E.agree E' s.fresh s.ak)(hl:∀n∈s.ak,n∈s'.ak):jd w' E' s' l av:=by
 refine⟨?_,h.2.1,λn hn=>hl n (h.2.2 n hn)⟩;have e:(l.map λn=>aC (E'.cE n))=l.map λn=>aC (E.cE n):=List.map_congr_left λn hn=>by rw[ha.2 n (h.2.2 n hn)]
 rw[e];refine⟨h.1.1,h.1.2.imp id ?_⟩;rintro ⟨b,cp,cur,h1,h2,h3,h4⟩;have hlt:b<w.heap.size:=(zaj.1 h3).1;have hR:b≠R:=λe=>by rw[e,hr.blk]at h3;simp at h3
 have hM:b≠M:=λe=>by obtain⟨es,c,q,_⟩:=hr.lm;rw[e,q]at h3;cases h3
 exact⟨b,cp,cur,h1,h2,(hk.block b hlt hR hM).trans h3,h4⟩
theorem jd.below {w w':Θ}{E:Env}{s:eD}{l:List Int}{av:Λ}(h:jd w E s l av)(hb:Φ w.heap.size w w'):jd w' E s l av:=
 ⟨bC h.1 (zac _) λb _ hlt=>hb.block b hlt,h.2.1,h.2.2⟩
theorem dQ.alloc {w:Θ}{b:Nat}{e:Int}{a:Nat}(h:dQ w b e a)(o:Obj):dQ (w.alloc o) b e a:=(zaT _ _ _ (zaj.1 h).1).trans h
theorem fG {w1:Θ}{b:Nat}{x0 x1 x2:Λ}{e:TypeId}(h:w1.heap[b]?=some (.cells #[x0,x1,x2] e)):(w1.cell? ⟨b,0,none⟩=some x0∧w1.cell? ⟨b,1,none⟩=some x1∧w1.cell? ⟨b,2,none⟩=some x2):=by
 refine⟨?_,?_,?_⟩<;>simp[Θ.cell?,h]
section
variable {R M g cap:Nat}{T:List Tok}{dp:Nat}
theorem IE {N:Nat}(ih:IH R M g cap T dp N)(p:Pl)(av:Λ)(w:Θ)(E:Env)(s:eD)(hr:bS w R M g cap T dp E s)(ha:jd w E s p.ahead av)(hd:p.depth≤dp∧p.ahead.length≤p.depth)(ho:ay T dp (N+1) p s≠.out):Ξ prog 67 #[aC R,gI p.depth p.passed av] w λe w'=>jP R M g cap T dp av.ownBlock w E s (ay T dp (N+1) p s) e w':=by
 have heq:ay T dp (N+1) p s=(aM T dp N p s).bind λt s=>aL T dp N t p s:=rfl;rw[heq]at ho ⊢;obtain⟨⟨a0,n0,c0,rfl⟩⟩:=(⟨ha.2.1⟩:Nonempty _);have hb0:Φ w.heap.size w (w.alloc (gW p.depth p.passed a0 n0 c0)):=(zad _ w).alloc (zac _) _;have HR:Hid _:=hr.below hb0;have HA:Hid _:=ha.below hb0;have HB:Hid _:=hb0;have HP:Hid _:=zav w (gW p.depth p.passed a0 n0 c0);have PW:(w.alloc (gW p.depth p.passed a0 n0 c0)).heap.size=w.heap.size+1:=by simp
 have hne:aM T dp N p s≠.out:=λh=>ho (by rw[h];rfl);have HT:Hid _:=ih.take p (.slice a0 n0 c0) _ E s HR.out HA.out hd hne;have NH:R<w.heap.size:=hr.lt;have lS:M<w.heap.size:=hr.mlt;have HI:Hid _:=ih;have HO:Hid _:=ho;clear hr ha hb0 ih ho heq hne;generalize hw0:w.alloc (gW p.depth p.passed a0 n0 c0)=w0 at *;have NJ:Hid _:=hw0;clear hw0;cases hT:aM T dp N p s with
 |out=>exact absurd (by rw[hT];rfl) HO.out
 |fail er a=>
  rw[hT]at HT;unfold gI aC at HT ⊢;go_enter func67,ntmps67;go_wp2_with fail;rw[NJ.out];refine zai HT.out ?_;rintro e w1 ⟨⟨b,t,rfl,hf⟩,hk⟩;have HF:Hid _:=hf;have HK:Hid _:=hk;clear hf hk HT;unfold bP aC;go_wp2_with fail;go_ret2;have hs1:=HK.out.size;exact⟨⟨b,rfl,dQ.alloc HF.out _⟩,((Kp.aG HB.out).trans (Kp.trans HK.out (Kp.aG ((zad _ _).alloc (zac _) _)))).a _⟩
 |ok t s1=>
  have HMt:Hid (t∈T):=sR _ _ _ _ _ hT;rw[hT]at HT;have HO':Hid (aL T dp N t p s1≠.out):=by have:=HO.out;rw[hT]at this;exact this
  unfold gI aC at HT ⊢;go_enter func67,ntmps67;go_wp2_with fail;rw[NJ.out];refine zai HT.out ?_;rintro e w1 ⟨E1,rfl,hx,hr1,hk⟩;have Ag:=(hk.block w.heap.size (by omega) (by omega) (by omega)).trans HP.out;obtain⟨x0,x1,x2⟩:=fG Ag;have hs1:=hk.size;have hl0:w.heap.size<w1.heap.size:=by omega
  have rq:¬w.heap.size=w1.heap.size:=by omega
  have hl2:¬w1.heap.size=w.heap.size:=by omega
  have hb1:Φ w1.heap.size w1 (w1.alloc (iz t)):=(zad _ _).alloc (zac _) _;have wO:Hid _:=hr1.below hb1;have HA1:Hid _:=jd.below (jd.kp HA.out HR.out hk hx.agree hx.ak) hb1;have HF:Hid _:=HI.out.nY t p (.slice a0 n0 c0) _ E1 s1 HMt.out wO.out HA1.out hd HO'.out;have HX:Hid _:=hx;have HK:Hid _:=hk;have jb:Hid _:=hb1;clear hx hk hr1 hb1 HT Ag;unfold bP aC gI at HF;unfold bP;go_wp2_with fail;refine zai HF.out ?_;clear HF;intro e2 w2 cG;have eF:Kp R M w (w1.alloc (iz t)):=(Kp.aG HB.out).trans (Kp.trans HK.out (Kp.aG jb.out));have SR:Ext w (w1.alloc (iz t)) E E1 s s1:=Ext.wid HX.out (by omega) (by simp);generalize w1.alloc (iz t)=w3 at *;cases hF:aL T dp N t p s1 with
  |out=>exact absurd hF HO'.out
  |fail er a=>
   rw[hF]at cG;obtain⟨⟨b,rfl,hf⟩,hk2⟩:=cG;have HG:Hid (jP R M g cap T dp (Λ.slice a0 n0 c0).ownBlock w E s (RR.fail er a) (.returned (.tuple #[.nilIface,aC b])) w2):=⟨⟨b,rfl,hf⟩,(eF.a _).trans hk2⟩;have HE:Hid (((RR.ok t s1).bind λt s=>aL T dp N t p s)=RR.fail er a):=hF;clear hf hk2 eF SR;unfold aC;go_wp2_with fail;go_ret2;rw[HE.out];exact HG.out
  |ok d s2=>
   rw[hF]at cG;obtain⟨v,E2,rfl,⟨ty,y,rfl⟩,cK,hx2,hr2,hk2⟩:=cG;have h3:=eF.size;have h4:=hk2.size;have HG:Hid (jP R M g cap T dp (Λ.slice a0 n0 c0).ownBlock w E s (RR.ok d s2) (.returned (.tuple #[.iface ty y,.pointer none])) w2):=
    ⟨.iface ty y,E2,rfl,⟨ty,y,rfl⟩,ct.keep h3 (zac _) (λ_ h=>h) (λ_ _ _=>rfl) ⟨λ_ _=>rfl,λ_ _=>rfl⟩ d _ cK,SR.trans hx2 h3 h4,hr2,(eF.a _).trans hk2⟩
   have HE:Hid (((RR.ok t s1).bind λt s=>aL T dp N t p s)=RR.ok d s2):=hF;clear cK hx2 hr2 hk2 eF SR;go_wp2_with fail;go_ret2;rw[HE.out];exact HG.out
end
end Go.Proofs.YtlhimdjkkiflhaaGreatDoor
namespace Go.Proofs.YtlhimdjkkiflhaaGreatDoor
open Go.RowKit Go.Loop
theorem RR.bk {α β:Type}{x:RR α}{f:α→eD→RR β}{b:β}{s':eD}(h:x.bind f=.ok b s'):∃a s1,x=.ok a s1∧f a s1=.ok b s':=by
 cases x with
 |out=>cases h
 |fail e a=>cases h
 |ok a s1=>exact⟨a,s1,rfl,h⟩
section
variable (T:List Tok)(dp:Nat)
structure aa4 (n:Nat):Prop where
 datum:∀p s d s',ay T dp n p s=.ok d s'→s.k≤s'.k
 take:∀p s d s',aM T dp n p s=.ok d s'→s.k≤s'.k
 nY:∀t p s d s',aL T dp n t p s=.ok d s'→s.k≤s'.k
 list:∀l p s d s',bh T dp n l p s=.ok d s'→s.k≤s'.k
 vec:∀l p s d s',cy T dp n l p s=.ok d s'→s.k≤s'.k
theorem grows:∀n,aa4 T dp n
 |0=>⟨λ_ _ _ _ h=>(by unfold ay at h;cases h),λ_ _ _ _ h=>(by unfold aM at h;cases h),λ_ _ _ _ _ h=>(by unfold aL at h;cases h),λ_ _ _ _ _ h=>(by unfold bh at h;cases h),λ_ _ _ _ _ h=>(by unfold cy at h;cases h)⟩
 |n+1=>by
  have ih:=grows n;refine⟨λp s d s' h=>?_,λp s d s' h=>?_,λt p s d s' h=>?_,λl p s d s' h=>?_,λl p s d s' h=>?_⟩
  ·unfold ay at h;obtain⟨t,s1,h1,h2⟩:=RR.bk h;have:=ih.take _ _ _ _ h1;have:=ih.nY _ _ _ _ _ h2;omega
  ·unfold aM at h;split at h
   ·cases h
   ·split at h
    ·cases h
    ·split at h
     ·cases h
     ·split at h
      ·obtain⟨t,s1,h1,h2⟩:=RR.bk h;have:=ih.datum _ _ _ _ h1;have:=ih.take _ _ _ _ h2;simp at *;omega
      ·cases h;simp
  ·unfold aL at h;split at h
   ·cases h
   ·split at h
    ·split at h
     ·cases h
     ·split at h
      ·cases h
      ·obtain⟨t,s1,h1,h2⟩:=RR.bk h;have:=ih.datum _ _ _ _ h1;cases h2;exact this
    ·split at h
     ·split at h
      ·cases h
      ·cases h;exact zac _
     ·split at h
      ·split at h
       ·cases h
       ·split at h
        ·obtain⟨t,s1,h1,h2⟩:=RR.bk h;have:=ih.vec _ _ _ _ _ h1;cases h2;exact this
        ·split at h
         ·obtain⟨t,s1,h1,h2⟩:=RR.bk h;have:=ih.datum _ _ _ _ h1;cases h2;exact this
         ·exact ih.list _ _ _ _ _ h
      ·unfold j9 at h;repeat' split at h
       all_goals first|(cases h;done)|(cases h;exact zac _)
  ·unfold bh at h;obtain⟨t,s1,h1,h2⟩:=RR.bk h;have a1:=ih.take _ _ _ _ h1;split at h2
   ·cases h2;exact a1
   ·split at h2
    ·obtain⟨r,s2,h3,h4⟩:=RR.bk h2;have a2:=ih.datum _ _ _ _ h3;obtain⟨r',s3,h5,h6⟩:=RR.bk h4;have a3:=ih.take _ _ _ _ h5;split at h6
     ·cases h6;simp;omega
     ·cases h6
    ·obtain⟨r,s2,h3,h4⟩:=RR.bk h2;have a2:=ih.nY _ _ _ _ _ h3;have a3:=ih.list _ _ _ _ _ h4;omega
  ·unfold cy at h;obtain⟨t,s1,h1,h2⟩:=RR.bk h;have a1:=ih.take _ _ _ _ h1;split at h2
   ·cases h2;exact a1
   ·split at h2
    ·cases h2
    ·obtain⟨r,s2,h3,h4⟩:=RR.bk h2;have a2:=ih.nY _ _ _ _ _ h3;have a3:=ih.vec _ _ _ _ _ h4;omega
end
end Go.Proofs.YtlhimdjkkiflhaaGreatDoor
