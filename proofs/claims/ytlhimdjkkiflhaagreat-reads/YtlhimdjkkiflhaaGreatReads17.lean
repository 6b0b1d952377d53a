import Derived.Test.YtlhimdjkkiflhaaGreatReads16
set_option maxHeartbeats 8000000
set_option maxRecDepth 100000
open Go.Value renaming int→Γ
open Go.IntKind renaming i64→Δ
open Go renaming World→Θ,Value→Λ,Calls→Ξ
open Go.RowKit renaming Below→Φ
open Go.Departure renaming mixedOrders→Ω
namespace Go.Loop
inductive Dt where
 |nil
 |sym (s:List UInt8)
 |num (n d:Int)
 |dI (n:Int)
 |oY (n:Int)
 |txt (i:Nat) (s:List UInt8)
 |pair (i:Nat) (a b:Dt)
 |vec (i:Nat) (l:Dt)
 |ee
 |bD (a l:Dt)
 |put (n:Int) (d:Dt)
 |ask (n:Int)
deriving DecidableEq
structure eA where
 k:Nat
 fresh:Nat
 ax:List Int
deriving DecidableEq
structure Pl where
 depth:Nat
 passed:Bool
 ahead:List Int
inductive RR (α:Type) where
 |out
 |fail (e:Int) (at_:Nat)
 |ok (a:α) (s:eA)
def RR.bind {α β:Type}(x:RR α)(f:α→eA→RR β):RR β:=
 match x with
 |.out=> .out
 |.fail e a=> .fail e a
 |.ok a s=>f a s
def aU:List Dt→Dt→Nat→Dt×Nat
 |[],rest,i=>(rest,i)
 |d::l,rest,i=>(.pair (aU l rest i).2 d (aU l rest i).1,(aU l rest i).2+1)
def fG:List Dt→Dt
 |[]=> .ee
 |d::l=> .bD d (fG l)
def uv (t:Tok)(s:eA):RR Dt:=
 if t.kind=8 then .ok (.txt s.fresh t.text) { s with fresh:=s.fresh+1 }
 else if t.kind=9 then .ok (.oY t.n) s
 else if t.kind=12 then .ok (.dI t.n) s
 else if t.kind=14 then .ok (.sym t.text) s
 else if t.fault≠0 then .fail t.fault t.from_
 else .ok (.num t.n t.d) s
section
variable (T:List Tok)(rI:Nat)
mutual
def aI:Nat→Pl→eA→RR Dt
 |0,_,_=> .out
 |n+1,p,s=>(aM n p s).bind λt s=>bQ n t p s
def aM:Nat→Pl→eA→RR Tok
 |0,_,_=> .out
 |n+1,p,s=>
  match T[s.k]? with
  |none=> .out
  |some t=>
   if t.kind=0 then .fail 4 t.from_
   else if t.kind=1 then .fail 3 t.from_
   else if t.kind=6 then(aI n ⟨p.depth,true,[]⟩ { s with k:=s.k+1 }).bind λ_ s=>aM n p s
   else .ok t { s with k:=s.k+1 }
def bQ:Nat→Tok→Pl→eA→RR Dt
 |0,_,_,_=> .out
 |n+1,t,p,s=>
  if t.kind=3∨t.kind=7 then .fail 3 t.from_
  else if t.kind=10 then
   (if p.passed∨t.n∈s.ax then .fail 5 t.from_
    else if p.depth=rI then .fail 6 t.from_
    else(aI n ⟨p.depth+1,p.passed,p.ahead++[t.n]⟩ { s with ax:=t.n::s.ax }).bind λd s=> .ok (.put t.n d) s)
  else if t.kind=11 then(if p.passed∨t.n∉s.ax∨t.n∈p.ahead then .fail 5 t.from_ else .ok (.ask t.n) s)
  else if t.kind=2∨t.kind=5∨t.kind=4 then
   (if p.depth=rI then .fail 6 t.from_
    else if t.kind=5 then(eF n [] ⟨p.depth+1,p.passed,[]⟩ { s with fresh:=s.fresh+1 }).bind λl s'=> .ok (.vec s.fresh (fG l)) s'
    else if t.kind=4 then(aI n ⟨p.depth+1,p.passed,[]⟩ s).bind λd s=> .ok (aU [.sym [113,117,111,116,101],d] .nil s.fresh).1 { s with fresh:=s.fresh+2 }
    else cg n [] ⟨p.depth+1,p.passed,[]⟩ s)
  else uv t s
def cg:Nat→List Dt→Pl→eA→RR Dt
 |0,_,_,_=> .out
 |n+1,data,p,s=>
  (aM n p s).bind λt s=>
    if t.kind=3 then .ok (aU data .nil s.fresh).1 { s with fresh:=(aU data .nil s.fresh).2 }
    else if t.kind=7∧data≠[]then
     (aI n p s).bind λrest s=>(aM n p s).bind λt s=>
       if t.kind=3 then .ok (aU data rest s.fresh).1 { s with fresh:=(aU data rest s.fresh).2 } else .fail 3 t.from_
    else(bQ n t p s).bind λd s=>cg n (data++[d]) p s
def eF:Nat→List Dt→Pl→eA→RR (List Dt)
 |0,_,_,_=> .out
 |n+1,data,p,s=>
  (aM n p s).bind λt s=>
    if t.kind=3 then .ok data s
    else if data.length=20 then .fail 3 t.from_
    else(bQ n t p s).bind λd s=>eF n (data++[d]) p s
end
end
def aJ (n:Int):Dt→Option Dt
 |.put m d=>if m=n then some d else aJ n d
 |.pair _ a b=>(aJ n a).orElse λ_=>aJ n b
 |.vec _ l=>aJ n l
 |.bD a l=>(aJ n a).orElse λ_=>aJ n l
 |_=>none
def bY (root:Dt):Nat→Dt→Dt
 |0,d=>d
 |n+1,.put _ d=>bY root n d
 |n+1,.ask m=>bY root n ((aJ m root).getD .nil)
 |_+1,d=>d
structure dF where
 kind:Int
 text:List UInt8
 n:Int
 d:Int
 subs:List Nat
deriving DecidableEq
structure jF where
 nodes:List dF
 met:List (Nat×Nat)
def jF.add (g:jF)(x:dF):jF:={ g with nodes:=g.nodes++[x] }
def bP (l:List dF)(i:Nat)(s:List Nat):List dF:=l.modify i λx=>{ x with subs:=s }
end Go.Loop
namespace Go.Proofs.YtlhimdjkkiflhaaGreat
open Go.Proofs.Tryz
open Go.RowKit Go.Loop
structure Env where
 α:Nat→Nat
 bT:Int→Nat
def ai (b:Nat):Λ:= .pointer (some ⟨b,0,none⟩)
mutual
def bX (lo k:Nat)(L:List Int)(w:Θ)(E:Env):Dt→Λ→Prop
 |.nil,v=>v=.iface 188 (.agg #[])
 |.sym s,v=>v=.iface 133 (.agg #[.string ⟨⟨s⟩⟩])
 |.num n d,v=>v=.iface 136 (.agg #[Γ Δ n,Γ Δ d])
 |.dI n,v=>v=.iface 138 (.agg #[Γ Δ n])
 |.oY n,v=>v=.iface 140 (.agg #[Γ Δ n])
 |.txt i s,v=>i<k∧lo≤E.α i∧v=.iface 130 (ai (E.α i))∧w.heap[E.α i]?=some (.cells #[.string ⟨⟨s⟩⟩] 159)
 |.pair i a b,v=>i<k∧lo≤E.α i∧v=.iface 122 (ai (E.α i))∧∃va vb,w.heap[E.α i]?=some (.cells #[va,vb] 125)∧bX lo k L w E a va∧bX lo k L w E b vb
 |.vec i l,v=>i<k∧lo≤E.α i∧v=.iface 127 (ai (E.α i))∧∃sl vs,w.heap[E.α i]?=some (.cells #[sl] 129)∧w.ownsRow lo 31 1 sl vs.length vs∧cT lo k L w E l vs
 |.put n d,v=>n∈L∧lo≤E.bT n∧w.heap[E.bT n]?=some (.cells #[v] 157)∧bX lo k L w E d v
 |.ask n,v=>n∈L∧v=.iface 154 (ai (E.bT n))
 |.ee,_=>False
 |.bD _ _,_=>False
def cT (lo k:Nat)(L:List Int)(w:Θ)(E:Env):Dt→List Λ→Prop
 |.ee,vs=>vs=[]
 |.bD a l,vs=>∃v r,vs=v::r∧bX lo k L w E a v∧cT lo k L w E l r
 |_,_=>False
end
def Env.agree (E E':Env)(k:Nat)(L:List Int):Prop:=(∀i,i<k→E'.α i=E.α i)∧∀n∈L,E'.bT n=E.bT n
theorem aT {w w':Θ}{lo My:Nat}{e:TypeId}{z:Nat}{v:Λ}{n:Nat}{xs:List Λ}(h:w.ownsRow lo e z v n xs)(hl:My≤lo)(hk:∀b,lo≤b→b<w.heap.size→w'.heap[b]?=w.heap[b]?):w'.ownsRow My e z v n xs:=by
 refine⟨h.1,h.2.imp id ?_⟩;rintro ⟨g,cap,cur,h1,h2,h3,h4⟩;exact⟨g,cap,cur,h1,by omega,(hk g h2 (zag.1 h3).1).trans h3,h4⟩
mutual
theorem bX.keep {lo My k k':Nat}{L L':List Int}{w w':Θ}{E E':Env}(hl:My≤lo)(hk:k≤k')(hL:∀n∈L,n∈L')(hw:∀b,lo≤b→b<w.heap.size→w'.heap[b]?=w.heap[b]?)(hE:E.agree E' k L):∀(d:Dt) (v:Λ),bX lo k L w E d v→bX My k' L' w' E' d v
 |.nil,v,h=>by unfold bX at h ⊢;exact h
 |.sym s,v,h=>by unfold bX at h ⊢;exact h
 |.num n d,v,h=>by unfold bX at h ⊢;exact h
 |.dI n,v,h=>by unfold bX at h ⊢;exact h
 |.oY n,v,h=>by unfold bX at h ⊢;exact h
 |.txt i s,v,h=>by
  unfold bX at h ⊢;obtain⟨h1,h2,h3,h4⟩:=h;rw[hE.1 i h1];exact⟨by omega,by omega,h3,(hw _ h2 (zag.1 h4).1).trans h4⟩
 |.pair i a b,v,h=>by
  unfold bX at h ⊢;obtain⟨h1,h2,h3,va,vb,h4,h5,h6⟩:=h;rw[hE.1 i h1];exact⟨by omega,by omega,h3,va,vb,(hw _ h2 (zag.1 h4).1).trans h4,bX.keep hl hk hL hw hE a va h5,bX.keep hl hk hL hw hE b vb h6⟩
 |.vec i l,v,h=>by
  unfold bX at h ⊢;obtain⟨h1,h2,h3,sl,vs,h4,h5,h6⟩:=h;rw[hE.1 i h1];exact⟨by omega,by omega,h3,sl,vs,(hw _ h2 (zag.1 h4).1).trans h4,aT h5 hl hw,cT.keep hl hk hL hw hE l vs h6⟩
 |.put n d,v,h=>by
  unfold bX at h ⊢;obtain⟨h1,h2,h3,h4⟩:=h;rw[hE.2 n h1];exact⟨hL n h1,by omega,(hw _ h2 (zag.1 h3).1).trans h3,bX.keep hl hk hL hw hE d v h4⟩
 |.ask n,v,h=>by
  unfold bX at h ⊢;rw[hE.2 n h.1];exact⟨hL n h.1,h.2⟩
 |.ee,v,h=>by unfold bX at h;exact h.elim
 |.bD a l,v,h=>by unfold bX at h;exact h.elim
theorem cT.keep {lo My k k':Nat}{L L':List Int}{w w':Θ}{E E':Env}(hl:My≤lo)(hk:k≤k')(hL:∀n∈L,n∈L')(hw:∀b,lo≤b→b<w.heap.size→w'.heap[b]?=w.heap[b]?)(hE:E.agree E' k L):∀(d:Dt) (vs:List Λ),cT lo k L w E d vs→cT My k' L' w' E' d vs
 |.ee,vs,h=>by unfold cT at h ⊢;exact h
 |.bD a l,vs,h=>by
  unfold cT at h ⊢;obtain⟨v,r,rfl,h1,h2⟩:=h;exact⟨v,r,rfl,bX.keep hl hk hL hw hE a v h1,cT.keep hl hk hL hw hE l r h2⟩
 |.nil,vs,h=>by unfold cT at h;exact h.elim
 |.sym _,vs,h=>by unfold cT at h;exact h.elim
 |.num _ _,vs,h=>by unfold cT at h;exact h.elim
 |.dI _,vs,h=>by unfold cT at h;exact h.elim
 |.oY _,vs,h=>by unfold cT at h;exact h.elim
 |.txt _ _,vs,h=>by unfold cT at h;exact h.elim
 |.pair _ _ _,vs,h=>by unfold cT at h;exact h.elim
 |.vec _ _,vs,h=>by unfold cT at h;exact h.elim
 |.put _ _,vs,h=>by unfold cT at h;exact h.elim
 |.ask _,vs,h=>by unfold cT at h;exact h.elim
end
def mX (w:Θ)(M:Nat)(l:List (Λ×Λ)):Prop:=∃es clock,w.heap[M]?=some (.map es clock)∧es.toList.map (λe=>(e.key,e.val))=l
theorem nX:∀(es:List MapEntry) (l:List (Int×Λ)) (n:Int) (i:Nat),es.map (λe=>(e.key,e.val))=l.map (λp=>(Λ.int .i64 p.1,p.2))→∃j,Instr.findNow (.int .i64) (Γ Δ n) es i=some ((l.lookup n).map λv=>(j,v))
 |[],[],n,i,_=>⟨0,rfl⟩
 |[],_::_,_,_,h=>by simp at h
 |_::_,[],_,_,h=>by simp at h
 |e::es,(m,v)::l,n,i,h=>by
  simp only[zaC,List.cons.injEq,zah]at h;obtain⟨⟨h1,h2⟩,h3⟩:=h;unfold Instr.findNow;rw[h1];by_cases hn:n=m
  ·subst hn;refine⟨i,?_⟩;simp[Instr.sameNow,List.lookup,h2]
  ·obtain⟨j,hj⟩:=nX es l n (i+1) h3;refine⟨j,?_⟩;have:(n==m)=false:=by simpa using hn
   simp[Instr.sameNow,this,List.lookup,hj]
theorem Hn:prog.underlying 66=some (.map 3 154):=by kernel_rfl
theorem FU:prog.underlying 3=some (.int .i64):=by kernel_rfl
theorem Dj (b:Bool)(n:Int)(w:Θ):(Instr.checkKey b 10000 3 (Γ Δ n)).run prog w=.ok () w:=by
 unfold Instr.checkKey;simp[run_underlying FU]
theorem nY {w:Θ}{M:Nat}{l:List (Int×Λ)}(h:mX w M (l.map λp=>(Λ.int .i64 p.1,p.2)))(n:Int):(Instr.lookup 66 (.map (some M)) (Γ Δ n) false).run prog w=.ok ((l.lookup n).getD (.pointer none)) w:=by
 obtain⟨es,clock,h1,h2⟩:=h;obtain⟨j,hj⟩:=nX es.toList l n 0 h2;have hg:(getObj M).run prog w=.ok (.map es clock) w:=by simp[getObj,Sem.run,h1]
 unfold Instr.lookup Instr.findKey;simp only[zbb,zba Hn,zbc,hg,zbf,Dj,zba FU,hj];cases hq:l.lookup n with
 |none=>simp
 |some v=>simp
theorem FW {w:Θ}{M:Nat}{l:List (Int×Λ)}(h:mX w M (l.map λp=>(Λ.int .i64 p.1,p.2)))(n:Int)(hn:l.lookup n=none)(v:Λ):∃o,(Instr.mapUpdate 66 (.map (some M)) (Γ Δ n) v).run prog w=.ok () { w with heap:=w.heap.setIfInBounds M o }∧mX { w with heap:=w.heap.setIfInBounds M o } M ((l++[(n,v)]).map λp=>(Λ.int .i64 p.1,p.2)):=by
 obtain⟨es,clock,h1,h2⟩:=h;obtain⟨j,hj⟩:=nX es.toList l n 0 h2;rw[hn]at hj;have hlt:M<w.heap.size:=(zag.1 h1).1;have hg:(getObj M).run prog w=.ok (.map es clock) w:=by simp[getObj,Sem.run,h1]
 refine⟨.map (es.push { key:= Γ Δ n,val:=v,born:=clock }) (clock+1),?_,es.push { key:= Γ Δ n,val:=v,born:=clock },clock+1,?_,?_⟩
 ·unfold Instr.mapUpdate Instr.findKey;simp only[zbb,zba Hn,zbc,hg,zbf,Dj,zba FU,hj];simp[setObj,Sem.run,h1]
 ·show(w.heap.setIfInBounds M _)[M]?=_;rw[zbB hlt]
 ·simp[h2]
end Go.Proofs.YtlhimdjkkiflhaaGreat
namespace Go.Loop
def RR.good {α:Type}(T:List Tok)(k:Nat)(r:RR α):Prop:=
 match r with
 |.out=>False
 |.fail _ _=>True
 |.ok _ s'=>k≤s'.k∧s'.k<T.length
theorem RR.eN {α β:Type}{T:List Tok}{k j:Nat}{x:RR α}{f:α→eA→RR β}(h:x.good T k)(hf:∀a s,k≤s.k→s.k<T.length→(f a s).good T j):(x.bind f).good T j:=by
 cases x with
 |out=>exact h
 |fail e a=>trivial
 |ok a s=>exact hf a s h.1 h.2
theorem RR.l6 {α:Type}{T:List Tok}{k j:Nat}{x:RR α}(h:x.good T k)(hj:j≤k):x.good T j:=by
 cases x with
 |out=>exact h
 |fail e a=>trivial
 |ok a s=>exact⟨zaj hj h.1,h.2⟩
section
variable (T:List Tok)(dp:Nat)
structure Fuel (n:Nat):Prop where
 datum:∀p s,s.k<T.length→2*(T.length-s.k)+2≤n→(aI T dp n p s).good T (s.k+1)
 take:∀p s,s.k<T.length→2*(T.length-s.k)+1≤n→(aM T dp n p s).good T (s.k+1)
 yH:∀t p s,s.k<T.length→2*(T.length-s.k)+3≤n→(bQ T dp n t p s).good T s.k
 list:∀l p s,s.k<T.length→2*(T.length-s.k)+2≤n→(cg T dp n l p s).good T (s.k+1)
 vec:∀l p s,s.k<T.length→2*(T.length-s.k)+2≤n→(eF T dp n l p s).good T (s.k+1)
theorem FX (t:Tok)(s:eA)(h:s.k<T.length):(uv t s).good T s.k:=by
 unfold uv;repeat' split
 all_goals first|trivial|exact⟨zab _,h⟩
theorem fuel (hT:∀k t,T[k]?=some t→t.kind≠0→t.kind≠1→k+1<T.length):∀n,Fuel T dp n
 |0=>⟨λ_ _ _ h=>by omega,λ_ _ _ h=>by omega,λ_ _ _ _ h=>by omega,λ_ _ _ _ h=>by omega,λ_ _ _ _ h=>by omega⟩
 |n+1=>by
  have ih:=fuel hT n;refine⟨λp s hk hn=>?_,λp s hk hn=>?_,λt p s hk hn=>?_,λl p s hk hn=>?_,λl p s hk hn=>?_⟩
  ·unfold aI;refine RR.eN (ih.take p s hk (by omega)) λt s1 h1 h2=>?_;exact RR.l6 (ih.yH t p s1 h2 (by omega)) h1
  ·unfold aM;have hs:T[s.k]?=some T[s.k]:=zaP hk;rw[hs];dsimp only;split
   ·trivial
   ·rename_i h0;split
    ·trivial
    ·rename_i h1;have hlt:=hT s.k _ hs h0 h1;split
     ·refine RR.eN (ih.datum ⟨p.depth,true,[]⟩ { s with k:=s.k+1 } hlt (by show 2*(T.length-(s.k+1))+2≤n;omega)) λd s1 h2 h3=>?_;have jQ:s.k+1+1≤s1.k:=h2;exact RR.l6 (ih.take p s1 h3 (by omega)) (by omega)
     ·exact⟨zab _,hlt⟩
  ·unfold bQ;split
   ·trivial
   ·split
    ·split
     ·trivial
     ·split
      ·trivial
      ·exact RR.eN (k:=s.k+1) (ih.datum _ { s with ax:=t.n::s.ax } hk (by show 2*(T.length-s.k)+2≤n;omega)) λd s1 h1 h2=>⟨by omega,h2⟩
    ·split
     ·split
      ·trivial
      ·exact⟨zab _,hk⟩
     ·split
      ·split
       ·trivial
       ·split
        ·exact RR.eN (k:=s.k+1) (ih.vec [] _ { s with fresh:=s.fresh+1 } hk (by show 2*(T.length-s.k)+2≤n;omega)) λd s1 h1 h2=>⟨by omega,h2⟩
        ·split
         ·exact RR.eN (k:=s.k+1) (ih.datum _ s hk (by omega)) λd s1 h1 h2=>⟨by show s.k≤s1.k;omega,h2⟩
         ·exact RR.l6 (ih.list [] _ s hk (by omega)) (by omega)
      ·exact FX T t s hk
  ·unfold cg;refine RR.eN (ih.take p s hk (by omega)) λt s1 h1 h2=>?_;split
   ·exact⟨h1,h2⟩
   ·split
    ·refine RR.eN (ih.datum p s1 h2 (by omega)) λd s2 h3 h4=>?_;refine RR.eN (ih.take p s2 h4 (by omega)) λt2 s3 h5 h6=>?_;split
     ·exact⟨by show s.k+1≤s3.k;omega,h6⟩
     ·trivial
    ·refine RR.eN (ih.yH t p s1 h2 (by omega)) λd s2 h3 h4=>?_;exact RR.l6 (ih.list _ p s2 h4 (by omega)) (by omega)
  ·unfold eF;refine RR.eN (ih.take p s hk (by omega)) λt s1 h1 h2=>?_;split
   ·exact⟨h1,h2⟩
   ·split
    ·trivial
    ·refine RR.eN (ih.yH t p s1 h2 (by omega)) λd s2 h3 h4=>?_;exact RR.l6 (ih.vec _ p s2 h4 (by omega)) (by omega)
end
theorem ly:∀(n:Nat) (s:List UInt8) (a:Nat),a≤s.length→s.length-a<n→aH n s a≠[]∧∀k t,(aH n s a)[k]?=some t→t.kind≠0→t.kind≠1→k+1<(aH n s a).length
 |0,s,a,_,h=>by omega
 |n+1,s,a,ha,h=>by
  have hf:=tA ha;rw[aH];split
  ·rename_i hl;refine⟨by simp,λk t hk h0 h1=>?_⟩;cases k with
   |zero=>
    simp at hk;subst hk;simp[Tok.lastB]at hl;omega
   |succ k=>simp at hk
  ·rename_i hl;have hl':(aO s a).lastB=false:=by simpa using hl
   have h2:=hf.2.2 hl';have h3:=hf.2.1;have ih:=ly n s (aO s a).jZ hf.2.1 (by omega);refine⟨by simp,λk t hk h0 h1=>?_⟩;cases k with
   |zero=>
    have:0<(aH n s (aO s a).jZ).length:=zbS.2 ih.1;simp only[zas];omega
   |succ k=>
    rw[List.getElem?_cons_succ]at hk;have:=ih.2 k t hk h0 h1;simp only[zas];omega
theorem oZ:∀(n:Nat) (s:List UInt8) (a:Nat),(aH n s a).length≤n
 |0,s,a=>zab _
 |n+1,s,a=>by
  have:=oZ n s (aO s a).jZ;rw[aH];split
  ·simp
  ·simp;exact this
end Go.Loop
namespace Go.Proofs.YtlhimdjkkiflhaaGreat
open Go.Proofs.Tryz
open Go.RowKit Go.Loop
theorem dJ (w:Θ)(A B:Obj):((w.alloc A).alloc B).heap[w.heap.size+1]?=some B:=by
 rw[show w.heap.size+1=(w.alloc A).heap.size by simp];exact zau _ _
theorem Mz (t:Tok)(w:Θ)(hk:t.kind=8):Ξ prog 69 #[bC t] w λe w'=>∃b,e=.returned (.tuple #[.iface 130 (ai b),.pointer none])∧w.heap.size≤b∧w'.heap[b]?=some (.cells #[.string ⟨⟨t.text⟩⟩] 159)∧Φ w.heap.size w w':=by
 have q:(((t.kind:Nat):Int)==8)=true:=by rw[hk];rfl
 clear hk;unfold bC;go_enter func69,ntmps69;go_wp2_with fail;go_ret2;refine⟨w.heap.size+1,rfl,by omega,?_,?_⟩
 ·exact dJ w _ _
 ·(repeat (first|with_reducible refine zaA ?_ (by simp) _|with_reducible refine zaB ?_ (by simp) _));with_reducible exact zad _ _
def j8 (t:Tok):Λ:=
 if t.kind=9 then .iface 140 (.agg #[Γ Δ t.n])
 else if t.kind=12 then .iface 138 (.agg #[Γ Δ t.n])
 else if t.kind=14 then .iface 133 (.agg #[.string ⟨⟨t.text⟩⟩])
 else .iface 136 (.agg #[Γ Δ t.n,Γ Δ t.d])
theorem MA (t:Tok)(w:Θ)(h8:¬t.kind=8)(hf:t.kind=9∨t.kind=12∨t.kind=14∨t.fault=0):Ξ prog 69 #[bC t] w λe w'=>e=.returned (.tuple #[j8 t,.pointer none])∧Φ w.heap.size w w':=by
 have q8:(((t.kind:Nat):Int)==8)=false:=by rw[zao];omega
 by_cases h9:t.kind=9
 ·have e:Hid (j8 t=.iface 140 (.agg #[Γ Δ t.n])):=zac h9;have q9:(((t.kind:Nat):Int)==9)=true:=by rw[h9];rfl
  clear h9 hf h8;unfold bC;go_enter func69,ntmps69;go_wp2_with fail;go_ret2;refine⟨by rw[e.out];rfl,?_⟩
  (repeat (first|with_reducible refine zaA ?_ (by simp) _|with_reducible refine zaB ?_ (by simp) _));with_reducible exact zad _ _
 have q9:(((t.kind:Nat):Int)==9)=false:=by rw[zao];omega
 by_cases zE:t.kind=12
 ·have e:Hid (j8 t=.iface 138 (.agg #[Γ Δ t.n])):=(zaa h9).trans (zac zE);have q12:(((t.kind:Nat):Int)==12)=true:=by rw[zE];rfl
  clear h9 hf h8 zE;unfold bC;go_enter func69,ntmps69;go_wp2_with fail;go_ret2;refine⟨by rw[e.out];rfl,?_⟩
  (repeat (first|with_reducible refine zaA ?_ (by simp) _|with_reducible refine zaB ?_ (by simp) _));with_reducible exact zad _ _
 have q12:(((t.kind:Nat):Int)==12)=false:=by rw[zao];omega
 by_cases uN:t.kind=14
 ·have e:Hid (j8 t=.iface 133 (.agg #[.string ⟨⟨t.text⟩⟩])):=((zaa h9).trans (zaa zE)).trans (zac uN);have q14:(((t.kind:Nat):Int)==14)=true:=by rw[uN];rfl
  clear h9 hf h8 zE uN;unfold bC;go_enter func69,ntmps69;go_wp2_with fail;go_ret2;refine⟨by rw[e.out];rfl,?_⟩
  (repeat (first|with_reducible refine zaA ?_ (by simp) _|with_reducible refine zaB ?_ (by simp) _));with_reducible exact zad _ _
 ·have q14:(((t.kind:Nat):Int)==14)=false:=by rw[zao];omega
  have e:Hid (j8 t=.iface 136 (.agg #[Γ Δ t.n,Γ Δ t.d])):=((zaa h9).trans (zaa zE)).trans (zaa uN);have qf:(t.fault==0)=true:=by rw[zbs];omega
  clear h9 hf h8 zE uN;unfold bC;go_enter func69,ntmps69;go_wp2_with fail;go_ret2;refine⟨by rw[e.out];rfl,?_⟩
  (repeat (first|with_reducible refine zaA ?_ (by simp) _|with_reducible refine zaB ?_ (by simp) _));with_reducible exact zad _ _
theorem FY (t:Tok)(w:Θ)(h:¬t.kind=8∧¬t.kind=9∧¬t.kind=12∧¬t.kind=14)(hf:¬t.fault=0):Ξ prog 69 #[bC t] w λe w'=>∃b,e=.returned (.tuple #[.nilIface,ai b])∧w'.heap[b]?=some (.cells #[Γ Δ t.fault,Γ Δ t.from_] 38)∧Φ w.heap.size w w':=by
 obtain⟨h8,h9,zE,uN⟩:=h;have q8:(((t.kind:Nat):Int)==8)=false:=by rw[zao];omega
 have q9:(((t.kind:Nat):Int)==9)=false:=by rw[zao];omega
 have q12:(((t.kind:Nat):Int)==12)=false:=by rw[zao];omega
 have q14:(((t.kind:Nat):Int)==14)=false:=by rw[zao];omega
 have qf:(t.fault==0)=false:=by rw[zao];exact hf
 have mixed:prog.follows Ω=true:=by kernel_rfl
 clear h8 h9 zE uN hf;unfold bC;go_enter func69,ntmps69;go_wp2_with fail;go_region;all_goals
  go_wp2
  go_ret2;refine⟨w.heap.size+1,rfl,?_,?_⟩
  ·exact dJ w _ _
  ·(repeat (first|with_reducible refine zaA ?_ (by simp) _|with_reducible refine zbg ?_ _|with_reducible refine Φ.drew ?_ |with_reducible refine zaB ?_ (by simp) _));with_reducible exact zad _ _
def fe (w:Θ)(base:Nat):List Λ→Λ→Λ→Prop
 |[],rest,v=>v=rest
 |x::vs,rest,v=>v=.iface 122 (ai (base+vs.length))∧∃v',w.heap[base+vs.length]?=some (.cells #[x,v'] 125)∧fe w base vs rest v'
theorem fe.keep {w w':Θ}{base:Nat}{rest:Λ}:∀(vs:List Λ) (v:Λ),fe w base vs rest v→(∀b,base≤b→b<w.heap.size→w'.heap[b]?=w.heap[b]?)→fe w' base vs rest v
 |[],_,h,_=>h
 |x::vs,v,⟨h1,v',h2,h3⟩,hk=>⟨h1,v',(hk _ (by omega) (zag.1 h2).1).trans h2,fe.keep vs v' h3 hk⟩
theorem JC (vs:List Λ)(g cap lo:Nat)(rest:Λ)(w:Θ)(hrow:w.ownsRow lo 31 1 (.slice (some ⟨g,0,none⟩) vs.length cap) vs.length vs)(hn:vs.length≤1000000)(R6:∀x∈vs,∃t y,x=.iface t y)(R7:∃t y,rest=.iface t y):Ξ prog 114 #[.slice (some ⟨g,0,none⟩) vs.length cap,rest] w λe w'=>∃v,e=.returned v∧fe w' w.heap.size vs rest v∧w'.heap.size=w.heap.size+vs.length∧Φ w.heap.size w w':=by
 have hg:g<w.heap.size:=(hrow.lt g rfl).2;have hcell:Hid (∀(j:Nat) (x:Λ),vs[j]?=some x→w.cell? ⟨g,j,none⟩=some x):=λj x hx=>by
  have hj:j<vs.length:=(zaD.1 hx).1;rw[hrow.cellAt j (by omega),hx]
 clear hrow;go_enter func114,ntmps114;go_wp2_with fail;go_loopw [5,1] (λi r wr=>∃j:Nat,j≤vs.length∧i=Γ Δ ((j:Int)-1)∧wr.heap.size=w.heap.size+(vs.length-j)∧(∃t y,r=.iface t y)∧Hid (fe wr w.heap.size (vs.drop j) rest r)∧Hid (Φ w.heap.size w wr)) (λi _ _=>(intOf i+1).toNat)
 case atStart=>exact⟨vs.length,zab _,by go_num,by omega,R7,by show fe _ _ _ _ _;rw[zcg];rfl,zad _ _⟩
 case round=>
  obtain⟨j,hj,rfl,hsz,⟨tr,yr,rfl⟩,hC,hB⟩:=hrel;by_cases h0:j=0
  ·subst h0;go_wp2_with fail;go_ret;exact⟨_,rfl,by simpa using hC.out,by simpa using hsz,hB.out⟩
  ·obtain⟨m,rfl⟩:∃m,j=m+1:=⟨j-1,by omega⟩;have hx:vs[m]?=some vs[m]:=zaP (by omega);have hc:Hid (w.cell? ⟨g,m,none⟩=some vs[m]):=hcell.out m _ hx;have Wu:=(hB.out.cell (p:=⟨g,m,none⟩) hg).trans hc.out;obtain⟨tx,yx,hxi⟩:=R6 vs[m] (zci (by omega));have hdr:Hid (vs.drop m=vs[m]::vs.drop (m+1)):=zbZ (by omega);rw[hxi]at Wu hdr;clear hx hc hxi;have hm:m<vs.length:=by omega
   rw[show(((m+1:Nat):Int)-1)=(m:Int) by omega];go_wp2_with fail;go_roundw
   case rel=>exact⟨m,by omega,rfl,by simp;omega,⟨_,_,rfl⟩,by
    show fe _ _ _ _ _;rw[hdr.out];have hl:(vs.drop (m+1)).length=vs.length-(m+1):=zan;refine⟨by rw[hl,←hsz];rfl,.iface tr yr,?_,?_⟩
    ·rw[hl,←hsz];exact zau _ _
    ·exact fe.keep _ _ hC.out λb _ h=>zaK _ _ _ h,hB.out.alloc (by omega) _⟩
   case measure=>simp[intOf]
def gf (d:Nat)(p:Bool)(av:Λ):Λ:= .agg #[Γ Δ d,.bool p,av]
def dK (w:Θ)(b:Nat)(e:Int)(a:Nat):Prop:=w.heap[b]?=some (.cells #[Γ Δ e,Γ Δ a] 38)
theorem JD (w:Θ)(A B C D:Obj):((((w.alloc A).alloc B).alloc C).alloc D).heap[w.heap.size+1+1+1]?=some D:=by
 rw[show w.heap.size+1+1+1=(((w.alloc A).alloc B).alloc C).heap.size by simp];exact zau _ _
theorem zM (R dp:Nat)(t:Tok)(d:Nat)(p:Bool)(a:Option Addr)(l c:Nat)(w:Θ)(hR:w.cell? ⟨R,2,none⟩=some (Γ Δ dp))(hlt:R<w.heap.size)(hd:d<1000)(hne:¬d=dp):Ξ prog 91 #[ai R,bC t,gf d p (.slice a l c)] w λe w'=>e=.returned (.tuple #[gf (d+1) p (.slice none 0 0),.pointer none])∧Φ w.heap.size w w':=by
 have mixed:prog.follows Ω=true:=by kernel_rfl
 have q:(((d:Nat):Int)==((dp:Nat):Int))=false:=by rw[zao];omega
 have l1:R<w.heap.size+1:=by omega
 have l2:R<w.heap.size+1+1:=by omega
 have n0:¬R=w.heap.size:=by omega
 have n1:¬R=w.heap.size+1:=by omega
 have n2:¬R=w.heap.size+1+1:=by omega
 unfold bC gf ai;go_enter func91,ntmps91;go_wp2_with fail;go_region;go_wp2_with fail;refine zak (v:= .tuple #[gf (d+1) p (.slice none 0 0),.pointer none]) (by simp[results,results91,gf,go_sem]) rfl ⟨rfl,?_⟩
 (repeat (first|with_reducible refine zaA ?_ (by first|(simp;done)|(simp;omega)) _|with_reducible refine Φ.drew ?_ |with_reducible refine zbg ?_ _|with_reducible refine zaB ?_ (by first|(simp;done)|(simp;omega)) _));with_reducible exact zad _ _
theorem uw (R dp:Nat)(t:Tok)(d:Nat)(p:Bool)(a:Option Addr)(l c:Nat)(w:Θ)(hR:w.cell? ⟨R,2,none⟩=some (Γ Δ dp))(hlt:R<w.heap.size)(hd:d=dp):Ξ prog 91 #[ai R,bC t,gf d p (.slice a l c)] w λe w'=>∃b,e=.returned (.tuple #[gf 0 false (.slice none 0 0),ai b])∧dK w' b 6 t.from_∧Φ w.heap.size w w':=by
 have mixed:prog.follows Ω=true:=by kernel_rfl
 subst hd;have l1:R<w.heap.size+1:=by omega
 have l2:R<w.heap.size+1+1:=by omega
 have n0:¬R=w.heap.size:=by omega
 have n1:¬R=w.heap.size+1:=by omega
 have n2:¬R=w.heap.size+1+1:=by omega
 unfold bC gf ai;go_enter func91,ntmps91;go_wp2_with fail;go_region;go_wp2_with fail;go_region;all_goals
  go_wp2_with fail;refine zak (v:= .tuple #[gf 0 false (.slice none 0 0),ai (w.heap.size+1+1+1)]) (by simp[results,results91,gf,ai,go_sem]) rfl ⟨w.heap.size+1+1+1,rfl,?_,?_⟩
  ·exact JD w _ _ _ _
  ·(repeat (first|with_reducible refine zaA ?_ (by first|(simp;done)|(simp;omega)) _|with_reducible refine Φ.drew ?_ |with_reducible refine zbg ?_ _|with_reducible refine zaB ?_ (by first|(simp;done)|(simp;omega)) _));with_reducible exact zad _ _
def iH (t:Tok):List Λ:=[Γ Δ t.kind,Γ Δ t.from_,Γ Δ t.jZ,.string ⟨⟨t.text⟩⟩,Γ Δ t.n,Γ Δ t.d,Γ Δ t.fault]
abbrev ic (t:Tok):Obj:= .cells #[Γ Δ t.kind,Γ Δ t.from_,Γ Δ t.jZ,.string ⟨⟨t.text⟩⟩,Γ Δ t.n,Γ Δ t.d,Γ Δ t.fault] 76
abbrev gL (d:Nat)(b:Bool)(a:Option Addr)(n c:Nat):Obj:= .cells #[Γ Δ d,.bool b,.slice a n c] 73
structure Kp (R M:Nat) (w w':Θ):Prop where
 os:w'.os=w.os
 tape:w'.tape=w.tape
 output:w'.output=w.output
 size:w.heap.size≤w'.heap.size
 block:∀b,b<w.heap.size→b≠R→b≠M→w'.heap[b]?=w.heap[b]?
theorem Kp.refl (R M:Nat)(w:Θ):Kp R M w w:=⟨rfl,rfl,rfl,zab _,λ_ _ _ _=>rfl⟩
theorem Kp.trans {R M:Nat}{a b c:Θ}(h:Kp R M a b)(k:Kp R M b c):Kp R M a c:=
 ⟨k.os.trans h.os,k.tape.trans h.tape,k.output.trans h.output,zaj h.size k.size,λx h1 h2 h3=>(k.block x (zaH h1 h.size) h2 h3).trans (h.block x h1 h2 h3)⟩
theorem Kp.aF {R M:Nat}{w w':Θ}(h:Φ w.heap.size w w'):Kp R M w w':=⟨h.os,h.tape,h.output,h.size,λb hb _ _=>h.block b hb⟩
structure jL (R M:Nat) (A:Option Nat) (w w':Θ):Prop where
 os:w'.os=w.os
 tape:w'.tape=w.tape
 output:w'.output=w.output
 size:w.heap.size≤w'.heap.size
 block:∀b,b<w.heap.size→b≠R→b≠M→some b≠A→w'.heap[b]?=w.heap[b]?
theorem Kp.a {R M:Nat}{w w':Θ}(h:Kp R M w w')(A:Option Nat):jL R M A w w':=⟨h.os,h.tape,h.output,h.size,λb h1 h2 h3 _=>h.block b h1 h2 h3⟩
theorem jL.plain {R M:Nat}{w w':Θ}(h:jL R M none w w'):Kp R M w w':=⟨h.os,h.tape,h.output,h.size,λb h1 h2 h3=>h.block b h1 h2 h3 (by simp)⟩
theorem jL.trans {R M:Nat}{A:Option Nat}{a b c:Θ}(h:jL R M A a b)(k:jL R M A b c):jL R M A a c:=
 ⟨k.os.trans h.os,k.tape.trans h.tape,k.output.trans h.output,zaj h.size k.size,λx h1 h2 h3 h4=>(k.block x (zaH h1 h.size) h2 h3 h4).trans (h.block x h1 h2 h3 h4)⟩
def uR (E:Env)(ax:List Int):List (Int×Λ):=ax.reverse.map λn=>(n,ai (E.bT n))
structure bH (w:Θ) (R M g cap:Nat) (T:List Tok) (dp:Nat) (E:Env) (s:eA):Prop where
 rm:R≠M
 gr:g≠R
 gm:g≠M
 blk:w.heap[R]?=some (.cells #[.slice (some ⟨g,0,none⟩) T.length cap,Γ Δ s.k,Γ Δ dp,.map (some M)] 68)
 row:w.ownsRow 0 76 7 (.slice (some ⟨g,0,none⟩) T.length cap) T.length (T.flatMap iH)
 lm:mX w M ((uR E s.ax).map λp=>(Λ.int .i64 p.1,p.2))
 low:∀n∈s.ax,∃v,w.heap[E.bT n]?=some (.cells #[v] 157)
 inj:∀n∈s.ax,∀m∈s.ax,E.bT n=E.bT m→n=m
 small:T.length≤100000
 deep:dp≤30
theorem bH.lt {w:Θ}{R M g cap:Nat}{T:List Tok}{dp:Nat}{E:Env}{s:eA}(h:bH w R M g cap T dp E s):R<w.heap.size:=(zag.1 h.blk).1
theorem bH.mlt {w:Θ}{R M g cap:Nat}{T:List Tok}{dp:Nat}{E:Env}{s:eA}(h:bH w R M g cap T dp E s):M<w.heap.size:=by
 obtain⟨es,c,h1,_⟩:=h.lm;exact(zag.1 h1).1
theorem bH.below {w w':Θ}{R M g cap:Nat}{T:List Tok}{dp:Nat}{E:Env}{s:eA}(h:bH w R M g cap T dp E s)(hb:Φ w.heap.size w w'):bH w' R M g cap T dp E s:=by
 refine⟨h.rm,h.gr,h.gm,(hb.block R h.lt).trans h.blk,aT h.row (zab _) λb _ hlt=>hb.block b hlt,?_,λn hn=>(h.low n hn).imp λv hv=>(hb.block _ (zag.1 hv).1).trans hv,h.inj,h.small,h.deep⟩;obtain⟨es,c,h1,h2⟩:=h.lm;exact⟨es,c,(hb.block M h.mlt).trans h1,h2⟩
structure Ext (w w':Θ) (E E':Env) (s s':eA):Prop where
 agree:E.agree E' s.fresh s.ax
 fresh:s.fresh≤s'.fresh
 ax:∀n∈s.ax,n∈s'.ax
 new:∀i,s.fresh≤i→i<s'.fresh→w.heap.size≤E'.α i∧E'.α i<w'.heap.size
 inj:∀i j,s.fresh≤i→i<s'.fresh→s.fresh≤j→j<s'.fresh→E'.α i=E'.α j→i=j
theorem Ext.refl {w w':Θ}{E:Env}{s s':eA}(hf:s'.fresh=s.fresh)(hl:s'.ax=s.ax):Ext w w' E E s s':=
 ⟨⟨λ_ _=>rfl,λ_ _=>rfl⟩,by omega,λn h=>by rw[hl];exact h,λi h1 h2=>by omega,λi j h1 h2=>by omega⟩
theorem Ext.trans {a b c:Θ}{E E' E'':Env}{s s' s'':eA}(h:Ext a b E E' s s')(k:Ext b c E' E'' s' s'')(h1:a.heap.size≤b.heap.size)(h2:b.heap.size≤c.heap.size):Ext a c E E'' s s'':=by
 have hf:=h.fresh;have kf:=k.fresh;have ag:∀i,i<s'.fresh→E''.α i=E'.α i:=k.agree.1;refine⟨⟨λi hi=>(ag i (by omega)).trans (h.agree.1 i hi),λn hn=>(k.agree.2 n (h.ax n hn)).trans (h.agree.2 n hn)⟩,by omega,λn hn=>k.ax n (h.ax n hn),λi i1 i2=>?_,λi j i1 i2 j1 j2 e=>?_⟩
 ·rcases zar i s'.fresh with hlt|ft
  ·rw[ag i hlt];have:=h.new i i1 hlt;omega
  ·have:=k.new i ft i2;omega
 ·rcases zar i s'.fresh with hi|hi<;>rcases zar j s'.fresh with hj|hj
  ·rw[ag i hi,ag j hj]at e;exact h.inj i j i1 hi j1 hj e
  ·rw[ag i hi]at e;have:=h.new i i1 hi;have:=k.new j hj j2;omega
  ·rw[ag j hj]at e;have:=h.new j j1 hj;have:=k.new i hi i2;omega
  ·exact k.inj i j hi i2 hj j2 e
def iR (w:Θ)(E:Env)(s:eA)(l:List Int)(av:Λ):Prop:=w.ownsRow 0 154 1 av l.length (l.map λn=>ai (E.bT n))∧(∃a n c,av=.slice a n c)∧∀n∈l,n∈s.ax
def jM (R M g cap:Nat)(T:List Tok)(dp:Nat)(A:Option Nat)(w:Θ)(E:Env)(s:eA)(r:RR Dt)(e:Ending)(w':Θ):Prop:=
 match r with
 |.out=>True
 |.fail er a=>(∃b,e=.returned (.tuple #[.nilIface,ai b])∧dK w' b er a)∧jL R M A w w'
 |.ok d s'=>∃v E',e=.returned (.tuple #[v,.pointer none])∧(∃t y,v=.iface t y)∧bX w.heap.size s'.fresh s'.ax w' E' d v∧Ext w w' E E' s s'∧bH w' R M g cap T dp E' s'∧jL R M A w w'
def OkT (R M g cap:Nat)(T:List Tok)(dp:Nat)(w:Θ)(E:Env)(s:eA)(r:RR Tok)(e:Ending)(w':Θ):Prop:=
 match r with
 |.out=>True
 |.fail er a=>(∃b t,e=.returned (.tuple #[bC t,ai b])∧dK w' b er a)∧Kp R M w w'
 |.ok t s'=>∃E',e=.returned (.tuple #[bC t,.pointer none])∧Ext w w' E E' s s'∧bH w' R M g cap T dp E' s'∧Kp R M w w'
theorem rJ {T:List Tok}{dp:Nat}:∀n p s t s',aM T dp n p s=.ok t s'→t∈T
 |0,p,s,t,s',h=>by unfold aM at h;cases h
 |n+1,p,s,t,s',h=>by
  unfold aM at h;split at h
  ·cases h
  ·rename_i t0 ht0;split at h
   ·cases h
   ·split at h
    ·cases h
    ·split at h
     ·cases hD:aI T dp n ⟨p.depth,true,[]⟩ { s with k:=s.k+1 } with
      |out=>rw[hD]at h;cases h
      |fail e a=>rw[hD]at h;cases h
      |ok d s1=>rw[hD]at h;exact rJ n p s1 t s' h
     ·cases h;exact zbo ht0
section
variable (R M g cap:Nat)(T:List Tok)(dp:Nat)
structure IH (n:Nat):Prop where
 datum:∀p av w E s,bH w R M g cap T dp E s→iR w E s p.ahead av→(p.depth≤dp∧p.ahead.length≤p.depth)→aI T dp n p s≠.out→Ξ prog 22 #[ai R,gf p.depth p.passed av] w λe w'=>jM R M g cap T dp av.ownBlock w E s (aI T dp n p s) e w'
 take:∀p av w E s,bH w R M g cap T dp E s→iR w E s p.ahead av→(p.depth≤dp∧p.ahead.length≤p.depth)→aM T dp n p s≠.out→Ξ prog 32 #[ai R,gf p.depth p.passed av] w λe w'=>OkT R M g cap T dp w E s (aM T dp n p s) e w'
 yH:∀t p av w E s,t∈T→bH w R M g cap T dp E s→iR w E s p.ahead av→(p.depth≤dp∧p.ahead.length≤p.depth)→bQ T dp n t p s≠.out→Ξ prog 33 #[ai R,bC t,gf p.depth p.passed av] w λe w'=>jM R M g cap T dp av.ownBlock w E s (bQ T dp n t p s) e w'
def Dp:Prop:=∀N,(∀n,n≤N→IH R M g cap T dp n)→∀(p:Pl),p.ahead=[]→∀(w:Θ) (E:Env) (s:eA),bH w R M g cap T dp E s→(p.depth≤dp∧p.ahead.length≤p.depth)→∀r:RR Dt,(r=(eF T dp (N+1) [] p { s with fresh:=s.fresh+1 }).bind λl s'=> .ok (.vec s.fresh (fG l)) s')→r≠.out→Ξ prog 93 #[ai R,gf p.depth p.passed (.slice none 0 0)] w λe w'=>jM R M g cap T dp none w E s r e w'
def Dq:Prop:=∀n,IH R M g cap T dp n→∀(p:Pl),p.ahead=[]→∀(w:Θ) (E:Env) (s:eA),bH w R M g cap T dp E s→(p.depth≤dp∧p.ahead.length≤p.depth)→∀r:RR Dt,(r=(aI T dp n p s).bind λd s=> .ok (aU [.sym [113,117,111,116,101],d] .nil s.fresh).1 { s with fresh:=s.fresh+2 })→r≠.out→Ξ prog 94 #[ai R,gf p.depth p.passed (.slice none 0 0)] w λe w'=>jM R M g cap T dp none w E s r e w'
end
theorem Ext.wid {w w1 w2 w3:Θ}{E E':Env}{s s':eA}(h:Ext w1 w2 E E' s s')(h1:w.heap.size≤w1.heap.size)(h2:w2.heap.size≤w3.heap.size):Ext w w3 E E' s s':=
 ⟨h.agree,h.fresh,h.ax,λi a b=>by have:=h.new i a b;omega,h.inj⟩
theorem iR.kp {w w':Θ}{R M g cap:Nat}{T:List Tok}{dp:Nat}{E E':Env}{s s':eA}{l:List Int}{av:Λ}(h:iR w E s l av)(hr:bH w R M g cap T dp E s)(hk:Kp R M w w')(ha:E.agree E' s.fresh s.ax)(hl:∀n∈s.ax,n∈s'.ax):iR w' E' s' l av:=by
 refine⟨?_,h.2.1,λn hn=>hl n (h.2.2 n hn)⟩;have e:(l.map λn=>ai (E'.bT n))=l.map λn=>ai (E.bT n):=List.map_congr_left λn hn=>by rw[ha.2 n (h.2.2 n hn)]
 rw[e];refine⟨h.1.1,h.1.2.imp id ?_⟩;rintro ⟨b,cp,cur,h1,h2,h3,h4⟩;have hlt:b<w.heap.size:=(zag.1 h3).1;have hR:b≠R:=λe=>by rw[e,hr.blk]at h3;simp at h3
 have hM:b≠M:=λe=>by obtain⟨es,c,q,_⟩:=hr.lm;rw[e,q]at h3;cases h3
 exact⟨b,cp,cur,h1,h2,(hk.block b hlt hR hM).trans h3,h4⟩
theorem iR.below {w w':Θ}{E:Env}{s:eA}{l:List Int}{av:Λ}(h:iR w E s l av)(hb:Φ w.heap.size w w'):iR w' E s l av:=
 ⟨aT h.1 (zab _) λb _ hlt=>hb.block b hlt,h.2.1,h.2.2⟩
theorem dK.alloc {w:Θ}{b:Nat}{e:Int}{a:Nat}(h:dK w b e a)(o:Obj):dK (w.alloc o) b e a:=(zaK _ _ _ (zag.1 h).1).trans h
theorem fh {w1:Θ}{b:Nat}{x0 x1 x2:Λ}{e:TypeId}(h:w1.heap[b]?=some (.cells #[x0,x1,x2] e)):(w1.cell? ⟨b,0,none⟩=some x0∧w1.cell? ⟨b,1,none⟩=some x1∧w1.cell? ⟨b,2,none⟩=some x2):=by
 refine⟨?_,?_,?_⟩<;>simp[Θ.cell?,h]
section
variable {R M g cap:Nat}{T:List Tok}{dp:Nat}
theorem FZ {N:Nat}(ih:IH R M g cap T dp N)(p:Pl)(av:Λ)(w:Θ)(E:Env)(s:eA)(hr:bH w R M g cap T dp E s)(ha:iR w E s p.ahead av)(hd:p.depth≤dp∧p.ahead.length≤p.depth)(ho:aI T dp (N+1) p s≠.out):Ξ prog 22 #[ai R,gf p.depth p.passed av] w λe w'=>jM R M g cap T dp av.ownBlock w E s (aI T dp (N+1) p s) e w':=by
 have heq:aI T dp (N+1) p s=(aM T dp N p s).bind λt s=>bQ T dp N t p s:=rfl;rw[heq]at ho ⊢;obtain⟨⟨a0,n0,c0,rfl⟩⟩:=(⟨ha.2.1⟩:Nonempty _);have hb0:Φ w.heap.size w (w.alloc (gL p.depth p.passed a0 n0 c0)):=(zad _ w).alloc (zab _) _;have HR:Hid _:=hr.below hb0;have HA:Hid _:=ha.below hb0;have HB:Hid _:=hb0;have HP:Hid _:=zau w (gL p.depth p.passed a0 n0 c0);have MB:(w.alloc (gL p.depth p.passed a0 n0 c0)).heap.size=w.heap.size+1:=by simp
 have hne:aM T dp N p s≠.out:=λh=>ho (by rw[h];rfl);have HT:Hid _:=ih.take p (.slice a0 n0 c0) _ E s HR.out HA.out hd hne;have KI:R<w.heap.size:=hr.lt;have lG:M<w.heap.size:=hr.mlt;have HI:Hid _:=ih;have HO:Hid _:=ho;clear hr ha hb0 ih ho heq hne;generalize hw0:w.alloc (gL p.depth p.passed a0 n0 c0)=w0 at *;have P5:Hid _:=hw0;clear hw0;cases hT:aM T dp N p s with
 |out=>exact absurd (by rw[hT];rfl) HO.out
 |fail er a=>
  rw[hT]at HT;unfold gf ai at HT ⊢;go_enter func22,ntmps22;go_wp2_with fail;rw[P5.out];refine zae HT.out ?_;rintro e w1 ⟨⟨b,t,rfl,hf⟩,hk⟩;have HF:Hid _:=hf;have HK:Hid _:=hk;clear hf hk HT;unfold bC ai;go_wp2_with fail;go_ret2;have hs1:=HK.out.size;exact⟨⟨b,rfl,dK.alloc HF.out _⟩,((Kp.aF HB.out).trans (Kp.trans HK.out (Kp.aF ((zad _ _).alloc (zab _) _)))).a _⟩
 |ok t s1=>
  have Ys:Hid (t∈T):=rJ _ _ _ _ _ hT;rw[hT]at HT;have HO':Hid (bQ T dp N t p s1≠.out):=by have:=HO.out;rw[hT]at this;exact this
  unfold gf ai at HT ⊢;go_enter func22,ntmps22;go_wp2_with fail;rw[P5.out];refine zae HT.out ?_;rintro e w1 ⟨E1,rfl,hx,hr1,hk⟩;have AH:=(hk.block w.heap.size (by omega) (by omega) (by omega)).trans HP.out;obtain⟨x0,x1,x2⟩:=fh AH;have hs1:=hk.size;have hl0:w.heap.size<w1.heap.size:=by omega
  have sG:¬w.heap.size=w1.heap.size:=by omega
  have hl2:¬w1.heap.size=w.heap.size:=by omega
  have hb1:Φ w1.heap.size w1 (w1.alloc (ic t)):=(zad _ _).alloc (zab _) _;have sH:Hid _:=hr1.below hb1;have HA1:Hid _:=iR.below (iR.kp HA.out HR.out hk hx.agree hx.ax) hb1;have HF:Hid _:=HI.out.yH t p (.slice a0 n0 c0) _ E1 s1 Ys.out sH.out HA1.out hd HO'.out;have HX:Hid _:=hx;have HK:Hid _:=hk;have zN:Hid _:=hb1;clear hx hk hr1 hb1 HT AH;unfold bC ai gf at HF;unfold bC;go_wp2_with fail;refine zae HF.out ?_;clear HF;intro e2 w2 bM;have kX:Kp R M w (w1.alloc (ic t)):=(Kp.aF HB.out).trans (Kp.trans HK.out (Kp.aF zN.out));have hxx:Ext w (w1.alloc (ic t)) E E1 s s1:=Ext.wid HX.out (by omega) (by simp);generalize w1.alloc (ic t)=w3 at *;cases hF:bQ T dp N t p s1 with
  |out=>exact absurd hF HO'.out
  |fail er a=>
   rw[hF]at bM;obtain⟨⟨b,rfl,hf⟩,hk2⟩:=bM;have HG:Hid (jM R M g cap T dp (Λ.slice a0 n0 c0).ownBlock w E s (RR.fail er a) (.returned (.tuple #[.nilIface,ai b])) w2):=⟨⟨b,rfl,hf⟩,(kX.a _).trans hk2⟩;have HE:Hid (((RR.ok t s1).bind λt s=>bQ T dp N t p s)=RR.fail er a):=hF;clear hf hk2 kX hxx;unfold ai;go_wp2_with fail;go_ret2;rw[HE.out];exact HG.out
  |ok d s2=>
   rw[hF]at bM;obtain⟨v,E2,rfl,⟨ty,y,rfl⟩,cy,hx2,hr2,hk2⟩:=bM;have h3:=kX.size;have h4:=hk2.size;have HG:Hid (jM R M g cap T dp (Λ.slice a0 n0 c0).ownBlock w E s (RR.ok d s2) (.returned (.tuple #[.iface ty y,.pointer none])) w2):=
    ⟨.iface ty y,E2,rfl,⟨ty,y,rfl⟩,bX.keep h3 (zab _) (λ_ h=>h) (λ_ _ _=>rfl) ⟨λ_ _=>rfl,λ_ _=>rfl⟩ d _ cy,hxx.trans hx2 h3 h4,hr2,(kX.a _).trans hk2⟩
   have HE:Hid (((RR.ok t s1).bind λt s=>bQ T dp N t p s)=RR.ok d s2):=hF;clear cy hx2 hr2 hk2 kX hxx;go_wp2_with fail;go_ret2;rw[HE.out];exact HG.out
end
end Go.Proofs.YtlhimdjkkiflhaaGreat
namespace Go.Proofs.YtlhimdjkkiflhaaGreat
open Go.RowKit Go.Loop
theorem RR.aY {α β:Type}{x:RR α}{f:α→eA→RR β}{b:β}{s':eA}(h:x.bind f=.ok b s'):∃a s1,x=.ok a s1∧f a s1=.ok b s':=by
 cases x with
 |out=>cases h
 |fail e a=>cases h
 |ok a s1=>exact⟨a,s1,rfl,h⟩
section
variable (T:List Tok)(dp:Nat)
structure Yt (n:Nat):Prop where
 datum:∀p s d s',aI T dp n p s=.ok d s'→s.k≤s'.k
 take:∀p s d s',aM T dp n p s=.ok d s'→s.k≤s'.k
 yH:∀t p s d s',bQ T dp n t p s=.ok d s'→s.k≤s'.k
 list:∀l p s d s',cg T dp n l p s=.ok d s'→s.k≤s'.k
 vec:∀l p s d s',eF T dp n l p s=.ok d s'→s.k≤s'.k
theorem grows:∀n,Yt T dp n
 |0=>⟨λ_ _ _ _ h=>(by unfold aI at h;cases h),λ_ _ _ _ h=>(by unfold aM at h;cases h),λ_ _ _ _ _ h=>(by unfold bQ at h;cases h),λ_ _ _ _ _ h=>(by unfold cg at h;cases h),λ_ _ _ _ _ h=>(by unfold eF at h;cases h)⟩
 |n+1=>by
  have ih:=grows n;refine⟨λp s d s' h=>?_,λp s d s' h=>?_,λt p s d s' h=>?_,λl p s d s' h=>?_,λl p s d s' h=>?_⟩
  ·unfold aI at h;obtain⟨t,s1,h1,h2⟩:=RR.aY h;have:=ih.take _ _ _ _ h1;have:=ih.yH _ _ _ _ _ h2;omega
  ·unfold aM at h;split at h
   ·cases h
   ·split at h
    ·cases h
    ·split at h
     ·cases h
     ·split at h
      ·obtain⟨t,s1,h1,h2⟩:=RR.aY h;have:=ih.datum _ _ _ _ h1;have:=ih.take _ _ _ _ h2;simp at *;omega
      ·cases h;simp
  ·unfold bQ at h;split at h
   ·cases h
   ·split at h
    ·split at h
     ·cases h
     ·split at h
      ·cases h
      ·obtain⟨t,s1,h1,h2⟩:=RR.aY h;have:=ih.datum _ _ _ _ h1;cases h2;exact this
    ·split at h
     ·split at h
      ·cases h
      ·cases h;exact zab _
     ·split at h
      ·split at h
       ·cases h
       ·split at h
        ·obtain⟨t,s1,h1,h2⟩:=RR.aY h;have:=ih.vec _ _ _ _ _ h1;cases h2;exact this
        ·split at h
         ·obtain⟨t,s1,h1,h2⟩:=RR.aY h;have:=ih.datum _ _ _ _ h1;cases h2;exact this
         ·exact ih.list _ _ _ _ _ h
      ·unfold uv at h;repeat' split at h
       all_goals first|(cases h;done)|(cases h;exact zab _)
  ·unfold cg at h;obtain⟨t,s1,h1,h2⟩:=RR.aY h;have a1:=ih.take _ _ _ _ h1;split at h2
   ·cases h2;exact a1
   ·split at h2
    ·obtain⟨r,s2,h3,h4⟩:=RR.aY h2;have a2:=ih.datum _ _ _ _ h3;obtain⟨r',s3,h5,h6⟩:=RR.aY h4;have a3:=ih.take _ _ _ _ h5;split at h6
     ·cases h6;simp;omega
     ·cases h6
    ·obtain⟨r,s2,h3,h4⟩:=RR.aY h2;have a2:=ih.yH _ _ _ _ _ h3;have a3:=ih.list _ _ _ _ _ h4;omega
  ·unfold eF at h;obtain⟨t,s1,h1,h2⟩:=RR.aY h;have a1:=ih.take _ _ _ _ h1;split at h2
   ·cases h2;exact a1
   ·split at h2
    ·cases h2
    ·obtain⟨r,s2,h3,h4⟩:=RR.aY h2;have a2:=ih.yH _ _ _ _ _ h3;have a3:=ih.vec _ _ _ _ _ h4;omega
end
end Go.Proofs.YtlhimdjkkiflhaaGreat
