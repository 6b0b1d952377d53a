import Derived.LaidEqlPtr
import Derived.Test.YtlhimdjkkiflhaaGreatDoorKnown19
set_option maxHeartbeats 8000000
set_option maxRecDepth 100000
namespace Go.Proofs.YtlhimdjkkiflhaaGreatDoor
open Go.Proofs.Tryz
open Go.RowKit Go.Loop
structure Env where
 α:Nat→Nat
 ea:Int→Nat
def au (b:Nat):Value:= .pointer (some ⟨b,0,none⟩)
mutual
def ba (lo k:Nat)(L:List Int)(w:World)(E:Env):Dt→Value→Prop
 |.nil,v=>v=.iface 272 (.agg #[])
 |.sym s,v=>v=.iface 168 (.agg #[.string ⟨⟨s⟩⟩])
 |.num n d,v=>v=.iface 153 (.agg #[.int .i64 n,.int .i64 d])
 |.cQ n,v=>v=.iface 155 (.agg #[.int .i64 n])
 |.su n,v=>v=.iface 157 (.agg #[.int .i64 n])
 |.txt i s,v=>i<k∧lo≤E.α i∧v=.iface 158 (au (E.α i))∧w.heap[E.α i]?=some (.cells #[.string ⟨⟨s⟩⟩] 218)
 |.pair i a b,v=>i<k∧lo≤E.α i∧v=.iface 150 (au (E.α i))∧∃va vb,w.heap[E.α i]?=some (.cells #[va,vb] 161)∧ba lo k L w E a va∧ba lo k L w E b vb
 |.vec i l,v=>i<k∧lo≤E.α i∧v=.iface 163 (au (E.α i))∧∃sl vs,w.heap[E.α i]?=some (.cells #[sl] 165)∧w.ownsRow lo 58 1 sl vs.length vs∧cH lo k L w E l vs
 |.put n d,v=>n∈L∧lo≤E.ea n∧w.heap[E.ea n]?=some (.cells #[v] 215)∧ba lo k L w E d v
 |.ask n,v=>n∈L∧v=.iface 212 (au (E.ea n))
 |.iw,_=>False
 |.cK _ _,_=>False
def cH (lo k:Nat)(L:List Int)(w:World)(E:Env):Dt→List Value→Prop
 |.iw,vs=>vs=[]
 |.cK a l,vs=>∃v r,vs=v::r∧ba lo k L w E a v∧cH lo k L w E l r
 |_,_=>False
end
def Env.agree (E E':Env)(k:Nat)(L:List Int):Prop:=(∀i,i<k→E'.α i=E.α i)∧∀n∈L,E'.ea n=E.ea n
theorem bg {w w':World}{lo NW:Nat}{e:TypeId}{z:Nat}{v:Value}{n:Nat}{xs:List Value}(h:w.ownsRow lo e z v n xs)(hl:NW≤lo)(hk:∀b,lo≤b→b<w.heap.size→w'.heap[b]?=w.heap[b]?):w'.ownsRow NW e z v n xs:=by
 refine⟨h.1,h.2.imp id ?_⟩;rintro ⟨g,cap,cur,h1,h2,h3,h4⟩;exact⟨g,cap,cur,h1,by omega,(hk g h2 (zac.1 h3).1).trans h3,h4⟩
mutual
theorem ba.keep {lo NW k k':Nat}{L L':List Int}{w w':World}{E E':Env}(hl:NW≤lo)(hk:k≤k')(hL:∀n∈L,n∈L')(hw:∀b,lo≤b→b<w.heap.size→w'.heap[b]?=w.heap[b]?)(hE:E.agree E' k L):∀(d:Dt) (v:Value),ba lo k L w E d v→ba NW k' L' w' E' d v
 |.nil,v,h=>by unfold ba at h ⊢;exact h
 |.sym s,v,h=>by unfold ba at h ⊢;exact h
 |.num n d,v,h=>by unfold ba at h ⊢;exact h
 |.cQ n,v,h=>by unfold ba at h ⊢;exact h
 |.su n,v,h=>by unfold ba at h ⊢;exact h
 |.txt i s,v,h=>by
  unfold ba at h ⊢;obtain⟨h1,h2,h3,h4⟩:=h;rw[hE.1 i h1];exact⟨by omega,by omega,h3,(hw _ h2 (zac.1 h4).1).trans h4⟩
 |.pair i a b,v,h=>by
  unfold ba at h ⊢;obtain⟨h1,h2,h3,va,vb,h4,h5,h6⟩:=h;rw[hE.1 i h1];exact⟨by omega,by omega,h3,va,vb,(hw _ h2 (zac.1 h4).1).trans h4,ba.keep hl hk hL hw hE a va h5,ba.keep hl hk hL hw hE b vb h6⟩
 |.vec i l,v,h=>by
  unfold ba at h ⊢;obtain⟨h1,h2,h3,sl,vs,h4,h5,h6⟩:=h;rw[hE.1 i h1];exact⟨by omega,by omega,h3,sl,vs,(hw _ h2 (zac.1 h4).1).trans h4,bg h5 hl hw,cH.keep hl hk hL hw hE l vs h6⟩
 |.put n d,v,h=>by
  unfold ba at h ⊢;obtain⟨h1,h2,h3,h4⟩:=h;rw[hE.2 n h1];exact⟨hL n h1,by omega,(hw _ h2 (zac.1 h3).1).trans h3,ba.keep hl hk hL hw hE d v h4⟩
 |.ask n,v,h=>by
  unfold ba at h ⊢;rw[hE.2 n h.1];exact⟨hL n h.1,h.2⟩
 |.iw,v,h=>by unfold ba at h;exact h.elim
 |.cK a l,v,h=>by unfold ba at h;exact h.elim
theorem cH.keep {lo NW k k':Nat}{L L':List Int}{w w':World}{E E':Env}(hl:NW≤lo)(hk:k≤k')(hL:∀n∈L,n∈L')(hw:∀b,lo≤b→b<w.heap.size→w'.heap[b]?=w.heap[b]?)(hE:E.agree E' k L):∀(d:Dt) (vs:List Value),cH lo k L w E d vs→cH NW k' L' w' E' d vs
 |.iw,vs,h=>by unfold cH at h ⊢;exact h
 |.cK a l,vs,h=>by
  unfold cH at h ⊢;obtain⟨v,r,rfl,h1,h2⟩:=h;exact⟨v,r,rfl,ba.keep hl hk hL hw hE a v h1,cH.keep hl hk hL hw hE l r h2⟩
 |.nil,vs,h=>by unfold cH at h;exact h.elim
 |.sym _,vs,h=>by unfold cH at h;exact h.elim
 |.num _ _,vs,h=>by unfold cH at h;exact h.elim
 |.cQ _,vs,h=>by unfold cH at h;exact h.elim
 |.su _,vs,h=>by unfold cH at h;exact h.elim
 |.txt _ _,vs,h=>by unfold cH at h;exact h.elim
 |.pair _ _ _,vs,h=>by unfold cH at h;exact h.elim
 |.vec _ _,vs,h=>by unfold cH at h;exact h.elim
 |.put _ _,vs,h=>by unfold cH at h;exact h.elim
 |.ask _,vs,h=>by unfold cH at h;exact h.elim
end
def jg (w:World)(M:Nat)(l:List (Value×Value)):Prop:=∃es clock,w.heap[M]?=some (.map es clock)∧es.toList.map (λe=>(e.key,e.val))=l
theorem nT:∀(es:List MapEntry) (l:List (Int×Value)) (n:Int) (i:Nat),es.map (λe=>(e.key,e.val))=l.map (λp=>(Value.int .i64 p.1,p.2))→∃j,Instr.findNow (.int .i64) (.int .i64 n) es i=some ((l.lookup n).map λv=>(j,v))
 |[],[],n,i,_=>⟨0,rfl⟩
 |[],_::_,_,_,h=>by simp at h
 |_::_,[],_,_,h=>by simp at h
 |e::es,(m,v)::l,n,i,h=>by
  simp only[zan,List.cons.injEq,zab]at h;obtain⟨⟨h1,h2⟩,h3⟩:=h;unfold Instr.findNow;rw[h1];by_cases hn:n=m
  ·subst hn;refine⟨i,?_⟩;simp[Instr.sameNow,List.lookup,h2]
  ·obtain⟨j,hj⟩:=nT es l n (i+1) h3;refine⟨j,?_⟩;have:(n==m)=false:=by simpa using hn
   simp[Instr.sameNow,this,List.lookup,hj]
theorem Io:prog.underlying 121=some (.map 3 212):=by kernel_rfl
theorem F0:prog.underlying 3=some (.int .i64):=by kernel_rfl
theorem C1 (b:Bool)(n:Int)(w:World):(Instr.checkKey b 10000 3 (.int .i64 n)).run prog w=.ok () w:=by
 unfold Instr.checkKey;simp[run_underlying F0]
theorem nU {w:World}{M:Nat}{l:List (Int×Value)}(h:jg w M (l.map λp=>(Value.int .i64 p.1,p.2)))(n:Int):(Instr.lookup 121 (.map (some M)) (.int .i64 n) false).run prog w=.ok ((l.lookup n).getD (.pointer none)) w:=by
 obtain⟨es,clock,h1,h2⟩:=h;obtain⟨j,hj⟩:=nT es.toList l n 0 h2;have hg:(getObj M).run prog w=.ok (.map es clock) w:=by simp[getObj,Sem.run,h1]
 unfold Instr.lookup Instr.findKey;simp only[Sem.run_bind,run_underlying Io,Result.andThen_ok,hg,Sem.run_pure,C1,run_underlying F0,hj];cases hq:l.lookup n with
 |none=>simp
 |some v=>simp
theorem F2 {w:World}{M:Nat}{l:List (Int×Value)}(h:jg w M (l.map λp=>(Value.int .i64 p.1,p.2)))(n:Int)(hn:l.lookup n=none)(v:Value):∃o,(Instr.mapUpdate 121 (.map (some M)) (.int .i64 n) v).run prog w=.ok () { w with heap:=w.heap.setIfInBounds M o }∧jg { w with heap:=w.heap.setIfInBounds M o } M ((l++[(n,v)]).map λp=>(Value.int .i64 p.1,p.2)):=by
 obtain⟨es,clock,h1,h2⟩:=h;obtain⟨j,hj⟩:=nT es.toList l n 0 h2;rw[hn]at hj;have hlt:M<w.heap.size:=(zac.1 h1).1;have hg:(getObj M).run prog w=.ok (.map es clock) w:=by simp[getObj,Sem.run,h1]
 refine⟨.map (es.push { key:= .int .i64 n,val:=v,born:=clock }) (clock+1),?_,es.push { key:= .int .i64 n,val:=v,born:=clock },clock+1,?_,?_⟩
 ·unfold Instr.mapUpdate Instr.findKey;simp only[Sem.run_bind,run_underlying Io,Result.andThen_ok,hg,Sem.run_pure,C1,run_underlying F0,hj];simp[setObj,Sem.run,h1]
 ·show(w.heap.setIfInBounds M _)[M]?=_;rw[zaJ hlt]
 ·simp[h2]
end Go.Proofs.YtlhimdjkkiflhaaGreatDoor
namespace Go.Loop
def RR.good {α:Type}(T:List Tok)(k:Nat)(r:RR α):Prop:=
 match r with
 |.out=>False
 |.fail _ _=>True
 |.ok _ s'=>k≤s'.k∧s'.k<T.length
theorem RR.eD {α β:Type}{T:List Tok}{k j:Nat}{x:RR α}{f:α→gW→RR β}(h:x.good T k)(hf:∀a s,k≤s.k→s.k<T.length→(f a s).good T j):(x.bind f).good T j:=by
 cases x with
 |out=>exact h
 |fail e a=>trivial
 |ok a s=>exact hf a s h.1 h.2
theorem RR.lQ {α:Type}{T:List Tok}{k j:Nat}{x:RR α}(h:x.good T k)(hj:j≤k):x.good T j:=by
 cases x with
 |out=>exact h
 |fail e a=>trivial
 |ok a s=>exact⟨zad hj h.1,h.2⟩
section
variable (T:List Tok)(dp:Nat)
structure Fuel (n:Nat):Prop where
 datum:∀p s,s.k<T.length→2*(T.length-s.k)+2≤n→(aV T dp n p s).good T (s.k+1)
 take:∀p s,s.k<T.length→2*(T.length-s.k)+1≤n→(bq T dp n p s).good T (s.k+1)
 Kf:∀t p s,s.k<T.length→2*(T.length-s.k)+3≤n→(cJ T dp n t p s).good T s.k
 list:∀l p s,s.k<T.length→2*(T.length-s.k)+2≤n→(dh T dp n l p s).good T (s.k+1)
 vec:∀l p s,s.k<T.length→2*(T.length-s.k)+2≤n→(jf T dp n l p s).good T (s.k+1)
theorem F3 (t:Tok)(s:gW)(h:s.k<T.length):(C0 t s).good T s.k:=by
 unfold C0;repeat' split
 all_goals first|trivial|exact⟨zaa _,h⟩
theorem fuel (hT:∀k t,T[k]?=some t→t.kind≠0→t.kind≠1→k+1<T.length):∀n,Fuel T dp n
 |0=>⟨λ_ _ _ h=>by omega,λ_ _ _ h=>by omega,λ_ _ _ _ h=>by omega,λ_ _ _ _ h=>by omega,λ_ _ _ _ h=>by omega⟩
 |n+1=>by
  have ih:=fuel hT n;refine⟨λp s hk hn=>?_,λp s hk hn=>?_,λt p s hk hn=>?_,λl p s hk hn=>?_,λl p s hk hn=>?_⟩
  ·unfold aV;refine RR.eD (ih.take p s hk (by omega)) λt s1 h1 h2=>?_;exact RR.lQ (ih.Kf t p s1 h2 (by omega)) h1
  ·unfold bq;have hs:T[s.k]?=some T[s.k]:=zaf hk;rw[hs];dsimp only;split
   ·trivial
   ·rename_i h0;split
    ·trivial
    ·rename_i h1;have hlt:=hT s.k _ hs h0 h1;split
     ·refine RR.eD (ih.datum ⟨p.depth,true,[]⟩ { s with k:=s.k+1 } hlt (by show 2*(T.length-(s.k+1))+2≤n;omega)) λd s1 h2 h3=>?_;have iZ:s.k+1+1≤s1.k:=h2;exact RR.lQ (ih.take p s1 h3 (by omega)) (by omega)
     ·exact⟨zaa _,hlt⟩
  ·unfold cJ;split
   ·trivial
   ·split
    ·split
     ·trivial
     ·split
      ·trivial
      ·exact RR.eD (k:=s.k+1) (ih.datum _ { s with aP:=t.n::s.aP } hk (by show 2*(T.length-s.k)+2≤n;omega)) λd s1 h1 h2=>⟨by omega,h2⟩
    ·split
     ·split
      ·trivial
      ·exact⟨zaa _,hk⟩
     ·split
      ·split
       ·trivial
       ·split
        ·exact RR.eD (k:=s.k+1) (ih.vec [] _ { s with fresh:=s.fresh+1 } hk (by show 2*(T.length-s.k)+2≤n;omega)) λd s1 h1 h2=>⟨by omega,h2⟩
        ·split
         ·exact RR.eD (k:=s.k+1) (ih.datum _ s hk (by omega)) λd s1 h1 h2=>⟨by show s.k≤s1.k;omega,h2⟩
         ·exact RR.lQ (ih.list [] _ s hk (by omega)) (by omega)
      ·exact F3 T t s hk
  ·unfold dh;refine RR.eD (ih.take p s hk (by omega)) λt s1 h1 h2=>?_;split
   ·exact⟨h1,h2⟩
   ·split
    ·refine RR.eD (ih.datum p s1 h2 (by omega)) λd s2 h3 h4=>?_;refine RR.eD (ih.take p s2 h4 (by omega)) λt2 s3 h5 h6=>?_;split
     ·exact⟨by show s.k+1≤s3.k;omega,h6⟩
     ·trivial
    ·refine RR.eD (ih.Kf t p s1 h2 (by omega)) λd s2 h3 h4=>?_;exact RR.lQ (ih.list _ p s2 h4 (by omega)) (by omega)
  ·unfold jf;refine RR.eD (ih.take p s hk (by omega)) λt s1 h1 h2=>?_;split
   ·exact⟨h1,h2⟩
   ·split
    ·trivial
    ·refine RR.eD (ih.Kf t p s1 h2 (by omega)) λd s2 h3 h4=>?_;exact RR.lQ (ih.vec _ p s2 h4 (by omega)) (by omega)
end
theorem ug:∀(n:Nat) (s:List UInt8) (a:Nat),a≤s.length→s.length-a<n→aU n s a≠[]∧∀k t,(aU n s a)[k]?=some t→t.kind≠0→t.kind≠1→k+1<(aU n s a).length
 |0,s,a,_,h=>by omega
 |n+1,s,a,ha,h=>by
  have hf:=zm ha;rw[aU];split
  ·rename_i hl;refine⟨by simp,λk t hk h0 h1=>?_⟩;cases k with
   |zero=>
    simp at hk;subst hk;simp[Tok.lastB]at hl;omega
   |succ k=>simp at hk
  ·rename_i hl;have hl':(aZ s a).lastB=false:=by simpa using hl
   have h2:=hf.2.2 hl';have h3:=hf.2.1;have ih:=ug n s (aZ s a).cA hf.2.1 (by omega);refine⟨by simp,λk t hk h0 h1=>?_⟩;cases k with
   |zero=>
    have:0<(aU n s (aZ s a).cA).length:=List.length_pos_iff.2 ih.1;simp only[zat];omega
   |succ k=>
    rw[List.getElem?_cons_succ]at hk;have:=ih.2 k t hk h0 h1;simp only[zat];omega
theorem zr:∀(n:Nat) (s:List UInt8) (a:Nat),(aU n s a).length≤n
 |0,s,a=>zaa _
 |n+1,s,a=>by
  have:=zr n s (aZ s a).cA;rw[aU];split
  ·simp
  ·simp;exact this
def Dt.hd:Dt→Bool
 |.put _ _|.ask _|.iw |.cK _ _=>false
 |_=>true
section
variable (root:Dt)
mutual
def lR:Nat→Dt→mU→Option (Nat×mU)
 |0,_,_=>none
 |n+1,d,g=>
  match bR root 200000 d with
  |.pair i a b=>
   match g.met.lookup i with
   |some k=>some (k,g)
   |none=>(jh n (.cK a (.cK b .iw)) [] ⟨g.nodes++[⟨1,[],0,0,[]⟩],(i,g.nodes.length)::g.met⟩).map λy=>(g.nodes.length,{ y.2 with nodes:=dR y.2.nodes g.nodes.length y.1 })
  |.vec i l=>
   match g.met.lookup i with
   |some k=>some (k,g)
   |none=>(jh n l [] ⟨g.nodes++[⟨2,[],0,0,[]⟩],(i,g.nodes.length)::g.met⟩).map λy=>(g.nodes.length,{ y.2 with nodes:=dR y.2.nodes g.nodes.length y.1 })
  |.txt i s=>
   match g.met.lookup i with
   |some k=>some (k,g)
   |none=>some (g.nodes.length,⟨g.nodes++[⟨3,s,0,0,[]⟩],(i,g.nodes.length)::g.met⟩)
  |.sym s=>some (g.nodes.length,g.add ⟨4,s,0,0,[]⟩)
  |.num a b=>some (g.nodes.length,g.add ⟨5,[],a,b,[]⟩)
  |.cQ a=>some (g.nodes.length,g.add ⟨6,[],a,0,[]⟩)
  |.su a=>some (g.nodes.length,g.add ⟨7,[],a,0,[]⟩)
  |_=>some (g.nodes.length,g.add ⟨0,[],0,0,[]⟩)
def jh:Nat→Dt→List Nat→mU→Option (List Nat×mU)
 |0,_,_,_=>none
 |n+1,l,acc,g=>
  match l with
  |.iw=>some (acc,g)
  |.cK a l=>(lR n a g).bind λx=>jh n l (acc++[x.1]) x.2
  |_=>none
end
end
def ji (text:List UInt8)(depth:Int):Option (List ng×Nat×Int):=
 if depth<0∨30<depth then some ([],0,1)
 else if 400<text.length then some ([],0,2)
 else
  match aV (aU (text.length+1) text 0) depth.toNat 2000 ⟨0,false,[]⟩ ⟨0,0,[]⟩with
  |.out=>none
  |.fail e a=>some ([],a,e)
  |.ok d s=>(lR d 100000 d ⟨[],[]⟩).map λg=>if 150<g.2.nodes.length then([],0,2)else(g.2.nodes,(((aU (text.length+1) text 0)[s.k-1]?).map (·.cA)).getD 0,0)
end Go.Loop
namespace Go.Proofs.YtlhimdjkkiflhaaGreatDoor
open Go.Proofs.Tryz
open Go.RowKit Go.Loop
inductive HK where
 |pair
 |vec
 |txt
deriving DecidableEq
def HK.p:HK→TypeId
 |.pair=>150
 |.vec=>163
 |.txt=>158
def HK.o:HK→TypeId
 |.pair=>161
 |.vec=>165
 |.txt=>218
def ki (h:HK)(b:Nat):Value:= .iface h.p (au b)
def kJ (w:World)(h:HK)(b:Nat):Prop:=∃cs,w.heap[b]?=some (.cells cs h.o)
theorem kJ.same {w:World}{h h':HK}{b:Nat}(x:kJ w h b)(y:kJ w h' b):h=h':=by
 obtain⟨c,hc⟩:=x;obtain⟨c',hc'⟩:=y;rw[hc]at hc';cases h<;>cases h'<;>first|rfl|(simp[HK.o]at hc')
theorem C2:((prog.underlying 58).any λd=>match d with|.interface _=>true|_=>false)=true:=by kernel_rfl
theorem iV:∃ms,prog.underlying 58=some (.interface ms):=by
 have h:=C2;cases hq:prog.underlying 58 with
 |none=>rw[hq]at h;cases h
 |some d=>
  rw[hq]at h;cases d<;>first|exact⟨_,rfl⟩|(simp at h)
section
variable {P:Program}
theorem mq (d:Nat){ti tx ty:TypeId}{ms:Array (String×TypeId)}{vx vy:Value}(w:World)(hi:P.underlying ti=some (.interface ms))(h:tx≠ty):(Op.equalIn (d+1) ti (.iface tx vx) (.iface ty vy)).run P w=.ok false w:=by
 simp[Op.equalIn,run_underlying hi,h]
theorem p6 (b:Bool)(d:Nat){ti tp te:TypeId}{ms:Array (String×TypeId)}{i:TypeInfo}{v:Value}(w:World)(hi:P.underlying ti=some (.interface ms))(hp:P.underlying tp=some (.pointer te))(nV:P.info? tp=some i)(zt:i.comparable=true):(Instr.checkKey b (d+2) ti (.iface tp v)).run P w=.ok () w:=by
 simp[Instr.checkKey,run_underlying hi,run_underlying hp,typeInfo,nV,zt]
end
theorem C3:prog.underlying 98=some (.map 58 3):=by kernel_rfl
theorem ve (h:HK):prog.underlying h.p=some (.pointer h.o):=by cases h<;>kernel_rfl
theorem Ip (h:HK):(prog.info? h.p).map (λi=>i.comparable)=some true:=by cases h<;>kernel_rfl
theorem Iq (h:HK):(prog.info? h.o).any (λi=>i.size != 0)=true:=by cases h<;>kernel_rfl
theorem Zj {w:World}{h h':HK}{b b':Nat}(x:kJ w h b)(y:kJ w h' b'):(Op.equal 58 (ki h b) (ki h' b')).run prog w=.ok (decide (b=b')) w:=by
 obtain⟨ms,hi⟩:=iV;have nV:=Ip h;cases hq:prog.info? h.p with
 |none=>rw[hq]at nV;cases nV
 |some i=>
  rw[hq]at nV;have zt:i.comparable=true:=by simpa using nV
  have Hf:=Iq h;cases uF:prog.info? h.o with
  |none=>rw[uF]at Hf;cases Hf
  |some j=>
   rw[uF]at Hf;have hsz:j.size≠0:=by simpa using Hf
   unfold ki au Op.equal Op.maxDepth;by_cases e:b=b'
   ·subst e;obtain rfl:=x.same y;rw[run_equalIn_iface_ptr_same _ 9998 _ hi (ve h) hq zt uF];simp
   ·by_cases eh:h=h'
    ·subst eh;obtain⟨c,hc⟩:=x;obtain⟨c',hc'⟩:=y;rw[run_equalIn_iface_ptr_other _ 9998 hi (ve h) hq zt uF hsz (λq=>e (by cases q;rfl)) hc hc'];simp[e]
    ·have hp:h.p≠h'.p:=by cases h<;>cases h'<;>first|exact absurd rfl eh|(simp[HK.p])
     rw[mq 9999 w hi hp];simp[e]
def C4 (κ:Nat→HK)(E:Env)(met:List (Nat×Nat)):List (Value×Value):=met.reverse.map λp=>(ki (κ p.1) (E.α p.1),.int .i64 p.2)
theorem xb {α β:Type} [BEq α] [LawfulBEq α] (l:List (α×β))(i:α)(h:(l.map (·.1)).Nodup):l.reverse.lookup i=l.lookup i:=by
 induction l with
 |nil=>rfl
 |cons p l ih=>
  obtain⟨a,b⟩:=p;rw[zan,List.nodup_cons]at h;rw[List.reverse_cons];rw[List.lookup_append,ih h.2];by_cases e:i=a
  ·subst e;have hn:l.lookup i=none:=by
    rw[List.lookup_eq_none_iff];intro q hq;have:q.1≠i:=λe=>h.1 (zaP.2 ⟨q,hq,e⟩);simpa using λe=>this e.symm
   simp[hn]
  ·have he:(i==a)=false:=by simpa using e
   simp only[zby,he];simp
theorem A4 {w:World}{κ:Nat→HK}{E:Env}{i:Nat}:∀(es:List MapEntry) (l:List (Nat×Nat)) (n:Nat),es.map (λe=>(e.key,e.val))=l.map (λp=>(ki (κ p.1) (E.α p.1),Value.int .i64 p.2))→kJ w (κ i) (E.α i)→(∀p∈l,kJ w (κ p.1) (E.α p.1))→(∀p∈l,E.α i=E.α p.1→i=p.1)→∃j,(Instr.findAsking 58 (ki (κ i) (E.α i)) es n).run prog w=.ok ((l.lookup i).map λk=>(j,Value.int .i64 k)) w
 |[],[],n,_,_,_,_=>⟨0,by simp[Instr.findAsking]⟩
 |[],_::_,_,h,_,_,_=>by simp at h
 |_::_,[],_,h,_,_,_=>by simp at h
 |e::es,(m,v)::l,n,h,hi,hl,C5=>by
  simp only[zan,List.cons.injEq,zab]at h;obtain⟨⟨h1,h2⟩,h3⟩:=h;unfold Instr.findAsking;rw[h1];have heq:=Zj hi (hl _ zap);by_cases hn:i=m
  ·subst hn;exact⟨n,by simp[heq,h2]⟩
  ·have hne:E.α i≠E.α m:=λe=>hn (C5 _ zap e);obtain⟨j,hj⟩:=A4 es l (n+1) h3 hi (λp hp=>hl p (zas _ hp)) (λp hp=>C5 p (zas _ hp));refine⟨j,?_⟩;have hb:(i==m)=false:=by simpa using hn
   simp[heq,hne,hj,List.lookup_cons,hb]
theorem xc (b:Bool)(h:HK)(c:Nat)(w:World):(Instr.checkKey b 10000 58 (ki h c)).run prog w=.ok () w:=by
 obtain⟨ms,hi⟩:=iV;have nV:=Ip h;cases hq:prog.info? h.p with
 |none=>rw[hq]at nV;cases nV
 |some i=>
  rw[hq]at nV;have zt:i.comparable=true:=by simpa using nV
  exact p6 b 9998 w hi (ve h) hq zt
section
variable {w:World}{M:Nat}{κ:Nat→HK}{E:Env}{met:List (Nat×Nat)}
theorem C6 (h:jg w M (C4 κ E met))(i:Nat)(hi:kJ w (κ i) (E.α i))(hl:∀p∈met,kJ w (κ p.1) (E.α p.1))(C5:∀p∈met,E.α i=E.α p.1→i=p.1)(hnd:(met.map (·.1)).Nodup):(Instr.lookup 98 (.map (some M)) (ki (κ i) (E.α i)) true).run prog w=.ok (.tuple #[.int .i64 (((met.lookup i).getD 0:Nat):Int),.bool (met.lookup i).isSome]) w:=by
 obtain⟨es,clock,h1,h2⟩:=h;obtain⟨ms,hint⟩:=iV;have hg:(getObj M).run prog w=.ok (.map es clock) w:=by simp[getObj,Sem.run,h1]
 obtain⟨j,hj⟩:=A4 (w:=w) (κ:=κ) (E:=E) (i:=i) es.toList met.reverse 0 h2 hi (λp hp=>hl p (List.mem_reverse.1 hp)) (λp hp=>C5 p (List.mem_reverse.1 hp));rw[xb _ _ hnd]at hj;unfold Instr.lookup Instr.findKey;simp only[Sem.run_bind,run_underlying C3,Result.andThen_ok,hg,Sem.run_pure,xc,run_underlying hint];cases hes:es.toList with
 |nil=>
  rw[hes]at hj h2;have hm:met=[]:=by
   have:met.reverse=[]:=by
    have:=congrArg List.length h2;unfold C4 at this;simp at this;exact List.reverse_eq_nil_iff.2 (zbi this.symm)
   simpa using this
  subst hm;simp[Instr.findNow]
 |cons e es'=>
  rw[hes]at hj;have hs:Instr.findNow (.interface ms) (ki (κ i) (E.α i)) (e::es') 0=none:=by simp[Instr.findNow,Instr.sameNow]
  simp only[hs,hj];cases hq:met.lookup i with
  |none=>simp
  |some v=>simp
theorem xd (h:jg w M (C4 κ E met))(i k:Nat)(hi:kJ w (κ i) (E.α i))(hl:∀p∈met,kJ w (κ p.1) (E.α p.1))(C5:∀p∈met,E.α i=E.α p.1→i=p.1)(hnd:(met.map (·.1)).Nodup)(hn:met.lookup i=none):∃o,(Instr.mapUpdate 98 (.map (some M)) (ki (κ i) (E.α i)) (.int .i64 k)).run prog w=.ok () { w with heap:=w.heap.setIfInBounds M o }∧jg { w with heap:=w.heap.setIfInBounds M o } M (C4 κ E ((i,k)::met)):=by
 obtain⟨es,clock,h1,h2⟩:=h;obtain⟨ms,hint⟩:=iV;have hlt:M<w.heap.size:=(zac.1 h1).1;have hg:(getObj M).run prog w=.ok (.map es clock) w:=by simp[getObj,Sem.run,h1]
 obtain⟨j,hj⟩:=A4 (w:=w) (κ:=κ) (E:=E) (i:=i) es.toList met.reverse 0 h2 hi (λp hp=>hl p (List.mem_reverse.1 hp)) (λp hp=>C5 p (List.mem_reverse.1 hp));rw[xb _ _ hnd,hn]at hj;refine⟨.map (es.push { key:=ki (κ i) (E.α i),val:= .int .i64 k,born:=clock }) (clock+1),?_,es.push { key:=ki (κ i) (E.α i),val:= .int .i64 k,born:=clock },clock+1,?_,?_⟩
 ·unfold Instr.mapUpdate Instr.findKey;simp only[Sem.run_bind,run_underlying C3,Result.andThen_ok,hg,xc,run_underlying hint];cases hes:es.toList with
  |nil=>simp[Instr.findNow,setObj,Sem.run,h1]
  |cons e es'=>
   rw[hes]at hj;have hs:Instr.findNow (.interface ms) (ki (κ i) (E.α i)) (e::es') 0=none:=by simp[Instr.findNow,Instr.sameNow]
   simp only[hs,hj];simp[setObj,Sem.run,h1]
 ·show(w.heap.setIfInBounds M _)[M]?=_;rw[zaJ hlt]
 ·rw[Array.toList_push,zbu,h2];simp[C4]
end
theorem cO (w:World)(A B:Obj):((w.alloc A).alloc B).heap[w.heap.size+1]?=some B:=by
 rw[show w.heap.size+1=(w.alloc A).heap.size by simp];exact heap_alloc_new _ _
theorem NY (t:Tok)(w:World)(hk:t.kind=8):Calls prog 163 #[aX t] w λe w'=>∃b,e=.returned (.tuple #[.iface 158 (au b),.pointer none])∧w.heap.size≤b∧w'.heap[b]?=some (.cells #[.string ⟨⟨t.text⟩⟩] 218)∧Below w.heap.size w w':=by
 have q:(((t.kind:Nat):Int)==8)=true:=by rw[hk];rfl
 clear hk;unfold aX;go_enter func163,ntmps163;go_wp2_with fail;go_ret2;refine⟨w.heap.size+1,rfl,by omega,?_,?_⟩
 ·exact cO w _ _
 ·(repeat (first|with_reducible refine Below.setCell ?_ (by simp) _|with_reducible refine Below.alloc ?_ (by simp) _));with_reducible exact Below.refl _ _
def jC (t:Tok):Value:=
 if t.kind=9 then .iface 157 (.agg #[.int .i64 t.n])
 else if t.kind=12 then .iface 155 (.agg #[.int .i64 t.n])
 else if t.kind=14 then .iface 168 (.agg #[.string ⟨⟨t.text⟩⟩])
 else .iface 153 (.agg #[.int .i64 t.n,.int .i64 t.d])
theorem NZ (t:Tok)(w:World)(h8:¬t.kind=8)(hf:t.kind=9∨t.kind=12∨t.kind=14∨t.fault=0):Calls prog 163 #[aX t] w λe w'=>e=.returned (.tuple #[jC t,.pointer none])∧Below w.heap.size w w':=by
 have q8:(((t.kind:Nat):Int)==8)=false:=by rw[beq_eq_false_iff_ne];omega
 by_cases h9:t.kind=9
 ·have e:Hid (jC t=.iface 157 (.agg #[.int .i64 t.n])):=if_pos h9;have q9:(((t.kind:Nat):Int)==9)=true:=by rw[h9];rfl
  clear h9 hf h8;unfold aX;go_enter func163,ntmps163;go_wp2_with fail;go_ret2;refine⟨by rw[e.out];rfl,?_⟩
  (repeat (first|with_reducible refine Below.setCell ?_ (by simp) _|with_reducible refine Below.alloc ?_ (by simp) _));with_reducible exact Below.refl _ _
 have q9:(((t.kind:Nat):Int)==9)=false:=by rw[beq_eq_false_iff_ne];omega
 by_cases BK:t.kind=12
 ·have e:Hid (jC t=.iface 155 (.agg #[.int .i64 t.n])):=(if_neg h9).trans (if_pos BK);have q12:(((t.kind:Nat):Int)==12)=true:=by rw[BK];rfl
  clear h9 hf h8 BK;unfold aX;go_enter func163,ntmps163;go_wp2_with fail;go_ret2;refine⟨by rw[e.out];rfl,?_⟩
  (repeat (first|with_reducible refine Below.setCell ?_ (by simp) _|with_reducible refine Below.alloc ?_ (by simp) _));with_reducible exact Below.refl _ _
 have q12:(((t.kind:Nat):Int)==12)=false:=by rw[beq_eq_false_iff_ne];omega
 by_cases EJ:t.kind=14
 ·have e:Hid (jC t=.iface 168 (.agg #[.string ⟨⟨t.text⟩⟩])):=((if_neg h9).trans (if_neg BK)).trans (if_pos EJ);have q14:(((t.kind:Nat):Int)==14)=true:=by rw[EJ];rfl
  clear h9 hf h8 BK EJ;unfold aX;go_enter func163,ntmps163;go_wp2_with fail;go_ret2;refine⟨by rw[e.out];rfl,?_⟩
  (repeat (first|with_reducible refine Below.setCell ?_ (by simp) _|with_reducible refine Below.alloc ?_ (by simp) _));with_reducible exact Below.refl _ _
 ·have q14:(((t.kind:Nat):Int)==14)=false:=by rw[beq_eq_false_iff_ne];omega
  have e:Hid (jC t=.iface 153 (.agg #[.int .i64 t.n,.int .i64 t.d])):=((if_neg h9).trans (if_neg BK)).trans (if_neg EJ);have qf:(t.fault==0)=true:=by rw[beq_iff_eq];omega
  clear h9 hf h8 BK EJ;unfold aX;go_enter func163,ntmps163;go_wp2_with fail;go_ret2;refine⟨by rw[e.out];rfl,?_⟩
  (repeat (first|with_reducible refine Below.setCell ?_ (by simp) _|with_reducible refine Below.alloc ?_ (by simp) _));with_reducible exact Below.refl _ _
theorem F4 (t:Tok)(w:World)(h:¬t.kind=8∧¬t.kind=9∧¬t.kind=12∧¬t.kind=14)(hf:¬t.fault=0):Calls prog 163 #[aX t] w λe w'=>∃b,e=.returned (.tuple #[.nilIface,au b])∧w'.heap[b]?=some (.cells #[.int .i64 t.fault,.int .i64 t.from_] 65)∧Below w.heap.size w w':=by
 obtain⟨h8,h9,BK,EJ⟩:=h;have q8:(((t.kind:Nat):Int)==8)=false:=by rw[beq_eq_false_iff_ne];omega
 have q9:(((t.kind:Nat):Int)==9)=false:=by rw[beq_eq_false_iff_ne];omega
 have q12:(((t.kind:Nat):Int)==12)=false:=by rw[beq_eq_false_iff_ne];omega
 have q14:(((t.kind:Nat):Int)==14)=false:=by rw[beq_eq_false_iff_ne];omega
 have qf:(t.fault==0)=false:=by rw[beq_eq_false_iff_ne];exact hf
 have mixed:prog.follows Departure.mixedOrders=true:=by kernel_rfl
 clear h8 h9 BK EJ hf;unfold aX;go_enter func163,ntmps163;go_wp2_with fail;go_region;all_goals
  go_wp2
  go_ret2;refine⟨w.heap.size+1,rfl,?_,?_⟩
  ·exact cO w _ _
  ·(repeat (first|with_reducible refine Below.setCell ?_ (by simp) _|with_reducible refine below_drewN ?_ _|with_reducible refine Below.drew ?_ |with_reducible refine Below.alloc ?_ (by simp) _));with_reducible exact Below.refl _ _
def eX (w:World)(base:Nat):List Value→Value→Value→Prop
 |[],rest,v=>v=rest
 |x::vs,rest,v=>v=.iface 150 (au (base+vs.length))∧∃v',w.heap[base+vs.length]?=some (.cells #[x,v'] 161)∧eX w base vs rest v'
theorem eX.keep {w w':World}{base:Nat}{rest:Value}:∀(vs:List Value) (v:Value),eX w base vs rest v→(∀b,base≤b→b<w.heap.size→w'.heap[b]?=w.heap[b]?)→eX w' base vs rest v
 |[],_,h,_=>h
 |x::vs,v,⟨h1,v',h2,h3⟩,hk=>⟨h1,v',(hk _ (by omega) (zac.1 h2).1).trans h2,eX.keep vs v' h3 hk⟩
theorem Kg (vs:List Value)(g cap lo:Nat)(rest:Value)(w:World)(hrow:w.ownsRow lo 58 1 (.slice (some ⟨g,0,none⟩) vs.length cap) vs.length vs)(hn:vs.length≤1000000)(Ti:∀x∈vs,∃t y,x=.iface t y)(Tj:∃t y,rest=.iface t y):Calls prog 221 #[.slice (some ⟨g,0,none⟩) vs.length cap,rest] w λe w'=>∃v,e=.returned v∧eX w' w.heap.size vs rest v∧w'.heap.size=w.heap.size+vs.length∧Below w.heap.size w w':=by
 have hg:g<w.heap.size:=(hrow.lt g rfl).2;have hcell:Hid (∀(j:Nat) (x:Value),vs[j]?=some x→w.cell? ⟨g,j,none⟩=some x):=λj x hx=>by
  have hj:j<vs.length:=(zaT.1 hx).1;rw[hrow.cellAt j (by omega),hx]
 clear hrow;go_enter func221,ntmps221;go_wp2_with fail;go_loopw [5,1] (λi r wr=>∃j:Nat,j≤vs.length∧i=.int .i64 ((j:Int)-1)∧wr.heap.size=w.heap.size+(vs.length-j)∧(∃t y,r=.iface t y)∧Hid (eX wr w.heap.size (vs.drop j) rest r)∧Hid (Below w.heap.size w wr)) (λi _ _=>(intOf i+1).toNat)
 case atStart=>exact⟨vs.length,zaa _,by go_num,by omega,Tj,by show eX _ _ _ _ _;rw[List.drop_length];rfl,Below.refl _ _⟩
 case round=>
  obtain⟨j,hj,rfl,hsz,⟨tr,yr,rfl⟩,hC,hB⟩:=hrel;by_cases h0:j=0
  ·subst h0;go_wp2_with fail;go_ret;exact⟨_,rfl,by simpa using hC.out,by simpa using hsz,hB.out⟩
  ·obtain⟨m,rfl⟩:∃m,j=m+1:=⟨j-1,by omega⟩;have hx:vs[m]?=some vs[m]:=zaf (by omega);have hc:Hid (w.cell? ⟨g,m,none⟩=some vs[m]):=hcell.out m _ hx;have X1:=(hB.out.cell (p:=⟨g,m,none⟩) hg).trans hc.out;obtain⟨tx,yx,hxi⟩:=Ti vs[m] (zaC (by omega));have hdr:Hid (vs.drop m=vs[m]::vs.drop (m+1)):=zba (by omega);rw[hxi]at X1 hdr;clear hx hc hxi;have hm:m<vs.length:=by omega
   rw[show(((m+1:Nat):Int)-1)=(m:Int) by omega];go_wp2_with fail;go_roundw
   case rel=>exact⟨m,by omega,rfl,by simp;omega,⟨_,_,rfl⟩,by
    show eX _ _ _ _ _;rw[hdr.out];have hl:(vs.drop (m+1)).length=vs.length-(m+1):=zaj;refine⟨by rw[hl,←hsz];rfl,.iface tr yr,?_,?_⟩
    ·rw[hl,←hsz];exact heap_alloc_new _ _
    ·exact eX.keep _ _ hC.out λb _ h=>Lib.alloc_old _ _ _ h,hB.out.alloc (by omega) _⟩
   case measure=>simp[intOf]
def gA (d:Nat)(p:Bool)(av:Value):Value:= .agg #[.int .i64 d,.bool p,av]
def cy (w:World)(b:Nat)(e:Int)(a:Nat):Prop:=w.heap[b]?=some (.cells #[.int .i64 e,.int .i64 a] 65)
theorem Kh (w:World)(A B C D:Obj):((((w.alloc A).alloc B).alloc C).alloc D).heap[w.heap.size+1+1+1]?=some D:=by
 rw[show w.heap.size+1+1+1=(((w.alloc A).alloc B).alloc C).heap.size by simp];exact heap_alloc_new _ _
theorem zu (R dp:Nat)(t:Tok)(d:Nat)(p:Bool)(a:Option Addr)(l c:Nat)(w:World)(hR:w.cell? ⟨R,2,none⟩=some (.int .i64 dp))(hlt:R<w.heap.size)(hd:d<1000)(hne:¬d=dp):Calls prog 192 #[au R,aX t,gA d p (.slice a l c)] w λe w'=>e=.returned (.tuple #[gA (d+1) p (.slice none 0 0),.pointer none])∧Below w.heap.size w w':=by
 have mixed:prog.follows Departure.mixedOrders=true:=by kernel_rfl
 have q:(((d:Nat):Int)==((dp:Nat):Int))=false:=by rw[beq_eq_false_iff_ne];omega
 have l1:R<w.heap.size+1:=by omega
 have l2:R<w.heap.size+1+1:=by omega
 have n0:¬R=w.heap.size:=by omega
 have n1:¬R=w.heap.size+1:=by omega
 have n2:¬R=w.heap.size+1+1:=by omega
 unfold aX gA au;go_enter func192,ntmps192;go_wp2_with fail;go_region;go_wp2_with fail;refine bodyPost_ret (v:= .tuple #[gA (d+1) p (.slice none 0 0),.pointer none]) (by simp[results,results192,gA,go_sem]) rfl ⟨rfl,?_⟩
 (repeat (first|with_reducible refine Below.setCell ?_ (by first|(simp;done)|(simp;omega)) _|with_reducible refine Below.drew ?_ |with_reducible refine below_drewN ?_ _|with_reducible refine Below.alloc ?_ (by first|(simp;done)|(simp;omega)) _));with_reducible exact Below.refl _ _
theorem uh (R dp:Nat)(t:Tok)(d:Nat)(p:Bool)(a:Option Addr)(l c:Nat)(w:World)(hR:w.cell? ⟨R,2,none⟩=some (.int .i64 dp))(hlt:R<w.heap.size)(hd:d=dp):Calls prog 192 #[au R,aX t,gA d p (.slice a l c)] w λe w'=>∃b,e=.returned (.tuple #[gA 0 false (.slice none 0 0),au b])∧cy w' b 6 t.from_∧Below w.heap.size w w':=by
 have mixed:prog.follows Departure.mixedOrders=true:=by kernel_rfl
 subst hd;have l1:R<w.heap.size+1:=by omega
 have l2:R<w.heap.size+1+1:=by omega
 have n0:¬R=w.heap.size:=by omega
 have n1:¬R=w.heap.size+1:=by omega
 have n2:¬R=w.heap.size+1+1:=by omega
 unfold aX gA au;go_enter func192,ntmps192;go_wp2_with fail;go_region;go_wp2_with fail;go_region;all_goals
  go_wp2_with fail;refine bodyPost_ret (v:= .tuple #[gA 0 false (.slice none 0 0),au (w.heap.size+1+1+1)]) (by simp[results,results192,gA,au,go_sem]) rfl ⟨w.heap.size+1+1+1,rfl,?_,?_⟩
  ·exact Kh w _ _ _ _
  ·(repeat (first|with_reducible refine Below.setCell ?_ (by first|(simp;done)|(simp;omega)) _|with_reducible refine Below.drew ?_ |with_reducible refine below_drewN ?_ _|with_reducible refine Below.alloc ?_ (by first|(simp;done)|(simp;omega)) _));with_reducible exact Below.refl _ _
def iy (t:Tok):List Value:=[.int .i64 t.kind,.int .i64 t.from_,.int .i64 t.cA,.string ⟨⟨t.text⟩⟩,.int .i64 t.n,.int .i64 t.d,.int .i64 t.fault]
structure Kp (R M:Nat) (w w':World):Prop where
 os:w'.os=w.os
 tape:w'.tape=w.tape
 output:w'.output=w.output
 size:w.heap.size≤w'.heap.size
 block:∀b,b<w.heap.size→b≠R→b≠M→w'.heap[b]?=w.heap[b]?
theorem Kp.refl (R M:Nat)(w:World):Kp R M w w:=⟨rfl,rfl,rfl,zaa _,λ_ _ _ _=>rfl⟩
theorem Kp.trans {R M:Nat}{a b c:World}(h:Kp R M a b)(k:Kp R M b c):Kp R M a c:=
 ⟨k.os.trans h.os,k.tape.trans h.tape,k.output.trans h.output,zad h.size k.size,λx h1 h2 h3=>(k.block x (zaw h1 h.size) h2 h3).trans (h.block x h1 h2 h3)⟩
theorem Kp.ay {R M:Nat}{w w':World}(h:Below w.heap.size w w'):Kp R M w w':=⟨h.os,h.tape,h.output,h.size,λb hb _ _=>h.block b hb⟩
structure js (R M:Nat) (A:Option Nat) (w w':World):Prop where
 os:w'.os=w.os
 tape:w'.tape=w.tape
 output:w'.output=w.output
 size:w.heap.size≤w'.heap.size
 block:∀b,b<w.heap.size→b≠R→b≠M→some b≠A→w'.heap[b]?=w.heap[b]?
theorem Kp.a {R M:Nat}{w w':World}(h:Kp R M w w')(A:Option Nat):js R M A w w':=⟨h.os,h.tape,h.output,h.size,λb h1 h2 h3 _=>h.block b h1 h2 h3⟩
theorem js.plain {R M:Nat}{w w':World}(h:js R M none w w'):Kp R M w w':=⟨h.os,h.tape,h.output,h.size,λb h1 h2 h3=>h.block b h1 h2 h3 (by simp)⟩
theorem js.trans {R M:Nat}{A:Option Nat}{a b c:World}(h:js R M A a b)(k:js R M A b c):js R M A a c:=
 ⟨k.os.trans h.os,k.tape.trans h.tape,k.output.trans h.output,zad h.size k.size,λx h1 h2 h3 h4=>(k.block x (zaw h1 h.size) h2 h3 h4).trans (h.block x h1 h2 h3 h4)⟩
def uJ (E:Env)(aP:List Int):List (Int×Value):=aP.reverse.map λn=>(n,au (E.ea n))
structure bE (w:World) (R M g cap:Nat) (T:List Tok) (dp:Nat) (E:Env) (s:gW):Prop where
 rm:R≠M
 gr:g≠R
 gm:g≠M
 blk:w.heap[R]?=some (.cells #[.slice (some ⟨g,0,none⟩) T.length cap,.int .i64 s.k,.int .i64 dp,.map (some M)] 123)
 row:w.ownsRow 0 131 7 (.slice (some ⟨g,0,none⟩) T.length cap) T.length (T.flatMap iy)
 lm:jg w M ((uJ E s.aP).map λp=>(Value.int .i64 p.1,p.2))
 low:∀n∈s.aP,∃v,w.heap[E.ea n]?=some (.cells #[v] 215)
 inj:∀n∈s.aP,∀m∈s.aP,E.ea n=E.ea m→n=m
 small:T.length≤100000
 deep:dp≤30
theorem bE.lt {w:World}{R M g cap:Nat}{T:List Tok}{dp:Nat}{E:Env}{s:gW}(h:bE w R M g cap T dp E s):R<w.heap.size:=(zac.1 h.blk).1
theorem bE.mlt {w:World}{R M g cap:Nat}{T:List Tok}{dp:Nat}{E:Env}{s:gW}(h:bE w R M g cap T dp E s):M<w.heap.size:=by
 obtain⟨es,c,h1,_⟩:=h.lm;exact(zac.1 h1).1
theorem bE.below {w w':World}{R M g cap:Nat}{T:List Tok}{dp:Nat}{E:Env}{s:gW}(h:bE w R M g cap T dp E s)(hb:Below w.heap.size w w'):bE w' R M g cap T dp E s:=by
 refine⟨h.rm,h.gr,h.gm,(hb.block R h.lt).trans h.blk,bg h.row (zaa _) λb _ hlt=>hb.block b hlt,?_,λn hn=>(h.low n hn).imp λv hv=>(hb.block _ (zac.1 hv).1).trans hv,h.inj,h.small,h.deep⟩;obtain⟨es,c,h1,h2⟩:=h.lm;exact⟨es,c,(hb.block M h.mlt).trans h1,h2⟩
structure Ext (w w':World) (E E':Env) (s s':gW):Prop where
 agree:E.agree E' s.fresh s.aP
 fresh:s.fresh≤s'.fresh
 aP:∀n∈s.aP,n∈s'.aP
 new:∀i,s.fresh≤i→i<s'.fresh→w.heap.size≤E'.α i∧E'.α i<w'.heap.size
 inj:∀i j,s.fresh≤i→i<s'.fresh→s.fresh≤j→j<s'.fresh→E'.α i=E'.α j→i=j
theorem Ext.refl {w w':World}{E:Env}{s s':gW}(hf:s'.fresh=s.fresh)(hl:s'.aP=s.aP):Ext w w' E E s s':=
 ⟨⟨λ_ _=>rfl,λ_ _=>rfl⟩,by omega,λn h=>by rw[hl];exact h,λi h1 h2=>by omega,λi j h1 h2=>by omega⟩
theorem Ext.trans {a b c:World}{E E' E'':Env}{s s' s'':gW}(h:Ext a b E E' s s')(k:Ext b c E' E'' s' s'')(h1:a.heap.size≤b.heap.size)(h2:b.heap.size≤c.heap.size):Ext a c E E'' s s'':=by
 have hf:=h.fresh;have kf:=k.fresh;have ag:∀i,i<s'.fresh→E''.α i=E'.α i:=k.agree.1;refine⟨⟨λi hi=>(ag i (by omega)).trans (h.agree.1 i hi),λn hn=>(k.agree.2 n (h.aP n hn)).trans (h.agree.2 n hn)⟩,by omega,λn hn=>k.aP n (h.aP n hn),λi i1 i2=>?_,λi j i1 i2 j1 j2 e=>?_⟩
 ·rcases zag i s'.fresh with hlt|i6
  ·rw[ag i hlt];have:=h.new i i1 hlt;omega
  ·have:=k.new i i6 i2;omega
 ·rcases zag i s'.fresh with hi|hi<;>rcases zag j s'.fresh with hj|hj
  ·rw[ag i hi,ag j hj]at e;exact h.inj i j i1 hi j1 hj e
  ·rw[ag i hi]at e;have:=h.new i i1 hi;have:=k.new j hj j2;omega
  ·rw[ag j hj]at e;have:=h.new j j1 hj;have:=k.new i hi i2;omega
  ·exact k.inj i j hi i2 hj j2 e
def iJ (w:World)(E:Env)(s:gW)(l:List Int)(av:Value):Prop:=w.ownsRow 0 212 1 av l.length (l.map λn=>au (E.ea n))∧(∃a n c,av=.slice a n c)∧∀n∈l,n∈s.aP
def jD (R M g cap:Nat)(T:List Tok)(dp:Nat)(A:Option Nat)(w:World)(E:Env)(s:gW)(r:RR Dt)(e:Ending)(w':World):Prop:=
 match r with
 |.out=>True
 |.fail er a=>(∃b,e=.returned (.tuple #[.nilIface,au b])∧cy w' b er a)∧js R M A w w'
 |.ok d s'=>∃v E',e=.returned (.tuple #[v,.pointer none])∧(∃t y,v=.iface t y)∧ba w.heap.size s'.fresh s'.aP w' E' d v∧Ext w w' E E' s s'∧bE w' R M g cap T dp E' s'∧js R M A w w'
def OkT (R M g cap:Nat)(T:List Tok)(dp:Nat)(w:World)(E:Env)(s:gW)(r:RR Tok)(e:Ending)(w':World):Prop:=
 match r with
 |.out=>True
 |.fail er a=>(∃b t,e=.returned (.tuple #[aX t,au b])∧cy w' b er a)∧Kp R M w w'
 |.ok t s'=>∃E',e=.returned (.tuple #[aX t,.pointer none])∧Ext w w' E E' s s'∧bE w' R M g cap T dp E' s'∧Kp R M w w'
section
variable (R M g cap:Nat)(T:List Tok)(dp:Nat)
structure IH (n:Nat):Prop where
 datum:∀p av w E s,bE w R M g cap T dp E s→iJ w E s p.ahead av→(p.depth≤dp∧p.ahead.length≤p.depth)→aV T dp n p s≠.out→Calls prog 67 #[au R,gA p.depth p.passed av] w λe w'=>jD R M g cap T dp av.ownBlock w E s (aV T dp n p s) e w'
 take:∀p av w E s,bE w R M g cap T dp E s→iJ w E s p.ahead av→(p.depth≤dp∧p.ahead.length≤p.depth)→bq T dp n p s≠.out→Calls prog 105 #[au R,gA p.depth p.passed av] w λe w'=>OkT R M g cap T dp w E s (bq T dp n p s) e w'
 Kf:∀t p av w E s,bE w R M g cap T dp E s→iJ w E s p.ahead av→(p.depth≤dp∧p.ahead.length≤p.depth)→cJ T dp n t p s≠.out→Calls prog 106 #[au R,aX t,gA p.depth p.passed av] w λe w'=>jD R M g cap T dp av.ownBlock w E s (cJ T dp n t p s) e w'
end
theorem Ext.wid {w w1 w2 w3:World}{E E':Env}{s s':gW}(h:Ext w1 w2 E E' s s')(h1:w.heap.size≤w1.heap.size)(h2:w2.heap.size≤w3.heap.size):Ext w w3 E E' s s':=
 ⟨h.agree,h.fresh,h.aP,λi a b=>by have:=h.new i a b;omega,h.inj⟩
theorem iJ.kp {w w':World}{R M g cap:Nat}{T:List Tok}{dp:Nat}{E E':Env}{s s':gW}{l:List Int}{av:Value}(h:iJ w E s l av)(hr:bE w R M g cap T dp E s)(hk:Kp R M w w')(ha:E.agree E' s.fresh s.aP)(hl:∀n∈s.aP,n∈s'.aP):iJ w' E' s' l av:=by
 refine⟨?_,h.2.1,λn hn=>hl n (h.2.2 n hn)⟩;have e:(l.map λn=>au (E'.ea n))=l.map λn=>au (E.ea n):=List.map_congr_left λn hn=>by rw[ha.2 n (h.2.2 n hn)]
 rw[e];refine⟨h.1.1,h.1.2.imp id ?_⟩;rintro ⟨b,cp,cur,h1,h2,h3,h4⟩;have hlt:b<w.heap.size:=(zac.1 h3).1;have hR:b≠R:=λe=>by rw[e,hr.blk]at h3;simp at h3
 have hM:b≠M:=λe=>by obtain⟨es,c,q,_⟩:=hr.lm;rw[e,q]at h3;cases h3
 exact⟨b,cp,cur,h1,h2,(hk.block b hlt hR hM).trans h3,h4⟩
theorem iJ.below {w w':World}{E:Env}{s:gW}{l:List Int}{av:Value}(h:iJ w E s l av)(hb:Below w.heap.size w w'):iJ w' E s l av:=
 ⟨bg h.1 (zaa _) λb _ hlt=>hb.block b hlt,h.2.1,h.2.2⟩
theorem cy.alloc {w:World}{b:Nat}{e:Int}{a:Nat}(h:cy w b e a)(o:Obj):cy (w.alloc o) b e a:=(Lib.alloc_old _ _ _ (zac.1 h).1).trans h
theorem eE {w1:World}{b:Nat}{x0 x1 x2:Value}{e:TypeId}(h:w1.heap[b]?=some (.cells #[x0,x1,x2] e)):(w1.cell? ⟨b,0,none⟩=some x0∧w1.cell? ⟨b,1,none⟩=some x1∧w1.cell? ⟨b,2,none⟩=some x2):=by
 refine⟨?_,?_,?_⟩<;>simp[World.cell?,h]
section
variable {R M g cap:Nat}{T:List Tok}{dp:Nat}
theorem F5 {N:Nat}(ih:IH R M g cap T dp N)(p:Pl)(av:Value)(w:World)(E:Env)(s:gW)(hr:bE w R M g cap T dp E s)(ha:iJ w E s p.ahead av)(hd:p.depth≤dp∧p.ahead.length≤p.depth)(ho:aV T dp (N+1) p s≠.out):Calls prog 67 #[au R,gA p.depth p.passed av] w λe w'=>jD R M g cap T dp av.ownBlock w E s (aV T dp (N+1) p s) e w':=by
 have heq:aV T dp (N+1) p s=(bq T dp N p s).bind λt s=>cJ T dp N t p s:=rfl;rw[heq]at ho ⊢;obtain⟨⟨a0,n0,c0,rfl⟩⟩:=(⟨ha.2.1⟩:Nonempty _);have hb0:Below w.heap.size w (w.alloc (.cells #[.int .i64 p.depth,.bool p.passed,.slice a0 n0 c0] 128)):=(Below.refl _ w).alloc (zaa _) _;have HR:Hid _:=hr.below hb0;have HA:Hid _:=ha.below hb0;have HB:Hid _:=hb0;have HP:Hid _:=heap_alloc_new w (.cells #[.int .i64 p.depth,.bool p.passed,.slice a0 n0 c0] 128);have Ki:(w.alloc (.cells #[.int .i64 p.depth,.bool p.passed,.slice a0 n0 c0] 128)).heap.size=w.heap.size+1:=by simp
 have hne:bq T dp N p s≠.out:=λh=>ho (by rw[h];rfl);have HT:Hid _:=ih.take p (.slice a0 n0 c0) _ E s HR.out HA.out hd hne;have LP:R<w.heap.size:=hr.lt;have k8:M<w.heap.size:=hr.mlt;have HI:Hid _:=ih;have HO:Hid _:=ho;clear hr ha hb0 ih ho heq hne;generalize hw0:w.alloc (.cells #[.int .i64 p.depth,.bool p.passed,.slice a0 n0 c0] 128)=w0 at *;have PS:Hid _:=hw0;clear hw0;cases hT:bq T dp N p s with
 |out=>exact absurd (by rw[hT];rfl) HO.out
 |fail er a=>
  rw[hT]at HT;unfold gA au at HT ⊢;go_enter func67,ntmps67;go_wp2_with fail;rw[PS.out];refine Calls.mono HT.out ?_;rintro e w1 ⟨⟨b,t,rfl,hf⟩,hk⟩;have HF:Hid _:=hf;have HK:Hid _:=hk;clear hf hk HT;unfold aX au;go_wp2_with fail;go_ret2;have hs1:=HK.out.size;exact⟨⟨b,rfl,cy.alloc HF.out _⟩,((Kp.ay HB.out).trans (Kp.trans HK.out (Kp.ay ((Below.refl _ _).alloc (zaa _) _)))).a _⟩
 |ok t s1=>
  rw[hT]at HT;have HO':Hid (cJ T dp N t p s1≠.out):=by have:=HO.out;rw[hT]at this;exact this
  unfold gA au at HT ⊢;go_enter func67,ntmps67;go_wp2_with fail;rw[PS.out];refine Calls.mono HT.out ?_;rintro e w1 ⟨E1,rfl,hx,hr1,hk⟩;have yj:=(hk.block w.heap.size (by omega) (by omega) (by omega)).trans HP.out;obtain⟨x0,x1,x2⟩:=eE yj;have hs1:=hk.size;have hl0:w.heap.size<w1.heap.size:=by omega
  have Rt:¬w.heap.size=w1.heap.size:=by omega
  have hl2:¬w1.heap.size=w.heap.size:=by omega
  have hb1:Below w1.heap.size w1 (w1.alloc (.cells #[.int .i64 t.kind,.int .i64 t.from_,.int .i64 t.cA,.string ⟨⟨t.text⟩⟩,.int .i64 t.n,.int .i64 t.d,.int .i64 t.fault] 131)):=(Below.refl _ _).alloc (zaa _) _;have kK:Hid _:=hr1.below hb1;have N1:Hid _:=iJ.below (iJ.kp HA.out HR.out hk hx.agree hx.aP) hb1;have HF:Hid _:=HI.out.Kf t p (.slice a0 n0 c0) _ E1 s1 kK.out N1.out hd HO'.out;have HX:Hid _:=hx;have HK:Hid _:=hk;have gP:Hid _:=hb1;clear hx hk hr1 hb1 HT yj;unfold aX au gA at HF;unfold aX;go_wp2_with fail;refine Calls.mono HF.out ?_;clear HF;intro e2 w2 bX;have cP:Kp R M w (w1.alloc (.cells #[.int .i64 t.kind,.int .i64 t.from_,.int .i64 t.cA,.string ⟨⟨t.text⟩⟩,.int .i64 t.n,.int .i64 t.d,.int .i64 t.fault] 131)):=(Kp.ay HB.out).trans (Kp.trans HK.out (Kp.ay gP.out));have hxx:Ext w (w1.alloc (.cells #[.int .i64 t.kind,.int .i64 t.from_,.int .i64 t.cA,.string ⟨⟨t.text⟩⟩,.int .i64 t.n,.int .i64 t.d,.int .i64 t.fault] 131)) E E1 s s1:=Ext.wid HX.out (by omega) (by simp);generalize w1.alloc (.cells #[.int .i64 t.kind,.int .i64 t.from_,.int .i64 t.cA,.string ⟨⟨t.text⟩⟩,.int .i64 t.n,.int .i64 t.d,.int .i64 t.fault] 131)=w3 at *;cases hF:cJ T dp N t p s1 with
  |out=>exact absurd hF HO'.out
  |fail er a=>
   rw[hF]at bX;obtain⟨⟨b,rfl,hf⟩,hk2⟩:=bX;have HG:Hid (jD R M g cap T dp (Value.slice a0 n0 c0).ownBlock w E s (RR.fail er a) (.returned (.tuple #[.nilIface,au b])) w2):=⟨⟨b,rfl,hf⟩,(cP.a _).trans hk2⟩;have HE:Hid (((RR.ok t s1).bind λt s=>cJ T dp N t p s)=RR.fail er a):=hF;clear hf hk2 cP hxx;unfold au;go_wp2_with fail;go_ret2;rw[HE.out];exact HG.out
  |ok d s2=>
   rw[hF]at bX;obtain⟨v,E2,rfl,⟨ty,y,rfl⟩,bW,hx2,hr2,hk2⟩:=bX;have h3:=cP.size;have h4:=hk2.size;have HG:Hid (jD R M g cap T dp (Value.slice a0 n0 c0).ownBlock w E s (RR.ok d s2) (.returned (.tuple #[.iface ty y,.pointer none])) w2):=
    ⟨.iface ty y,E2,rfl,⟨ty,y,rfl⟩,ba.keep h3 (zaa _) (λ_ h=>h) (λ_ _ _=>rfl) ⟨λ_ _=>rfl,λ_ _=>rfl⟩ d _ bW,hxx.trans hx2 h3 h4,hr2,(cP.a _).trans hk2⟩
   have HE:Hid (((RR.ok t s1).bind λt s=>cJ T dp N t p s)=RR.ok d s2):=hF;clear bW hx2 hr2 hk2 cP hxx;go_wp2_with fail;go_ret2;rw[HE.out];exact HG.out
end
end Go.Proofs.YtlhimdjkkiflhaaGreatDoor
