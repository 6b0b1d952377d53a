import Derived.LaidEqlPtr
import Derived.Test.YtlhimdjkkiflhaaGreatDoorCut20
set_option maxHeartbeats 8000000
set_option maxRecDepth 100000
namespace Go.Loop
def RR.good {α:Type}(T:List Tok)(k:Nat)(r:RR α):Prop:=
 match r with
 |.out=>False
 |.fail _ _=>True
 |.ok _ s'=>k≤s'.k∧s'.k<T.length
theorem RR.fp {α β:Type}{T:List Tok}{k j:Nat}{x:RR α}{f:α→eX→RR β}(h:x.good T k)(hf:∀a s,k≤s.k→s.k<T.length→(f a s).good T j):(x.bind f).good T j:=by
 cases x with
 |out=>exact h
 |fail e a=>trivial
 |ok a s=>exact hf a s h.1 h.2
theorem RR.mi {α:Type}{T:List Tok}{k j:Nat}{x:RR α}(h:x.good T k)(hj:j≤k):x.good T j:=by
 cases x with
 |out=>exact h
 |fail e a=>trivial
 |ok a s=>exact⟨zad hj h.1,h.2⟩
section
variable (T:List Tok)(dp:Nat)
structure Fuel (n:Nat):Prop where
 datum:∀p s,s.k<T.length→2*(T.length-s.k)+2≤n→(aM T dp n p s).good T (s.k+1)
 take:∀p s,s.k<T.length→2*(T.length-s.k)+1≤n→(aX T dp n p s).good T (s.k+1)
 sj:∀t p s,s.k<T.length→2*(T.length-s.k)+3≤n→(bG T dp n t p s).good T s.k
 list:∀l p s,s.k<T.length→2*(T.length-s.k)+2≤n→(bD T dp n l p s).good T (s.k+1)
 vec:∀l p s,s.k<T.length→2*(T.length-s.k)+2≤n→(dR T dp n l p s).good T (s.k+1)
theorem Fa (t:Tok)(s:eX)(h:s.k<T.length):(pO t s).good T s.k:=by
 unfold pO;repeat' split
 all_goals first|trivial|exact⟨zaa _,h⟩
theorem fuel (hT:∀k t,T[k]?=some t→t.kind≠0→t.kind≠1→k+1<T.length):∀n,Fuel T dp n
 |0=>⟨λ_ _ _ h=>by omega,λ_ _ _ h=>by omega,λ_ _ _ _ h=>by omega,λ_ _ _ _ h=>by omega,λ_ _ _ _ h=>by omega⟩
 |n+1=>by
  have ih:=fuel hT n;refine⟨λp s hk hn=>?_,λp s hk hn=>?_,λt p s hk hn=>?_,λl p s hk hn=>?_,λl p s hk hn=>?_⟩
  ·unfold aM;refine RR.fp (ih.take p s hk (by omega)) λt s1 h1 h2=>?_;exact RR.mi (ih.sj t p s1 h2 (by omega)) h1
  ·unfold aX;have hs:T[s.k]?=some T[s.k]:=zai hk;rw[hs];dsimp only;split
   ·trivial
   ·rename_i h0;split
    ·trivial
    ·rename_i h1;have hlt:=hT s.k _ hs h0 h1;split
     ·refine RR.fp (ih.datum ⟨p.depth,true,[]⟩ { s with k:=s.k+1 } hlt (by show 2*(T.length-(s.k+1))+2≤n;omega)) λd s1 h2 h3=>?_;have jr:s.k+1+1≤s1.k:=h2;exact RR.mi (ih.take p s1 h3 (by omega)) (by omega)
     ·exact⟨zaa _,hlt⟩
  ·unfold bG;split
   ·trivial
   ·split
    ·split
     ·trivial
     ·split
      ·trivial
      ·exact RR.fp (k:=s.k+1) (ih.datum _ { s with aN:=t.n::s.aN } hk (by show 2*(T.length-s.k)+2≤n;omega)) λd s1 h1 h2=>⟨by omega,h2⟩
    ·split
     ·split
      ·trivial
      ·exact⟨zaa _,hk⟩
     ·split
      ·split
       ·trivial
       ·split
        ·exact RR.fp (k:=s.k+1) (ih.vec [] _ { s with fresh:=s.fresh+1 } hk (by show 2*(T.length-s.k)+2≤n;omega)) λd s1 h1 h2=>⟨by omega,h2⟩
        ·split
         ·exact RR.fp (k:=s.k+1) (ih.datum _ s hk (by omega)) λd s1 h1 h2=>⟨by show s.k≤s1.k;omega,h2⟩
         ·exact RR.mi (ih.list [] _ s hk (by omega)) (by omega)
      ·exact Fa T t s hk
  ·unfold bD;refine RR.fp (ih.take p s hk (by omega)) λt s1 h1 h2=>?_;split
   ·exact⟨h1,h2⟩
   ·split
    ·refine RR.fp (ih.datum p s1 h2 (by omega)) λd s2 h3 h4=>?_;refine RR.fp (ih.take p s2 h4 (by omega)) λt2 s3 h5 h6=>?_;split
     ·exact⟨by show s.k+1≤s3.k;omega,h6⟩
     ·trivial
    ·refine RR.fp (ih.sj t p s1 h2 (by omega)) λd s2 h3 h4=>?_;exact RR.mi (ih.list _ p s2 h4 (by omega)) (by omega)
  ·unfold dR;refine RR.fp (ih.take p s hk (by omega)) λt s1 h1 h2=>?_;split
   ·exact⟨h1,h2⟩
   ·split
    ·trivial
    ·refine RR.fp (ih.sj t p s1 h2 (by omega)) λd s2 h3 h4=>?_;exact RR.mi (ih.vec _ p s2 h4 (by omega)) (by omega)
end
theorem ou:∀(n:Nat) (s:List UInt8) (a:Nat),a≤s.length→s.length-a<n→aQ n s a≠[]∧∀k t,(aQ n s a)[k]?=some t→t.kind≠0→t.kind≠1→k+1<(aQ n s a).length
 |0,s,a,_,h=>by omega
 |n+1,s,a,ha,h=>by
  have hf:=zi ha;rw[aQ];split
  ·rename_i hl;refine⟨by simp,λk t hk h0 h1=>?_⟩;cases k with
   |zero=>
    simp at hk;subst hk;simp[Tok.lastB]at hl;omega
   |succ k=>simp at hk
  ·rename_i hl;have hl':(ax s a).lastB=false:=by simpa using hl
   have h2:=hf.2.2 hl';have h3:=hf.2.1;have ih:=ou n s (ax s a).dF hf.2.1 (by omega);refine⟨by simp,λk t hk h0 h1=>?_⟩;cases k with
   |zero=>
    have:0<(aQ n s (ax s a).dF).length:=zbC.2 ih.1;simp only[zak];omega
   |succ k=>
    rw[List.getElem?_cons_succ]at hk;have:=ih.2 k t hk h0 h1;simp only[zak];omega
theorem sW:∀(n:Nat) (s:List UInt8) (a:Nat),(aQ n s a).length≤n
 |0,s,a=>zaa _
 |n+1,s,a=>by
  have:=sW n s (ax s a).dF;rw[aQ];split
  ·simp
  ·simp;exact this
def Dt.hd:Dt→Bool
 |.put _ _|.ask _|.fj |.ck _ _=>false
 |_=>true
section
variable (root:Dt)
mutual
def kZ:Nat→Dt→mh→Option (Nat×mh)
 |0,_,_=>none
 |n+1,d,g=>
  match cO root 200000 d with
  |.pair i a b=>
   match g.met.lookup i with
   |some k=>some (k,g)
   |none=>(il n (.ck a (.ck b .fj)) [] ⟨g.nodes++[⟨1,[],0,0,[]⟩],(i,g.nodes.length)::g.met⟩).map λy=>(g.nodes.length,{ y.2 with nodes:=di y.2.nodes g.nodes.length y.1 })
  |.vec i l=>
   match g.met.lookup i with
   |some k=>some (k,g)
   |none=>(il n l [] ⟨g.nodes++[⟨2,[],0,0,[]⟩],(i,g.nodes.length)::g.met⟩).map λy=>(g.nodes.length,{ y.2 with nodes:=di y.2.nodes g.nodes.length y.1 })
  |.txt i s=>
   match g.met.lookup i with
   |some k=>some (k,g)
   |none=>some (g.nodes.length,⟨g.nodes++[⟨3,s,0,0,[]⟩],(i,g.nodes.length)::g.met⟩)
  |.sym s=>some (g.nodes.length,g.add ⟨4,s,0,0,[]⟩)
  |.num a b=>some (g.nodes.length,g.add ⟨5,[],a,b,[]⟩)
  |.eT a=>some (g.nodes.length,g.add ⟨6,[],a,0,[]⟩)
  |.si a=>some (g.nodes.length,g.add ⟨7,[],a,0,[]⟩)
  |_=>some (g.nodes.length,g.add ⟨0,[],0,0,[]⟩)
def il:Nat→Dt→List Nat→mh→Option (List Nat×mh)
 |0,_,_,_=>none
 |n+1,l,acc,g=>
  match l with
  |.fj=>some (acc,g)
  |.ck a l=>(kZ n a g).bind λx=>il n l (acc++[x.1]) x.2
  |_=>none
end
end
def bJ (text:List UInt8)(depth:Int):Option (List pj×Nat×Int):=
 if depth<0∨30<depth then some ([],0,1)
 else if 400<text.length then some ([],0,2)
 else
  match aM (aQ (text.length+1) text 0) depth.toNat 2000 ⟨0,false,[]⟩ ⟨0,0,[]⟩with
  |.out=>none
  |.fail e a=>some ([],a,e)
  |.ok d s=>(kZ d 100000 d ⟨[],[]⟩).map λg=>if 150<g.2.nodes.length then([],0,2)else(g.2.nodes,(((aQ (text.length+1) text 0)[s.k-1]?).map (·.dF)).getD 0,0)
end Go.Loop
namespace Go.Proofs.YtlhimdjkkiflhaaGreatDoor
open Go.Proofs.Tryz
open Go.RowKit Go.Loop
inductive HK where
 |pair
 |vec
 |txt
deriving DecidableEq
def HK.p:HK→TypeId
 |.pair=>150
 |.vec=>163
 |.txt=>158
def HK.o:HK→TypeId
 |.pair=>161
 |.vec=>165
 |.txt=>218
def kM (h:HK)(b:Nat):Value:= .iface h.p (aH b)
def qz (w:World)(h:HK)(b:Nat):Prop:=∃cs,w.heap[b]?=some (.cells cs h.o)
theorem qz.same {w:World}{h h':HK}{b:Nat}(x:qz w h b)(y:qz w h' b):h=h':=by
 obtain⟨c,hc⟩:=x;obtain⟨c',hc'⟩:=y;rw[hc]at hc';cases h<;>cases h'<;>first|rfl|(simp[HK.o]at hc')
theorem CK:((prog.underlying 58).any λd=>match d with|.interface _=>true|_=>false)=true:=by kernel_rfl
theorem mN:∃ms,prog.underlying 58=some (.interface ms):=by
 have h:=CK;cases hq:prog.underlying 58 with
 |none=>rw[hq]at h;cases h
 |some d=>
  rw[hq]at h;cases d<;>first|exact⟨_,rfl⟩|(simp at h)
section
variable {P:Program}
theorem mO (d:Nat){ti tx ty:TypeId}{ms:Array (String×TypeId)}{vx vy:Value}(w:World)(hi:P.underlying ti=some (.interface ms))(h:tx≠ty):(Op.equalIn (d+1) ti (.iface tx vx) (.iface ty vy)).run P w=.ok false w:=by
 simp[Op.equalIn,run_underlying hi,h]
theorem qi (b:Bool)(d:Nat){ti tp te:TypeId}{ms:Array (String×TypeId)}{i:TypeInfo}{v:Value}(w:World)(hi:P.underlying ti=some (.interface ms))(hp:P.underlying tp=some (.pointer te))(ov:P.info? tp=some i)(zm:i.comparable=true):(Instr.checkKey b (d+2) ti (.iface tp v)).run P w=.ok () w:=by
 simp[Instr.checkKey,run_underlying hi,run_underlying hp,typeInfo,ov,zm]
end
theorem CL:prog.underlying 98=some (.map 58 3):=by kernel_rfl
theorem AU (h:HK):prog.underlying h.p=some (.pointer h.o):=by cases h<;>kernel_rfl
theorem G3 (h:HK):(prog.info? h.p).map (λi=>i.comparable)=some true:=by cases h<;>kernel_rfl
theorem Pr (h:HK):(prog.info? h.o).any (λi=>i.size != 0)=true:=by cases h<;>kernel_rfl
theorem YK {w:World}{h h':HK}{b b':Nat}(x:qz w h b)(y:qz w h' b'):(Op.equal 58 (kM h b) (kM h' b')).run prog w=.ok (decide (b=b')) w:=by
 obtain⟨ms,hi⟩:=mN;have ov:=G3 h;cases hq:prog.info? h.p with
 |none=>rw[hq]at ov;cases ov
 |some i=>
  rw[hq]at ov;have zm:i.comparable=true:=by simpa using ov
  have Oz:=Pr h;cases zf:prog.info? h.o with
  |none=>rw[zf]at Oz;cases Oz
  |some j=>
   rw[zf]at Oz;have hsz:j.size≠0:=by simpa using Oz
   unfold kM aH Op.equal Op.maxDepth;by_cases e:b=b'
   ·subst e;obtain rfl:=x.same y;rw[run_equalIn_iface_ptr_same _ 9998 _ hi (AU h) hq zm zf];simp
   ·by_cases eh:h=h'
    ·subst eh;obtain⟨c,hc⟩:=x;obtain⟨c',hc'⟩:=y;rw[run_equalIn_iface_ptr_other _ 9998 hi (AU h) hq zm zf hsz (λq=>e (by cases q;rfl)) hc hc'];simp[e]
    ·have hp:h.p≠h'.p:=by cases h<;>cases h'<;>first|exact absurd rfl eh|(simp[HK.p])
     rw[mO 9999 w hi hp];simp[e]
def CM (κ:Nat→HK)(E:Env)(met:List (Nat×Nat)):List (Value×Value):=met.reverse.map λp=>(kM (κ p.1) (E.α p.1),.int .i64 p.2)
theorem xd {α β:Type} [BEq α] [LawfulBEq α] (l:List (α×β))(i:α)(h:(l.map (·.1)).Nodup):l.reverse.lookup i=l.lookup i:=by
 induction l with
 |nil=>rfl
 |cons p l ih=>
  obtain⟨a,b⟩:=p;rw[zao,List.nodup_cons]at h;rw[List.reverse_cons];rw[List.lookup_append,ih h.2];by_cases e:i=a
  ·subst e;have hn:l.lookup i=none:=by
    rw[List.lookup_eq_none_iff];intro q hq;have:q.1≠i:=λe=>h.1 (zaH.2 ⟨q,hq,e⟩);simpa using λe=>this e.symm
   simp[hn]
  ·have he:(i==a)=false:=by simpa using e
   simp only[List.lookup_cons,he];simp
theorem AV {w:World}{κ:Nat→HK}{E:Env}{i:Nat}:∀(es:List MapEntry) (l:List (Nat×Nat)) (n:Nat),es.map (λe=>(e.key,e.val))=l.map (λp=>(kM (κ p.1) (E.α p.1),Value.int .i64 p.2))→qz w (κ i) (E.α i)→(∀p∈l,qz w (κ p.1) (E.α p.1))→(∀p∈l,E.α i=E.α p.1→i=p.1)→∃j,(Instr.findAsking 58 (kM (κ i) (E.α i)) es n).run prog w=.ok ((l.lookup i).map λk=>(j,Value.int .i64 k)) w
 |[],[],n,_,_,_,_=>⟨0,by simp[Instr.findAsking]⟩
 |[],_::_,_,h,_,_,_=>by simp at h
 |_::_,[],_,h,_,_,_=>by simp at h
 |e::es,(m,v)::l,n,h,hi,hl,ly=>by
  simp only[zao,zbx,zab]at h;obtain⟨⟨h1,h2⟩,h3⟩:=h;unfold Instr.findAsking;rw[h1];have heq:=YK hi (hl _ zau);by_cases hn:i=m
  ·subst hn;exact⟨n,by simp[heq,h2]⟩
  ·have hne:E.α i≠E.α m:=λe=>hn (ly _ zau e);obtain⟨j,hj⟩:=AV es l (n+1) h3 hi (λp hp=>hl p (zax _ hp)) (λp hp=>ly p (zax _ hp));refine⟨j,?_⟩;have hb:(i==m)=false:=by simpa using hn
   simp[heq,hne,hj,List.lookup_cons,hb]
theorem xe (b:Bool)(h:HK)(c:Nat)(w:World):(Instr.checkKey b 10000 58 (kM h c)).run prog w=.ok () w:=by
 obtain⟨ms,hi⟩:=mN;have ov:=G3 h;cases hq:prog.info? h.p with
 |none=>rw[hq]at ov;cases ov
 |some i=>
  rw[hq]at ov;have zm:i.comparable=true:=by simpa using ov
  exact qi b 9998 w hi (AU h) hq zm
section
variable {w:World}{M:Nat}{κ:Nat→HK}{E:Env}{met:List (Nat×Nat)}
theorem CN (h:ny w M (CM κ E met))(i:Nat)(hi:qz w (κ i) (E.α i))(hl:∀p∈met,qz w (κ p.1) (E.α p.1))(ly:∀p∈met,E.α i=E.α p.1→i=p.1)(hnd:(met.map (·.1)).Nodup):(Instr.lookup 98 (.map (some M)) (kM (κ i) (E.α i)) true).run prog w=.ok (.tuple #[.int .i64 (((met.lookup i).getD 0:Nat):Int),.bool (met.lookup i).isSome]) w:=by
 obtain⟨es,clock,h1,h2⟩:=h;obtain⟨ms,hint⟩:=mN;have hg:(getObj M).run prog w=.ok (.map es clock) w:=by simp[getObj,Sem.run,h1]
 obtain⟨j,hj⟩:=AV (w:=w) (κ:=κ) (E:=E) (i:=i) es.toList met.reverse 0 h2 hi (λp hp=>hl p (List.mem_reverse.1 hp)) (λp hp=>ly p (List.mem_reverse.1 hp));rw[xd _ _ hnd]at hj;unfold Instr.lookup Instr.findKey;simp only[Sem.run_bind,run_underlying CL,Result.andThen_ok,hg,Sem.run_pure,xe,run_underlying hint];cases hes:es.toList with
 |nil=>
  rw[hes]at hj h2;have hm:met=[]:=by
   have:met.reverse=[]:=by
    have:=congrArg List.length h2;unfold CM at this;simp at this;exact List.reverse_eq_nil_iff.2 (zby this.symm)
   simpa using this
  subst hm;simp[Instr.findNow]
 |cons e es'=>
  rw[hes]at hj;have hs:Instr.findNow (.interface ms) (kM (κ i) (E.α i)) (e::es') 0=none:=by simp[Instr.findNow,Instr.sameNow]
  simp only[hs,hj];cases hq:met.lookup i with
  |none=>simp
  |some v=>simp
theorem xf (h:ny w M (CM κ E met))(i k:Nat)(hi:qz w (κ i) (E.α i))(hl:∀p∈met,qz w (κ p.1) (E.α p.1))(ly:∀p∈met,E.α i=E.α p.1→i=p.1)(hnd:(met.map (·.1)).Nodup)(hn:met.lookup i=none):∃o,(Instr.mapUpdate 98 (.map (some M)) (kM (κ i) (E.α i)) (.int .i64 k)).run prog w=.ok () { w with heap:=w.heap.setIfInBounds M o }∧ny { w with heap:=w.heap.setIfInBounds M o } M (CM κ E ((i,k)::met)):=by
 obtain⟨es,clock,h1,h2⟩:=h;obtain⟨ms,hint⟩:=mN;have hlt:M<w.heap.size:=(zae.1 h1).1;have hg:(getObj M).run prog w=.ok (.map es clock) w:=by simp[getObj,Sem.run,h1]
 obtain⟨j,hj⟩:=AV (w:=w) (κ:=κ) (E:=E) (i:=i) es.toList met.reverse 0 h2 hi (λp hp=>hl p (List.mem_reverse.1 hp)) (λp hp=>ly p (List.mem_reverse.1 hp));rw[xd _ _ hnd,hn]at hj;refine⟨.map (es.push { key:=kM (κ i) (E.α i),val:= .int .i64 k,born:=clock }) (clock+1),?_,es.push { key:=kM (κ i) (E.α i),val:= .int .i64 k,born:=clock },clock+1,?_,?_⟩
 ·unfold Instr.mapUpdate Instr.findKey;simp only[Sem.run_bind,run_underlying CL,Result.andThen_ok,hg,xe,run_underlying hint];cases hes:es.toList with
  |nil=>simp[Instr.findNow,setObj,Sem.run,h1]
  |cons e es'=>
   rw[hes]at hj;have hs:Instr.findNow (.interface ms) (kM (κ i) (E.α i)) (e::es') 0=none:=by simp[Instr.findNow,Instr.sameNow]
   simp only[hs,hj];simp[setObj,Sem.run,h1]
 ·show(w.heap.setIfInBounds M _)[M]?=_;rw[zaV hlt]
 ·rw[Array.toList_push,zbs,h2];simp[CM]
end
theorem ed (w:World)(A B:Obj):((w.alloc A).alloc B).heap[w.heap.size+1]?=some B:=by
 rw[show w.heap.size+1=(w.alloc A).heap.size by simp];exact heap_alloc_new _ _
theorem Ms (t:Tok)(w:World)(hk:t.kind=8):Calls prog 163 #[bn t] w λe w'=>∃b,e=.returned (.tuple #[.iface 158 (aH b),.pointer none])∧w.heap.size≤b∧w'.heap[b]?=some (.cells #[.string ⟨⟨t.text⟩⟩] 218)∧Below w.heap.size w w':=by
 have q:(((t.kind:Nat):Int)==8)=true:=by rw[hk];rfl
 clear hk;unfold bn;go_enter func163,ntmps163;go_wp2_with fail;go_ret2;refine⟨w.heap.size+1,rfl,by omega,?_,?_⟩
 ·exact ed w _ _
 ·(repeat (first|with_reducible refine Below.setCell ?_ (by simp) _|with_reducible refine Below.alloc ?_ (by simp) _));with_reducible exact Below.refl _ _
def jZ (t:Tok):Value:=
 if t.kind=9 then .iface 157 (.agg #[.int .i64 t.n])
 else if t.kind=12 then .iface 155 (.agg #[.int .i64 t.n])
 else if t.kind=14 then .iface 168 (.agg #[.string ⟨⟨t.text⟩⟩])
 else .iface 153 (.agg #[.int .i64 t.n,.int .i64 t.d])
theorem Mt (t:Tok)(w:World)(h8:¬t.kind=8)(hf:t.kind=9∨t.kind=12∨t.kind=14∨t.fault=0):Calls prog 163 #[bn t] w λe w'=>e=.returned (.tuple #[jZ t,.pointer none])∧Below w.heap.size w w':=by
 have q8:(((t.kind:Nat):Int)==8)=false:=by rw[beq_eq_false_iff_ne];omega
 by_cases h9:t.kind=9
 ·have e:Hid (jZ t=.iface 157 (.agg #[.int .i64 t.n])):=if_pos h9;have q9:(((t.kind:Nat):Int)==9)=true:=by rw[h9];rfl
  clear h9 hf h8;unfold bn;go_enter func163,ntmps163;go_wp2_with fail;go_ret2;refine⟨by rw[e.out];rfl,?_⟩
  (repeat (first|with_reducible refine Below.setCell ?_ (by simp) _|with_reducible refine Below.alloc ?_ (by simp) _));with_reducible exact Below.refl _ _
 have q9:(((t.kind:Nat):Int)==9)=false:=by rw[beq_eq_false_iff_ne];omega
 by_cases Bo:t.kind=12
 ·have e:Hid (jZ t=.iface 155 (.agg #[.int .i64 t.n])):=(if_neg h9).trans (if_pos Bo);have q12:(((t.kind:Nat):Int)==12)=true:=by rw[Bo];rfl
  clear h9 hf h8 Bo;unfold bn;go_enter func163,ntmps163;go_wp2_with fail;go_ret2;refine⟨by rw[e.out];rfl,?_⟩
  (repeat (first|with_reducible refine Below.setCell ?_ (by simp) _|with_reducible refine Below.alloc ?_ (by simp) _));with_reducible exact Below.refl _ _
 have q12:(((t.kind:Nat):Int)==12)=false:=by rw[beq_eq_false_iff_ne];omega
 by_cases uV:t.kind=14
 ·have e:Hid (jZ t=.iface 168 (.agg #[.string ⟨⟨t.text⟩⟩])):=((if_neg h9).trans (if_neg Bo)).trans (if_pos uV);have q14:(((t.kind:Nat):Int)==14)=true:=by rw[uV];rfl
  clear h9 hf h8 Bo uV;unfold bn;go_enter func163,ntmps163;go_wp2_with fail;go_ret2;refine⟨by rw[e.out];rfl,?_⟩
  (repeat (first|with_reducible refine Below.setCell ?_ (by simp) _|with_reducible refine Below.alloc ?_ (by simp) _));with_reducible exact Below.refl _ _
 ·have q14:(((t.kind:Nat):Int)==14)=false:=by rw[beq_eq_false_iff_ne];omega
  have e:Hid (jZ t=.iface 153 (.agg #[.int .i64 t.n,.int .i64 t.d])):=((if_neg h9).trans (if_neg Bo)).trans (if_neg uV);have qf:(t.fault==0)=true:=by rw[beq_iff_eq];omega
  clear h9 hf h8 Bo uV;unfold bn;go_enter func163,ntmps163;go_wp2_with fail;go_ret2;refine⟨by rw[e.out];rfl,?_⟩
  (repeat (first|with_reducible refine Below.setCell ?_ (by simp) _|with_reducible refine Below.alloc ?_ (by simp) _));with_reducible exact Below.refl _ _
theorem Fb (t:Tok)(w:World)(h:¬t.kind=8∧¬t.kind=9∧¬t.kind=12∧¬t.kind=14)(hf:¬t.fault=0):Calls prog 163 #[bn t] w λe w'=>∃b,e=.returned (.tuple #[.nilIface,aH b])∧w'.heap[b]?=some (.cells #[.int .i64 t.fault,.int .i64 t.from_] 65)∧Below w.heap.size w w':=by
 obtain⟨h8,h9,Bo,uV⟩:=h;have q8:(((t.kind:Nat):Int)==8)=false:=by rw[beq_eq_false_iff_ne];omega
 have q9:(((t.kind:Nat):Int)==9)=false:=by rw[beq_eq_false_iff_ne];omega
 have q12:(((t.kind:Nat):Int)==12)=false:=by rw[beq_eq_false_iff_ne];omega
 have q14:(((t.kind:Nat):Int)==14)=false:=by rw[beq_eq_false_iff_ne];omega
 have qf:(t.fault==0)=false:=by rw[beq_eq_false_iff_ne];exact hf
 have mixed:prog.follows Departure.mixedOrders=true:=by kernel_rfl
 clear h8 h9 Bo uV hf;unfold bn;go_enter func163,ntmps163;go_wp2_with fail;go_region;all_goals
  go_wp2
  go_ret2;refine⟨w.heap.size+1,rfl,?_,?_⟩
  ·exact ed w _ _
  ·(repeat (first|with_reducible refine Below.setCell ?_ (by simp) _|with_reducible refine below_drewN ?_ _|with_reducible refine Below.drew ?_ |with_reducible refine Below.alloc ?_ (by simp) _));with_reducible exact Below.refl _ _
def fK (w:World)(base:Nat):List Value→Value→Value→Prop
 |[],rest,v=>v=rest
 |x::vs,rest,v=>v=.iface 150 (aH (base+vs.length))∧∃v',w.heap[base+vs.length]?=some (.cells #[x,v'] 161)∧fK w base vs rest v'
theorem fK.keep {w w':World}{base:Nat}{rest:Value}:∀(vs:List Value) (v:Value),fK w base vs rest v→(∀b,base≤b→b<w.heap.size→w'.heap[b]?=w.heap[b]?)→fK w' base vs rest v
 |[],_,h,_=>h
 |x::vs,v,⟨h1,v',h2,h3⟩,hk=>⟨h1,v',(hk _ (by omega) (zae.1 h2).1).trans h2,fK.keep vs v' h3 hk⟩
theorem Jk (vs:List Value)(g cap lo:Nat)(rest:Value)(w:World)(hrow:w.ownsRow lo 58 1 (.slice (some ⟨g,0,none⟩) vs.length cap) vs.length vs)(hn:vs.length≤1000000)(SH:∀x∈vs,∃t y,x=.iface t y)(SI:∃t y,rest=.iface t y):Calls prog 221 #[.slice (some ⟨g,0,none⟩) vs.length cap,rest] w λe w'=>∃v,e=.returned v∧fK w' w.heap.size vs rest v∧w'.heap.size=w.heap.size+vs.length∧Below w.heap.size w w':=by
 have hg:g<w.heap.size:=(hrow.lt g rfl).2;have hcell:Hid (∀(j:Nat) (x:Value),vs[j]?=some x→w.cell? ⟨g,j,none⟩=some x):=λj x hx=>by
  have hj:j<vs.length:=(zbg.1 hx).1;rw[hrow.cellAt j (by omega),hx]
 clear hrow;go_enter func221,ntmps221;go_wp2_with fail;go_loopw [5,1] (λi r wr=>∃j:Nat,j≤vs.length∧i=.int .i64 ((j:Int)-1)∧wr.heap.size=w.heap.size+(vs.length-j)∧(∃t y,r=.iface t y)∧Hid (fK wr w.heap.size (vs.drop j) rest r)∧Hid (Below w.heap.size w wr)) (λi _ _=>(intOf i+1).toNat)
 case atStart=>exact⟨vs.length,zaa _,by go_num,by omega,SI,by show fK _ _ _ _ _;rw[List.drop_length];rfl,Below.refl _ _⟩
 case round=>
  obtain⟨j,hj,rfl,hsz,⟨tr,yr,rfl⟩,hC,hB⟩:=hrel;by_cases h0:j=0
  ·subst h0;go_wp2_with fail;go_ret;exact⟨_,rfl,by simpa using hC.out,by simpa using hsz,hB.out⟩
  ·obtain⟨m,rfl⟩:∃m,j=m+1:=⟨j-1,by omega⟩;have hx:vs[m]?=some vs[m]:=zai (by omega);have hc:Hid (w.cell? ⟨g,m,none⟩=some vs[m]):=hcell.out m _ hx;have XD:=(hB.out.cell (p:=⟨g,m,none⟩) hg).trans hc.out;obtain⟨tx,yx,hxi⟩:=SH vs[m] (zaN (by omega));have hdr:Hid (vs.drop m=vs[m]::vs.drop (m+1)):=zbB (by omega);rw[hxi]at XD hdr;clear hx hc hxi;have hm:m<vs.length:=by omega
   rw[show(((m+1:Nat):Int)-1)=(m:Int) by omega];go_wp2_with fail;go_roundw
   case rel=>exact⟨m,by omega,rfl,by simp;omega,⟨_,_,rfl⟩,by
    show fK _ _ _ _ _;rw[hdr.out];have hl:(vs.drop (m+1)).length=vs.length-(m+1):=zah;refine⟨by rw[hl,←hsz];rfl,.iface tr yr,?_,?_⟩
    ·rw[hl,←hsz];exact heap_alloc_new _ _
    ·exact fK.keep _ _ hC.out λb _ h=>Lib.alloc_old _ _ _ h,hB.out.alloc (by omega) _⟩
   case measure=>simp[intOf]
def gX (d:Nat)(p:Bool)(av:Value):Value:= .agg #[.int .i64 d,.bool p,av]
def dL (w:World)(b:Nat)(e:Int)(a:Nat):Prop:=w.heap[b]?=some (.cells #[.int .i64 e,.int .i64 a] 65)
theorem Jl (w:World)(A B C D:Obj):((((w.alloc A).alloc B).alloc C).alloc D).heap[w.heap.size+1+1+1]?=some D:=by
 rw[show w.heap.size+1+1+1=(((w.alloc A).alloc B).alloc C).heap.size by simp];exact heap_alloc_new _ _
theorem zn (R dp:Nat)(t:Tok)(d:Nat)(p:Bool)(a:Option Addr)(l c:Nat)(w:World)(hR:w.cell? ⟨R,2,none⟩=some (.int .i64 dp))(hlt:R<w.heap.size)(hd:d<1000)(hne:¬d=dp):Calls prog 192 #[aH R,bn t,gX d p (.slice a l c)] w λe w'=>e=.returned (.tuple #[gX (d+1) p (.slice none 0 0),.pointer none])∧Below w.heap.size w w':=by
 have mixed:prog.follows Departure.mixedOrders=true:=by kernel_rfl
 have q:(((d:Nat):Int)==((dp:Nat):Int))=false:=by rw[beq_eq_false_iff_ne];omega
 have l1:R<w.heap.size+1:=by omega
 have l2:R<w.heap.size+1+1:=by omega
 have n0:¬R=w.heap.size:=by omega
 have n1:¬R=w.heap.size+1:=by omega
 have n2:¬R=w.heap.size+1+1:=by omega
 unfold bn gX aH;go_enter func192,ntmps192;go_wp2_with fail;go_region;go_wp2_with fail;refine bodyPost_ret (v:= .tuple #[gX (d+1) p (.slice none 0 0),.pointer none]) (by simp[results,results192,gX,go_sem]) rfl ⟨rfl,?_⟩
 (repeat (first|with_reducible refine Below.setCell ?_ (by first|(simp;done)|(simp;omega)) _|with_reducible refine Below.drew ?_ |with_reducible refine below_drewN ?_ _|with_reducible refine Below.alloc ?_ (by first|(simp;done)|(simp;omega)) _));with_reducible exact Below.refl _ _
theorem tX (R dp:Nat)(t:Tok)(d:Nat)(p:Bool)(a:Option Addr)(l c:Nat)(w:World)(hR:w.cell? ⟨R,2,none⟩=some (.int .i64 dp))(hlt:R<w.heap.size)(hd:d=dp):Calls prog 192 #[aH R,bn t,gX d p (.slice a l c)] w λe w'=>∃b,e=.returned (.tuple #[gX 0 false (.slice none 0 0),aH b])∧dL w' b 6 t.from_∧Below w.heap.size w w':=by
 have mixed:prog.follows Departure.mixedOrders=true:=by kernel_rfl
 subst hd;have l1:R<w.heap.size+1:=by omega
 have l2:R<w.heap.size+1+1:=by omega
 have n0:¬R=w.heap.size:=by omega
 have n1:¬R=w.heap.size+1:=by omega
 have n2:¬R=w.heap.size+1+1:=by omega
 unfold bn gX aH;go_enter func192,ntmps192;go_wp2_with fail;go_region;go_wp2_with fail;go_region;all_goals
  go_wp2_with fail;refine bodyPost_ret (v:= .tuple #[gX 0 false (.slice none 0 0),aH (w.heap.size+1+1+1)]) (by simp[results,results192,gX,aH,go_sem]) rfl ⟨w.heap.size+1+1+1,rfl,?_,?_⟩
  ·exact Jl w _ _ _ _
  ·(repeat (first|with_reducible refine Below.setCell ?_ (by first|(simp;done)|(simp;omega)) _|with_reducible refine Below.drew ?_ |with_reducible refine below_drewN ?_ _|with_reducible refine Below.alloc ?_ (by first|(simp;done)|(simp;omega)) _));with_reducible exact Below.refl _ _
def iQ (t:Tok):List Value:=[.int .i64 t.kind,.int .i64 t.from_,.int .i64 t.dF,.string ⟨⟨t.text⟩⟩,.int .i64 t.n,.int .i64 t.d,.int .i64 t.fault]
structure Kp (R M:Nat) (w w':World):Prop where
 os:w'.os=w.os
 tape:w'.tape=w.tape
 output:w'.output=w.output
 size:w.heap.size≤w'.heap.size
 block:∀b,b<w.heap.size→b≠R→b≠M→w'.heap[b]?=w.heap[b]?
theorem Kp.refl (R M:Nat)(w:World):Kp R M w w:=⟨rfl,rfl,rfl,zaa _,λ_ _ _ _=>rfl⟩
theorem Kp.trans {R M:Nat}{a b c:World}(h:Kp R M a b)(k:Kp R M b c):Kp R M a c:=
 ⟨k.os.trans h.os,k.tape.trans h.tape,k.output.trans h.output,zad h.size k.size,λx h1 h2 h3=>(k.block x (zaq h1 h.size) h2 h3).trans (h.block x h1 h2 h3)⟩
theorem Kp.aJ {R M:Nat}{w w':World}(h:Below w.heap.size w w'):Kp R M w w':=⟨h.os,h.tape,h.output,h.size,λb hb _ _=>h.block b hb⟩
structure jP (R M:Nat) (A:Option Nat) (w w':World):Prop where
 os:w'.os=w.os
 tape:w'.tape=w.tape
 output:w'.output=w.output
 size:w.heap.size≤w'.heap.size
 block:∀b,b<w.heap.size→b≠R→b≠M→some b≠A→w'.heap[b]?=w.heap[b]?
theorem Kp.a {R M:Nat}{w w':World}(h:Kp R M w w')(A:Option Nat):jP R M A w w':=⟨h.os,h.tape,h.output,h.size,λb h1 h2 h3 _=>h.block b h1 h2 h3⟩
theorem jP.plain {R M:Nat}{w w':World}(h:jP R M none w w'):Kp R M w w':=⟨h.os,h.tape,h.output,h.size,λb h1 h2 h3=>h.block b h1 h2 h3 (by simp)⟩
theorem jP.trans {R M:Nat}{A:Option Nat}{a b c:World}(h:jP R M A a b)(k:jP R M A b c):jP R M A a c:=
 ⟨k.os.trans h.os,k.tape.trans h.tape,k.output.trans h.output,zad h.size k.size,λx h1 h2 h3 h4=>(k.block x (zaq h1 h.size) h2 h3 h4).trans (h.block x h1 h2 h3 h4)⟩
def uC (E:Env)(aN:List Int):List (Int×Value):=aN.reverse.map λn=>(n,aH (E.eL n))
structure bZ (w:World) (R M g cap:Nat) (T:List Tok) (dp:Nat) (E:Env) (s:eX):Prop where
 rm:R≠M
 gr:g≠R
 gm:g≠M
 blk:w.heap[R]?=some (.cells #[.slice (some ⟨g,0,none⟩) T.length cap,.int .i64 s.k,.int .i64 dp,.map (some M)] 123)
 row:w.ownsRow 0 131 7 (.slice (some ⟨g,0,none⟩) T.length cap) T.length (T.flatMap iQ)
 lm:ny w M ((uC E s.aN).map λp=>(Value.int .i64 p.1,p.2))
 low:∀n∈s.aN,∃v,w.heap[E.eL n]?=some (.cells #[v] 215)
 inj:∀n∈s.aN,∀m∈s.aN,E.eL n=E.eL m→n=m
 small:T.length≤100000
 deep:dp≤30
theorem bZ.lt {w:World}{R M g cap:Nat}{T:List Tok}{dp:Nat}{E:Env}{s:eX}(h:bZ w R M g cap T dp E s):R<w.heap.size:=(zae.1 h.blk).1
theorem bZ.mlt {w:World}{R M g cap:Nat}{T:List Tok}{dp:Nat}{E:Env}{s:eX}(h:bZ w R M g cap T dp E s):M<w.heap.size:=by
 obtain⟨es,c,h1,_⟩:=h.lm;exact(zae.1 h1).1
theorem bZ.below {w w':World}{R M g cap:Nat}{T:List Tok}{dp:Nat}{E:Env}{s:eX}(h:bZ w R M g cap T dp E s)(hb:Below w.heap.size w w'):bZ w' R M g cap T dp E s:=by
 refine⟨h.rm,h.gr,h.gm,(hb.block R h.lt).trans h.blk,bH h.row (zaa _) λb _ hlt=>hb.block b hlt,?_,λn hn=>(h.low n hn).imp λv hv=>(hb.block _ (zae.1 hv).1).trans hv,h.inj,h.small,h.deep⟩;obtain⟨es,c,h1,h2⟩:=h.lm;exact⟨es,c,(hb.block M h.mlt).trans h1,h2⟩
structure Ext (w w':World) (E E':Env) (s s':eX):Prop where
 agree:E.agree E' s.fresh s.aN
 fresh:s.fresh≤s'.fresh
 aN:∀n∈s.aN,n∈s'.aN
 new:∀i,s.fresh≤i→i<s'.fresh→w.heap.size≤E'.α i∧E'.α i<w'.heap.size
 inj:∀i j,s.fresh≤i→i<s'.fresh→s.fresh≤j→j<s'.fresh→E'.α i=E'.α j→i=j
theorem Ext.refl {w w':World}{E:Env}{s s':eX}(hf:s'.fresh=s.fresh)(hl:s'.aN=s.aN):Ext w w' E E s s':=
 ⟨⟨λ_ _=>rfl,λ_ _=>rfl⟩,by omega,λn h=>by rw[hl];exact h,λi h1 h2=>by omega,λi j h1 h2=>by omega⟩
theorem Ext.trans {a b c:World}{E E' E'':Env}{s s' s'':eX}(h:Ext a b E E' s s')(k:Ext b c E' E'' s' s'')(h1:a.heap.size≤b.heap.size)(h2:b.heap.size≤c.heap.size):Ext a c E E'' s s'':=by
 have hf:=h.fresh;have kf:=k.fresh;have ag:∀i,i<s'.fresh→E''.α i=E'.α i:=k.agree.1;refine⟨⟨λi hi=>(ag i (by omega)).trans (h.agree.1 i hi),λn hn=>(k.agree.2 n (h.aN n hn)).trans (h.agree.2 n hn)⟩,by omega,λn hn=>k.aN n (h.aN n hn),λi i1 i2=>?_,λi j i1 i2 j1 j2 e=>?_⟩
 ·rcases zag i s'.fresh with hlt|js
  ·rw[ag i hlt];have:=h.new i i1 hlt;omega
  ·have:=k.new i js i2;omega
 ·rcases zag i s'.fresh with hi|hi<;>rcases zag j s'.fresh with hj|hj
  ·rw[ag i hi,ag j hj]at e;exact h.inj i j i1 hi j1 hj e
  ·rw[ag i hi]at e;have:=h.new i i1 hi;have:=k.new j hj j2;omega
  ·rw[ag j hj]at e;have:=h.new j j1 hj;have:=k.new i hi i2;omega
  ·exact k.inj i j hi i2 hj j2 e
def iZ (w:World)(E:Env)(s:eX)(l:List Int)(av:Value):Prop:=w.ownsRow 0 212 1 av l.length (l.map λn=>aH (E.eL n))∧(∃a n c,av=.slice a n c)∧∀n∈l,n∈s.aN
def j0 (R M g cap:Nat)(T:List Tok)(dp:Nat)(A:Option Nat)(w:World)(E:Env)(s:eX)(r:RR Dt)(e:Ending)(w':World):Prop:=
 match r with
 |.out=>True
 |.fail er a=>(∃b,e=.returned (.tuple #[.nilIface,aH b])∧dL w' b er a)∧jP R M A w w'
 |.ok d s'=>∃v E',e=.returned (.tuple #[v,.pointer none])∧(∃t y,v=.iface t y)∧cz w.heap.size s'.fresh s'.aN w' E' d v∧Ext w w' E E' s s'∧bZ w' R M g cap T dp E' s'∧jP R M A w w'
def OkT (R M g cap:Nat)(T:List Tok)(dp:Nat)(w:World)(E:Env)(s:eX)(r:RR Tok)(e:Ending)(w':World):Prop:=
 match r with
 |.out=>True
 |.fail er a=>(∃b t,e=.returned (.tuple #[bn t,aH b])∧dL w' b er a)∧Kp R M w w'
 |.ok t s'=>∃E',e=.returned (.tuple #[bn t,.pointer none])∧Ext w w' E E' s s'∧bZ w' R M g cap T dp E' s'∧Kp R M w w'
section
variable (R M g cap:Nat)(T:List Tok)(dp:Nat)
structure IH (n:Nat):Prop where
 datum:∀p av w E s,bZ w R M g cap T dp E s→iZ w E s p.ahead av→(p.depth≤dp∧p.ahead.length≤p.depth)→aM T dp n p s≠.out→Calls prog 67 #[aH R,gX p.depth p.passed av] w λe w'=>j0 R M g cap T dp av.ownBlock w E s (aM T dp n p s) e w'
 take:∀p av w E s,bZ w R M g cap T dp E s→iZ w E s p.ahead av→(p.depth≤dp∧p.ahead.length≤p.depth)→aX T dp n p s≠.out→Calls prog 105 #[aH R,gX p.depth p.passed av] w λe w'=>OkT R M g cap T dp w E s (aX T dp n p s) e w'
 sj:∀t p av w E s,bZ w R M g cap T dp E s→iZ w E s p.ahead av→(p.depth≤dp∧p.ahead.length≤p.depth)→bG T dp n t p s≠.out→Calls prog 106 #[aH R,bn t,gX p.depth p.passed av] w λe w'=>j0 R M g cap T dp av.ownBlock w E s (bG T dp n t p s) e w'
end
theorem Ext.wid {w w1 w2 w3:World}{E E':Env}{s s':eX}(h:Ext w1 w2 E E' s s')(h1:w.heap.size≤w1.heap.size)(h2:w2.heap.size≤w3.heap.size):Ext w w3 E E' s s':=
 ⟨h.agree,h.fresh,h.aN,λi a b=>by have:=h.new i a b;omega,h.inj⟩
theorem iZ.kp {w w':World}{R M g cap:Nat}{T:List Tok}{dp:Nat}{E E':Env}{s s':eX}{l:List Int}{av:Value}(h:iZ w E s l av)(hr:bZ w R M g cap T dp E s)(hk:Kp R M w w')(ha:E.agree E' s.fresh s.aN)(hl:∀n∈s.aN,n∈s'.aN):iZ w' E' s' l av:=by
 refine⟨?_,h.2.1,λn hn=>hl n (h.2.2 n hn)⟩;have e:(l.map λn=>aH (E'.eL n))=l.map λn=>aH (E.eL n):=List.map_congr_left λn hn=>by rw[ha.2 n (h.2.2 n hn)]
 rw[e];refine⟨h.1.1,h.1.2.imp id ?_⟩;rintro ⟨b,cp,cur,h1,h2,h3,h4⟩;have hlt:b<w.heap.size:=(zae.1 h3).1;have hR:b≠R:=λe=>by rw[e,hr.blk]at h3;simp at h3
 have hM:b≠M:=λe=>by obtain⟨es,c,q,_⟩:=hr.lm;rw[e,q]at h3;cases h3
 exact⟨b,cp,cur,h1,h2,(hk.block b hlt hR hM).trans h3,h4⟩
theorem iZ.below {w w':World}{E:Env}{s:eX}{l:List Int}{av:Value}(h:iZ w E s l av)(hb:Below w.heap.size w w'):iZ w' E s l av:=
 ⟨bH h.1 (zaa _) λb _ hlt=>hb.block b hlt,h.2.1,h.2.2⟩
theorem dL.alloc {w:World}{b:Nat}{e:Int}{a:Nat}(h:dL w b e a)(o:Obj):dL (w.alloc o) b e a:=(Lib.alloc_old _ _ _ (zae.1 h).1).trans h
theorem fL {w1:World}{b:Nat}{x0 x1 x2:Value}{e:TypeId}(h:w1.heap[b]?=some (.cells #[x0,x1,x2] e)):(w1.cell? ⟨b,0,none⟩=some x0∧w1.cell? ⟨b,1,none⟩=some x1∧w1.cell? ⟨b,2,none⟩=some x2):=by
 refine⟨?_,?_,?_⟩<;>simp[World.cell?,h]
section
variable {R M g cap:Nat}{T:List Tok}{dp:Nat}
theorem Fe {N:Nat}(ih:IH R M g cap T dp N)(p:Pl)(av:Value)(w:World)(E:Env)(s:eX)(hr:bZ w R M g cap T dp E s)(ha:iZ w E s p.ahead av)(hd:p.depth≤dp∧p.ahead.length≤p.depth)(ho:aM T dp (N+1) p s≠.out):Calls prog 67 #[aH R,gX p.depth p.passed av] w λe w'=>j0 R M g cap T dp av.ownBlock w E s (aM T dp (N+1) p s) e w':=by
 have heq:aM T dp (N+1) p s=(aX T dp N p s).bind λt s=>bG T dp N t p s:=rfl;rw[heq]at ho ⊢;obtain⟨⟨a0,n0,c0,rfl⟩⟩:=(⟨ha.2.1⟩:Nonempty _);have hb0:Below w.heap.size w (w.alloc (.cells #[.int .i64 p.depth,.bool p.passed,.slice a0 n0 c0] 128)):=(Below.refl _ w).alloc (zaa _) _;have HR:Hid _:=hr.below hb0;have HA:Hid _:=ha.below hb0;have HB:Hid _:=hb0;have HP:Hid _:=heap_alloc_new w (.cells #[.int .i64 p.depth,.bool p.passed,.slice a0 n0 c0] 128);have Mu:(w.alloc (.cells #[.int .i64 p.depth,.bool p.passed,.slice a0 n0 c0] 128)).heap.size=w.heap.size+1:=by simp
 have hne:aX T dp N p s≠.out:=λh=>ho (by rw[h];rfl);have HT:Hid _:=ih.take p (.slice a0 n0 c0) _ E s HR.out HA.out hd hne;have Ko:R<w.heap.size:=hr.lt;have lB:M<w.heap.size:=hr.mlt;have HI:Hid _:=ih;have HO:Hid _:=ho;clear hr ha hb0 ih ho heq hne;generalize hw0:w.alloc (.cells #[.int .i64 p.depth,.bool p.passed,.slice a0 n0 c0] 128)=w0 at *;have NZ:Hid _:=hw0;clear hw0;cases hT:aX T dp N p s with
 |out=>exact absurd (by rw[hT];rfl) HO.out
 |fail er a=>
  rw[hT]at HT;unfold gX aH at HT ⊢;go_enter func67,ntmps67;go_wp2_with fail;rw[NZ.out];refine Calls.mono HT.out ?_;rintro e w1 ⟨⟨b,t,rfl,hf⟩,hk⟩;have HF:Hid _:=hf;have HK:Hid _:=hk;clear hf hk HT;unfold bn aH;go_wp2_with fail;go_ret2;have hs1:=HK.out.size;exact⟨⟨b,rfl,dL.alloc HF.out _⟩,((Kp.aJ HB.out).trans (Kp.trans HK.out (Kp.aJ ((Below.refl _ _).alloc (zaa _) _)))).a _⟩
 |ok t s1=>
  rw[hT]at HT;have HO':Hid (bG T dp N t p s1≠.out):=by have:=HO.out;rw[hT]at this;exact this
  unfold gX aH at HT ⊢;go_enter func67,ntmps67;go_wp2_with fail;rw[NZ.out];refine Calls.mono HT.out ?_;rintro e w1 ⟨E1,rfl,hx,hr1,hk⟩;have vP:=(hk.block w.heap.size (by omega) (by omega) (by omega)).trans HP.out;obtain⟨x0,x1,x2⟩:=fL vP;have hs1:=hk.size;have hl0:w.heap.size<w1.heap.size:=by omega
  have lN:¬w.heap.size=w1.heap.size:=by omega
  have hl2:¬w1.heap.size=w.heap.size:=by omega
  have hb1:Below w1.heap.size w1 (w1.alloc (.cells #[.int .i64 t.kind,.int .i64 t.from_,.int .i64 t.dF,.string ⟨⟨t.text⟩⟩,.int .i64 t.n,.int .i64 t.d,.int .i64 t.fault] 131)):=(Below.refl _ _).alloc (zaa _) _;have u7:Hid _:=hr1.below hb1;have HA1:Hid _:=iZ.below (iZ.kp HA.out HR.out hk hx.agree hx.aN) hb1;have HF:Hid _:=HI.out.sj t p (.slice a0 n0 c0) _ E1 s1 u7.out HA1.out hd HO'.out;have HX:Hid _:=hx;have HK:Hid _:=hk;have k8:Hid _:=hb1;clear hx hk hr1 hb1 HT vP;unfold bn aH gX at HF;unfold bn;go_wp2_with fail;refine Calls.mono HF.out ?_;clear HF;intro e2 w2 cC;have gU:Kp R M w (w1.alloc (.cells #[.int .i64 t.kind,.int .i64 t.from_,.int .i64 t.dF,.string ⟨⟨t.text⟩⟩,.int .i64 t.n,.int .i64 t.d,.int .i64 t.fault] 131)):=(Kp.aJ HB.out).trans (Kp.trans HK.out (Kp.aJ k8.out));have hxx:Ext w (w1.alloc (.cells #[.int .i64 t.kind,.int .i64 t.from_,.int .i64 t.dF,.string ⟨⟨t.text⟩⟩,.int .i64 t.n,.int .i64 t.d,.int .i64 t.fault] 131)) E E1 s s1:=Ext.wid HX.out (by omega) (by simp);generalize w1.alloc (.cells #[.int .i64 t.kind,.int .i64 t.from_,.int .i64 t.dF,.string ⟨⟨t.text⟩⟩,.int .i64 t.n,.int .i64 t.d,.int .i64 t.fault] 131)=w3 at *;cases hF:bG T dp N t p s1 with
  |out=>exact absurd hF HO'.out
  |fail er a=>
   rw[hF]at cC;obtain⟨⟨b,rfl,hf⟩,hk2⟩:=cC;have HG:Hid (j0 R M g cap T dp (Value.slice a0 n0 c0).ownBlock w E s (RR.fail er a) (.returned (.tuple #[.nilIface,aH b])) w2):=⟨⟨b,rfl,hf⟩,(gU.a _).trans hk2⟩;have HE:Hid (((RR.ok t s1).bind λt s=>bG T dp N t p s)=RR.fail er a):=hF;clear hf hk2 gU hxx;unfold aH;go_wp2_with fail;go_ret2;rw[HE.out];exact HG.out
  |ok d s2=>
   rw[hF]at cC;obtain⟨v,E2,rfl,⟨ty,y,rfl⟩,cH,hx2,hr2,hk2⟩:=cC;have h3:=gU.size;have h4:=hk2.size;have HG:Hid (j0 R M g cap T dp (Value.slice a0 n0 c0).ownBlock w E s (RR.ok d s2) (.returned (.tuple #[.iface ty y,.pointer none])) w2):=
    ⟨.iface ty y,E2,rfl,⟨ty,y,rfl⟩,cz.keep h3 (zaa _) (λ_ h=>h) (λ_ _ _=>rfl) ⟨λ_ _=>rfl,λ_ _=>rfl⟩ d _ cH,hxx.trans hx2 h3 h4,hr2,(gU.a _).trans hk2⟩
   have HE:Hid (((RR.ok t s1).bind λt s=>bG T dp N t p s)=RR.ok d s2):=hF;clear cH hx2 hr2 hk2 gU hxx;go_wp2_with fail;go_ret2;rw[HE.out];exact HG.out
end
end Go.Proofs.YtlhimdjkkiflhaaGreatDoor
namespace Go.Proofs.YtlhimdjkkiflhaaGreatDoor
open Go.RowKit Go.Loop
theorem RR.bA {α β:Type}{x:RR α}{f:α→eX→RR β}{b:β}{s':eX}(h:x.bind f=.ok b s'):∃a s1,x=.ok a s1∧f a s1=.ok b s':=by
 cases x with
 |out=>cases h
 |fail e a=>cases h
 |ok a s1=>exact⟨a,s1,rfl,h⟩
section
variable (T:List Tok)(dp:Nat)
structure YL (n:Nat):Prop where
 datum:∀p s d s',aM T dp n p s=.ok d s'→s.k≤s'.k
 take:∀p s d s',aX T dp n p s=.ok d s'→s.k≤s'.k
 sj:∀t p s d s',bG T dp n t p s=.ok d s'→s.k≤s'.k
 list:∀l p s d s',bD T dp n l p s=.ok d s'→s.k≤s'.k
 vec:∀l p s d s',dR T dp n l p s=.ok d s'→s.k≤s'.k
theorem grows:∀n,YL T dp n
 |0=>⟨λ_ _ _ _ h=>(by unfold aM at h;cases h),λ_ _ _ _ h=>(by unfold aX at h;cases h),λ_ _ _ _ _ h=>(by unfold bG at h;cases h),λ_ _ _ _ _ h=>(by unfold bD at h;cases h),λ_ _ _ _ _ h=>(by unfold dR at h;cases h)⟩
 |n+1=>by
  have ih:=grows n;refine⟨λp s d s' h=>?_,λp s d s' h=>?_,λt p s d s' h=>?_,λl p s d s' h=>?_,λl p s d s' h=>?_⟩
  ·unfold aM at h;obtain⟨t,s1,h1,h2⟩:=RR.bA h;have:=ih.take _ _ _ _ h1;have:=ih.sj _ _ _ _ _ h2;omega
  ·unfold aX at h;split at h
   ·cases h
   ·split at h
    ·cases h
    ·split at h
     ·cases h
     ·split at h
      ·obtain⟨t,s1,h1,h2⟩:=RR.bA h;have:=ih.datum _ _ _ _ h1;have:=ih.take _ _ _ _ h2;simp at *;omega
      ·cases h;simp
  ·unfold bG at h;split at h
   ·cases h
   ·split at h
    ·split at h
     ·cases h
     ·split at h
      ·cases h
      ·obtain⟨t,s1,h1,h2⟩:=RR.bA h;have:=ih.datum _ _ _ _ h1;cases h2;exact this
    ·split at h
     ·split at h
      ·cases h
      ·cases h;exact zaa _
     ·split at h
      ·split at h
       ·cases h
       ·split at h
        ·obtain⟨t,s1,h1,h2⟩:=RR.bA h;have:=ih.vec _ _ _ _ _ h1;cases h2;exact this
        ·split at h
         ·obtain⟨t,s1,h1,h2⟩:=RR.bA h;have:=ih.datum _ _ _ _ h1;cases h2;exact this
         ·exact ih.list _ _ _ _ _ h
      ·unfold pO at h;repeat' split at h
       all_goals first|(cases h;done)|(cases h;exact zaa _)
  ·unfold bD at h;obtain⟨t,s1,h1,h2⟩:=RR.bA h;have a1:=ih.take _ _ _ _ h1;split at h2
   ·cases h2;exact a1
   ·split at h2
    ·obtain⟨r,s2,h3,h4⟩:=RR.bA h2;have a2:=ih.datum _ _ _ _ h3;obtain⟨r',s3,h5,h6⟩:=RR.bA h4;have a3:=ih.take _ _ _ _ h5;split at h6
     ·cases h6;simp;omega
     ·cases h6
    ·obtain⟨r,s2,h3,h4⟩:=RR.bA h2;have a2:=ih.sj _ _ _ _ _ h3;have a3:=ih.list _ _ _ _ _ h4;omega
  ·unfold dR at h;obtain⟨t,s1,h1,h2⟩:=RR.bA h;have a1:=ih.take _ _ _ _ h1;split at h2
   ·cases h2;exact a1
   ·split at h2
    ·cases h2
    ·obtain⟨r,s2,h3,h4⟩:=RR.bA h2;have a2:=ih.sj _ _ _ _ _ h3;have a3:=ih.vec _ _ _ _ _ h4;omega
end
end Go.Proofs.YtlhimdjkkiflhaaGreatDoor
