import Derived.LaidEqlPtr
import Derived.Test.YtlhimdjkkiflhaaGreatDoorDeep23
namespace Go.Proofs.YtlhimdjkkiflhaaGreatDoor
open Go.RowKit Go.Loop
inductive HK where
 |pair
 |vec
 |txt
deriving DecidableEq
def HK.p:HK→TypeId
 | .pair=>150
 | .vec=>163
 | .txt=>158
def HK.o:HK→TypeId
 | .pair=>161
 | .vec=>165
 | .txt=>218
def keyV (h:HK)(b:Nat):Value:= .iface h.p (ptrV b)
def HAt (w:World)(h:HK)(b:Nat):Prop:=∃ cs,w.heap[b]? =some (.cells cs h.o)
theorem HAt.same {w:World}{h h':HK}{b:Nat}(x:HAt w h b)(y:HAt w h' b):h=h':=by
 obtain⟨c,hc⟩:=x
 obtain⟨c',hc'⟩:=y
 rw[hc] at hc'
 cases h<;>cases h'<;>first|rfl|(simp[HK.o] at hc')
theorem underDatum0:((Tryz.prog.underlying 58).any fun d=>match d with| .interface _=>true|_=>false)=true:=by kernel_rfl
theorem underDatum:∃ ms,Tryz.prog.underlying 58=some (.interface ms):=by
 have h:=underDatum0
 cases hq:Tryz.prog.underlying 58 with
 |none=>rw[hq] at h;cases h
 |some d=>
  rw[hq] at h
  cases d<;>first|exact⟨_,rfl⟩|(simp at h)
section
variable {P:Program}
theorem run_equalIn_iface_diff (d:Nat){ti tx ty:TypeId}{ms:Array (String×TypeId)}{vx vy:Value}(w:World)(hi:P.underlying ti=some (.interface ms))(h:tx≠ty):(Op.equalIn (d+1) ti (.iface tx vx) (.iface ty vy)).run P w= .ok false w:=by
 simp[Op.equalIn,run_underlying hi,h]
theorem run_checkKey_iface (b:Bool)(d:Nat){ti tp te:TypeId}{ms:Array (String×TypeId)}{i:TypeInfo}{v:Value}(w:World)(hi:P.underlying ti=some (.interface ms))(hp:P.underlying tp=some (.pointer te))(hinfo:P.info? tp=some i)(hcomp:i.comparable=true):(Instr.checkKey b (d+2) ti (.iface tp v)).run P w= .ok () w:=by
 simp[Instr.checkKey,run_underlying hi,run_underlying hp,typeInfo,hinfo,hcomp]
end
theorem underMet:Tryz.prog.underlying 98=some (.map 58 3):=by kernel_rfl
theorem underHK (h:HK):Tryz.prog.underlying h.p=some (.pointer h.o):=by cases h<;>kernel_rfl
theorem infoHKp (h:HK):(Tryz.prog.info? h.p).map (fun i=>i.comparable)=some true:=by cases h<;>kernel_rfl
theorem infoHKo (h:HK):(Tryz.prog.info? h.o).any (fun i=>i.size != 0)=true:=by cases h<;>kernel_rfl
theorem eqKey {w:World}{h h':HK}{b b':Nat}(x:HAt w h b)(y:HAt w h' b'):(Op.equal 58 (keyV h b) (keyV h' b')).run Tryz.prog w= .ok (decide (b=b')) w:=by
 obtain⟨ms,hi⟩:=underDatum
 have hinfo:=infoHKp h
 cases hq:Tryz.prog.info? h.p with
 |none=>rw[hq] at hinfo;cases hinfo
 |some i=>
  rw[hq] at hinfo
  have hcomp:i.comparable=true:=by simpa using hinfo
  have hso:=infoHKo h
  cases hq2:Tryz.prog.info? h.o with
  |none=>rw[hq2] at hso;cases hso
  |some j=>
   rw[hq2] at hso
   have hsz:j.size≠0:=by simpa using hso
   unfold keyV ptrV Op.equal Op.maxDepth
   by_cases e:b=b'
   ·subst e
    obtain rfl:=x.same y
    rw[run_equalIn_iface_ptr_same _ 9998 _ hi (underHK h) hq hcomp hq2]
    simp
   ·by_cases eh:h=h'
    ·subst eh
     obtain⟨c,hc⟩:=x
     obtain⟨c',hc'⟩:=y
     rw[run_equalIn_iface_ptr_other _ 9998 hi (underHK h) hq hcomp hq2 hsz (fun q=>e (by cases q;rfl)) hc hc']
     simp[e]
    ·have hp:h.p≠h'.p:=by cases h<;>cases h'<;>first|exact absurd rfl eh|(simp[HK.p])
     rw[run_equalIn_iface_diff 9999 w hi hp]
     simp[e]
def metL (κ:Nat→HK)(E:Env)(met:List (Nat×Nat)):List (Value×Value):=met.reverse.map fun p=>(keyV (κ p.1) (E.α p.1),.int .i64 p.2)
theorem lookup_rev {α β:Type} [BEq α] [LawfulBEq α] (l:List (α×β))(i:α)(h:(l.map (·.1)).Nodup):l.reverse.lookup i=l.lookup i:=by
 induction l with
 |nil=>rfl
 |cons p l ih=>
  obtain⟨a,b⟩:=p
  rw[List.map_cons,List.nodup_cons] at h
  rw[List.reverse_cons]
  rw[List.lookup_append,ih h.2]
  by_cases e:i=a
  ·subst e
   have hn:l.lookup i=none:=by
    rw[List.lookup_eq_none_iff]
    intro q hq
    have:q.1≠i:=fun e=>h.1 (List.mem_map.2 ⟨q,hq,e⟩)
    simpa using fun e=>this e.symm
   simp[hn]
  ·have he:(i==a)=false:=by simpa using e
   simp only[List.lookup_cons,he]
   simp
theorem findAsk {w:World}{κ:Nat→HK}{E:Env}{i:Nat}:∀ (es:List MapEntry) (l:List (Nat×Nat)) (n:Nat),es.map (fun e=>(e.key,e.val))=l.map (fun p=>(keyV (κ p.1) (E.α p.1),Value.int .i64 p.2))→
 HAt w (κ i) (E.α i)→(∀ p∈l,HAt w (κ p.1) (E.α p.1))→(∀ p∈l,E.α i=E.α p.1→i=p.1)→
 ∃ j,(Instr.findAsking 58 (keyV (κ i) (E.α i)) es n).run Tryz.prog w= .ok ((l.lookup i).map fun k=>(j,Value.int .i64 k)) w
 |[],[],n,_,_,_,_=>⟨0,by simp[Instr.findAsking]⟩
 |[],_::_,_,h,_,_,_=>by simp at h
 |_::_,[],_,h,_,_,_=>by simp at h
 |e::es,(m,v)::l,n,h,hi,hl,hα=>by
  simp only[List.map_cons,List.cons.injEq,Prod.mk.injEq] at h
  obtain⟨⟨h1,h2⟩,h3⟩:=h
  unfold Instr.findAsking
  rw[h1]
  have heq:=eqKey hi (hl _ List.mem_cons_self)
  by_cases hn:i=m
  ·subst hn
   exact⟨n,by simp[heq,h2]⟩
  ·have hne:E.α i≠E.α m:=fun e=>hn (hα _ List.mem_cons_self e)
   obtain⟨j,hj⟩:=findAsk es l (n+1) h3 hi (fun p hp=>hl p (List.mem_cons_of_mem _ hp)) (fun p hp=>hα p (List.mem_cons_of_mem _ hp))
   refine⟨j,?_⟩
   have hb:(i==m)=false:=by simpa using hn
   simp[heq,hne,hj,List.lookup_cons,hb]
theorem checkDatum (b:Bool)(h:HK)(c:Nat)(w:World):(Instr.checkKey b 10000 58 (keyV h c)).run Tryz.prog w= .ok () w:=by
 obtain⟨ms,hi⟩:=underDatum
 have hinfo:=infoHKp h
 cases hq:Tryz.prog.info? h.p with
 |none=>rw[hq] at hinfo;cases hinfo
 |some i=>
  rw[hq] at hinfo
  have hcomp:i.comparable=true:=by simpa using hinfo
  exact run_checkKey_iface b 9998 w hi (underHK h) hq hcomp
section
variable {w:World} {M:Nat} {κ:Nat→HK} {E:Env} {met:List (Nat×Nat)}
theorem run_metLook (h:MapAt w M (metL κ E met))(i:Nat)(hi:HAt w (κ i) (E.α i))(hl:∀ p∈met,HAt w (κ p.1) (E.α p.1))(hα:∀ p∈met,E.α i=E.α p.1→i=p.1)(hnd:(met.map (·.1)).Nodup):
 (Instr.lookup 98 (.map (some M)) (keyV (κ i) (E.α i)) true).run Tryz.prog w= .ok (.tuple #[.int .i64 (((met.lookup i).getD 0:Nat):Int),.bool (met.lookup i).isSome]) w:=by
 obtain⟨es,clock,h1,h2⟩:=h
 obtain⟨ms,hint⟩:=underDatum
 have hg:(getObj M).run Tryz.prog w= .ok (.map es clock) w:=by simp[getObj,Sem.run,h1]
 obtain⟨j,hj⟩:=findAsk (w:=w) (κ:=κ) (E:=E) (i:=i) es.toList met.reverse 0 h2 hi (fun p hp=>hl p (List.mem_reverse.1 hp)) (fun p hp=>hα p (List.mem_reverse.1 hp))
 rw[lookup_rev _ _ hnd] at hj
 unfold Instr.lookup Instr.findKey
 simp only[Sem.run_bind,run_underlying underMet,Result.andThen_ok,hg,Sem.run_pure,checkDatum,run_underlying hint]
 cases hes:es.toList with
 |nil=>
  rw[hes] at hj h2
  have hm:met=[]:=by
   have:met.reverse=[]:=by
    have:=congrArg List.length h2
    unfold metL at this
    simp at this
    exact List.reverse_eq_nil_iff.2 (List.eq_nil_of_length_eq_zero this.symm)
   simpa using this
  subst hm
  simp[Instr.findNow]
 |cons e es'=>
  rw[hes] at hj
  have hs:Instr.findNow (.interface ms) (keyV (κ i) (E.α i)) (e::es') 0=none:=by simp[Instr.findNow,Instr.sameNow]
  simp only[hs,hj]
  cases hq:met.lookup i with
  |none=>simp
  |some v=>simp
theorem run_metPut (h:MapAt w M (metL κ E met))(i k:Nat)(hi:HAt w (κ i) (E.α i))(hl:∀ p∈met,HAt w (κ p.1) (E.α p.1))(hα:∀ p∈met,E.α i=E.α p.1→i=p.1)(hnd:(met.map (·.1)).Nodup)(hn:met.lookup i=none):
 ∃ o,(Instr.mapUpdate 98 (.map (some M)) (keyV (κ i) (E.α i)) (.int .i64 k)).run Tryz.prog w= .ok () { w with heap:=w.heap.setIfInBounds M o }∧MapAt { w with heap:=w.heap.setIfInBounds M o } M (metL κ E ((i,k)::met)):=by
 obtain⟨es,clock,h1,h2⟩:=h
 obtain⟨ms,hint⟩:=underDatum
 have hlt:M<w.heap.size:=(Array.getElem?_eq_some_iff.1 h1).1
 have hg:(getObj M).run Tryz.prog w= .ok (.map es clock) w:=by simp[getObj,Sem.run,h1]
 obtain⟨j,hj⟩:=findAsk (w:=w) (κ:=κ) (E:=E) (i:=i) es.toList met.reverse 0 h2 hi (fun p hp=>hl p (List.mem_reverse.1 hp)) (fun p hp=>hα p (List.mem_reverse.1 hp))
 rw[lookup_rev _ _ hnd,hn] at hj
 refine⟨.map (es.push { key:=keyV (κ i) (E.α i),val:= .int .i64 k,born:=clock }) (clock+1),?_,es.push { key:=keyV (κ i) (E.α i),val:= .int .i64 k,born:=clock },clock+1,?_,?_⟩
 ·unfold Instr.mapUpdate Instr.findKey
  simp only[Sem.run_bind,run_underlying underMet,Result.andThen_ok,hg,checkDatum,run_underlying hint]
  cases hes:es.toList with
  |nil=>simp[Instr.findNow,setObj,Sem.run,h1]
  |cons e es'=>
   rw[hes] at hj
   have hs:Instr.findNow (.interface ms) (keyV (κ i) (E.α i)) (e::es') 0=none:=by simp[Instr.findNow,Instr.sameNow]
   simp only[hs,hj]
   simp[setObj,Sem.run,h1]
 ·show(w.heap.setIfInBounds M _)[M]? =_
  rw[Array.getElem?_setIfInBounds_self_of_lt hlt]
 ·rw[Array.toList_push,List.map_append,h2]
  simp[metL]
end
theorem alloc2_at (w:World)(A B:Obj):((w.alloc A).alloc B).heap[w.heap.size+1]? =some B:=by
 rw[show w.heap.size+1=(w.alloc A).heap.size by simp]
 exact heap_alloc_new _ _
set_option maxHeartbeats 1000000 in
theorem atom_txt (t:Tok)(w:World)(hk:t.kind=8):
 Calls Tryz.prog 163 #[tkV t] w fun e w'=>∃ b,e= .returned (.tuple #[.iface 158 (ptrV b),.pointer none])∧w.heap.size≤b∧w'.heap[b]? =some (.cells #[.string ⟨⟨t.text⟩⟩] 218)∧Below w.heap.size w w':=by
 have q:(((t.kind:Nat):Int)==8)=true:=by rw[hk];rfl
 clear hk
 unfold tkV
 go_enter Tryz.func163,Tryz.ntmps163
 go_wp2_with fail
 go_ret2
 refine⟨w.heap.size+1,rfl,by omega,?_,?_⟩
 ·exact alloc2_at w _ _
 ·(repeat (first|with_reducible refine Below.setCell ?_ (by simp) _|with_reducible refine Below.alloc ?_ (by simp) _));with_reducible exact Below.refl _ _
def atomV (t:Tok):Value:=
 if t.kind=9 then .iface 157 (.agg #[.int .i64 t.n])
 else if t.kind=12 then .iface 155 (.agg #[.int .i64 t.n])
 else if t.kind=14 then .iface 168 (.agg #[.string ⟨⟨t.text⟩⟩])
 else .iface 153 (.agg #[.int .i64 t.n,.int .i64 t.d])
set_option maxHeartbeats 1000000 in
theorem atom_val (t:Tok)(w:World)(h8:¬ t.kind=8)(hf:t.kind=9∨t.kind=12∨t.kind=14∨t.fault=0):
 Calls Tryz.prog 163 #[tkV t] w fun e w'=>e= .returned (.tuple #[atomV t,.pointer none])∧Below w.heap.size w w':=by
 have q8:(((t.kind:Nat):Int)==8)=false:=by rw[beq_eq_false_iff_ne];omega
 by_cases h9:t.kind=9
 ·have e:Hid (atomV t= .iface 157 (.agg #[.int .i64 t.n])):=if_pos h9
  have q9:(((t.kind:Nat):Int)==9)=true:=by rw[h9];rfl
  clear h9 hf h8
  unfold tkV
  go_enter Tryz.func163,Tryz.ntmps163
  go_wp2_with fail
  go_ret2
  refine⟨by rw[e.out];rfl,?_⟩
  (repeat (first|with_reducible refine Below.setCell ?_ (by simp) _|with_reducible refine Below.alloc ?_ (by simp) _));with_reducible exact Below.refl _ _
 have q9:(((t.kind:Nat):Int)==9)=false:=by rw[beq_eq_false_iff_ne];omega
 by_cases h12:t.kind=12
 ·have e:Hid (atomV t= .iface 155 (.agg #[.int .i64 t.n])):=(if_neg h9).trans (if_pos h12)
  have q12:(((t.kind:Nat):Int)==12)=true:=by rw[h12];rfl
  clear h9 hf h8 h12
  unfold tkV
  go_enter Tryz.func163,Tryz.ntmps163
  go_wp2_with fail
  go_ret2
  refine⟨by rw[e.out];rfl,?_⟩
  (repeat (first|with_reducible refine Below.setCell ?_ (by simp) _|with_reducible refine Below.alloc ?_ (by simp) _));with_reducible exact Below.refl _ _
 have q12:(((t.kind:Nat):Int)==12)=false:=by rw[beq_eq_false_iff_ne];omega
 by_cases h14:t.kind=14
 ·have e:Hid (atomV t= .iface 168 (.agg #[.string ⟨⟨t.text⟩⟩])):=((if_neg h9).trans (if_neg h12)).trans (if_pos h14)
  have q14:(((t.kind:Nat):Int)==14)=true:=by rw[h14];rfl
  clear h9 hf h8 h12 h14
  unfold tkV
  go_enter Tryz.func163,Tryz.ntmps163
  go_wp2_with fail
  go_ret2
  refine⟨by rw[e.out];rfl,?_⟩
  (repeat (first|with_reducible refine Below.setCell ?_ (by simp) _|with_reducible refine Below.alloc ?_ (by simp) _));with_reducible exact Below.refl _ _
 ·have q14:(((t.kind:Nat):Int)==14)=false:=by rw[beq_eq_false_iff_ne];omega
  have e:Hid (atomV t= .iface 153 (.agg #[.int .i64 t.n,.int .i64 t.d])):=((if_neg h9).trans (if_neg h12)).trans (if_neg h14)
  have qf:(t.fault==0)=true:=by rw[beq_iff_eq];omega
  clear h9 hf h8 h12 h14
  unfold tkV
  go_enter Tryz.func163,Tryz.ntmps163
  go_wp2_with fail
  go_ret2
  refine⟨by rw[e.out];rfl,?_⟩
  (repeat (first|with_reducible refine Below.setCell ?_ (by simp) _|with_reducible refine Below.alloc ?_ (by simp) _));with_reducible exact Below.refl _ _
set_option maxHeartbeats 1000000 in
theorem atom_fault (t:Tok)(w:World)(h:¬ t.kind=8∧¬ t.kind=9∧¬ t.kind=12∧¬ t.kind=14)(hf:¬ t.fault=0):
 Calls Tryz.prog 163 #[tkV t] w fun e w'=>∃ b,e= .returned (.tuple #[.nilIface,ptrV b])∧w'.heap[b]? =some (.cells #[.int .i64 t.fault,.int .i64 t.from_] 65)∧Below w.heap.size w w':=by
 obtain⟨h8,h9,h12,h14⟩:=h
 have q8:(((t.kind:Nat):Int)==8)=false:=by rw[beq_eq_false_iff_ne];omega
 have q9:(((t.kind:Nat):Int)==9)=false:=by rw[beq_eq_false_iff_ne];omega
 have q12:(((t.kind:Nat):Int)==12)=false:=by rw[beq_eq_false_iff_ne];omega
 have q14:(((t.kind:Nat):Int)==14)=false:=by rw[beq_eq_false_iff_ne];omega
 have qf:(t.fault==0)=false:=by rw[beq_eq_false_iff_ne];exact hf
 have mixed:Tryz.prog.follows Departure.mixedOrders=true:=by kernel_rfl
 clear h8 h9 h12 h14 hf
 unfold tkV
 go_enter Tryz.func163,Tryz.ntmps163
 go_wp2_with fail
 go_region
 all_goals
  go_wp2
  go_ret2
  refine⟨w.heap.size+1,rfl,?_,?_⟩
  ·exact alloc2_at w _ _
  ·(repeat (first|with_reducible refine Below.setCell ?_ (by simp) _|with_reducible refine below_drewN ?_ _|with_reducible refine Below.drew ?_ |with_reducible refine Below.alloc ?_ (by simp) _));with_reducible exact Below.refl _ _
def ChainAt (w:World)(base:Nat):List Value→Value→Value→Prop
 |[],rest,v=>v=rest
 |x::vs,rest,v=>v= .iface 150 (ptrV (base+vs.length))∧∃ v',w.heap[base+vs.length]? =some (.cells #[x,v'] 161)∧ChainAt w base vs rest v'
theorem ChainAt.keep {w w':World}{base:Nat}{rest:Value}:∀ (vs:List Value) (v:Value),ChainAt w base vs rest v→(∀ b,base≤b→b<w.heap.size→w'.heap[b]? =w.heap[b]?)→ChainAt w' base vs rest v
 |[],_,h,_=>h
 |x::vs,v,⟨h1,v',h2,h3⟩,hk=>⟨h1,v',(hk _ (by omega) (Array.getElem?_eq_some_iff.1 h2).1).trans h2,ChainAt.keep vs v' h3 hk⟩
set_option maxHeartbeats 2000000 in
theorem chain_any (vs:List Value)(g cap lo:Nat)(rest:Value)(w:World)(hrow:w.ownsRow lo 58 1 (.slice (some ⟨g,0,none⟩) vs.length cap) vs.length vs)(hn:vs.length≤1000000)(hif:∀ x∈vs,∃ t y,x= .iface t y)(hir:∃ t y,rest= .iface t y):
 Calls Tryz.prog 221 #[.slice (some ⟨g,0,none⟩) vs.length cap,rest] w fun e w'=>∃ v,e= .returned v∧ChainAt w' w.heap.size vs rest v∧w'.heap.size=w.heap.size+vs.length∧Below w.heap.size w w':=by
 have hg:g<w.heap.size:=(hrow.lt g rfl).2
 have hcell:Hid (∀ (j:Nat) (x:Value),vs[j]? =some x→w.cell? ⟨g,j,none⟩=some x):=fun j x hx=>by
  have hj:j<vs.length:=(List.getElem?_eq_some_iff.1 hx).1
  rw[hrow.cellAt j (by omega),hx]
 clear hrow
 go_enter Tryz.func221,Tryz.ntmps221
 go_wp2_with fail
 go_loopw [5,1] (fun i r wr=>∃ j:Nat,j≤vs.length∧i= .int .i64 ((j:Int)-1)∧wr.heap.size=w.heap.size+(vs.length-j)∧(∃ t y,r= .iface t y)∧Hid (ChainAt wr w.heap.size (vs.drop j) rest r)∧Hid (Below w.heap.size w wr)) (fun i _ _=>(intOf i+1).toNat)
 case atStart=>exact⟨vs.length,Nat.le_refl _,by go_num,by omega,hir,by show ChainAt _ _ _ _ _;rw[List.drop_length];rfl,Below.refl _ _⟩
 case round=>
  obtain⟨j,hj,rfl,hsz,⟨tr,yr,rfl⟩,hC,hB⟩:=hrel
  by_cases h0:j=0
  ·subst h0
   go_wp2_with fail
   go_ret
   exact⟨_,rfl,by simpa using hC.out,by simpa using hsz,hB.out⟩
  ·obtain⟨m,rfl⟩:∃ m,j=m+1:=⟨j-1,by omega⟩
   have hx:vs[m]? =some vs[m]:=List.getElem?_eq_getElem (by omega)
   have hc:Hid (w.cell? ⟨g,m,none⟩=some vs[m]):=hcell.out m _ hx
   have hcr:=(hB.out.cell (p:=⟨g,m,none⟩) hg).trans hc.out
   obtain⟨tx,yx,hxi⟩:=hif vs[m] (List.getElem_mem (by omega))
   have hdr:Hid (vs.drop m=vs[m]::vs.drop (m+1)):=List.drop_eq_getElem_cons (by omega)
   rw[hxi] at hcr hdr
   clear hx hc hxi
   have hm:m<vs.length:=by omega
   rw[show(((m+1:Nat):Int)-1)=(m:Int) by omega]
   go_wp2_with fail
   go_roundw
   case rel=>exact⟨m,by omega,rfl,by simp;omega,⟨_,_,rfl⟩,by
    show ChainAt _ _ _ _ _
    rw[hdr.out]
    have hl:(vs.drop (m+1)).length=vs.length-(m+1):=List.length_drop
    refine⟨by rw[hl,←hsz];rfl,.iface tr yr,?_,?_⟩
    ·rw[hl,←hsz];exact heap_alloc_new _ _
    ·exact ChainAt.keep _ _ hC.out fun b _ h=>Lib.alloc_old _ _ _ h,hB.out.alloc (by omega) _⟩
   case measure=>simp[intOf]
def plV (d:Nat)(p:Bool)(av:Value):Value:= .agg #[.int .i64 d,.bool p,av]
def FaultAt (w:World)(b:Nat)(e:Int)(a:Nat):Prop:=w.heap[b]? =some (.cells #[.int .i64 e,.int .i64 a] 65)
theorem alloc4_at (w:World)(A B C D:Obj):((((w.alloc A).alloc B).alloc C).alloc D).heap[w.heap.size+1+1+1]? =some D:=by
 rw[show w.heap.size+1+1+1=(((w.alloc A).alloc B).alloc C).heap.size by simp]
 exact heap_alloc_new _ _
set_option maxHeartbeats 2000000 in
theorem deeper_ok (R dp:Nat)(t:Tok)(d:Nat)(p:Bool)(a:Option Addr)(l c:Nat)(w:World)(hR:w.cell? ⟨R,2,none⟩=some (.int .i64 dp))(hlt:R<w.heap.size)(hd:d<1000)(hne:¬ d=dp):
 Calls Tryz.prog 192 #[ptrV R,tkV t,plV d p (.slice a l c)] w fun e w'=>e= .returned (.tuple #[plV (d+1) p (.slice none 0 0),.pointer none])∧Below w.heap.size w w':=by
 have mixed:Tryz.prog.follows Departure.mixedOrders=true:=by kernel_rfl
 have q:(((d:Nat):Int)==((dp:Nat):Int))=false:=by rw[beq_eq_false_iff_ne];omega
 have l1:R<w.heap.size+1:=by omega
 have l2:R<w.heap.size+1+1:=by omega
 have n0:¬ R=w.heap.size:=by omega
 have n1:¬ R=w.heap.size+1:=by omega
 have n2:¬ R=w.heap.size+1+1:=by omega
 unfold tkV plV ptrV
 go_enter Tryz.func192,Tryz.ntmps192
 go_wp2_with fail
 go_region
 go_wp2_with fail
 refine bodyPost_ret (v:= .tuple #[plV (d+1) p (.slice none 0 0),.pointer none]) (by simp[results,Tryz.results192,plV,go_sem]) rfl ⟨rfl,?_⟩
 (repeat (first|with_reducible refine Below.setCell ?_ (by first|(simp;done)|(simp;omega)) _|with_reducible refine Below.drew ?_ |with_reducible refine below_drewN ?_ _|with_reducible refine Below.alloc ?_ (by first|(simp;done)|(simp;omega)) _));with_reducible exact Below.refl _ _
set_option maxHeartbeats 2000000 in
theorem deeper_fail (R dp:Nat)(t:Tok)(d:Nat)(p:Bool)(a:Option Addr)(l c:Nat)(w:World)(hR:w.cell? ⟨R,2,none⟩=some (.int .i64 dp))(hlt:R<w.heap.size)(hd:d=dp):
 Calls Tryz.prog 192 #[ptrV R,tkV t,plV d p (.slice a l c)] w fun e w'=>∃ b,e= .returned (.tuple #[plV 0 false (.slice none 0 0),ptrV b])∧FaultAt w' b 6 t.from_∧Below w.heap.size w w':=by
 have mixed:Tryz.prog.follows Departure.mixedOrders=true:=by kernel_rfl
 subst hd
 have l1:R<w.heap.size+1:=by omega
 have l2:R<w.heap.size+1+1:=by omega
 have n0:¬ R=w.heap.size:=by omega
 have n1:¬ R=w.heap.size+1:=by omega
 have n2:¬ R=w.heap.size+1+1:=by omega
 unfold tkV plV ptrV
 go_enter Tryz.func192,Tryz.ntmps192
 go_wp2_with fail
 go_region
 go_wp2_with fail
 go_region
 all_goals
  go_wp2_with fail
  refine bodyPost_ret (v:= .tuple #[plV 0 false (.slice none 0 0),ptrV (w.heap.size+1+1+1)]) (by simp[results,Tryz.results192,plV,ptrV,go_sem]) rfl ⟨w.heap.size+1+1+1,rfl,?_,?_⟩
  ·exact alloc4_at w _ _ _ _
  ·(repeat (first|with_reducible refine Below.setCell ?_ (by first|(simp;done)|(simp;omega)) _|with_reducible refine Below.drew ?_ |with_reducible refine below_drewN ?_ _|with_reducible refine Below.alloc ?_ (by first|(simp;done)|(simp;omega)) _));with_reducible exact Below.refl _ _
def tkCells (t:Tok):List Value:=[.int .i64 t.kind,.int .i64 t.from_,.int .i64 t.to_,.string ⟨⟨t.text⟩⟩,.int .i64 t.n,.int .i64 t.d,.int .i64 t.fault]
structure Kp (R M:Nat) (w w':World):Prop where
 os:w'.os=w.os
 tape:w'.tape=w.tape
 output:w'.output=w.output
 size:w.heap.size≤w'.heap.size
 block:∀ b,b<w.heap.size→b≠R→b≠M→w'.heap[b]? =w.heap[b]?
theorem Kp.refl (R M:Nat)(w:World):Kp R M w w:=⟨rfl,rfl,rfl,Nat.le_refl _,fun _ _ _ _=>rfl⟩
theorem Kp.trans {R M:Nat}{a b c:World}(h:Kp R M a b)(k:Kp R M b c):Kp R M a c:=
 ⟨k.os.trans h.os,k.tape.trans h.tape,k.output.trans h.output,Nat.le_trans h.size k.size,fun x h1 h2 h3=>(k.block x (Nat.lt_of_lt_of_le h1 h.size) h2 h3).trans (h.block x h1 h2 h3)⟩
theorem Kp.of_below {R M:Nat}{w w':World}(h:Below w.heap.size w w'):Kp R M w w':=⟨h.os,h.tape,h.output,h.size,fun b hb _ _=>h.block b hb⟩
structure KpA (R M:Nat) (A:Option Nat) (w w':World):Prop where
 os:w'.os=w.os
 tape:w'.tape=w.tape
 output:w'.output=w.output
 size:w.heap.size≤w'.heap.size
 block:∀ b,b<w.heap.size→b≠R→b≠M→some b≠A→w'.heap[b]? =w.heap[b]?
theorem Kp.a {R M:Nat}{w w':World}(h:Kp R M w w')(A:Option Nat):KpA R M A w w':=⟨h.os,h.tape,h.output,h.size,fun b h1 h2 h3 _=>h.block b h1 h2 h3⟩
theorem KpA.plain {R M:Nat}{w w':World}(h:KpA R M none w w'):Kp R M w w':=⟨h.os,h.tape,h.output,h.size,fun b h1 h2 h3=>h.block b h1 h2 h3 (by simp)⟩
theorem KpA.trans {R M:Nat}{A:Option Nat}{a b c:World}(h:KpA R M A a b)(k:KpA R M A b c):KpA R M A a c:=
 ⟨k.os.trans h.os,k.tape.trans h.tape,k.output.trans h.output,Nat.le_trans h.size k.size,fun x h1 h2 h3 h4=>(k.block x (Nat.lt_of_lt_of_le h1 h.size) h2 h3 h4).trans (h.block x h1 h2 h3 h4)⟩
def labP (E:Env)(labs:List Int):List (Int×Value):=labs.reverse.map fun n=>(n,ptrV (E.lab n))
structure RdAt (w:World) (R M g cap:Nat) (T:List Tok) (dp:Nat) (E:Env) (s:RSt):Prop where
 rm:R≠M
 gr:g≠R
 gm:g≠M
 blk:w.heap[R]? =some (.cells #[.slice (some ⟨g,0,none⟩) T.length cap,.int .i64 s.k,.int .i64 dp,.map (some M)] 123)
 row:w.ownsRow 0 131 7 (.slice (some ⟨g,0,none⟩) T.length cap) T.length (T.flatMap tkCells)
 lm:MapAt w M ((labP E s.labs).map fun p=>(Value.int .i64 p.1,p.2))
 low:∀ n∈s.labs,∃ v,w.heap[E.lab n]? =some (.cells #[v] 215)
 inj:∀ n∈s.labs,∀ m∈s.labs,E.lab n=E.lab m→n=m
 small:T.length≤100000
 deep:dp≤30
theorem RdAt.lt {w:World}{R M g cap:Nat}{T:List Tok}{dp:Nat}{E:Env}{s:RSt}(h:RdAt w R M g cap T dp E s):R<w.heap.size:=(Array.getElem?_eq_some_iff.1 h.blk).1
theorem RdAt.mlt {w:World}{R M g cap:Nat}{T:List Tok}{dp:Nat}{E:Env}{s:RSt}(h:RdAt w R M g cap T dp E s):M<w.heap.size:=by
 obtain⟨es,c,h1,_⟩:=h.lm
 exact(Array.getElem?_eq_some_iff.1 h1).1
theorem RdAt.below {w w':World}{R M g cap:Nat}{T:List Tok}{dp:Nat}{E:Env}{s:RSt}(h:RdAt w R M g cap T dp E s)(hb:Below w.heap.size w w'):RdAt w' R M g cap T dp E s:=by
 refine⟨h.rm,h.gr,h.gm,(hb.block R h.lt).trans h.blk,ownsRow_from h.row (Nat.le_refl _) fun b _ hlt=>hb.block b hlt,?_,fun n hn=>(h.low n hn).imp fun v hv=>(hb.block _ (Array.getElem?_eq_some_iff.1 hv).1).trans hv,h.inj,h.small,h.deep⟩
 obtain⟨es,c,h1,h2⟩:=h.lm
 exact⟨es,c,(hb.block M h.mlt).trans h1,h2⟩
structure Ext (w w':World) (E E':Env) (s s':RSt):Prop where
 agree:E.agree E' s.fresh s.labs
 fresh:s.fresh≤s'.fresh
 labs:∀ n∈s.labs,n∈s'.labs
 new:∀ i,s.fresh≤i→i<s'.fresh→w.heap.size≤E'.α i∧E'.α i<w'.heap.size
 inj:∀ i j,s.fresh≤i→i<s'.fresh→s.fresh≤j→j<s'.fresh→E'.α i=E'.α j→i=j
theorem Ext.refl {w w':World}{E:Env}{s s':RSt}(hf:s'.fresh=s.fresh)(hl:s'.labs=s.labs):Ext w w' E E s s':=
 ⟨⟨fun _ _=>rfl,fun _ _=>rfl⟩,by omega,fun n h=>by rw[hl];exact h,fun i h1 h2=>by omega,fun i j h1 h2=>by omega⟩
theorem Ext.trans {a b c:World}{E E' E'':Env}{s s' s'':RSt}(h:Ext a b E E' s s')(k:Ext b c E' E'' s' s'')(h1:a.heap.size≤b.heap.size)(h2:b.heap.size≤c.heap.size):Ext a c E E'' s s'':=by
 have hf:=h.fresh
 have kf:=k.fresh
 have ag:∀ i,i<s'.fresh→E''.α i=E'.α i:=k.agree.1
 refine⟨⟨fun i hi=>(ag i (by omega)).trans (h.agree.1 i hi),fun n hn=>(k.agree.2 n (h.labs n hn)).trans (h.agree.2 n hn)⟩,by omega,fun n hn=>k.labs n (h.labs n hn),fun i i1 i2=>?_,fun i j i1 i2 j1 j2 e=>?_⟩
 ·rcases Nat.lt_or_ge i s'.fresh with hlt|hge
  ·rw[ag i hlt];have:=h.new i i1 hlt;omega
  ·have:=k.new i hge i2;omega
 ·rcases Nat.lt_or_ge i s'.fresh with hi|hi<;>rcases Nat.lt_or_ge j s'.fresh with hj|hj
  ·rw[ag i hi,ag j hj] at e;exact h.inj i j i1 hi j1 hj e
  ·rw[ag i hi] at e;have:=h.new i i1 hi;have:=k.new j hj j2;omega
  ·rw[ag j hj] at e;have:=h.new j j1 hj;have:=k.new i hi i2;omega
  ·exact k.inj i j hi i2 hj j2 e
def AhAt (w:World)(E:Env)(s:RSt)(l:List Int)(av:Value):Prop:=w.ownsRow 0 212 1 av l.length (l.map fun n=>ptrV (E.lab n))∧(∃ a n c,av= .slice a n c)∧∀ n∈l,n∈s.labs
def OkD (R M g cap:Nat)(T:List Tok)(dp:Nat)(A:Option Nat)(w:World)(E:Env)(s:RSt)(r:RR Dt)(e:Ending)(w':World):Prop:=
 match r with
 | .out=>True
 | .fail er a=>(∃ b,e= .returned (.tuple #[.nilIface,ptrV b])∧FaultAt w' b er a)∧KpA R M A w w'
 | .ok d s'=>∃ v E',e= .returned (.tuple #[v,.pointer none])∧(∃ t y,v= .iface t y)∧Dat w.heap.size s'.fresh s'.labs w' E' d v∧Ext w w' E E' s s'∧RdAt w' R M g cap T dp E' s'∧KpA R M A w w'
def OkT (R M g cap:Nat)(T:List Tok)(dp:Nat)(w:World)(E:Env)(s:RSt)(r:RR Tok)(e:Ending)(w':World):Prop:=
 match r with
 | .out=>True
 | .fail er a=>(∃ b t,e= .returned (.tuple #[tkV t,ptrV b])∧FaultAt w' b er a)∧Kp R M w w'
 | .ok t s'=>∃ E',e= .returned (.tuple #[tkV t,.pointer none])∧Ext w w' E E' s s'∧RdAt w' R M g cap T dp E' s'∧Kp R M w w'
section
variable (R M g cap:Nat) (T:List Tok) (dp:Nat)
structure IH (n:Nat):Prop where
 datum:∀ p av w E s,RdAt w R M g cap T dp E s→AhAt w E s p.ahead av→(p.depth≤dp∧p.ahead.length≤p.depth)→rdDatum T dp n p s≠ .out→Calls Tryz.prog 67 #[ptrV R,plV p.depth p.passed av] w fun e w'=>OkD R M g cap T dp av.ownBlock w E s (rdDatum T dp n p s) e w'
 take:∀ p av w E s,RdAt w R M g cap T dp E s→AhAt w E s p.ahead av→(p.depth≤dp∧p.ahead.length≤p.depth)→rdTake T dp n p s≠ .out→Calls Tryz.prog 105 #[ptrV R,plV p.depth p.passed av] w fun e w'=>OkT R M g cap T dp w E s (rdTake T dp n p s) e w'
 frm:∀ t p av w E s,RdAt w R M g cap T dp E s→AhAt w E s p.ahead av→(p.depth≤dp∧p.ahead.length≤p.depth)→rdFrom T dp n t p s≠ .out→Calls Tryz.prog 106 #[ptrV R,tkV t,plV p.depth p.passed av] w fun e w'=>OkD R M g cap T dp av.ownBlock w E s (rdFrom T dp n t p s) e w'
end
theorem Ext.wid {w w1 w2 w3:World}{E E':Env}{s s':RSt}(h:Ext w1 w2 E E' s s')(h1:w.heap.size≤w1.heap.size)(h2:w2.heap.size≤w3.heap.size):Ext w w3 E E' s s':=
 ⟨h.agree,h.fresh,h.labs,fun i a b=>by have:=h.new i a b;omega,h.inj⟩
theorem AhAt.kp {w w':World}{R M g cap:Nat}{T:List Tok}{dp:Nat}{E E':Env}{s s':RSt}{l:List Int}{av:Value}(h:AhAt w E s l av)(hr:RdAt w R M g cap T dp E s)(hk:Kp R M w w')(ha:E.agree E' s.fresh s.labs)(hl:∀ n∈s.labs,n∈s'.labs):AhAt w' E' s' l av:=by
 refine⟨?_,h.2.1,fun n hn=>hl n (h.2.2 n hn)⟩
 have e:(l.map fun n=>ptrV (E'.lab n))=l.map fun n=>ptrV (E.lab n):=List.map_congr_left fun n hn=>by rw[ha.2 n (h.2.2 n hn)]
 rw[e]
 refine⟨h.1.1,h.1.2.imp id ?_⟩
 rintro ⟨b,cp,cur,h1,h2,h3,h4⟩
 have hlt:b<w.heap.size:=(Array.getElem?_eq_some_iff.1 h3).1
 have hR:b≠R:=fun e=>by rw[e,hr.blk] at h3;simp at h3
 have hM:b≠M:=fun e=>by obtain⟨es,c,q,_⟩:=hr.lm;rw[e,q] at h3;cases h3
 exact⟨b,cp,cur,h1,h2,(hk.block b hlt hR hM).trans h3,h4⟩
theorem AhAt.below {w w':World}{E:Env}{s:RSt}{l:List Int}{av:Value}(h:AhAt w E s l av)(hb:Below w.heap.size w w'):AhAt w' E s l av:=
 ⟨ownsRow_from h.1 (Nat.le_refl _) fun b _ hlt=>hb.block b hlt,h.2.1,h.2.2⟩
theorem FaultAt.alloc {w:World}{b:Nat}{e:Int}{a:Nat}(h:FaultAt w b e a)(o:Obj):FaultAt (w.alloc o) b e a:=(Lib.alloc_old _ _ _ (Array.getElem?_eq_some_iff.1 h).1).trans h
theorem cells3 {w1:World}{b:Nat}{x0 x1 x2:Value}{e:TypeId}(h:w1.heap[b]? =some (.cells #[x0,x1,x2] e)):
 (w1.cell? ⟨b,0,none⟩=some x0∧w1.cell? ⟨b,1,none⟩=some x1∧w1.cell? ⟨b,2,none⟩=some x2):=by
 refine⟨?_,?_,?_⟩<;>simp[World.cell?,h]
section
variable {R M g cap:Nat} {T:List Tok} {dp:Nat}
set_option maxHeartbeats 2000000 in
theorem datum_step {N:Nat}(ih:IH R M g cap T dp N)(p:Pl)(av:Value)(w:World)(E:Env)(s:RSt)(hr:RdAt w R M g cap T dp E s)(ha:AhAt w E s p.ahead av)(hd:p.depth≤dp∧p.ahead.length≤p.depth)(ho:rdDatum T dp (N+1) p s≠ .out):
 Calls Tryz.prog 67 #[ptrV R,plV p.depth p.passed av] w fun e w'=>OkD R M g cap T dp av.ownBlock w E s (rdDatum T dp (N+1) p s) e w':=by
 have heq:rdDatum T dp (N+1) p s=(rdTake T dp N p s).bind fun t s=>rdFrom T dp N t p s:=rfl
 rw[heq] at ho ⊢
 obtain⟨⟨a0,n0,c0,rfl⟩⟩:=(⟨ha.2.1⟩:Nonempty _)
 have hb0:Below w.heap.size w (w.alloc (.cells #[.int .i64 p.depth,.bool p.passed,.slice a0 n0 c0] 128)):=(Below.refl _ w).alloc (Nat.le_refl _) _
 have HR:Hid _:=hr.below hb0
 have HA:Hid _:=ha.below hb0
 have HB:Hid _:=hb0
 have HP:Hid _:=heap_alloc_new w (.cells #[.int .i64 p.depth,.bool p.passed,.slice a0 n0 c0] 128)
 have hsz0:(w.alloc (.cells #[.int .i64 p.depth,.bool p.passed,.slice a0 n0 c0] 128)).heap.size=w.heap.size+1:=by simp
 have hne:rdTake T dp N p s≠ .out:=fun h=>ho (by rw[h];rfl)
 have HT:Hid _:=ih.take p (.slice a0 n0 c0) _ E s HR.out HA.out hd hne
 have hrR:R<w.heap.size:=hr.lt
 have hrM:M<w.heap.size:=hr.mlt
 have HI:Hid _:=ih
 have HO:Hid _:=ho
 clear hr ha hb0 ih ho heq hne
 generalize hw0:w.alloc (.cells #[.int .i64 p.depth,.bool p.passed,.slice a0 n0 c0] 128)=w0 at *
 have HW0:Hid _:=hw0
 clear hw0
 cases hT:rdTake T dp N p s with
 |out=>exact absurd (by rw[hT];rfl) HO.out
 |fail er a=>
  rw[hT] at HT
  unfold plV ptrV at HT ⊢
  go_enter Tryz.func67,Tryz.ntmps67
  go_wp2_with fail
  rw[HW0.out]
  refine Calls.mono HT.out ?_
  rintro e w1 ⟨⟨b,t,rfl,hf⟩,hk⟩
  have HF:Hid _:=hf
  have HK:Hid _:=hk
  clear hf hk HT
  unfold tkV ptrV
  go_wp2_with fail
  go_ret2
  have hs1:=HK.out.size
  exact⟨⟨b,rfl,FaultAt.alloc HF.out _⟩,((Kp.of_below HB.out).trans (Kp.trans HK.out (Kp.of_below ((Below.refl _ _).alloc (Nat.le_refl _) _)))).a _⟩
 |ok t s1=>
  rw[hT] at HT
  have HO':Hid (rdFrom T dp N t p s1≠ .out):=by have:=HO.out;rw[hT] at this;exact this
  unfold plV ptrV at HT ⊢
  go_enter Tryz.func67,Tryz.ntmps67
  go_wp2_with fail
  rw[HW0.out]
  refine Calls.mono HT.out ?_
  rintro e w1 ⟨E1,rfl,hx,hr1,hk⟩
  have hp1:=(hk.block w.heap.size (by omega) (by omega) (by omega)).trans HP.out
  obtain⟨x0,x1,x2⟩:=cells3 hp1
  have hs1:=hk.size
  have hl0:w.heap.size<w1.heap.size:=by omega
  have hl1:¬ w.heap.size=w1.heap.size:=by omega
  have hl2:¬ w1.heap.size=w.heap.size:=by omega
  have hb1:Below w1.heap.size w1 (w1.alloc (.cells #[.int .i64 t.kind,.int .i64 t.from_,.int .i64 t.to_,.string ⟨⟨t.text⟩⟩,.int .i64 t.n,.int .i64 t.d,.int .i64 t.fault] 131)):=(Below.refl _ _).alloc (Nat.le_refl _) _
  have HR1:Hid _:=hr1.below hb1
  have HA1:Hid _:=AhAt.below (AhAt.kp HA.out HR.out hk hx.agree hx.labs) hb1
  have HF:Hid _:=HI.out.frm t p (.slice a0 n0 c0) _ E1 s1 HR1.out HA1.out hd HO'.out
  have HX:Hid _:=hx
  have HK:Hid _:=hk
  have HB1:Hid _:=hb1
  clear hx hk hr1 hb1 HT hp1
  unfold tkV ptrV plV at HF
  unfold tkV
  go_wp2_with fail
  refine Calls.mono HF.out ?_
  clear HF
  intro e2 w2 hok
  have hkk:Kp R M w (w1.alloc (.cells #[.int .i64 t.kind,.int .i64 t.from_,.int .i64 t.to_,.string ⟨⟨t.text⟩⟩,.int .i64 t.n,.int .i64 t.d,.int .i64 t.fault] 131)):=(Kp.of_below HB.out).trans (Kp.trans HK.out (Kp.of_below HB1.out))
  have hxx:Ext w (w1.alloc (.cells #[.int .i64 t.kind,.int .i64 t.from_,.int .i64 t.to_,.string ⟨⟨t.text⟩⟩,.int .i64 t.n,.int .i64 t.d,.int .i64 t.fault] 131)) E E1 s s1:=Ext.wid HX.out (by omega) (by simp)
  generalize w1.alloc (.cells #[.int .i64 t.kind,.int .i64 t.from_,.int .i64 t.to_,.string ⟨⟨t.text⟩⟩,.int .i64 t.n,.int .i64 t.d,.int .i64 t.fault] 131)=w3 at *
  cases hF:rdFrom T dp N t p s1 with
  |out=>exact absurd hF HO'.out
  |fail er a=>
   rw[hF] at hok
   obtain⟨⟨b,rfl,hf⟩,hk2⟩:=hok
   have HG:Hid (OkD R M g cap T dp (Value.slice a0 n0 c0).ownBlock w E s (RR.fail er a) (.returned (.tuple #[.nilIface,ptrV b])) w2):=⟨⟨b,rfl,hf⟩,(hkk.a _).trans hk2⟩
   have HE:Hid (((RR.ok t s1).bind fun t s=>rdFrom T dp N t p s)=RR.fail er a):=hF
   clear hf hk2 hkk hxx
   unfold ptrV
   go_wp2_with fail
   go_ret2
   rw[HE.out]
   exact HG.out
  |ok d s2=>
   rw[hF] at hok
   obtain⟨v,E2,rfl,⟨ty,y,rfl⟩,hdat,hx2,hr2,hk2⟩:=hok
   have h3:=hkk.size
   have h4:=hk2.size
   have HG:Hid (OkD R M g cap T dp (Value.slice a0 n0 c0).ownBlock w E s (RR.ok d s2) (.returned (.tuple #[.iface ty y,.pointer none])) w2):=
    ⟨.iface ty y,E2,rfl,⟨ty,y,rfl⟩,Dat.keep h3 (Nat.le_refl _) (fun _ h=>h) (fun _ _ _=>rfl) ⟨fun _ _=>rfl,fun _ _=>rfl⟩ d _ hdat,hxx.trans hx2 h3 h4,hr2,(hkk.a _).trans hk2⟩
   have HE:Hid (((RR.ok t s1).bind fun t s=>rdFrom T dp N t p s)=RR.ok d s2):=hF
   clear hdat hx2 hr2 hk2 hkk hxx
   go_wp2_with fail
   go_ret2
   rw[HE.out]
   exact HG.out
end
theorem RR.bind_ok {α β:Type}{x:RR α}{f:α→RSt→RR β}{b:β}{s':RSt}(h:x.bind f= .ok b s'):∃ a s1,x= .ok a s1∧f a s1= .ok b s':=by
 cases x with
 |out=>cases h
 |fail e a=>cases h
 |ok a s1=>exact⟨a,s1,rfl,h⟩
section
variable (T:List Tok) (dp:Nat)
structure Grows (n:Nat):Prop where
 datum:∀ p s d s',rdDatum T dp n p s= .ok d s'→s.k≤s'.k
 take:∀ p s d s',rdTake T dp n p s= .ok d s'→s.k≤s'.k
 frm:∀ t p s d s',rdFrom T dp n t p s= .ok d s'→s.k≤s'.k
 list:∀ l p s d s',rdList T dp n l p s= .ok d s'→s.k≤s'.k
 vec:∀ l p s d s',rdVec T dp n l p s= .ok d s'→s.k≤s'.k
theorem grows:∀ n,Grows T dp n
 |0=>⟨fun _ _ _ _ h=>(by unfold rdDatum at h;cases h),fun _ _ _ _ h=>(by unfold rdTake at h;cases h),fun _ _ _ _ _ h=>(by unfold rdFrom at h;cases h),fun _ _ _ _ _ h=>(by unfold rdList at h;cases h),fun _ _ _ _ _ h=>(by unfold rdVec at h;cases h)⟩
 |n+1=>by
  have ih:=grows n
  refine⟨fun p s d s' h=>?_,fun p s d s' h=>?_,fun t p s d s' h=>?_,fun l p s d s' h=>?_,fun l p s d s' h=>?_⟩
  ·unfold rdDatum at h
   obtain⟨t,s1,h1,h2⟩:=RR.bind_ok h
   have:=ih.take _ _ _ _ h1;have:=ih.frm _ _ _ _ _ h2;omega
  ·unfold rdTake at h
   split at h
   ·cases h
   ·split at h
    ·cases h
    ·split at h
     ·cases h
     ·split at h
      ·obtain⟨t,s1,h1,h2⟩:=RR.bind_ok h
       have:=ih.datum _ _ _ _ h1;have:=ih.take _ _ _ _ h2;simp at *;omega
      ·cases h;simp
  ·unfold rdFrom at h
   split at h
   ·cases h
   ·split at h
    ·split at h
     ·cases h
     ·split at h
      ·cases h
      ·obtain⟨t,s1,h1,h2⟩:=RR.bind_ok h
       have:=ih.datum _ _ _ _ h1;cases h2;exact this
    ·split at h
     ·split at h
      ·cases h
      ·cases h;exact Nat.le_refl _
     ·split at h
      ·split at h
       ·cases h
       ·split at h
        ·obtain⟨t,s1,h1,h2⟩:=RR.bind_ok h
         have:=ih.vec _ _ _ _ _ h1;cases h2;exact this
        ·split at h
         ·obtain⟨t,s1,h1,h2⟩:=RR.bind_ok h
          have:=ih.datum _ _ _ _ h1;cases h2;exact this
         ·exact ih.list _ _ _ _ _ h
      ·unfold atomD at h
       repeat' split at h
       all_goals first|(cases h;done)|(cases h;exact Nat.le_refl _)
  ·unfold rdList at h
   obtain⟨t,s1,h1,h2⟩:=RR.bind_ok h
   have a1:=ih.take _ _ _ _ h1
   split at h2
   ·cases h2;exact a1
   ·split at h2
    ·obtain⟨r,s2,h3,h4⟩:=RR.bind_ok h2
     have a2:=ih.datum _ _ _ _ h3
     obtain⟨r',s3,h5,h6⟩:=RR.bind_ok h4
     have a3:=ih.take _ _ _ _ h5
     split at h6
     ·cases h6;simp;omega
     ·cases h6
    ·obtain⟨r,s2,h3,h4⟩:=RR.bind_ok h2
     have a2:=ih.frm _ _ _ _ _ h3
     have a3:=ih.list _ _ _ _ _ h4
     omega
  ·unfold rdVec at h
   obtain⟨t,s1,h1,h2⟩:=RR.bind_ok h
   have a1:=ih.take _ _ _ _ h1
   split at h2
   ·cases h2;exact a1
   ·split at h2
    ·cases h2
    ·obtain⟨r,s2,h3,h4⟩:=RR.bind_ok h2
     have a2:=ih.frm _ _ _ _ _ h3
     have a3:=ih.vec _ _ _ _ _ h4
     omega
end
end Go.Proofs.YtlhimdjkkiflhaaGreatDoor
