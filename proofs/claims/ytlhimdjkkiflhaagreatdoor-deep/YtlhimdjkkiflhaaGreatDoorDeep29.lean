import Derived.Deep.OwnRows
import Derived.Deep.Cut
import Derived.Test.YtlhimdjkkiflhaaGreatDoorDeep28
namespace Go.Proofs.YtlhimdjkkiflhaaGreatDoor
open Go.RowKit Go.Loop
theorem nds_get:∀ (l:List Nd0) (svs:List Value) (i:Nat) (x:Nd0) (sv:Value),l[i]? =some x→svs[i]? =some sv→(nds l svs)[i*5+4]? =some sv
 |[],_,i,x,sv,h,_=>by simp at h
 |_::_,[],i,x,sv,_,h=>by simp at h
 |y::l,s::svs,0,x,sv,h,h2=>by
  simp at h h2
  subst h h2
  simp[nds,nd5]
 |y::l,s::svs,i+1,x,sv,h,h2=>by
  have:=nds_get l svs i x sv (by simpa using h) (by simpa using h2)
  rw[nds,List.getElem?_append_right (by simp[nd5];omega)]
  have e:(i+1)*5+4-(nd5 y s).length=i*5+4:=by simp[nd5];omega
  rw[e];exact this
theorem nds_set:∀ (l:List Nd0) (svs:List Value) (i:Nat) (ks:List Nat) (sv:Value),i<l.length→svs.length=l.length→nds (subsAt l i ks) (svs.set i sv)=(nds l svs).set (i*5+4) sv
 |[],_,i,ks,sv,h,_=>by simp at h
 |_::_,[],i,ks,sv,_,h=>by simp at h
 |y::l,s::svs,0,ks,sv,_,_=>by
  simp[subsAt,nds,nd5]
 |y::l,s::svs,i+1,ks,sv,h,h2=>by
  have:=nds_set l svs i ks sv (by simpa using h) (by simpa using h2)
  have e:subsAt (y::l) (i+1) ks=y::subsAt l i ks:=rfl
  rw[e,List.set_cons_succ,nds,this,nds,List.set_append_right _ _ (by simp[nd5];omega)]
  have e:(i+1)*5+4-(nd5 y s).length=i*5+4:=by simp[nd5];omega
  rw[e]
theorem subsAt_get {l:List Nd0}{i:Nat}{ks:List Nat}{j:Nat}{x:Nd0}(h:(subsAt l i ks)[j]? =some x):(j=i∧x.subs=ks)∨(j≠i∧l[j]? =some x):=by
 unfold subsAt at h
 rw[List.getElem?_modify] at h
 by_cases e:i=j
 ·subst e
  simp at h
  obtain⟨y,-,rfl⟩:=h
  exact .inl ⟨rfl,rfl⟩
 ·simp[e] at h
  exact .inr ⟨fun q=>e q.symm,h⟩
section
variable {w0 w:World} {G M K:Nat} {κ:Nat→HK} {E:Env} {g:GSt} {svs:List Value} {nv:Value}
theorem GrAt.sub (h:GrAt w0 w G M κ E g svs nv){i:Nat}(hi:i<g.nodes.length){ks:List Nat}{B:Nat}(hB:w0.heap.size≤B)(hblk:w.heap[B]? =some (.cells (ks.map fun k:Nat=>Value.int .i64 (k:Int)).toArray 3)):
 ∃ nb cap,nv= .slice (some ⟨nb,0,none⟩) g.nodes.length cap∧(∃ sv,w.cell? ⟨nb,i*5+4,none⟩=some sv)∧w.frozen? ⟨nb,i*5+4,none⟩=false∧
   GrAt w0 (w.setCell ⟨nb,i*5+4,none⟩ (.slice (some ⟨B,0,none⟩) ks.length ks.length)) G M κ E { g with nodes:=subsAt g.nodes i ks } (svs.set i (.slice (some ⟨B,0,none⟩) ks.length ks.length)) nv∧
   KpA G M nv.ownBlock w (w.setCell ⟨nb,i*5+4,none⟩ (.slice (some ⟨B,0,none⟩) ks.length ks.length)):=by
 obtain⟨es,c,hm,hme⟩:=h.map
 rcases h.row.2 with⟨_,h0⟩|⟨nb,cap,cur,rfl,q1,q2,q3,q4,q5,q6⟩
 ·omega
 have hsv:i<svs.length:=by rw[h.len];exact hi
 have hcell:w.cell? ⟨nb,i*5+4,none⟩=some svs[i]:=by
  have:=h.row.cells (g:=nb) rfl (i*5+4) _ (nds_get _ _ i _ _ (List.getElem?_eq_getElem hi) (List.getElem?_eq_getElem hsv))
  simpa[Addr.add] using this
 have ho:∀ b,b≠nb→(w.setCell ⟨nb,i*5+4,none⟩ (.slice (some ⟨B,0,none⟩) ks.length ks.length)).heap[b]? =w.heap[b]?:=fun b hb=>Below.heap_setCell _ _ _ _ hb
 have nG:G≠nb:=fun e=>by rw[←e,h.blk] at q2;simp at q2
 have nM:M≠nb:=fun e=>by rw[←e,hm] at q2;simp at q2
 have hset:(w.setCell ⟨nb,i*5+4,none⟩ (.slice (some ⟨B,0,none⟩) ks.length ks.length)).heap[nb]? =some (.cells (cur.setIfInBounds (i*5+4) (.slice (some ⟨B,0,none⟩) ks.length ks.length)) 45):=blk_set q2 _ _
 refine⟨nb,cap,rfl,⟨_,hcell⟩,by simp[World.frozen?,q2],⟨h.gm,h.glo,h.mlo,⟨h.low.os,h.low.tape,h.low.output,by have:=h.low.size;simpa using this,fun b hb=>(ho b (by omega)).trans (h.low.block b hb)⟩,(ho G nG).trans h.blk,?_,⟨es,c,(ho M nM).trans hm,hme⟩,by simp[subsAt,h.len],fun j x sv hx hsv'=>?_⟩,⟨rfl,rfl,rfl,by simp,fun b _ _ _ b4=>ho b (fun e=>b4 (by rw[e];rfl))⟩⟩
 ·have e1:(subsAt g.nodes i ks).length=g.nodes.length:=by simp[subsAt]
  show World.ownsRow _ _ _ _ _ (subsAt g.nodes i ks).length (nds (subsAt g.nodes i ks) _)
  rw[nds_set _ _ _ _ _ hi h.len,e1]
  refine⟨by rw[List.length_set];exact h.row.1,.inr ⟨nb,cap,_,rfl,q1,hset,q3,q4,by simpa using q5,?_⟩⟩
  rw[Array.toList_setIfInBounds,List.take_set,q6]
 ·rcases subsAt_get hx with⟨rfl,hk⟩|⟨hne,hx'⟩
  ·rw[List.getElem?_set_self (by rw[h.len];exact hi)] at hsv'
   cases hsv'
   right
   refine⟨B,by rw[hk],hB,?_⟩
   rw[hk]
   exact(ho B (fun e=>by rw[e,q2] at hblk;simp at hblk)).trans hblk
  ·rw[List.getElem?_set_ne (fun e=>hne e.symm)] at hsv'
   rcases h.subs j x sv hx' hsv' with q|⟨b,p1,p2,p3⟩
   ·exact .inl q
   ·exact .inr ⟨b,p1,p2,(ho b (fun e=>by rw[e,q2] at p3;simp at p3)).trans p3⟩
end
def sndC:Code→Code
 | .seq _ y=>y
 |c=>c
section
variable {R M g cap:Nat} {T:List Tok} {dp:Nat}
set_option maxHeartbeats 8000000 in
set_option maxRecDepth 100000 in
theorem put_tail {n:Nat}(ih:IH R M g cap T dp n)(t:Tok)(p:Pl)(a0:Option Addr)(n0 c0:Nat)(w w1 w3:World)(E:Env)(s:RSt)(r:RR Dt)(hp':p.passed=false)(hl:¬ t.n∈s.labs)(hd:p.depth+1≤dp∧p.ahead.length≤p.depth)(hdp:dp≤30)(hsz0:w.heap.size+1+1≤w1.heap.size)
 (hs3:w3.heap.size=w1.heap.size+2)(HE:Hid (r=(rdDatum T dp n ⟨p.depth+1,p.passed,p.ahead++[t.n]⟩ { s with labs:=t.n::s.labs }).bind fun d s=> .ok (.put t.n d) s))(HO:Hid (r≠ .out))(hlowA:∀ k,(Value.slice a0 n0 c0).ownBlock=some k→k<w.heap.size)(HlA:Hid (∀ m∈p.ahead,m∈s.labs))
 (HR3:Hid (RdAt w3 R M g cap T dp (E.label t.n (w1.heap.size+1)) { s with labs:=t.n::s.labs }))(HL3:Hid (w3.heap[w1.heap.size+1]? =some (.cells #[.nilIface] 215)))(HP3:Hid (w3.heap[w1.heap.size]? =some (.cells #[.int .i64 ((p.depth:Int)+1),.bool false,.slice none 0 0] 128)))
 (HQ3:Hid (w3.heap[w.heap.size+1]? =some (.cells #[.int .i64 p.depth,.bool false,.slice a0 n0 c0] 128)))(HROW:Hid (w3.ownsRow 0 212 1 (.slice a0 n0 c0) p.ahead.length (p.ahead.map fun m=>ptrV ((E.label t.n (w1.heap.size+1)).lab m))))(HK3:Hid (Kp R M w w3))
 (x1 x2 x3 x4 x6 x7 x9 x11 x12 x13 x14 x15 x16 x17 x18 x19 x20 x21 x22 x23 x24 x25 x26 x27 x28 x29 x30 x31 x32 x33 x34 x35 x36 x37 x38 x39 x40 x41 x42 x43 x44 x45 x46 x47 x48 x49 x50 x51 x52 x53 x54 x55 x56 x57 x58 x59 x60 x61 x62 x63 x64 x65 x66:Value):
 (sndC (sndC (sndC (sndC (sndC (sndC (Tryz.f160.body.getD .skip))))))).wp Tryz.prog (bodyPost Tryz.prog Tryz.f160 fun e w'=>OkD R M g cap T dp (Value.slice a0 n0 c0).ownBlock w E s r e w') ⟨#[.pointer (some ⟨R,0,none⟩),x1,x2,x3,x4,.pointer (some ⟨w.heap.size+1,0,none⟩),x6,x7,.pointer (some ⟨w1.heap.size,0,none⟩),x9,.pointer (some ⟨w1.heap.size+1,0,none⟩),x11,x12,x13,x14,x15,x16,x17,x18,x19,x20,x21,x22,x23,x24,x25,x26,x27,x28,x29,x30,x31,x32,x33,x34,x35,x36,x37,x38,x39,x40,x41,x42,x43,x44,x45,x46,x47,x48,x49,x50,x51,x52,x53,x54,x55,x56,x57,x58,x59,x60,x61,x62,x63,x64,x65,x66],[]⟩ w3:=by
 have mixed:Tryz.prog.follows Departure.mixedOrders=true:=by kernel_rfl
 obtain⟨q0,q1,q2⟩:=cells3 HQ3.out
 obtain⟨z0,z1,z2⟩:=cells3 HP3.out
 have hf3:w3.frozen? ⟨w1.heap.size,2,none⟩=false:=by simp[World.frozen?,HP3.out]
 obtain⟨i0,hi,hz0,hz1,hz2⟩:=info_parts infoLabel
 have hlen:p.ahead.length+1≤1000000:=by omega
 have HIH:Hid _:=ih
 have HS3:Hid _:=hs3
 clear ih hs3
 dsimp only[Tryz.f160,sndC,Option.getD]
 go_wp2_with (at_builtin;(refine wpList_append_rowB rfl _ _ 126 rfl 0 212 i0 (.pointer none) 8 underLabs hi hz0 hz1 hz2 (by decide) rfl (.slice a0 n0 c0) p.ahead.length (p.ahead.map fun m=>ptrV ((E.label t.n (w1.heap.size+1)).lab m)) rfl (World.ownsRow.alloc HROW.out _) ⟨w3.heap.size,0,none⟩ 1 1 [ptrV (w1.heap.size+1)] rfl (by decide) rfl ?c1 ?c2 ?c3 ?c4 ?_))
 case c1=>
  intro j u hj
  match j,hj with
  |0,hj=>simp at hj;subst hj;simp[Addr.add,ptrV]
 case c2=>intro u hu;simp at hu;subst hu;rfl
 case c3=>exact hlen
 case c4=>exact Nat.zero_le _
 intro v' w4 hown' hgrow hbuf
 have hs3:=HS3.out
 obtain⟨hr4,hk4,hb4,hs4⟩:=grown_put HR3.out HROW.out hgrow
 skip
 have hP4:=(hb4 w1.heap.size (by omega) (fun e=>by have:=hlowA _ e.symm;omega)).trans HP3.out
 have hL4:=(hb4 (w1.heap.size+1) (by omega) (fun e=>by have:=hlowA _ e.symm;omega)).trans HL3.out
 obtain⟨a1,c1,rfl⟩:=ownsRow_slice hown'
 have HR5:Hid (RdAt (w4.setCell ⟨w1.heap.size,2,none⟩ (.slice a1 (p.ahead.length+1) c1)) R M g cap T dp (E.label t.n (w1.heap.size+1)) { s with labs:=t.n::s.labs }):=RdAt.place hr4 hP4 2 _
 have HA5:Hid (AhAt (w4.setCell ⟨w1.heap.size,2,none⟩ (.slice a1 (p.ahead.length+1) c1)) (E.label t.n (w1.heap.size+1)) { s with labs:=t.n::s.labs } (p.ahead++[t.n]) (.slice a1 (p.ahead.length+1) c1)):=AhAt.more hown' hP4 HlA.out _
 have hL5:(w4.setCell ⟨w1.heap.size,2,none⟩ (.slice a1 (p.ahead.length+1) c1)).heap[w1.heap.size+1]? =some (.cells #[.nilIface] 215):=(Below.heap_setCell _ _ _ _ (by show w1.heap.size+1≠w1.heap.size;omega)).trans hL4
 have hP5:(w4.setCell ⟨w1.heap.size,2,none⟩ (.slice a1 (p.ahead.length+1) c1)).heap[w1.heap.size]? =some (.cells #[.int .i64 ((p.depth:Int)+1),.bool false,.slice a1 (p.ahead.length+1) c1] 128):=blk_set hP4 2 _
 have HK5:Hid (KpA R M (Value.slice a0 n0 c0).ownBlock w (w4.setCell ⟨w1.heap.size,2,none⟩ (.slice a1 (p.ahead.length+1) c1))):=by
  exact KpA.above (((HK3.out).a _).trans hk4) (by omega) 2 _
 have hv5:(Value.slice a1 (p.ahead.length+1) c1).ownBlock=(Value.slice a0 n0 c0).ownBlock∨∃ k,(Value.slice a1 (p.ahead.length+1) c1).ownBlock=some k∧w.heap.size≤k:=hbuf.imp id fun⟨k,k1,k2⟩=>⟨k,k1,by have k3:w3.heap.size≤k:=Nat.le_trans (by simp) k2;omega⟩
 have HV5:Hid _:=hv5
 have HL5:Hid _:=hL5
 have hne:rdDatum T dp n ⟨p.depth+1,false,p.ahead++[t.n]⟩ { s with labs:=t.n::s.labs }≠ .out:=fun h=>HO.out (by rw[HE.out,hp',h];rfl)
 have HD:Hid _:=HIH.out.datum ⟨p.depth+1,false,p.ahead++[t.n]⟩ (.slice a1 (p.ahead.length+1) c1) _ _ _ HR5.out HA5.out ⟨hd.1,by show(p.ahead++[t.n]).length≤_;rw[List.length_append];have:=hd.2;simp;omega⟩ hne
 obtain⟨y0,y1,y2⟩:=cells3 hP5
 have hf4:w4.frozen? ⟨w1.heap.size,2,none⟩=false:=by simp[World.frozen?,hP4]
 obtain⟨u0,u1,u2⟩:=cells3 hP4
 have hs5:(w4.setCell ⟨w1.heap.size,2,none⟩ (.slice a1 (p.ahead.length+1) c1)).heap.size=w4.heap.size:=by simp
 clear hr4 hk4 hb4 hP4 hL4 hL5 hP5 hown' hgrow hbuf hv5 hne HIH HR3 HROW HQ3 HP3 HL3 HK3
 unfold plV ptrV at HD
 go_wp2_with fail
 refine Calls.mono HD.out ?_
 clear HD
 intro e w6 hok
 cases hF:rdDatum T dp n ⟨p.depth+1,false,p.ahead++[t.n]⟩ { s with labs:=t.n::s.labs } with
 |out=>exact absurd (by rw[HE.out,hp',hF];rfl) HO.out
 |fail er a=>
  rw[hF] at hok
  obtain⟨⟨b,rfl,hf⟩,hk6⟩:=hok
  have HG:Hid (OkD R M g cap T dp (Value.slice a0 n0 c0).ownBlock w E s (RR.fail er a) (.returned (.tuple #[.nilIface,ptrV b])) w6):=⟨⟨b,rfl,hf⟩,KpA.put HK5.out hk6 HV5.out⟩
  have HE2:Hid (r= .fail er a):=by show _=_;rw[HE.out,hp',hF];rfl
  clear hf hk6 HK5 HV5 HL5 HR5 HA5
  unfold ptrV
  go_wp2_with fail
  go_ret2
  rw[HE2.out]
  exact HG.out
 |ok d s2=>
  rw[hF] at hok
  obtain⟨v,E2,rfl,⟨ty,y,rfl⟩,hdat,hx2,hr2,hk2⟩:=hok
  obtain⟨hl6,hG⟩:=put_fin HK5.out (by omega) HL5.out HA5.out.1 HV5.out HR5.out hl ⟨ty,y,rfl⟩ hdat hx2 hr2 hk2
  have HG:Hid _:=hG
  have HE2:Hid (r= .ok (.put t.n d) s2):=by show _=_;rw[HE.out,hp',hF];rfl
  have c0:w6.cell? ⟨w1.heap.size+1,0,none⟩=some .nilIface:=by simp[World.cell?,hl6]
  have f0:w6.frozen? ⟨w1.heap.size+1,0,none⟩=false:=by simp[World.frozen?,hl6]
  clear hdat hx2 hr2 hk2 HK5 HV5 HL5 HR5 HA5 hl6 hG
  go_wp2_with fail
  go_ret2
  rw[HE2.out]
  exact HG.out
end
def subArr (acc:List Nat)(n:Nat):Array Value:=(acc.map (fun k:Nat=>Value.int .i64 (k:Int))++List.replicate (n-acc.length) (Value.int .i64 0)).toArray
section
variable {w0 w:World} {G M K:Nat} {κ:Nat→HK} {E:Env} {g:GSt} {svs:List Value} {nv:Value}
theorem GrAt.other (h:GrAt w0 w G M κ E g svs nv){B:Nat}{c:Array Value}(hB:w.heap[B]? =some (.cells c 3))(hlo:w0.heap.size≤B)(hn:∀ sv∈svs,sv.ownBlock≠some B)(j:Nat)(v:Value):GrAt w0 (w.setCell ⟨B,j,none⟩ v) G M κ E g svs nv:=by
 have ho:∀ b,b≠B→(w.setCell ⟨B,j,none⟩ v).heap[b]? =w.heap[b]?:=fun b hb=>Below.heap_setCell _ _ _ _ hb
 obtain⟨es,cl,hm,hme⟩:=h.map
 refine⟨h.gm,h.glo,h.mlo,⟨h.low.os,h.low.tape,h.low.output,by have:=h.low.size;simpa using this,fun b hb=>(ho b (by omega)).trans (h.low.block b hb)⟩,(ho G (fun e=>by rw[←e,h.blk] at hB;simp at hB)).trans h.blk,?_,⟨es,cl,(ho M (fun e=>by rw[←e,hm] at hB;simp at hB)).trans hm,hme⟩,h.len,fun i x sv hx hsv=>?_⟩
 ·refine⟨h.row.1,h.row.2.imp id ?_⟩
  rintro ⟨b,cp,cur,q1,q2,q3,q4⟩
  exact⟨b,cp,cur,q1,q2,(ho b (fun e=>by rw[←e,q3] at hB;simp at hB)).trans q3,q4⟩
 ·rcases h.subs i x sv hx hsv with q|⟨b,q1,q2,q3⟩
  ·exact .inl q
  ·exact .inr ⟨b,q1,q2,(ho b (fun e=>hn sv (List.mem_of_getElem? hsv) (by rw[q1,←e];rfl))).trans q3⟩
theorem subArr_set {acc:List Nat}{n:Nat}(h:acc.length<n)(k:Nat):(subArr acc n).setIfInBounds acc.length (.int .i64 (k:Int))=subArr (acc++[k]) n:=by
 unfold subArr
 obtain⟨r,hr⟩:∃ r,n-acc.length=r+1:=⟨n-acc.length-1,by omega⟩
 have hr':n-(acc++[k]).length=r:=by simp;omega
 rw[hr,hr',List.replicate_succ]
 apply Array.ext'
 simp
theorem subArr_full {acc:List Nat}{n:Nat}(h:acc.length=n):subArr acc n=(acc.map fun k:Nat=>Value.int .i64 (k:Int)).toArray:=by
 unfold subArr
 rw[h,Nat.sub_self]
 simp
theorem subArr_get {acc:List Nat}{n j:Nat}(h:j<n)(ha:acc.length≤n):∃ v,(subArr acc n)[j]? =some v:=by
 have:j<(subArr acc n).size:=by simp[subArr];omega
 exact⟨_,Array.getElem?_eq_getElem this⟩
theorem drop_at {α:Type}{l:List α}{j:Nat}{x:α}{r:List α}(h:l.drop j=x::r):l[j]? =some x∧l.drop (j+1)=r:=by
 constructor
 ·rw[←List.head?_drop,h];rfl
 ·rw[←List.tail_drop,h];rfl
set_option maxHeartbeats 8000000 in
set_option maxRecDepth 100000 in
theorem holder_tail {lo:Nat}{L:List Int}{root:Dt}{n:Nat}(ih:∀ m,m≤n→NumOk w0 lo K L κ E root G M m)(wb w:World)(svsb:List Value)(nvb:Value)(at_ B:Nat)(hv:Value)(vs:List Value)(l:Dt)(g1 g2:GSt)(svs1:List Value)(nv1:Value)(ks:List Nat)
 (hnum:numL root n l [] g1=some (ks,g2))(hlen:g2.nodes.length≤999999)(hat:at_<g1.nodes.length)(hvs:vs.length≤1000)(hD:DatL lo K L w0 E l vs)(hgood:goodB root l=true)(hG:GrAt w0 w G M κ E g1 svs1 nv1)(hM:MetOk w0 K κ E g1.met)(hK:KpA G M nvb.ownBlock wb w)
 (hnv:nv1.ownBlock=nvb.ownBlock∨∃ b,nv1.ownBlock=some b∧wb.heap.size≤b)(hns:NewS wb svsb svs1)(hB:w.heap[B]? =some (.cells (subArr [] vs.length) 3))(hBw:wb.heap.size≤B)(hB0:w0.heap.size≤B)(hBn:∀ sv∈svs1,sv.ownBlock≠some B)(hrow:w.ownsRow 0 58 1 hv vs.length vs)
 (x1 x2 x4 x5 x6 x7 x8 x9 x10 x13 x14 x15 x16 x17 x18 x19 x20 x21 x22 x23 x24 x25 x26 x27 x28 x29 x30 x31 x32 x33 x34 x35 x36 x37 x38 x39 x40 x41 x42 x43 x44 x45 x46 x47 x48 x49 x50 x51 x52 x53 x54 x55 x56 x57 x58 x59 x60 x61:Value):
 (sndC (sndC (sndC (sndC (sndC (Tryz.f80.body.getD .skip)))))).wp Tryz.prog (bodyPost Tryz.prog Tryz.f80 fun e w'=>e= .returned (.int .i64 (at_:Nat))∧Grown w0 wb w' G M κ E svsb nvb { g2 with nodes:=subsAt g2.nodes at_ ks }∧MetOk w0 K κ E g2.met) ⟨#[.pointer (some ⟨G,0,none⟩),x1,x2,hv,x4,x5,x6,x7,x8,x9,x10,.int .i64 (at_:Nat),.slice (some ⟨B,0,none⟩) vs.length vs.length,x13,x14,x15,x16,x17,x18,x19,x20,x21,x22,x23,x24,x25,x26,x27,x28,x29,x30,x31,x32,x33,x34,x35,x36,x37,x38,x39,x40,x41,x42,x43,x44,x45,x46,x47,x48,x49,x50,x51,x52,x53,x54,x55,x56,x57,x58,x59,x60,x61],[]⟩ w:=by
 obtain⟨ha,hc,rfl⟩:=ownsRow_slice hrow
 have HI:Hid _:=ih
 have H0:Hid (∃ (m:Nat) (l':Dt) (acc:List Nat) (gj:GSt) (svsj:List Value) (nvj:Value),(.int .i64 0:Value)= .int .i64 (acc.length:Nat)∧acc.length≤vs.length∧m≤n∧at_<gj.nodes.length∧Hid (numL root m l' acc gj=some (ks,g2))∧Hid (DatL lo K L w0 E l' (vs.drop acc.length))∧Hid (goodB root l'=true)∧Hid (GrAt w0 w G M κ E gj svsj nvj)∧Hid (MetOk w0 K κ E gj.met)∧Hid (KpA G M nvb.ownBlock wb w)∧Hid (nvj.ownBlock=nvb.ownBlock∨∃ b,nvj.ownBlock=some b∧wb.heap.size≤b)∧Hid (NewS wb svsb svsj)∧Hid (w.heap[B]? =some (.cells (subArr acc vs.length) 3))∧Hid (∀ sv∈svsj,sv.ownBlock≠some B)∧Hid (w.ownsRow 0 58 1 (.slice ha vs.length hc) vs.length vs)):=
  ⟨n,l,[],g1,svs1,nv1,rfl,Nat.zero_le _,Nat.le_refl _,hat,hnum,hD,hgood,hG,hM,hK,hnv,hns,hB,hBn,hrow⟩
 clear ih hnum hat hD hgood hG hM hK hnv hns hB hBn hrow
 dsimp only[Tryz.f80,sndC,Option.getD]
 go_wp2_with fail
 go_loopw [41] (fun sv wr=>∃ (m:Nat) (l':Dt) (acc:List Nat) (gj:GSt) (svsj:List Value) (nvj:Value),sv= .int .i64 (acc.length:Nat)∧acc.length≤vs.length∧m≤n∧at_<gj.nodes.length∧Hid (numL root m l' acc gj=some (ks,g2))∧Hid (DatL lo K L w0 E l' (vs.drop acc.length))∧Hid (goodB root l'=true)∧Hid (GrAt w0 wr G M κ E gj svsj nvj)∧Hid (MetOk w0 K κ E gj.met)∧Hid (KpA G M nvb.ownBlock wb wr)∧Hid (nvj.ownBlock=nvb.ownBlock∨∃ b,nvj.ownBlock=some b∧wb.heap.size≤b)∧Hid (NewS wb svsb svsj)∧Hid (wr.heap[B]? =some (.cells (subArr acc vs.length) 3))∧Hid (∀ sv∈svsj,sv.ownBlock≠some B)∧Hid (wr.ownsRow 0 58 1 (.slice ha vs.length hc) vs.length vs)) (fun sv _=>vs.length-(intOf sv).toNat)
 case atStart=>exact H0.out
 case round=>
  obtain⟨m,l',acc,gj,svsj,nvj,rfl,hacc,hm,hat,HN,HD,HGD,HG,HM,HK,HNV,HNS,HB,HBN,HROW⟩:=hrel
  have hBl:B<wr.heap.size:=(Array.getElem?_eq_some_iff.1 HB.out).1
  have hnG:B≠G:=fun e=>by have h1:=HB.out;rw[e,HG.out.blk] at h1;simp at h1
  have hnM:B≠M:=fun e=>by obtain⟨es,c,h2,-⟩:=HG.out.map;have h1:=HB.out;rw[e,h2] at h1;simp at h1
  have hnN:=GrAt.row_ne HG.out B _ HB.out (fun cur e=>by simp at e)
  by_cases hlt:acc.length<vs.length
  ·obtain⟨x,r,hxr⟩:∃ x r,vs.drop acc.length=x::r:=by
    cases hq:vs.drop acc.length with
    |nil=>simp at hq;omega
    |cons x r=>exact⟨x,r,rfl⟩
   obtain⟨hx,hr⟩:=drop_at hxr
   have hdat:=HD.out
   rw[hxr] at hdat
   obtain⟨a,l2,rfl,hda,hdl⟩:∃ a l2,l'= .vcons a l2∧Dat lo K L w0 E a x∧DatL lo K L w0 E l2 r:=by
    cases l'<;>unfold DatL at hdat<;>first|exact hdat.elim|(cases hdat;done)|skip
    rename_i a l2
    obtain⟨v,r',e,h1,h2⟩:=hdat
    cases e
    exact⟨a,l2,rfl,h1,h2⟩
   have hgd:=HGD.out
   simp only[goodB,Bool.and_eq_true] at hgd
   obtain⟨m',rfl⟩:∃ m',m=m'+1:=by
    cases m with
    |zero=>have h1:=HN.out;simp[numL] at h1
    |succ m'=>exact⟨m',rfl⟩
   have hN:=HN.out
   unfold numL at hN
   obtain⟨⟨k1,g'⟩,hN1,hN2⟩:=Option.bind_eq_some_iff.1 hN
   have hgl:=(num_grows root m').2 _ _ _ _ _ hN2
   have hgl1:=(num_grows root m').1 _ _ _ _ hN1
   have HC:Hid _:=HI.out m' (by omega) a x wr gj svsj nvj k1 g' hda hgd.1 HG.out HM.out hN1 (by simp at hgl;omega)
   obtain⟨hb,cap,cur,hhv,q1,q2,q3⟩:∃ hb cap cur,Value.slice ha vs.length hc= .slice (some ⟨hb,0,none⟩) vs.length cap∧0≤hb∧wr.heap[hb]? =some (.cells cur 58)∧True:=by
    rcases HROW.out.2 with⟨e,h0⟩|⟨hb,cap,cur,e,p1,p2,_⟩
    ·omega
    ·exact⟨hb,cap,cur,e,p1,p2,trivial⟩
   obtain rfl:ha=some ⟨hb,0,none⟩:=by cases hhv;rfl
   have cx:wr.cell? ⟨hb,acc.length,none⟩=some x:=by
    rw[World.ownsRow.cellAt HROW.out acc.length (by omega)];exact hx
   have hbl:hb<wr.heap.size:=(Array.getElem?_eq_some_iff.1 q2).1
   have hbG:hb≠G:=fun e=>by rw[e,HG.out.blk] at q2;simp at q2
   have hbM:hb≠M:=fun e=>by obtain⟨es,c,h2,-⟩:=HG.out.map;rw[e,h2] at q2;simp at q2
   have hbN:=GrAt.row_ne HG.out hb _ q2 (fun cur e=>by simp at e)
   have hltI:(acc.length:Int)<(vs.length:Int):=by omega
   have H2:Hid _:=hN2
   have HDL:Hid _:=hdl
   have HR:Hid _:=hr
   have HGL:Hid _:=hgd.2
   have HQ2:Hid _:=q2
   clear hN hN1 hN2 hda hdl hdat hgd hhv q1 q2 q3 hxr hx hr
   unfold ptrV at HC
   go_wp2_with fail
   refine Calls.mono HC.out ?_
   clear HC
   rintro e w2 ⟨rfl,⟨svs',nv',hG2,hK2,hnv2,hns2⟩,hm2⟩
   have hs2:=hK2.size
   have hB2:=(hK2.block B hBl hnG hnM hnN).trans HB.out
   have hb2:=(hK2.block hb hbl hbG hbM hbN).trans HQ2.out
   have hBn2:∀ sv∈svs',sv.ownBlock≠some B:=fun sv hsv e=>by
    rcases hns2 sv hsv B e with⟨sv0,h1,h2⟩|h1
    ·exact HBN.out sv0 h1 h2
    ·omega
   obtain⟨v0,hv0⟩:=subArr_get (acc:=acc) hlt hacc
   have cB:w2.cell? ⟨B,acc.length,none⟩=some v0:=by simp[World.cell?,hB2,hv0]
   have fB:w2.frozen? ⟨B,acc.length,none⟩=false:=by simp[World.frozen?,hB2]
   have HNEW:Hid (∃ (m:Nat) (l':Dt) (acc':List Nat) (gj:GSt) (svsj:List Value) (nvj:Value),(Value.int .i64 ((acc.length:Int)+1))= .int .i64 (acc'.length:Nat)∧acc'.length≤vs.length∧m≤n∧at_<gj.nodes.length∧Hid (numL root m l' acc' gj=some (ks,g2))∧Hid (DatL lo K L w0 E l' (vs.drop acc'.length))∧Hid (goodB root l'=true)∧Hid (GrAt w0 (w2.setCell ⟨B,acc.length,none⟩ (.int .i64 k1)) G M κ E gj svsj nvj)∧Hid (MetOk w0 K κ E gj.met)∧Hid (KpA G M nvb.ownBlock wb (w2.setCell ⟨B,acc.length,none⟩ (.int .i64 k1)))∧Hid (nvj.ownBlock=nvb.ownBlock∨∃ b,nvj.ownBlock=some b∧wb.heap.size≤b)∧Hid (NewS wb svsb svsj)∧Hid ((w2.setCell ⟨B,acc.length,none⟩ (.int .i64 k1)).heap[B]? =some (.cells (subArr acc' vs.length) 3))∧Hid (∀ sv∈svsj,sv.ownBlock≠some B)∧Hid ((w2.setCell ⟨B,acc.length,none⟩ (.int .i64 k1)).ownsRow 0 58 1 (.slice (some ⟨hb,0,none⟩) vs.length hc) vs.length vs)):=by
    have hws:=HK.out.size
    refine⟨m',l2,acc++[k1],g',svs',nv',by simp,by simp;omega,by omega,by omega,H2.out,?_,HGL.out,GrAt.other hG2 hB2 hB0 hBn2 _ _,hm2,?_,?_,fun sv hsv b hb'=>?_,?_,hBn2,?_⟩
    ·show DatL lo K L w0 E l2 (vs.drop (acc++[k1]).length)
     rw[List.length_append]
     show DatL lo K L w0 E l2 (vs.drop (acc.length+1))
     rw[HR.out];exact HDL.out
    ·exact KpA.above (KpA.put HK.out hK2 HNV.out) hBw _ _
    ·rcases hnv2 with e|⟨b,e,hbb⟩
     ·rcases HNV.out with e2|⟨b,e2,hbb⟩
      ·exact .inl (e.trans e2)
      ·exact .inr ⟨b,e.trans e2,hbb⟩
     ·exact .inr ⟨b,e,by omega⟩
    ·rcases hns2 sv hsv b hb' with⟨sv0,h1,h2⟩|h1
     ·exact HNS.out sv0 h1 b h2
     ·exact .inr (by omega)
    ·show _=_
     rw[←subArr_set hlt]
     exact blk_set hB2 _ _
    ·have hrow:=HROW.out
     refine⟨hrow.1,hrow.2.imp id ?_⟩
     rintro ⟨b,cp,cu,p1,p2,p3,p4⟩
     have eb:b=hb:=by cases p1;rfl
     subst eb
     have hne:b≠B:=fun e=>by rw[e,hB2] at hb2;simp at hb2
     exact⟨b,cp,cu,p1,p2,(Below.heap_setCell _ _ _ _ hne).trans ((hK2.block b hbl hbG hbM hbN).trans p3),p4⟩
   clear hG2 hK2 hnv2 hns2 hm2 hB2 hb2 hBn2 hv0 HN HD HGD HG HM HK HNV HNS HB HBN HROW H2 HDL HR HGL HQ2
   go_wp2_with fail
   exact⟨HNEW.out,by simp[intOf];omega⟩
  ·have he:acc.length=vs.length:=by omega
   have hge:¬ ((acc.length:Int)<(vs.length:Int)):=by omega
   obtain⟨rfl,hks,hg2⟩:l'= .vnil∧ks=acc∧g2=gj:=by
    have hdat:=HD.out
    rw[he,List.drop_length] at hdat
    have hl:l'= .vnil:=by
     cases l'<;>unfold DatL at hdat<;>first|rfl|exact hdat.elim|skip
     obtain⟨v,r',e,-⟩:=hdat
     cases e
    subst hl
    have hN:=HN.out
    cases m with
    |zero=>simp[numL] at hN
    |succ m'=>
     unfold numL at hN
     cases hN
     exact⟨rfl,rfl,rfl⟩
   have hB':=HB.out
   rw[subArr_full he] at hB'
   obtain⟨nb,ncap,hnv,⟨sv0,hc0⟩,hf0,hG3,hK3⟩:=GrAt.sub HG.out hat hB0 hB'
   obtain⟨y0,y1⟩:wr.cell? ⟨G,0,none⟩=some nvj∧wr.cell? ⟨G,1,none⟩=some (.map (some M)):=by
    have hblk:=HG.out.blk
    constructor<;>simp[World.cell?,hblk]
   rw[he] at hG3 hK3
   have HFIN:Hid (Grown w0 wb (wr.setCell ⟨nb,at_*5+4,none⟩ (.slice (some ⟨B,0,none⟩) vs.length vs.length)) G M κ E svsb nvb { g2 with nodes:=subsAt g2.nodes at_ ks }∧MetOk w0 K κ E g2.met):=by
    subst hks hg2
    refine⟨⟨_,_,hG3,KpA.put HK.out hK3 HNV.out,HNV.out,fun sv hsv b hb'=>?_⟩,HM.out⟩
    rcases List.mem_or_eq_of_mem_set hsv with h1|h1
    ·exact HNS.out sv h1 b hb'
    ·subst h1
     cases hb'
     exact .inr hBw
   subst hnv
   have hatI:(at_:Int)<(gj.nodes.length:Int):=by omega
   clear hG3 hK3 hB' HN HD HGD HG HM HK HNV HNS HB HBN HROW hks hg2
   go_wp2_with fail
   go_ret
   exact⟨rfl,HFIN.out⟩
end
theorem made_sub (n:Nat):madeCells #[.int .i64 0] n=subArr [] n:=by
 unfold madeCells subArr
 apply Array.ext
 ·simp
 ·intro i h1 h2
  simp[Nat.mod_one]
section
variable {w0 w:World} {G M K:Nat} {κ:Nat→HK} {E:Env} {g:GSt} {svs:List Value} {nv:Value}
theorem GrAt.above {w':World}(h:GrAt w0 w G M κ E g svs nv)(hb:Below w.heap.size w w'):GrAt w0 w' G M κ E g svs nv:=by
 obtain⟨es,c,hm,hme⟩:=h.map
 have hl:=h.low.size
 refine⟨h.gm,h.glo,h.mlo,⟨hb.os.trans h.low.os,hb.tape.trans h.low.tape,hb.output.trans h.low.output,Nat.le_trans hl hb.size,fun b hb'=>(hb.block b (by omega)).trans (h.low.block b hb')⟩,(hb.block G (Array.getElem?_eq_some_iff.1 h.blk).1).trans h.blk,ownsRow_from h.row (Nat.le_refl _) fun b _ hlt=>hb.block b hlt,⟨es,c,(hb.block M (Array.getElem?_eq_some_iff.1 hm).1).trans hm,hme⟩,h.len,fun j x sv hx hsv=>?_⟩
 rcases h.subs j x sv hx hsv with q|⟨b,q1,q2,q3⟩
 ·exact .inl q
 ·exact .inr ⟨b,q1,q2,(hb.block b (Array.getElem?_eq_some_iff.1 q3).1).trans q3⟩
theorem GrAt.sub_lt (h:GrAt w0 w G M κ E g svs nv):∀ sv∈svs,∀ b,sv.ownBlock=some b→b<w.heap.size:=by
 intro sv hsv b hb
 obtain⟨j,hj⟩:=List.mem_iff_getElem?.1 hsv
 have hjl:j<g.nodes.length:=by rw[←h.len];exact(List.getElem?_eq_some_iff.1 hj).1
 rcases h.subs j _ sv (List.getElem?_eq_getElem hjl) hj with⟨rfl,_⟩|⟨b',rfl,_,q3⟩
 ·cases hb
 ·cases hb;exact(Array.getElem?_eq_some_iff.1 q3).1
set_option maxHeartbeats 8000000 in
set_option maxRecDepth 100000 in
theorem holder_any {lo:Nat}{L:List Int}{root:Dt}{n:Nat}(hgr:Ground0 w0 lo K L κ E root)(ih:∀ m,m≤n→NumOk w0 lo K L κ E root G M m)(h:GrAt w0 w G M κ E g svs nv)(hm:MetOk w0 K κ E g.met){i:Nat}(hi:i<K){hk:HK}(hkind:HAt w0 hk (E.α i))(c:Nat)
 (l:Dt)(hv:Value)(vs:List Value)(hD:DatL lo K L w0 E l vs)(hgood:goodB root l=true)(hvs:vs.length≤1000)(hrow:w.ownsRow 0 58 1 hv vs.length vs)(k:Nat)(g':GSt)
 (hnum:(match g.met.lookup i with|some k=>some (k,g)|none=>(numL root n l [] ⟨g.nodes++[⟨c,[],0,0,[]⟩],(i,g.nodes.length)::g.met⟩).map fun y=>(g.nodes.length,{ y.2 with nodes:=subsAt y.2.nodes g.nodes.length y.1 }))=some (k,g'))(hlen:g'.nodes.length≤999999):
 Calls Tryz.prog 80 #[ptrV G,keyV hk (E.α i),.int .i64 c,hv] w fun e w'=>e= .returned (.int .i64 (k:Nat))∧Grown w0 w w' G M κ E svs nv g'∧MetOk w0 K κ E g'.met:=by
 have hκ:κ i=hk:=hgr.kind i hk hi hkind
 have hat:HAt w0 (κ i) (E.α i):=by rw[hκ];exact hkind
 have hlook:=h.look hm hgr.inj hi hat
 obtain⟨ha,hc,rfl⟩:=ownsRow_slice hrow
 obtain⟨g0,g1⟩:w.cell? ⟨G,0,none⟩=some nv∧w.cell? ⟨G,1,none⟩=some (.map (some M)):=by
  constructor<;>simp[World.cell?,h.blk]
 cases hq:g.met.lookup i with
 |some k0=>
  rw[hq] at hnum
  cases hnum
  rw[hq,hκ] at hlook
  simp only[Option.getD_some,Option.isSome_some] at hlook
  have HG:Hid _:=(⟨Grown.refl h,hm⟩:_∧_)
  clear h hm hat hD hrow hgood
  unfold keyV ptrV at hlook ⊢
  go_enter Tryz.func80,Tryz.ntmps80
  go_wp2_with fail
  go_ret
  exact⟨rfl,HG.out⟩
 |none=>
  rw[hq] at hnum
  obtain⟨⟨ks,g2⟩,hL,e⟩:=Option.map_eq_some_iff.1 hnum
  cases e
  have hgl:=(num_grows root n).2 _ _ _ _ _ hL
  have hlen2:g2.nodes.length≤999999:=by simpa[subsAt] using hlen
  have hl1:g.nodes.length+1≤1000000:=by simp at hgl;omega
  rw[hq,hκ] at hlook
  simp only[Option.getD_none,Option.isSome_none] at hlook
  have HC:Hid _:=gadd_any h ⟨c,[],0,0,[]⟩ rfl hl1
  have hmk:=run_make_row' (P:=Tryz.prog) 43 3 (.int .i64 0) 8 Tryz.underlying43 infoIntN rfl .i64 .i64 vs.length (by omega) (by omega)
  have HH:Hid _:=h
  have HM:Hid _:=hm
  have HGR:Hid _:=hgr
  have HAT:Hid _:=hat
  have HL:Hid _:=hL
  have HROW:Hid _:=hrow
  have HIH:Hid _:=ih
  clear h hm hgr hat hL hnum hrow ih
  unfold keyV ptrV at hlook ⊢
  unfold ptrV nodeAgg at HC
  simp only at HC
  go_enter Tryz.func80,Tryz.ntmps80
  go_wp2_with fail
  refine Calls.mono HC.out ?_
  rintro e w1 ⟨rfl,hgn⟩
  obtain⟨svs1,nv1,h1,k1,b1,s1⟩:=id hgn
  obtain⟨o,hput,hmap⟩:=run_metPut h1.map i g.nodes.length (HAt.low HAT.out h1.low) (fun p hp=>HAt.low (HM.out.at_ p hp).2 h1.low) (fun p hp e=>HGR.out.inj i p.1 hi (HM.out.at_ p hp).1 e) HM.out.nd hq
  obtain⟨svs2,nv2,h2,k2,b2,s2⟩:=Grown.met hgn hmap
  obtain⟨y0,y1⟩:w1.cell? ⟨G,0,none⟩=some nv1∧w1.cell? ⟨G,1,none⟩=some (.map (some M)):=by
   constructor<;>simp[World.cell?,h1.blk]
  rw[hκ] at hput
  unfold keyV ptrV at hput
  have hm2:MetOk w0 K κ E ((i,g.nodes.length)::g.met):=by
   refine⟨fun p hp=>?_,?_⟩
   ·rcases List.mem_cons.1 hp with rfl|hp
    ·exact⟨hi,HAT.out⟩
    ·exact HM.out.at_ p hp
   ·rw[List.map_cons,List.nodup_cons]
    refine⟨fun hmem=>?_,HM.out.nd⟩
    obtain⟨q,hq1,hq2⟩:=List.mem_map.1 hmem
    have:=List.lookup_eq_none_iff.1 hq q hq1
    simp[hq2] at this
  have h1b:=h1.blk
  generalize hw2:({ w1 with heap:=w1.heap.setIfInBounds M o }:World)=w2 at *
  have hs2:=k2.size
  have mk2:=hmk w2
  have hb3:Below w2.heap.size w2 (w2.alloc (.cells (madeCells #[.int .i64 0] vs.length) 3)):=(Below.refl _ _).alloc (Nat.le_refl _) _
  have h3:=h2.above hb3
  have HROW3:Hid ((w2.alloc (.cells (madeCells #[.int .i64 0] vs.length) 3)).ownsRow 0 58 1 (.slice ha vs.length hc) vs.length vs):=by
   have hrow:=HROW.out
   refine⟨hrow.1,hrow.2.imp id ?_⟩
   rintro ⟨b,cp,cu,p1,p2,p3,p4⟩
   have hbl:b<w.heap.size:=(Array.getElem?_eq_some_iff.1 p3).1
   have hbG:b≠G:=fun e=>by rw[e,HH.out.blk] at p3;simp at p3
   have hbM:b≠M:=fun e=>by obtain⟨es,cl,q2,-⟩:=HH.out.map;rw[e,q2] at p3;simp at p3
   have hbN:=GrAt.row_ne HH.out b _ p3 (fun cur e=>by simp at e)
   exact⟨b,cp,cu,p1,p2,(hb3.block b (by omega)).trans ((k2.block b hbl hbG hbM hbN).trans p3),p4⟩
  have HK3:Hid (KpA G M nv.ownBlock w (w2.alloc (.cells (madeCells #[.int .i64 0] vs.length) 3))):=k2.trans ((Kp.of_below hb3).a _)
  have hw0:=h2.low.size
  have HT:Hid _:=holder_tail HIH.out w (w2.alloc (.cells (madeCells #[.int .i64 0] vs.length) 3)) svs nv g.nodes.length w2.heap.size (.slice ha vs.length hc) vs l _ g2 svs2 nv2 ks HL.out hlen2 (by simp) hvs hD hgood h3 hm2 HK3.out b2 s2 (by rw[heap_alloc_new,made_sub]) hs2 hw0 (fun sv hsv e=>by have:=h2.sub_lt sv hsv _ e;omega) HROW3.out
  clear hgn h1 k1 b1 s1 hmap h2 k2 b2 s2 hb3 h3 hm2 hw2 HC HL HIH HROW HROW3 HK3 HH HM HGR HAT hmk
  go_upto_region 6 with fail
  rename_i hK
  have HKK:Hid _:=hK
  clear hK
  go_wp2_with fail
  exact HKK.out _ _ (HT.out _ _ _ _ _ _ _ _ _ _ _ _ _ _ _ _ _ _ _ _ _ _ _ _ _ _ _ _ _ _ _ _ _ _ _ _ _ _ _ _ _ _ _ _ _ _ _ _ _ _ _ _ _ _ _ _ _ _)
end
theorem plainP:plainT Tryz.prog 150=true:=by kernel_rfl
theorem zeroP:(Tryz.prog.info? 150).bind (·.zero)=some (.pointer none):=by kernel_rfl
theorem plainV':plainT Tryz.prog 163=true:=by kernel_rfl
theorem zeroV:(Tryz.prog.info? 163).bind (·.zero)=some (.pointer none):=by kernel_rfl
theorem plainX:plainT Tryz.prog 158=true:=by kernel_rfl
theorem zeroX:(Tryz.prog.info? 158).bind (·.zero)=some (.pointer none):=by kernel_rfl
theorem plainS:plainT Tryz.prog 168=true:=by kernel_rfl
theorem zeroS:(Tryz.prog.info? 168).bind (·.zero)=some (.agg #[.string ⟨#[]⟩]):=by kernel_rfl
theorem plainN:plainT Tryz.prog 153=true:=by kernel_rfl
theorem zeroN':(Tryz.prog.info? 153).bind (·.zero)=some (.agg #[.int .i64 0,.int .i64 0]):=by kernel_rfl
theorem plainT':plainT Tryz.prog 155=true:=by kernel_rfl
theorem zeroT':(Tryz.prog.info? 155).bind (·.zero)=some (.agg #[.int .i64 0]):=by kernel_rfl
theorem plainC:plainT Tryz.prog 157=true:=by kernel_rfl
theorem zeroC:(Tryz.prog.info? 157).bind (·.zero)=some (.agg #[.int .i64 0]):=by kernel_rfl
set_option maxRecDepth 100000 in
theorem clone_any (s:ByteArray)(w:World)(hlim:s.size≤281474976710656):Calls Tryz.prog 83 #[.string s] w fun e w'=>e= .returned (.string s)∧Below w.heap.size w w':=by
 have HC:Hid _:=Tryz.stringslite_Clone s w hlim
 go_enter Tryz.func83,Tryz.ntmps83
 go_wp2_with fail
 refine Calls.mono HC.out ?_
 rintro e w1 ⟨rfl,hb⟩
 have HB:Hid _:=hb
 clear hb
 go_wp2_with fail
 go_ret
 exact⟨rfl,HB.out⟩
section
variable {w0 w:World} {G M K lo:Nat} {L:List Int} {κ:Nat→HK} {E:Env} {g:GSt} {svs:List Value} {nv v:Value}
theorem Grown.above {w1 w2:World}{g':GSt}(h:Grown w0 w1 w2 G M κ E svs nv g')(hb:Below w.heap.size w w1):Grown w0 w w2 G M κ E svs nv g':=by
 obtain⟨svs',nv',h1,h2,h3,h4⟩:=h
 have hs:=hb.size
 exact⟨svs',nv',h1,((Kp.of_below hb).a _).trans h2,h3.imp id (fun⟨b,e,q⟩=>⟨b,e,by omega⟩),fun sv hsv b hb'=>(h4 sv hsv b hb').imp id fun q=>by omega⟩
set_option maxHeartbeats 4000000 in
set_option maxRecDepth 100000 in
theorem num_nil (h:GrAt w0 w G M κ E g svs nv)(hl:g.nodes.length+1≤1000000)(HC:Hid (Calls Tryz.prog 78 #[v] w fun e w'=>∃ v',e= .returned v'∧w'=w∧Dat lo K L w0 E .nil v')):
 Calls Tryz.prog 48 #[ptrV G,v] w fun e w'=>e= .returned (.int .i64 (g.nodes.length:Nat))∧Grown w0 w w' G M κ E svs nv (g.add ⟨0,[],0,0,[]⟩):=by
 have HA:Hid _:=gadd_any h ⟨0,[],0,0,[]⟩ rfl hl
 clear h
 unfold ptrV nodeAgg at HA
 simp only at HA
 unfold ptrV
 go_enter Tryz.func48,Tryz.ntmps48
 go_wp2_with fail
 refine Calls.mono HC.out ?_
 rintro e w' ⟨v',rfl,rfl,hd⟩
 unfold Dat at hd
 subst hd
 have a1:(Instr.typeAssert (.iface 272 (.agg #[])) 58 150 true).run Tryz.prog w'=_:=run_assert_miss w' plainP zeroP (by decide)
 have a2:(Instr.typeAssert (.iface 272 (.agg #[])) 58 163 true).run Tryz.prog w'=_:=run_assert_miss w' plainV' zeroV (by decide)
 have a3:(Instr.typeAssert (.iface 272 (.agg #[])) 58 158 true).run Tryz.prog w'=_:=run_assert_miss w' plainX zeroX (by decide)
 have a4:(Instr.typeAssert (.iface 272 (.agg #[])) 58 168 true).run Tryz.prog w'=_:=run_assert_miss w' plainS zeroS (by decide)
 have a5:(Instr.typeAssert (.iface 272 (.agg #[])) 58 153 true).run Tryz.prog w'=_:=run_assert_miss w' plainN zeroN' (by decide)
 have a6:(Instr.typeAssert (.iface 272 (.agg #[])) 58 155 true).run Tryz.prog w'=_:=run_assert_miss w' plainT' zeroT' (by decide)
 have a7:(Instr.typeAssert (.iface 272 (.agg #[])) 58 157 true).run Tryz.prog w'=_:=run_assert_miss w' plainC zeroC (by decide)
 clear HC
 go_wp2_with fail
 refine Calls.mono HA.out ?_
 rintro e w1 ⟨rfl,hgn⟩
 have HG:Hid _:=hgn
 clear hgn HA
 go_wp2_with fail
 go_ret
 exact⟨rfl,HG.out⟩
end
section
variable {w0 w:World} {G M K lo:Nat} {L:List Int} {κ:Nat→HK} {E:Env} {g:GSt} {svs:List Value} {nv v:Value}
set_option maxHeartbeats 4000000 in
set_option maxRecDepth 100000 in
theorem num_num (a b:Int)(h:GrAt w0 w G M κ E g svs nv)(hl:g.nodes.length+1≤1000000)(HC:Hid (Calls Tryz.prog 78 #[v] w fun e w'=>∃ v',e= .returned v'∧w'=w∧Dat lo K L w0 E (.num a b) v')):
 Calls Tryz.prog 48 #[ptrV G,v] w fun e w'=>e= .returned (.int .i64 (g.nodes.length:Nat))∧Grown w0 w w' G M κ E svs nv (g.add ⟨5,[],a,b,[]⟩):=by
 have hb:Below w.heap.size w (w.alloc (.cells #[.int .i64 a,.int .i64 b] 153)):=(Below.refl _ _).alloc (Nat.le_refl _) _
 have HB:Hid _:=hb
 have HA:Hid _:=gadd_any (h.above hb) ⟨5,[],a,b,[]⟩ rfl hl
 clear h hb
 unfold ptrV nodeAgg at HA
 simp only at HA
 unfold ptrV
 go_enter Tryz.func48,Tryz.ntmps48
 go_wp2_with fail
 refine Calls.mono HC.out ?_
 rintro e w' ⟨v',rfl,rfl,hd⟩
 unfold Dat at hd
 subst hd
 have a1:(Instr.typeAssert (.iface 153 (.agg #[.int .i64 a,.int .i64 b])) 58 150 true).run Tryz.prog w'=_:=run_assert_miss w' plainP zeroP (by decide)
 have a2:(Instr.typeAssert (.iface 153 (.agg #[.int .i64 a,.int .i64 b])) 58 163 true).run Tryz.prog w'=_:=run_assert_miss w' plainV' zeroV (by decide)
 have a3:(Instr.typeAssert (.iface 153 (.agg #[.int .i64 a,.int .i64 b])) 58 158 true).run Tryz.prog w'=_:=run_assert_miss w' plainX zeroX (by decide)
 have a4:(Instr.typeAssert (.iface 153 (.agg #[.int .i64 a,.int .i64 b])) 58 168 true).run Tryz.prog w'=_:=run_assert_miss w' plainS zeroS (by decide)
 have a5:(Instr.typeAssert (.iface 153 (.agg #[.int .i64 a,.int .i64 b])) 58 153 true).run Tryz.prog w'=_:=run_assert_hit w' plainN
 clear HC
 go_wp2_with fail
 refine Calls.mono HA.out ?_
 rintro e w1 ⟨rfl,hgn⟩
 have HG:Hid _:=Grown.above hgn HB.out
 clear hgn HA HB
 go_wp2_with fail
 go_ret
 exact⟨rfl,HG.out⟩
set_option maxHeartbeats 4000000 in
set_option maxRecDepth 100000 in
theorem num_truth (a:Int)(h:GrAt w0 w G M κ E g svs nv)(hl:g.nodes.length+1≤1000000)(HC:Hid (Calls Tryz.prog 78 #[v] w fun e w'=>∃ v',e= .returned v'∧w'=w∧Dat lo K L w0 E (.truth a) v')):
 Calls Tryz.prog 48 #[ptrV G,v] w fun e w'=>e= .returned (.int .i64 (g.nodes.length:Nat))∧Grown w0 w w' G M κ E svs nv (g.add ⟨6,[],a,0,[]⟩):=by
 have hb:Below w.heap.size w (w.alloc (.cells #[.int .i64 a] 155)):=(Below.refl _ _).alloc (Nat.le_refl _) _
 have HB:Hid _:=hb
 have HA:Hid _:=gadd_any (h.above hb) ⟨6,[],a,0,[]⟩ rfl hl
 clear h hb
 unfold ptrV nodeAgg at HA
 simp only at HA
 unfold ptrV
 go_enter Tryz.func48,Tryz.ntmps48
 go_wp2_with fail
 refine Calls.mono HC.out ?_
 rintro e w' ⟨v',rfl,rfl,hd⟩
 unfold Dat at hd
 subst hd
 have a1:(Instr.typeAssert (.iface 155 (.agg #[.int .i64 a])) 58 150 true).run Tryz.prog w'=_:=run_assert_miss w' plainP zeroP (by decide)
 have a2:(Instr.typeAssert (.iface 155 (.agg #[.int .i64 a])) 58 163 true).run Tryz.prog w'=_:=run_assert_miss w' plainV' zeroV (by decide)
 have a3:(Instr.typeAssert (.iface 155 (.agg #[.int .i64 a])) 58 158 true).run Tryz.prog w'=_:=run_assert_miss w' plainX zeroX (by decide)
 have a4:(Instr.typeAssert (.iface 155 (.agg #[.int .i64 a])) 58 168 true).run Tryz.prog w'=_:=run_assert_miss w' plainS zeroS (by decide)
 have a5:(Instr.typeAssert (.iface 155 (.agg #[.int .i64 a])) 58 153 true).run Tryz.prog w'=_:=run_assert_miss w' plainN zeroN' (by decide)
 have a6:(Instr.typeAssert (.iface 155 (.agg #[.int .i64 a])) 58 155 true).run Tryz.prog w'=_:=run_assert_hit w' plainT'
 clear HC
 go_wp2_with fail
 refine Calls.mono HA.out ?_
 rintro e w1 ⟨rfl,hgn⟩
 have HG:Hid _:=Grown.above hgn HB.out
 clear hgn HA HB
 go_wp2_with fail
 go_ret
 exact⟨rfl,HG.out⟩
set_option maxHeartbeats 4000000 in
set_option maxRecDepth 100000 in
theorem num_chr (a:Int)(h:GrAt w0 w G M κ E g svs nv)(hl:g.nodes.length+1≤1000000)(HC:Hid (Calls Tryz.prog 78 #[v] w fun e w'=>∃ v',e= .returned v'∧w'=w∧Dat lo K L w0 E (.chr a) v')):
 Calls Tryz.prog 48 #[ptrV G,v] w fun e w'=>e= .returned (.int .i64 (g.nodes.length:Nat))∧Grown w0 w w' G M κ E svs nv (g.add ⟨7,[],a,0,[]⟩):=by
 have hb:Below w.heap.size w (w.alloc (.cells #[.int .i64 a] 157)):=(Below.refl _ _).alloc (Nat.le_refl _) _
 have HB:Hid _:=hb
 have HA:Hid _:=gadd_any (h.above hb) ⟨7,[],a,0,[]⟩ rfl hl
 clear h hb
 unfold ptrV nodeAgg at HA
 simp only at HA
 unfold ptrV
 go_enter Tryz.func48,Tryz.ntmps48
 go_wp2_with fail
 refine Calls.mono HC.out ?_
 rintro e w' ⟨v',rfl,rfl,hd⟩
 unfold Dat at hd
 subst hd
 have a1:(Instr.typeAssert (.iface 157 (.agg #[.int .i64 a])) 58 150 true).run Tryz.prog w'=_:=run_assert_miss w' plainP zeroP (by decide)
 have a2:(Instr.typeAssert (.iface 157 (.agg #[.int .i64 a])) 58 163 true).run Tryz.prog w'=_:=run_assert_miss w' plainV' zeroV (by decide)
 have a3:(Instr.typeAssert (.iface 157 (.agg #[.int .i64 a])) 58 158 true).run Tryz.prog w'=_:=run_assert_miss w' plainX zeroX (by decide)
 have a4:(Instr.typeAssert (.iface 157 (.agg #[.int .i64 a])) 58 168 true).run Tryz.prog w'=_:=run_assert_miss w' plainS zeroS (by decide)
 have a5:(Instr.typeAssert (.iface 157 (.agg #[.int .i64 a])) 58 153 true).run Tryz.prog w'=_:=run_assert_miss w' plainN zeroN' (by decide)
 have a6:(Instr.typeAssert (.iface 157 (.agg #[.int .i64 a])) 58 155 true).run Tryz.prog w'=_:=run_assert_miss w' plainT' zeroT' (by decide)
 have a7:(Instr.typeAssert (.iface 157 (.agg #[.int .i64 a])) 58 157 true).run Tryz.prog w'=_:=run_assert_hit w' plainC
 clear HC
 go_wp2_with fail
 refine Calls.mono HA.out ?_
 rintro e w1 ⟨rfl,hgn⟩
 have HG:Hid _:=Grown.above hgn HB.out
 clear hgn HA HB
 go_wp2_with fail
 go_ret
 exact⟨rfl,HG.out⟩
set_option maxHeartbeats 4000000 in
set_option maxRecDepth 100000 in
theorem num_sym (s:List UInt8)(hs:s.length≤1000000)(h:GrAt w0 w G M κ E g svs nv)(hl:g.nodes.length+1≤1000000)(HC:Hid (Calls Tryz.prog 78 #[v] w fun e w'=>∃ v',e= .returned v'∧w'=w∧Dat lo K L w0 E (.sym s) v')):
 Calls Tryz.prog 48 #[ptrV G,v] w fun e w'=>e= .returned (.int .i64 (g.nodes.length:Nat))∧Grown w0 w w' G M κ E svs nv (g.add ⟨4,s,0,0,[]⟩):=by
 have hb:Below w.heap.size w (w.alloc (.cells #[.string ⟨⟨s⟩⟩] 168)):=(Below.refl _ _).alloc (Nat.le_refl _) _
 have HCL:Hid _:=clone_any ⟨⟨s⟩⟩ (w.alloc (.cells #[.string ⟨⟨s⟩⟩] 168)) (by show s.length≤_;omega)
 have HB:Hid _:=hb
 have HH:Hid _:=h
 clear h hb
 unfold ptrV
 go_enter Tryz.func48,Tryz.ntmps48
 go_wp2_with fail
 refine Calls.mono HC.out ?_
 rintro e w' ⟨v',rfl,rfl,hd⟩
 unfold Dat at hd
 subst hd
 have a1:(Instr.typeAssert (.iface 168 (.agg #[.string ⟨⟨s⟩⟩])) 58 150 true).run Tryz.prog w'=_:=run_assert_miss w' plainP zeroP (by decide)
 have a2:(Instr.typeAssert (.iface 168 (.agg #[.string ⟨⟨s⟩⟩])) 58 163 true).run Tryz.prog w'=_:=run_assert_miss w' plainV' zeroV (by decide)
 have a3:(Instr.typeAssert (.iface 168 (.agg #[.string ⟨⟨s⟩⟩])) 58 158 true).run Tryz.prog w'=_:=run_assert_miss w' plainX zeroX (by decide)
 have a4:(Instr.typeAssert (.iface 168 (.agg #[.string ⟨⟨s⟩⟩])) 58 168 true).run Tryz.prog w'=_:=run_assert_hit w' plainS
 clear HC
 go_wp2_with fail
 refine Calls.mono HCL.out ?_
 rintro e w2 ⟨rfl,hb2⟩
 have hb3:Below w'.heap.size w' w2:=⟨hb2.os.trans HB.out.os,hb2.tape.trans HB.out.tape,hb2.output.trans HB.out.output,Nat.le_trans HB.out.size hb2.size,fun b hlt=>(hb2.block b (Nat.lt_of_lt_of_le hlt HB.out.size)).trans (HB.out.block b hlt)⟩
 have HB3:Hid _:=hb3
 have HA:Hid _:=gadd_any (GrAt.above HH.out hb3) ⟨4,s,0,0,[]⟩ rfl hl
 clear hb2 hb3 HCL HB HH
 unfold ptrV nodeAgg at HA
 simp only at HA
 go_wp2_with fail
 refine Calls.mono HA.out ?_
 rintro e w1 ⟨rfl,hgn⟩
 have HG:Hid _:=Grown.above hgn HB3.out
 clear hgn HA HB3
 go_wp2_with fail
 go_ret
 exact⟨rfl,HG.out⟩
end
end Go.Proofs.YtlhimdjkkiflhaaGreatDoor
