import Derived.Deep.RegionWith
import Derived.OwnWalk
import Derived.Laws.ResultCell
import Derived.Test.YtlhimdjkkiflhaaGreatDoorDeep29
namespace Go.Proofs.YtlhimdjkkiflhaaGreatDoor
open Go.RowKit Go.Loop
section
variable {w0 w:World} {G M K lo:Nat} {L:List Int} {κ:Nat→HK} {E:Env} {g:GSt} {svs:List Value} {nv v:Value} {root:Dt}
theorem DatL.len:∀ {l:Dt} {vs:List Value},DatL lo K L w0 E l vs→vs.length=l.vlen
 | .vcons a l,vs,h=>by
   unfold DatL at h
   obtain⟨v,r,rfl,_,h2⟩:=h
   simp[Dt.vlen,DatL.len h2]
 | .vnil,vs,h=>by unfold DatL at h;subst h;rfl
 | .nil,_,h=>by unfold DatL at h;exact h.elim
 | .sym _,_,h=>by unfold DatL at h;exact h.elim
 | .num _ _,_,h=>by unfold DatL at h;exact h.elim
 | .truth _,_,h=>by unfold DatL at h;exact h.elim
 | .chr _,_,h=>by unfold DatL at h;exact h.elim
 | .txt _ _,_,h=>by unfold DatL at h;exact h.elim
 | .pair _ _ _,_,h=>by unfold DatL at h;exact h.elim
 | .vec _ _,_,h=>by unfold DatL at h;exact h.elim
 | .put _ _,_,h=>by unfold DatL at h;exact h.elim
 | .ask _,_,h=>by unfold DatL at h;exact h.elim
theorem Dat.iface:∀ {d:Dt} {v:Value},Dat lo K L w0 E d v→∃ t y,v= .iface t y
 | .nil,v,h=>by unfold Dat at h;exact⟨_,_,h⟩
 | .sym _,v,h=>by unfold Dat at h;exact⟨_,_,h⟩
 | .num _ _,v,h=>by unfold Dat at h;exact⟨_,_,h⟩
 | .truth _,v,h=>by unfold Dat at h;exact⟨_,_,h⟩
 | .chr _,v,h=>by unfold Dat at h;exact⟨_,_,h⟩
 | .txt _ _,v,h=>by unfold Dat at h;exact⟨_,_,h.2.2.1⟩
 | .pair _ _ _,v,h=>by unfold Dat at h;exact⟨_,_,h.2.2.1⟩
 | .vec _ _,v,h=>by unfold Dat at h;exact⟨_,_,h.2.2.1⟩
 | .put _ d,v,h=>by unfold Dat at h;exact Dat.iface (d:=d) h.2.2.2
 | .ask _,v,h=>by unfold Dat at h;exact⟨_,_,h.2⟩
 | .vnil,v,h=>by unfold Dat at h;exact h.elim
 | .vcons _ _,v,h=>by unfold Dat at h;exact h.elim
set_option maxHeartbeats 4000000 in
set_option maxRecDepth 100000 in
theorem num_txt (i:Nat)(s:List UInt8)(hgr:Ground0 w0 lo K L κ E root)(h:GrAt w0 w G M κ E g svs nv)(hm:MetOk w0 K κ E g.met)(hl:g.nodes.length+1≤1000000)(HC:Hid (Calls Tryz.prog 78 #[v] w fun e w'=>∃ v',e= .returned v'∧w'=w∧Dat lo K L w0 E (.txt i s) v'))(k:Nat)(g':GSt)
 (hnum:(match g.met.lookup i with|some k=>some (k,g)|none=>some (g.nodes.length,⟨g.nodes++[⟨3,s,0,0,[]⟩],(i,g.nodes.length)::g.met⟩))=some (k,g')):
 Calls Tryz.prog 48 #[ptrV G,v] w fun e w'=>e= .returned (.int .i64 (k:Nat))∧Grown w0 w w' G M κ E svs nv g'∧i<K∧HAt w0 (κ i) (E.α i):=by
 have HH:Hid _:=h
 have HM:Hid _:=hm
 have HGR:Hid _:=hgr
 have HN:Hid _:=hnum
 clear h hm hgr hnum
 unfold ptrV
 go_enter Tryz.func48,Tryz.ntmps48
 go_wp2_with fail
 refine Calls.mono HC.out ?_
 rintro e w' ⟨v',rfl,rfl,hd⟩
 unfold Dat at hd
 obtain⟨hi,-,rfl,hx⟩:=hd
 have hk:κ i= .txt:=HGR.out.kind i .txt hi ⟨_,hx⟩
 have hat:HAt w0 (κ i) (E.α i):=by rw[hk];exact⟨_,hx⟩
 have HAT:Hid _:=hat
 have HT:Hid _:=text_any HH.out HM.out HGR.out.inj hi hk hx hl
 unfold ptrV at HT ⊢
 have a1:(Instr.typeAssert (.iface 158 (.pointer (some ⟨E.α i,0,none⟩))) 58 150 true).run Tryz.prog w'=_:=run_assert_miss w' plainP zeroP (by decide)
 have a2:(Instr.typeAssert (.iface 158 (.pointer (some ⟨E.α i,0,none⟩))) 58 163 true).run Tryz.prog w'=_:=run_assert_miss w' plainV' zeroV (by decide)
 have a3:(Instr.typeAssert (.iface 158 (.pointer (some ⟨E.α i,0,none⟩))) 58 158 true).run Tryz.prog w'=_:=run_assert_hit w' plainX
 clear HC hx HH HM HGR hat
 go_wp2_with fail
 refine Calls.mono HT.out ?_
 rintro e w1 ⟨k1,g1,hq,rfl,hgn⟩
 obtain⟨rfl,rfl⟩:k1=k∧g1=g':=by
  have:=hq.symm.trans HN.out
  simp only[Option.some.injEq,Prod.mk.injEq] at this
  exact this
 have HG:Hid _:=hgn
 clear hq hgn HT HN
 go_wp2_with fail
 go_ret
 exact⟨rfl,HG.out,hi,HAT.out⟩
set_option maxHeartbeats 4000000 in
set_option maxRecDepth 100000 in
theorem num_vec {n:Nat}(i:Nat)(l:Dt)(hgr:Ground0 w0 lo K L κ E root)(ih:∀ m,m≤n→NumOk w0 lo K L κ E root G M m)(h:GrAt w0 w G M κ E g svs nv)(hm:MetOk w0 K κ E g.met)(hgood:goodB root (.vec i l)=true)(HC:Hid (Calls Tryz.prog 78 #[v] w fun e w'=>∃ v',e= .returned v'∧w'=w∧Dat lo K L w0 E (.vec i l) v'))(k:Nat)(g':GSt)
 (hnum:(match g.met.lookup i with|some k=>some (k,g)|none=>(numL root n l [] ⟨g.nodes++[⟨2,[],0,0,[]⟩],(i,g.nodes.length)::g.met⟩).map fun y=>(g.nodes.length,{ y.2 with nodes:=subsAt y.2.nodes g.nodes.length y.1 }))=some (k,g'))(hlen:g'.nodes.length≤999999):
 Calls Tryz.prog 48 #[ptrV G,v] w fun e w'=>e= .returned (.int .i64 (k:Nat))∧Grown w0 w w' G M κ E svs nv g'∧MetOk w0 K κ E g'.met:=by
 have HH:Hid _:=h
 have HM:Hid _:=hm
 have HGR:Hid _:=hgr
 have HIH:Hid _:=ih
 have HN:Hid _:=hnum
 simp only[goodB,Bool.and_eq_true,decide_eq_true_eq] at hgood
 clear h hm hgr ih hnum
 unfold ptrV
 go_enter Tryz.func48,Tryz.ntmps48
 go_wp2_with fail
 refine Calls.mono HC.out ?_
 rintro e w' ⟨v',rfl,rfl,hd⟩
 unfold Dat at hd
 obtain⟨hi,-,rfl,sl,vs,hx,hrow,hdl⟩:=hd
 have hlow:=HH.out.low
 have HT:Hid _:=holder_any HGR.out HIH.out HH.out HM.out hi (hk:= .vec) ⟨_,hx⟩ 2 l sl vs hdl hgood.2 (by rw[hdl.len];exact hgood.1) (ownsRow_from hrow (Nat.zero_le _) fun b _ hb=>hlow.block b hb) k g' HN.out hlen
 have hx1:=(hlow.block (E.α i) (Array.getElem?_eq_some_iff.1 hx).1).trans hx
 have x0:w'.cell? ⟨E.α i,0,none⟩=some sl:=by simp[World.cell?,hx1]
 unfold keyV ptrV at HT
 unfold ptrV
 simp only[HK.p] at HT
 have a1:(Instr.typeAssert (.iface 163 (.pointer (some ⟨E.α i,0,none⟩))) 58 150 true).run Tryz.prog w'=_:=run_assert_miss w' plainP zeroP (by decide)
 have a2:(Instr.typeAssert (.iface 163 (.pointer (some ⟨E.α i,0,none⟩))) 58 163 true).run Tryz.prog w'=_:=run_assert_hit w' plainV'
 clear HC hx HH HM HGR HIH HN hlow hx1 hrow hdl
 go_wp2_with fail
 refine Calls.mono HT.out ?_
 rintro e w1 ⟨rfl,hgn⟩
 have HG:Hid _:=hgn
 clear hgn HT
 go_wp2_with fail
 go_ret
 exact⟨rfl,HG.out⟩
set_option maxHeartbeats 4000000 in
set_option maxRecDepth 100000 in
theorem num_pair {n:Nat}(i:Nat)(a b:Dt)(hgr:Ground0 w0 lo K L κ E root)(ih:∀ m,m≤n→NumOk w0 lo K L κ E root G M m)(h:GrAt w0 w G M κ E g svs nv)(hm:MetOk w0 K κ E g.met)(hgood:goodB root (.pair i a b)=true)(HC:Hid (Calls Tryz.prog 78 #[v] w fun e w'=>∃ v',e= .returned v'∧w'=w∧Dat lo K L w0 E (.pair i a b) v'))(k:Nat)(g':GSt)
 (hnum:(match g.met.lookup i with|some k=>some (k,g)|none=>(numL root n (.vcons a (.vcons b .vnil)) [] ⟨g.nodes++[⟨1,[],0,0,[]⟩],(i,g.nodes.length)::g.met⟩).map fun y=>(g.nodes.length,{ y.2 with nodes:=subsAt y.2.nodes g.nodes.length y.1 }))=some (k,g'))(hlen:g'.nodes.length≤999999):
 Calls Tryz.prog 48 #[ptrV G,v] w fun e w'=>e= .returned (.int .i64 (k:Nat))∧Grown w0 w w' G M κ E svs nv g'∧MetOk w0 K κ E g'.met:=by
 have mixed:Tryz.prog.follows Departure.mixedOrders=true:=by kernel_rfl
 have HH:Hid _:=h
 have HM:Hid _:=hm
 have HGR:Hid _:=hgr
 have HIH:Hid _:=ih
 have HN:Hid _:=hnum
 simp only[goodB,Bool.and_eq_true] at hgood
 clear h hm hgr ih hnum
 unfold ptrV
 go_enter Tryz.func48,Tryz.ntmps48
 go_wp2_with fail
 refine Calls.mono HC.out ?_
 rintro e w' ⟨v',rfl,rfl,hd⟩
 unfold Dat at hd
 obtain⟨hi,-,rfl,va,vb,hx,hda,hdb⟩:=hd
 obtain⟨ta,ya,rfl⟩:=hda.iface
 obtain⟨tb,yb,rfl⟩:=hdb.iface
 have hlow:=HH.out.low
 have hb:Below w'.heap.size w' ((w'.alloc (.cells #[.iface ta ya,.iface tb yb] 58)).drew):=((Below.refl _ _).alloc (Nat.le_refl _) _).drew
 have HB:Hid _:=hb
 have HT:Hid _:=holder_any HGR.out HIH.out (GrAt.above HH.out hb) HM.out hi (hk:= .pair) ⟨_,hx⟩ 1 (.vcons a (.vcons b .vnil)) (.slice (some ⟨w'.heap.size,0,none⟩) 2 2) [.iface ta ya,.iface tb yb] (by unfold DatL;exact⟨.iface ta ya,[.iface tb yb],rfl,hda,by unfold DatL;exact⟨.iface tb yb,[],rfl,hdb,by unfold DatL;rfl⟩⟩) (by simp[goodB,hgood]) (by simp) (ownsRow_from (w:=w'.alloc (.cells #[.iface ta ya,.iface tb yb] 58)) (row2 w' _ _) (Nat.zero_le _) fun _ _ _=>rfl) k g' HN.out hlen
 have hx1:=(hlow.block (E.α i) (Array.getElem?_eq_some_iff.1 hx).1).trans hx
 have x0:w'.cell? ⟨E.α i,0,none⟩=some (.iface ta ya):=by simp[World.cell?,hx1]
 have x1:w'.cell? ⟨E.α i,1,none⟩=some (.iface tb yb):=by simp[World.cell?,hx1]
 unfold keyV ptrV at HT
 unfold ptrV
 simp only[HK.p] at HT
 have a1:(Instr.typeAssert (.iface 150 (.pointer (some ⟨E.α i,0,none⟩))) 58 150 true).run Tryz.prog w'=_:=run_assert_hit w' plainP
 clear HC hx HH HM HGR HIH HN hlow hx1 hda hdb hb
 go_wp2_with fail
 go_region_with (refine Calls.mono HT.out ?_;rintro e w1 ⟨rfl,hgn⟩;have HG:Hid _:=hgn;clear hgn)
 all_goals
  go_wp2_with fail
  go_ret
  exact⟨rfl,Grown.above HG.out.1 HB.out,HG.out.2⟩
end
theorem goodB_hd {root:Dt}:∀ {d:Dt} {v:Value} {w0:World} {lo K:Nat} {L:List Int} {E:Env},Dat lo K L w0 E d v→goodB root d=true→(meantD root 200000 d).hd=true
 | .ask m,_,_,_,_,_,_,_,h=>by simp only[goodB,Bool.and_eq_true] at h;exact h.2
 | .put n x,_,_,_,_,_,_,_,h=>by simp only[goodB,Bool.and_eq_true] at h;exact h.1
 | .nil,_,_,_,_,_,_,_,_=>rfl
 | .sym _,_,_,_,_,_,_,_,_=>rfl
 | .num _ _,_,_,_,_,_,_,_,_=>rfl
 | .truth _,_,_,_,_,_,_,_,_=>rfl
 | .chr _,_,_,_,_,_,_,_,_=>rfl
 | .txt _ _,_,_,_,_,_,_,_,_=>rfl
 | .pair _ _ _,_,_,_,_,_,_,_,_=>rfl
 | .vec _ _,_,_,_,_,_,_,_,_=>rfl
 | .vnil,_,_,_,_,_,_,hd,_=>by unfold Dat at hd;exact hd.elim
 | .vcons _ _,_,_,_,_,_,_,hd,_=>by unfold Dat at hd;exact hd.elim
theorem MetOk.cons {w0:World}{K:Nat}{κ:Nat→HK}{E:Env}{met:List (Nat×Nat)}(h:MetOk w0 K κ E met){i k:Nat}(hi:i<K)(hat:HAt w0 (κ i) (E.α i))(hq:met.lookup i=none):MetOk w0 K κ E ((i,k)::met):=by
 refine⟨fun p hp=>?_,?_⟩
 ·rcases List.mem_cons.1 hp with rfl|hp
  ·exact⟨hi,hat⟩
  ·exact h.at_ p hp
 ·rw[List.map_cons,List.nodup_cons]
  refine⟨fun hmem=>?_,h.nd⟩
  obtain⟨q,hq1,hq2⟩:=List.mem_map.1 hmem
  have:=List.lookup_eq_none_iff.1 hq q hq1
  simp[hq2] at this
section
variable {w0:World} {G M K lo:Nat} {L:List Int} {κ:Nat→HK} {E:Env} {root:Dt}
theorem number_step {n:Nat}(hgr:Ground0 w0 lo K L κ E root)(ih:∀ m,m≤n→NumOk w0 lo K L κ E root G M m):NumOk w0 lo K L κ E root G M (n+1):=by
 intro d v w g svs nv k g' hdat hgood h hm hnum hlen
 obtain⟨rv,hroot⟩:=hgr.dat
 have hhd:=goodB_hd hdat hgood
 have HC:Hid _:=meant_any h.low hroot (goodB_ask hgr.good) 200000 d v hdat (goodB_ask hgood) hhd
 have hgm:=goodB_meant hgr.good 200000 d hgood
 have hgrow:=(num_grows root (n+1)).1 _ _ _ _ hnum
 unfold numN at hnum
 cases ht:meantD root 200000 d with
 |nil=>
  rw[ht] at hnum HC
  cases hnum
  exact(num_nil h (by simp[GSt.add] at hlen;omega) HC).mono fun e w' hx=>⟨hx.1,hx.2,hm⟩
 |sym s=>
  rw[ht] at hnum HC hgm
  cases hnum
  exact(num_sym s (by simpa[goodB] using hgm) h (by simp[GSt.add] at hlen;omega) HC).mono fun e w' hx=>⟨hx.1,hx.2,hm⟩
 |num a b=>
  rw[ht] at hnum HC
  cases hnum
  exact(num_num a b h (by simp[GSt.add] at hlen;omega) HC).mono fun e w' hx=>⟨hx.1,hx.2,hm⟩
 |truth a=>
  rw[ht] at hnum HC
  cases hnum
  exact(num_truth a h (by simp[GSt.add] at hlen;omega) HC).mono fun e w' hx=>⟨hx.1,hx.2,hm⟩
 |chr a=>
  rw[ht] at hnum HC
  cases hnum
  exact(num_chr a h (by simp[GSt.add] at hlen;omega) HC).mono fun e w' hx=>⟨hx.1,hx.2,hm⟩
 |txt i s=>
  rw[ht] at hnum HC
  have hl:g.nodes.length+1≤1000000:=by omega
  refine(num_txt i s hgr h hm hl HC k g' hnum).mono fun e w' hx=>⟨hx.1,hx.2.1,?_⟩
  cases hq:g.met.lookup i with
  |some k0=>simp only[hq] at hnum;cases hnum;exact hm
  |none=>simp only[hq] at hnum;cases hnum;exact hm.cons hx.2.2.1 hx.2.2.2 hq
 |pair i a b=>
  rw[ht] at hnum HC hgm
  exact num_pair i a b hgr ih h hm hgm HC k g' hnum hlen
 |vec i l=>
  rw[ht] at hnum HC hgm
  exact num_vec i l hgr ih h hm hgm HC k g' hnum hlen
 |put n x=>rw[ht] at hhd;simp[Dt.hd] at hhd
 |ask m=>rw[ht] at hhd;simp[Dt.hd] at hhd
 |vnil=>rw[ht] at hhd;simp[Dt.hd] at hhd
 |vcons a l=>rw[ht] at hhd;simp[Dt.hd] at hhd
theorem num_upto (hgr:Ground0 w0 lo K L κ E root):∀ N n,n≤N→NumOk w0 lo K L κ E root G M n
 |0,n,h=>by
  obtain rfl:n=0:=by omega
  intro d v w g svs nv k g' _ _ _ _ hnum
  simp[numN] at hnum
 |N+1,n,h=>by
  have ih:=num_upto hgr N
  cases n with
  |zero=>exact ih 0 (Nat.zero_le _)
  |succ n=>exact number_step hgr fun m hm=>ih m (by omega)
end
def NodesAt (w:World)(lo:Nat)(nv:Value)(svs:List Value)(nodes:List Nd0):Prop:=
 w.ownsRow lo 45 5 nv nodes.length (nds nodes svs)∧svs.length=nodes.length∧∀ (j:Nat) x sv,nodes[j]? =some x→svs[j]? =some sv→SubAt w lo sv x.subs
theorem exists_kind (w0:World)(E:Env):∃ κ:Nat→HK,∀ i h,HAt w0 h (E.α i)→κ i=h:=by
 have hex:∀ i,∃ k:HK,∀ h,HAt w0 h (E.α i)→k=h:=fun i=>by
  by_cases e:∃ h,HAt w0 h (E.α i)
  ·obtain⟨h,hh⟩:=e
   exact⟨h,fun h' hh'=>hh.same hh'⟩
  ·exact⟨.txt,fun h hh=>absurd ⟨h,hh⟩ e⟩
 exact⟨fun i=>Classical.choose (hex i),fun i=>Classical.choose_spec (hex i)⟩
set_option maxHeartbeats 4000000 in
set_option maxRecDepth 100000 in
theorem graph_calls {lo K:Nat}{L:List Int}{E:Env}(w:World)(root:Dt)(v:Value)(hd:Dat lo K L w E root v)(hgood:goodB root root=true)(hinj:∀ i j,i<K→j<K→E.α i=E.α j→i=j)(f:Nat)(k:Nat)(g':GSt)(hnum:numN root f root ⟨[],[]⟩=some (k,g'))(hlen:g'.nodes.length≤999999):
 Calls Tryz.prog 30 #[v] w fun e w'=>∃ nv svs,e= .returned nv∧NodesAt w' w.heap.size nv svs g'.nodes∧Below w.heap.size w w':=by
 obtain⟨κ,hκ⟩:=exists_kind w E
 have hgr:Ground0 w lo K L κ E root:=⟨⟨v,hd⟩,hgood,hinj,fun i h _ hh=>hκ i h hh⟩
 have hb2:Below w.heap.size w ((w.alloc (.map #[] 0)).alloc (.cells #[.slice none 0 0,.map (some w.heap.size)] 100)):=((Below.refl _ w).alloc (Nat.le_refl _) _).alloc (by simp) _
 have hG:GrAt w ((w.alloc (.map #[] 0)).alloc (.cells #[.slice none 0 0,.map (some w.heap.size)] 100)) (w.heap.size+1) w.heap.size κ E ⟨[],[]⟩ [] (.slice none 0 0):=
  ⟨by omega,by omega,Nat.le_refl _,hb2,alloc2_at w _ _,World.ownsRow_nil _ _ _ _,⟨#[],0,(Lib.alloc_old _ _ _ (by simp)).trans (heap_alloc_new w _),rfl⟩,rfl,fun j x sv h=>(by simp at h)⟩
 have HN:Hid _:=num_upto hgr f f (Nat.le_refl _) root v _ ⟨[],[]⟩ [] (.slice none 0 0) k g' hd hgood hG ⟨fun p hp=>(by cases hp),List.nodup_nil⟩ hnum hlen
 have hmk:(Instr.makeMap 98 none).run Tryz.prog w= .ok (.map (some w.heap.size)) (w.alloc (.map #[] 0)):=rfl
 clear hgr hb2 hG hd hgood hinj hnum
 unfold ptrV at HN
 go_enter Tryz.func30,Tryz.ntmps30
 go_wp2_with fail
 refine Calls.mono HN.out ?_
 rintro e w1 ⟨rfl,⟨svs,nv,hG,-,-,-⟩,-⟩
 have HF:Hid (NodesAt w1 w.heap.size nv svs g'.nodes∧Below w.heap.size w w1):=⟨⟨hG.row,hG.len,hG.subs⟩,hG.low⟩
 have y0:w1.cell? ⟨w.heap.size+1,0,none⟩=some nv:=by
  have hblk:=hG.blk
  simp[World.cell?,hblk]
 clear hG HN
 go_wp2_with fail
 go_ret
 exact⟨nv,svs,rfl,HF.out⟩
section
variable {R M g cap:Nat} {T:List Tok} {dp:Nat}
set_option maxHeartbeats 8000000 in
set_option maxRecDepth 100000 in
theorem put_ok {n:Nat}(ih:IH R M g cap T dp n):PutOk R M g cap T dp n:=by
 intro t p a0 n0 c0 w E s r hr ha hd hrd ho
 have mixed:Tryz.prog.follows Departure.mixedOrders=true:=by kernel_rfl
 have hb0:Below w.heap.size w ((w.alloc (.cells #[.int .i64 t.kind,.int .i64 t.from_,.int .i64 t.to_,.string ⟨⟨t.text⟩⟩,.int .i64 t.n,.int .i64 t.d,.int .i64 t.fault] 131)).alloc (.cells #[.int .i64 p.depth,.bool p.passed,.slice a0 n0 c0] 128)):=((Below.refl _ w).alloc (Nat.le_refl _) _).alloc (by simp) _
 have hs0:((w.alloc (.cells #[.int .i64 t.kind,.int .i64 t.from_,.int .i64 t.to_,.string ⟨⟨t.text⟩⟩,.int .i64 t.n,.int .i64 t.d,.int .i64 t.fault] 131)).alloc (.cells #[.int .i64 p.depth,.bool p.passed,.slice a0 n0 c0] 128)).heap.size=w.heap.size+1+1:=by simp
 have HK0:Hid (Kp R M w ((w.alloc (.cells #[.int .i64 t.kind,.int .i64 t.from_,.int .i64 t.to_,.string ⟨⟨t.text⟩⟩,.int .i64 t.n,.int .i64 t.d,.int .i64 t.fault] 131)).alloc (.cells #[.int .i64 p.depth,.bool p.passed,.slice a0 n0 c0] 128))):=Kp.of_below hb0
 have hr0:=hr.below hb0
 have HR0:Hid _:=hr0
 have hlook:=run_labLook (w:=((w.alloc (.cells #[.int .i64 t.kind,.int .i64 t.from_,.int .i64 t.to_,.string ⟨⟨t.text⟩⟩,.int .i64 t.n,.int .i64 t.d,.int .i64 t.fault] 131)).alloc (.cells #[.int .i64 p.depth,.bool p.passed,.slice a0 n0 c0] 128)).drew) (M:=M) (l:=labP E s.labs) hr0.lm t.n
 rw[lab_look] at hlook
 have hrR:R<w.heap.size:=hr.lt
 have hrM:M<w.heap.size:=hr.mlt
 have hdp:=hr.deep
 have n1:¬ R=w.heap.size:=by omega
 have n2:¬ R=w.heap.size+1:=by omega
 have n3:R<w.heap.size+1:=by omega
 obtain⟨⟨r0,r1,r2,r3⟩,-⟩:=cells4 hr.blk
 have HA0:Hid _:=ha.below hb0
 have hlowA:∀ k,(Value.slice a0 n0 c0).ownBlock=some k→k<w.heap.size:=fun k hk=>(World.ownsRow.lt ha.1 k hk).2
 have HlA:Hid (∀ m∈p.ahead,m∈s.labs):=ha.2.2
 have HIH:Hid _:=ih
 have HO:Hid _:=ho
 by_cases hbad:p.passed=true∨t.n∈s.labs∨p.depth=dp
 ·exact put_fault n t p a0 n0 c0 w E s r hr hrd hbad
 have hp:¬ p.passed=true:=fun h=>hbad (.inl h)
 have hl:¬ t.n∈s.labs:=fun h=>hbad (.inr (.inl h))
 have hdd:¬ p.depth=dp:=fun h=>hbad (.inr (.inr h))
 have hp':p.passed=false:=by simpa using hp
 rw[hp'] at hlook HK0 HR0 HA0 hs0 ⊢
 rw[if_neg hl,Option.getD_none] at hlook
 replace hrd:=hrd.trans (if_neg (by simp[hp',hl]))
 have hc0:(((w.alloc (.cells #[.int .i64 t.kind,.int .i64 t.from_,.int .i64 t.to_,.string ⟨⟨t.text⟩⟩,.int .i64 t.n,.int .i64 t.d,.int .i64 t.fault] 131)).alloc (.cells #[.int .i64 p.depth,.bool false,.slice a0 n0 c0] 128)).drew).cell? ⟨R,2,none⟩=some (.int .i64 dp):=(cells4 HR0.out.blk).1.2.2.1
 ·have HC:Hid _:=deeper_ok R dp t p.depth false a0 n0 c0 (((w.alloc (.cells #[.int .i64 t.kind,.int .i64 t.from_,.int .i64 t.to_,.string ⟨⟨t.text⟩⟩,.int .i64 t.n,.int .i64 t.d,.int .i64 t.fault] 131)).alloc (.cells #[.int .i64 p.depth,.bool false,.slice a0 n0 c0] 128)).drew) hc0 (by simp;omega) (by omega) hdd
  have HE:Hid _:=hrd.trans (if_neg hdd)
  have hd1:p.depth+1≤dp:=by omega
  have HT0:Hid ((((w.alloc (.cells #[.int .i64 t.kind,.int .i64 t.from_,.int .i64 t.to_,.string ⟨⟨t.text⟩⟩,.int .i64 t.n,.int .i64 t.d,.int .i64 t.fault] 131)).alloc (.cells #[.int .i64 p.depth,.bool false,.slice a0 n0 c0] 128)).drew).heap[w.heap.size]? =some (.cells #[.int .i64 t.kind,.int .i64 t.from_,.int .i64 t.to_,.string ⟨⟨t.text⟩⟩,.int .i64 t.n,.int .i64 t.d,.int .i64 t.fault] 131)):=(Lib.alloc_old _ _ _ (by simp)).trans (heap_alloc_new w _)
  have HP0:Hid ((((w.alloc (.cells #[.int .i64 t.kind,.int .i64 t.from_,.int .i64 t.to_,.string ⟨⟨t.text⟩⟩,.int .i64 t.n,.int .i64 t.d,.int .i64 t.fault] 131)).alloc (.cells #[.int .i64 p.depth,.bool false,.slice a0 n0 c0] 128)).drew).heap[w.heap.size+1]? =some (.cells #[.int .i64 p.depth,.bool false,.slice a0 n0 c0] 128)):=alloc2_at w _ _
  clear hrd hr hr0 hb0 ha hc0 hdd
  unfold plV ptrV tkV at HC ⊢
  go_enter Tryz.func160,Tryz.ntmps160
  go_wp2_with fail
  go_region
  go_wp2_with fail
  refine Calls.mono HC.out ?_
  rintro e w1 ⟨rfl,hb1⟩
  have hs1:=hb1.size
  have ht1:=(hb1.block w.heap.size (by simp;omega)).trans HT0.out
  have hp1:=(hb1.block (w.heap.size+1) (by simp)).trans HP0.out
  obtain⟨⟨o0,o1,o2,o3,o4,o5,o6⟩,-⟩:=cells7 (Below.refl _ _) ht1
  obtain⟨y0,y1,y2⟩:=cells3 hp1
  have HR1:Hid _:=RdAt.below (RdAt.below HR0.out ((Below.refl _ _).drew)) hb1
  have HA1:Hid _:=AhAt.below (AhAt.below HA0.out ((Below.refl _ _).drew)) hb1
  have HK1:Hid _:=Kp.trans (Kp.trans HK0.out (Kp.of_below ((Below.refl _ _).drew))) (Kp.of_below hb1)
  obtain⟨⟨x0,x1,x2,x3⟩,-⟩:=cells4 HR1.out.blk
  have HP1:Hid _:=hp1
  clear hb1 HC ht1 hp1 r0 r1 r2 r3 hlook n1 n2 n3
  have hRl:=HR1.out.lt
  have hMl:=HR1.out.mlt
  have e1:¬ R=w1.heap.size:=by omega
  have e2:¬ R=w1.heap.size+1:=by omega
  have e3:R<w1.heap.size+1:=by omega
  have e4:w.heap.size<w1.heap.size:=by simp at hs1;omega
  have e5:¬ w.heap.size=w1.heap.size:=by omega
  have e6:¬ w.heap.size=w1.heap.size+1:=by omega
  have e7:w.heap.size<w1.heap.size+1:=by omega
  have hb2:Below w1.heap.size w1 (((w1.alloc (.cells #[.int .i64 ((p.depth:Int)+1),.bool false,.slice none 0 0] 128)).alloc (.cells #[.nilIface] 215)).drew):=(((Below.refl _ _).alloc (Nat.le_refl _) _).alloc (by simp) _).drew
  have HR2:Hid _:=RdAt.below HR1.out hb2
  obtain⟨o,hput,hmap⟩:=run_labPut (w:=((w1.alloc (.cells #[.int .i64 ((p.depth:Int)+1),.bool false,.slice none 0 0] 128)).alloc (.cells #[.nilIface] 215)).drew) (M:=M) (l:=labP E s.labs) HR2.out.lm t.n (by rw[lab_look,if_neg hl]) (ptrV (w1.heap.size+1))
  have HMap:Hid _:=hmap
  generalize hw3:({ ((w1.alloc (.cells #[.int .i64 ((p.depth:Int)+1),.bool false,.slice none 0 0] 128)).alloc (.cells #[.nilIface] 215)).drew with heap:=(((w1.alloc (.cells #[.int .i64 ((p.depth:Int)+1),.bool false,.slice none 0 0] 128)).alloc (.cells #[.nilIface] 215)).drew).heap.setIfInBounds M o }:World)=w3 at *
  have HW3:Hid _:=hw3
  clear hw3 hmap
  unfold ptrV at hput
  go_wp2_with fail
  go_region
  have hs3:w3.heap.size=w1.heap.size+2:=by rw[←HW3.out];simp
  have hb3:∀ b,b≠M→w3.heap[b]? =(((w1.alloc (.cells #[.int .i64 ((p.depth:Int)+1),.bool false,.slice none 0 0] 128)).alloc (.cells #[.nilIface] 215)).drew).heap[b]?:=fun b hb=>by
   rw[←HW3.out];exact Array.getElem?_setIfInBounds_ne (fun e=>hb e.symm)
  have hL:(((w1.alloc (.cells #[.int .i64 ((p.depth:Int)+1),.bool false,.slice none 0 0] 128)).alloc (.cells #[.nilIface] 215)).drew).heap[w1.heap.size+1]? =some (.cells #[.nilIface] 215):=alloc2_at w1 _ _
  have hP2:(((w1.alloc (.cells #[.int .i64 ((p.depth:Int)+1),.bool false,.slice none 0 0] 128)).alloc (.cells #[.nilIface] 215)).drew).heap[w1.heap.size]? =some (.cells #[.int .i64 ((p.depth:Int)+1),.bool false,.slice none 0 0] 128):=(Lib.alloc_old _ _ _ (by simp)).trans (heap_alloc_new w1 _)
  have HR3:Hid (RdAt w3 R M g cap T dp (E.label t.n (w1.heap.size+1)) { s with labs:=t.n::s.labs }):=by
   rw[←HW3.out]
   exact RdAt.label HR2.out hl ⟨_,hL⟩ (fun m hm e=>by
    obtain⟨v,hv⟩:=HR1.out.low m hm
    have:=(Array.getElem?_eq_some_iff.1 hv).1
    omega) (by rw[HW3.out];exact HMap.out)
  have HL3:Hid _:=(hb3 (w1.heap.size+1) (by omega)).trans hL
  have HP3:Hid _:=(hb3 w1.heap.size (by omega)).trans hP2
  obtain⟨z0,z1,z2⟩:=cells3 HP3.out
  have hf3:w3.frozen? ⟨w1.heap.size,2,none⟩=false:=by simp[World.frozen?,HP3.out]
  have HQ3:Hid _:=(hb3 (w.heap.size+1) (by omega)).trans ((hb2.block (w.heap.size+1) (by simp at hs1;omega)).trans HP1.out)
  obtain⟨q0,q1,q2⟩:=cells3 HQ3.out
  have hA3:AhAt w3 (E.label t.n (w1.heap.size+1)) { s with labs:=t.n::s.labs } p.ahead (.slice a0 n0 c0):=
   AhAt.kp (AhAt.below HA1.out hb2) HR2.out (M:=M) (R:=R) ⟨by rw[←HW3.out],by rw[←HW3.out],by rw[←HW3.out],by rw[hs3];simp,fun b _ _ h=>hb3 b h⟩ (label_agree E t.n _ s.fresh hl) fun m hm=>List.mem_cons_of_mem _ hm
  have HA3:Hid _:=hA3
  have HROW:Hid (w3.ownsRow 0 212 1 (.slice a0 n0 c0) p.ahead.length (p.ahead.map fun m=>ptrV ((E.label t.n (w1.heap.size+1)).lab m))):=HA3.out.1
  have hsz0:w.heap.size+1+1≤w1.heap.size:=by simp at hs1;omega
  have HK3:Hid (Kp R M w w3):=Kp.trans HK1.out ⟨by rw[←HW3.out];rfl,by rw[←HW3.out];rfl,by rw[←HW3.out];rfl,by omega,fun b b1 _ b3=>(hb3 b b3).trans (hb2.block b b1)⟩
  rename_i hK
  exact hK _ _ (put_tail HIH.out t p a0 n0 c0 w w1 w3 E s r hp' hl ⟨hd1,hd.2⟩ hdp hsz0 hs3 HE HO hlowA HlA HR3 HL3 HP3 HQ3 HROW HK3 _ _ _ _ _ _ _ _ _ _ _ _ _ _ _ _ _ _ _ _ _ _ _ _ _ _ _ _ _ _ _ _ _ _ _ _ _ _ _ _ _ _ _ _ _ _ _ _ _ _ _ _ _ _ _ _ _ _ _ _ _ _ _)
end
section
variable {R M g cap:Nat} {T:List Tok} {dp:Nat}
theorem ih_upto:∀ N n,n≤N→IH R M g cap T dp n
 |0,n,h=>by
  obtain rfl:n=0:=by omega
  exact⟨fun p av w E s _ _ _ ho=>absurd (by unfold rdDatum;rfl) ho,fun p av w E s _ _ _ ho=>absurd (by unfold rdTake;rfl) ho,fun t p av w E s _ _ _ ho=>absurd (by unfold rdFrom;rfl) ho⟩
 |N+1,n,h=>by
  have ih:=ih_upto N
  cases n with
  |zero=>exact ih 0 (Nat.zero_le _)
  |succ n=>
   have ih':∀ m,m≤n→IH R M g cap T dp m:=fun m hm=>ih m (by omega)
   exact⟨datum_step (ih' n (Nat.le_refl _)),take_step ih',frm_step ih' (put_ok (ih' n (Nat.le_refl _))) ask_ok⟩
theorem ih_all (n:Nat):IH R M g cap T dp n:=ih_upto n n (Nat.le_refl _)
end
def OkR (T:List Tok)(w:World)(r:RR Dt)(e:Ending)(w':World):Prop:=
 Below w.heap.size w w'∧match r with
 | .out=>True
 | .fail er a=>∃ b,e= .returned (.tuple #[.nilIface,.int .i64 0,ptrV b])∧FaultAt w' b er a
 | .ok d s'=>∃ v E' t,T[s'.k-1]? =some t∧e= .returned (.tuple #[v,.int .i64 t.to_,.pointer none])∧(∃ t y,v= .iface t y)∧Dat w.heap.size s'.fresh s'.labs w' E' d v∧
    (∀ i j,i<s'.fresh→j<s'.fresh→E'.α i=E'.α j→i=j)∧(∀ n∈s'.labs,∃ v,w'.heap[E'.lab n]? =some (.cells #[v] 215))
theorem Kp.low {R M:Nat}{w w2 w':World}(h:Kp R M w2 w')(hb:Below w.heap.size w w2)(h1:w.heap.size≤R)(h2:w.heap.size≤M):Below w.heap.size w w':=
 ⟨h.os.trans hb.os,h.tape.trans hb.tape,h.output.trans hb.output,Nat.le_trans hb.size h.size,fun b hb'=>(h.block b (Nat.lt_of_lt_of_le hb' hb.size) (by omega) (by omega)).trans (hb.block b hb')⟩
set_option maxHeartbeats 8000000 in
set_option maxRecDepth 100000 in
theorem read_calls (T:List Tok)(dp g cap:Nat)(w:World)(hdp:dp≤30)(hT:∀ k t,T[k]? =some t→t.kind≠0→t.kind≠1→k+1<T.length)(hT0:T≠[])(hsm:T.length≤900)
 (hrow:w.ownsRow 0 131 7 (.slice (some ⟨g,0,none⟩) T.length cap) T.length (T.flatMap tkCells)):
 Calls Tryz.prog 42 #[.slice (some ⟨g,0,none⟩) T.length cap,.int .i64 dp] w fun e w'=>OkR T w (rdDatum T dp 2000 ⟨0,false,[]⟩ ⟨0,0,[]⟩) e w':=by
 have mixed:Tryz.prog.follows Departure.mixedOrders=true:=by kernel_rfl
 have hg:g<w.heap.size:=(hrow.lt g rfl).2
 have hb2:Below w.heap.size w ((w.alloc (.map #[] 0)).alloc (.cells #[.slice (some ⟨g,0,none⟩) T.length cap,.int .i64 0,.int .i64 dp,.map (some w.heap.size)] 123)):=((Below.refl _ w).alloc (Nat.le_refl _) _).alloc (by simp) _
 have HB2:Hid _:=hb2
 have HR2:Hid (RdAt ((w.alloc (.map #[] 0)).alloc (.cells #[.slice (some ⟨g,0,none⟩) T.length cap,.int .i64 0,.int .i64 dp,.map (some w.heap.size)] 123)) (w.heap.size+1) w.heap.size g cap T dp ⟨fun _=>0,fun _=>0⟩ ⟨0,0,[]⟩):=
  ⟨by omega,by omega,by omega,alloc2_at w _ _,ownsRow_from hrow (Nat.le_refl _) fun b _ hlt=>hb2.block b hlt,⟨#[],0,(Lib.alloc_old _ _ _ (by simp)).trans (heap_alloc_new w _),rfl⟩,fun n hn=>(by cases hn),fun n hn=>(by cases hn),by omega,hdp⟩
 have hgood:=(fuel T dp hT 2000).datum ⟨0,false,[]⟩ ⟨0,0,[]⟩ (List.length_pos_iff.2 hT0) (by show 2*(T.length-0)+2≤2000;omega)
 have hne:rdDatum T dp 2000 ⟨0,false,[]⟩ ⟨0,0,[]⟩≠ .out:=fun h=>by rw[h] at hgood;exact hgood
 have HD:Hid _:=(ih_all 2000).datum ⟨0,false,[]⟩ (.slice none 0 0) _ _ _ HR2.out ⟨⟨rfl,.inl ⟨rfl,rfl⟩⟩,⟨_,_,_,rfl⟩,fun n hn=>(by cases hn)⟩ ⟨Nat.zero_le _,Nat.zero_le _⟩ hne
 generalize hrd:rdDatum T dp 2000 ⟨0,false,[]⟩ ⟨0,0,[]⟩=r at *
 clear hrow hb2 hrd hT hT0
 have hmk:(Instr.makeMap 121 none).run Tryz.prog w= .ok (.map (some w.heap.size)) (w.alloc (.map #[] 0)):=rfl
 unfold plV ptrV at HD
 go_enter Tryz.func42,Tryz.ntmps42
 go_wp2_with fail
 refine Calls.mono HD.out ?_
 clear HD
 intro e w3 hok
 cases r with
 |out=>exact absurd rfl hne
 |fail er a=>
  obtain⟨⟨b,rfl,hf⟩,hk⟩:=hok
  have HG:Hid (OkR T w (RR.fail er a) (.returned (.tuple #[.nilIface,.int .i64 0,ptrV b])) w3):=⟨Kp.low hk.plain HB2.out (by omega) (Nat.le_refl _),b,rfl,hf⟩
  clear hf hk
  unfold ptrV
  go_wp2_with fail
  go_ret3
  exact HG.out
 |ok d0 s'=>
  obtain⟨v,E',rfl,⟨ty,y,rfl⟩,hdat,hx,hr,hk⟩:=hok
  obtain⟨k',hk'⟩:∃ k',s'.k=k'+1:=⟨s'.k-1,by have:=hgood.1;simp at this;omega⟩
  have hlt:k'<T.length:=by have:=hgood.2;omega
  obtain⟨t,ht⟩:∃ t,T[k']? =some t:=⟨_,List.getElem?_eq_getElem hlt⟩
  obtain⟨⟨r0,r1,r2,r3⟩,rf⟩:=cells4 hr.blk
  have t2:w3.cell? ⟨g,k'*7+2,none⟩=some (.int .i64 t.to_):=by rw[hr.row.cellAt _ (by omega),flat7 T k' 2 t ht (by omega)];rfl
  rw[hk'] at r1
  have hs2:=HB2.out.size
  have HG:Hid (OkR T w (RR.ok d0 s') (.returned (.tuple #[.iface ty y,.int .i64 t.to_,.pointer none])) w3.drew):=
   ⟨(Kp.low hk.plain HB2.out (by omega) (Nat.le_refl _)).drew,.iface ty y,E',t,by rw[hk'];exact ht,rfl,⟨ty,y,rfl⟩,Dat.keep (w:=w3) (w':=w3.drew) hs2 (Nat.le_refl _) (fun _ h=>h) (fun _ _ _=>rfl) ⟨fun _ _=>rfl,fun _ _=>rfl⟩ d0 _ hdat,
     fun i j h1 h2 e=>hx.inj i j (Nat.zero_le _) h1 (Nat.zero_le _) h2 e,hr.low⟩
  have hgr:g<w3.heap.size:=(hr.row.lt g rfl).2
  have hRr:w.heap.size+1<w3.heap.size:=hr.lt
  clear hdat hx hr hk hgood hne HR2 HB2 ht
  go_wp2_with fail
  go_region
  go_wp2_with fail
  go_ret3
  exact HG.out
end Go.Proofs.YtlhimdjkkiflhaaGreatDoor
namespace Go.Ren
open Go Go.Conc Go.ConcX Go.RowKit Go.Proofs Go.Loop Go.Proofs.YtlhimdjkkiflhaaGreatDoor
def c8 (f:Func):Code:=f.body.getD .skip
def c8a (f:Func):Code:=Ren.fstC (c8 f)
def c8b (f:Func):Code:=Ren.fstC (Ren.sndC (c8 f))
def c8c (f:Func):Code:=Ren.sndC (Ren.sndC (c8 f))
def o8 (f:Func):Array Oper:=Ren.opsC (Ren.fstC (c8c f))
def c8d (f:Func):Code:=Ren.sndC (c8c f)
theorem fz8:Tryz.prog.funcs[25]? =some Tryz.f25:=by kernel_rfl
theorem c8_eq:Tryz.f25.body=some (.seq (c8a Tryz.f25) (.seq (c8b Tryz.f25) (.seq (.region 3 (o8 Tryz.f25) false) (c8d Tryz.f25)))):=by kernel_rfl
theorem nt8:Tryz.f25.ntmps=40:=by kernel_rfl
theorem t40 (x y:Value):(#[x,y]++Array.replicate (40-#[x,y].size) undef:Array Value)=#[x,y,undef,undef,undef,undef,undef,undef,undef,undef,undef,undef,undef,undef,undef,undef,undef,undef,undef,undef,undef,undef,undef,undef,undef,undef,undef,undef,undef,undef,undef,undef,undef,undef,undef,undef,undef,undef,undef,undef]:=by
 generalize undef=u
 simp[Array.replicate,List.replicate]
theorem enter8 (x y:Value):Frame.enter Tryz.prog 25 #[x,y] .normal=(base 25).at ⟨#[x,y,undef,undef,undef,undef,undef,undef,undef,undef,undef,undef,undef,undef,undef,undef,undef,undef,undef,undef,undef,undef,undef,undef,undef,undef,undef,undef,undef,undef,undef,undef,undef,undef,undef,undef,undef,undef,undef,undef],[]⟩ [.code (.seq (c8a Tryz.f25) (.seq (c8b Tryz.f25) (.seq (.region 3 (o8 Tryz.f25) false) (c8d Tryz.f25))))]:=by
 rw[enter_at _ fz8 c8_eq,nt8,t40]
theorem ok8a:okCode Tryz.prog Fz Sz (c8a Tryz.f25)=true:=by kernel_rfl
theorem ok8b:okCode Tryz.prog Fz Sz (c8b Tryz.f25)=true:=by kernel_rfl
theorem ok8d:okCode Tryz.prog Fz Sz (c8d Tryz.f25)=true:=by kernel_rfl
def HeapB (w w':World):Prop:=w.heap.size≤w'.heap.size∧∀ r,r<w.heap.size→w'.heap[r]? =w.heap[r]?
theorem HeapB.trans {a b c:World}(h:HeapB a b)(k:HeapB b c):HeapB a c:=⟨Nat.le_trans h.1 k.1,fun r hr=>(k.2 r (Nat.lt_of_lt_of_le hr h.1)).trans (h.2 r hr)⟩
theorem HeapB.of {w w':World}(h:Below w.heap.size w w'):HeapB w w':=⟨h.size,h.block⟩
def ReadPost (s:List UInt8)(dp:Nat)(w:World)(v:Value)(w':World):Prop:=
 HeapB w w'∧((∃ b e at_,v= .tuple #[.agg #[.nilIface,.slice none 0 0,.int .i64 0],ptrV b]∧FaultAt w' b e at_∧readN s dp=some ([],at_,e))∨
  ∃ ty y nv svs nodes to_,v= .tuple #[.agg #[.iface ty y,nv,.int .i64 (to_:Nat)],.pointer none]∧NodesAt w' 0 nv svs nodes∧readN s dp=some (nodes,to_,0))
def GoodText (s:List UInt8)(dp:Nat):Prop:=∀ d s',rdDatum (gatherP (s.length+1) s 0) dp 2000 ⟨0,false,[]⟩ ⟨0,0,[]⟩= .ok d s'→goodB d d=true∧∃ k g,numN d 100000 d ⟨[],[]⟩=some (k,g)∧g.nodes.length≤999999
end Go.Ren
