import Derived.Test.YtlhimdjkkiflhaaGreatDoorDeep30
namespace Go.Ren
open Go Go.Conc Go.ConcX Go.RowKit Go.Proofs Go.Loop Go.Proofs.YtlhimdjkkiflhaaGreatDoor
abbrev Z33:Obj:= .cells #[.nilIface,.slice none 0 0,.int .i64 0] 60
theorem len8:(o8 Tryz.f25).size=11:=by kernel_rfl
theorem frozen3 {w1:World}{b:Nat}{x0 x1 x2:Value}{e:TypeId}(h:w1.heap[b]? =some (.cells #[x0,x1,x2] e)):
 (w1.frozen? ⟨b,0,none⟩=false∧w1.frozen? ⟨b,1,none⟩=false∧w1.frozen? ⟨b,2,none⟩=false):=by
 refine⟨?_,?_,?_⟩<;>simp[World.frozen?,h]
theorem CoReach.enter' {P:Program}{S:Sd}{Ψ:CoGoal}{b:Frame}{a:Act}{cs:List Frame}{w:World}{ops:Array Oper}{i:Nat}{rest:List Nat}{o:Oper}{kk:List Item}(ho:ops[i]? =some o)(hw:o.guard=none)(hk:b.kind≠ .early){f:FuncId}{xs:Array Operand}{ats:Array TypeId}(hop:o.op= .call { callee:= .value (.func f),args:=xs,argTypes:=ats })
 (hbd:(P.funcs[f]?).any (fun fn=>fn.body.isSome)=true)(hnm:(P.funcs[f]?).any (fun fn=>fn.name != "runtime.NumGoroutine")=true)(hx:xs.all (okX S)=true){args:Array Value}(hargs:xs.map a.eval=args)
 (h:CoReach P S Ψ (Frame.enter P f args .normal) (b.at a (.inRegion ops (i::rest)::kk)::cs) w):CoReach P S Ψ (b.at a (.inRegion ops (i::rest)::kk)) cs w:=by
 subst hargs
 exact CoReach.enter ho (by simp[Region.wanted,hw]) hk hop hbd hnm hx h
theorem CoReach.move' {P:Program}{F:FuncId→Bool}{S:Sd}{Ψ:CoGoal}{b:Frame}{a:Act}{cs:List Frame}{w:World}{ops:Array Oper}{i:Nat}{rest:List Nat}{o:Oper}{kk:List Item}(hC:Clo P F S)(ho:ops[i]? =some o)(hw:o.guard=none)(hk:b.kind≠ .early){t d:Tmp}(hop:o.op= .move (.tmp t))(hd:o.dst=some d){a':Act}(ha:a.put (some d) (a.eval (.tmp t))=a')
 (h:CoReach P S Ψ (b.at a' (.inRegion ops rest::kk)) cs w):CoReach P S Ψ (b.at a (.inRegion ops (i::rest)::kk)) cs w:=by
 subst ha
 refine CoReach.opv hC (by rw[hop];rfl) ho (by simp[Region.wanted,hw]) hk fun τ dd=>⟨a.eval (.tmp t),w.re τ dd,?_,?_⟩
 ·simp[execOp,hop]
 ·rw[hd];exact h.re rfl
theorem CoReach.gather' {Ψ:CoGoal}{cs:List Frame}{w:World}{b:Frame}{a:Act}{ops:Array Oper}{i:Nat}{rest:List Nat}{kk:List Item}{s:List UInt8}(hlen:s.length≤1000){d:Tmp}(hd:(ops[i]?).bind (·.dst)=some d){a':Value→Act}(ha:∀ v,a.put (some d) v=a' v)(h:∀ v w',Below w.heap.size w w'→w'.ownsRow w.heap.size 131 7 v (gatherP (s.length+1) s 0).length ((gatherP (s.length+1) s 0).flatMap tkCells)→
 CoReach Tryz.prog Sz Ψ (b.at (a' v) (.inRegion ops rest::kk)) cs w'):
 CoReach Tryz.prog Sz Ψ (Frame.enter Tryz.prog 43 #[.string ⟨⟨s⟩⟩] .normal) (b.at a (.inRegion ops (i::rest)::kk)::cs) w:=
 CoReach.gather hlen fun v w' h1 h2=>by rw[hd,ha];exact h v w' h1 h2
theorem set3_at {w:World}{b:Nat}{y0 y1 y2:Value}{e:TypeId}(h:w.heap[b]? =some (.cells #[y0,y1,y2] e))(x0 x1 x2:Value):(((w.setCell ⟨b,0,none⟩ x0).setCell ⟨b,1,none⟩ x1).setCell ⟨b,2,none⟩ x2).heap[b]? =some (.cells #[x0,x1,x2] e):=by
 have h1:=blk_set h 0 x0
 have h2:=blk_set h1 1 x1
 have h3:=blk_set h2 2 x2
 simpa using h3
theorem set3_ne {w:World}{b c:Nat}(h:c≠b)(x0 x1 x2:Value):(((w.setCell ⟨b,0,none⟩ x0).setCell ⟨b,1,none⟩ x1).setCell ⟨b,2,none⟩ x2).heap[c]? =w.heap[c]?:=
 (Below.heap_setCell _ _ _ _ h).trans ((Below.heap_setCell _ _ _ _ h).trans (Below.heap_setCell _ _ _ _ h))
theorem set3_size (w:World)(b:Nat)(x0 x1 x2:Value):(((w.setCell ⟨b,0,none⟩ x0).setCell ⟨b,1,none⟩ x1).setCell ⟨b,2,none⟩ x2).heap.size=w.heap.size:=by simp
theorem laid3 {w w3:World}(hb:HeapB w w3){y0 y1 y2:Value}{e:TypeId}(_h:w3.heap[w.heap.size]? =some (.cells #[y0,y1,y2] e))(x0 x1 x2:Value):HeapB w (((w3.setCell ⟨w.heap.size,0,none⟩ x0).setCell ⟨w.heap.size,1,none⟩ x1).setCell ⟨w.heap.size,2,none⟩ x2):=
 ⟨by rw[set3_size];exact hb.1,fun r hr=>(set3_ne (by omega) _ _ _).trans (hb.2 r hr)⟩
theorem laid3a {w w3:World}(hb:HeapB w w3){y0 y1 y2:Value}{e:TypeId}(h:w3.heap[w.heap.size]? =some (.cells #[y0,y1,y2] e))(x0 x1 x2:Value)(o:Obj):HeapB w ((((w3.setCell ⟨w.heap.size,0,none⟩ x0).setCell ⟨w.heap.size,1,none⟩ x1).setCell ⟨w.heap.size,2,none⟩ x2).alloc o)∧
 ((((w3.setCell ⟨w.heap.size,0,none⟩ x0).setCell ⟨w.heap.size,1,none⟩ x1).setCell ⟨w.heap.size,2,none⟩ x2).alloc o).heap[w.heap.size]? =some (.cells #[x0,x1,x2] e)∧((((w3.setCell ⟨w.heap.size,0,none⟩ x0).setCell ⟨w.heap.size,1,none⟩ x1).setCell ⟨w.heap.size,2,none⟩ x2).alloc o).heap[w3.heap.size]? =some o:=by
 have h1:=laid3 hb h x0 x1 x2
 have h2:=set3_at h x0 x1 x2
 have h3:=set3_size w3 w.heap.size x0 x1 x2
 generalize ((w3.setCell ⟨w.heap.size,0,none⟩ x0).setCell ⟨w.heap.size,1,none⟩ x1).setCell ⟨w.heap.size,2,none⟩ x2=w5 at *
 refine⟨h1.trans (HeapB.of ((Below.refl _ _).alloc (Nat.le_refl _) _)),(Lib.alloc_old _ _ _ (Array.getElem?_eq_some_iff.1 h2).1).trans h2,?_⟩
 rw[←h3]
 exact heap_alloc_new w5 o
theorem NodesAt.keep {w w':World}{lo lo':Nat}{nv:Value}{svs:List Value}{nodes:List Nd0}(h:NodesAt w lo nv svs nodes)(hl:lo'≤lo)(hw:∀ (b:Nat) c,w.heap[b]? =some (.cells c 45)∨w.heap[b]? =some (.cells c 3)→w'.heap[b]? =w.heap[b]?):NodesAt w' lo' nv svs nodes:=by
 refine⟨⟨h.1.1,h.1.2.imp id ?_⟩,h.2.1,fun j x sv hx hsv=>?_⟩
 ·rintro ⟨b,cp,cur,q1,q2,q3,q4⟩
  exact⟨b,cp,cur,q1,by omega,(hw b _ (.inl q3)).trans q3,q4⟩
 ·rcases h.2.2 j x sv hx hsv with q|⟨b,q1,q2,q3⟩
  ·exact .inl q
  ·exact .inr ⟨b,q1,by omega,(hw b _ (.inr q3)).trans q3⟩
theorem NodesAt.set3 {w:World}{lo:Nat}{nv:Value}{svs:List Value}{nodes:List Nd0}(h:NodesAt w lo nv svs nodes){b:Nat}{y0 y1 y2:Value}(hb:w.heap[b]? =some (.cells #[y0,y1,y2] 60))(x0 x1 x2:Value):NodesAt (((w.setCell ⟨b,0,none⟩ x0).setCell ⟨b,1,none⟩ x1).setCell ⟨b,2,none⟩ x2) 0 nv svs nodes:=
 Ren.NodesAt.keep h (Nat.zero_le _) fun c cc hc=>set3_ne (fun e=>by
  rw[e,hb] at hc
  rcases hc with hc|hc<;>simp at hc) _ _ _
theorem readN_long {s:List UInt8}{dp:Nat}(hdp:dp≤30)(h:400<s.length):readN s dp=some ([],0,2):=by
 unfold readN
 rw[if_neg (by omega),if_pos h]
theorem readN_short {s:List UInt8}{dp:Nat}(hdp:dp≤30)(h:¬ 400<s.length):readN s dp=match rdDatum (gatherP (s.length+1) s 0) dp 2000 ⟨0,false,[]⟩ ⟨0,0,[]⟩ with
 | .out=>none
 | .fail e a=>some ([],a,e)
 | .ok d s'=>(numN d 100000 d ⟨[],[]⟩).map fun g=>if 150<g.2.nodes.length then([],0,2) else(g.2.nodes,(((gatherP (s.length+1) s 0)[s'.k-1]?).map (·.to_)).getD 0,0):=by
 unfold readN
 rw[if_neg (by omega),if_neg h,Int.toNat_natCast]
 cases rdDatum (gatherP (s.length+1) s 0) dp 2000 ⟨0,false,[]⟩ ⟨0,0,[]⟩<;>rfl
def op8 (f:Func)(i:Nat):Oper:=(o8 f)[i]!
theorem at8_0:(o8 Tryz.f25)[0]? =some (op8 Tryz.f25 0):=by kernel_rfl
theorem at8_1:(o8 Tryz.f25)[1]? =some (op8 Tryz.f25 1):=by kernel_rfl
theorem op8_0:(op8 Tryz.f25 0).op= .move (.tmp 0):=by kernel_rfl
theorem op8_1:(op8 Tryz.f25 1).op= .call { callee:= .value (.func 43),args:=#[.tmp 17],argTypes:=#[9] }:=by kernel_rfl
theorem gd8_0:(op8 Tryz.f25 0).guard=none:=by kernel_rfl
theorem gd8_1:(op8 Tryz.f25 1).guard=none:=by kernel_rfl
theorem ds8_0:(op8 Tryz.f25 0).dst=some 17:=by kernel_rfl
theorem ds8_1:((o8 Tryz.f25)[1]?).bind (·.dst)=some 18:=by kernel_rfl
theorem ok8r:([2,3,4,5,6,7,8,9,10].all fun i=>((o8 Tryz.f25)[i]?).all fun o=>okOp Tryz.prog Fz Sz o.op)=true:=by kernel_rfl
theorem bd13:(Tryz.prog.funcs[43]?).any (fun fn=>fn.body.isSome)=true:=by kernel_rfl
theorem nm13:(Tryz.prog.funcs[43]?).any (fun fn=>fn.name != "runtime.NumGoroutine")=true:=by kernel_rfl
theorem res8:Tryz.f25.results=#[.cell 4 60,.tmp 5]:=by kernel_rfl
set_option maxRecDepth 10000 in
theorem run_res8 {W:World}{R:Nat}{x0 x1 x2 fv:Value}{tmps:Array Value}(h4:tmps.getD 4 undef= .pointer (some ⟨R,0,none⟩))(h5:tmps.getD 5 undef=fv)(h:W.heap[R]? =some (.cells #[x0,x1,x2] 60)):(results Tryz.f25 tmps).run Tryz.prog W= .ok (.tuple #[.agg #[x0,x1,x2],fv]) W:=by
 rw[results_cell_tmp res8,h4,h5]
 obtain⟨z0,z1,z2⟩:=cells3 h
 have h1:(loadVar 60 ⟨R,0,none⟩).run Tryz.prog W= .ok (.agg #[x0,x1,x2]) W:=by
  go_simp
 simp[asAddr,h1]
section
variable {Ψ:CoGoal} {cs:List Frame} {w:World} {b:Frame} {a:Act} {ops:Array Oper} {i:Nat} {rest:List Nat} {kk:List Item}
set_option maxRecDepth 100000 in
set_option maxHeartbeats 4000000 in
theorem CoReach.read {s:List UInt8}{dp:Nat}(hdp:dp≤30)(hgood:GoodText s dp)(h:∀ v w',ReadPost s dp w v w'→CoReach Tryz.prog Sz Ψ (b.at (a.put ((ops[i]?).bind (·.dst)) v) (.inRegion ops rest::kk)) cs w'):
 CoReach Tryz.prog Sz Ψ (Frame.enter Tryz.prog 25 #[.string ⟨⟨s⟩⟩,.int .i64 dp] .normal) (b.at a (.inRegion ops (i::rest)::kk)::cs) w:=by
 have HH:Hid _:=h
 have HGD:Hid _:=hgood
 clear h hgood
 rw[enter8]
 refine CoReach.seq ?_
 refine CoReach.code cloz ok8a rfl ⟨_,fz8⟩ rfl fun τ d=>?_
 have hw:(w.re τ d).heap=w.heap:=rfl
 generalize w.re τ d=w1 at *
 generalize hkk:([.code (.seq (c8b Tryz.f25) (.seq (.region 3 (o8 Tryz.f25) false) (c8d Tryz.f25)))]:List Item)=kq
 dsimp only[c8a,c8,Ren.fstC,Tryz.f25,Option.getD]
 go_wp2_with fail
 subst hkk
 show CoReach _ _ _ _ _ _
 have HB2:Hid (HeapB w (w1.alloc Z33)):=⟨by rw[←hw];simp,fun r hr=>by rw[←hw] at hr ⊢;exact Lib.alloc_old _ _ _ hr⟩
 have hR2:(w1.alloc Z33).heap[w.heap.size]? =some Z33:=by rw[←hw];exact heap_alloc_new w1 _
 generalize hw2:w1.alloc Z33=w2 at *
 clear hw2 hw
 refine CoReach.seq ?_
 by_cases hlong:400<s.length
 ·refine CoReach.code cloz ok8b rfl ⟨_,fz8⟩ rfl fun τ d=>?_
  have hw:(w2.re τ d).heap=w2.heap:=rfl
  generalize w2.re τ d=w3 at *
  have hR3:w3.heap[w.heap.size]? =some Z33:=by rw[hw];exact hR2
  obtain⟨z0,z1,z2⟩:=cells3 hR3
  obtain⟨f0,f1,f2⟩:=frozen3 hR3
  have e2:w.heap.size<w3.heap.size:=(Array.getElem?_eq_some_iff.1 hR3).1
  have e1:¬ w.heap.size=w3.heap.size:=by omega
  have HW:Hid _:=hw
  have HR3:Hid _:=hR3
  clear hw hR3 hR2
  have hlI:(400:Int)<(s.length:Int):=by omega
  generalize hkk:([.code (.seq (.region 3 (o8 Tryz.f25) false) (c8d Tryz.f25))]:List Item)=kq
  dsimp only[c8b,c8,Ren.fstC,Ren.sndC,Tryz.f25,Option.getD]
  go_wp2_with fail
  show ∀ todo,CoReach _ _ _ _ _ _
  intro todo
  have hb3:HeapB w w3:=⟨by rw[HW.out];exact HB2.out.1,fun r hr=>by rw[HW.out];exact HB2.out.2 r hr⟩
  obtain⟨q1,q2,q3⟩:=laid3a hb3 HR3.out .nilIface (.slice none 0 0) (.int .i64 0) (.cells #[.int .i64 2,.int .i64 0] 65)
  refine CoReach.leaveM cloz rfl rfl fz8 (run_res8 rfl rfl q2) ?_
  exact HH.out _ _ ⟨q1,.inl ⟨w3.heap.size,2,0,rfl,q3,readN_long hdp hlong⟩⟩
 ·refine CoReach.code cloz ok8b rfl ⟨_,fz8⟩ rfl fun τ d=>?_
  have hw:(w2.re τ d).heap=w2.heap:=rfl
  generalize w2.re τ d=w3 at *
  have hlI:¬ ((400:Int)<(s.length:Int)):=by omega
  generalize hkk:([.code (.seq (.region 3 (o8 Tryz.f25) false) (c8d Tryz.f25))]:List Item)=kq
  dsimp only[c8b,c8,Ren.fstC,Ren.sndC,Tryz.f25,Option.getD]
  go_wp2_with fail
  subst hkk
  show CoReach _ _ _ _ _ _
  have HB3:Hid (HeapB w w3):=⟨by rw[hw];exact HB2.out.1,fun r hr=>by rw[hw];exact HB2.out.2 r hr⟩
  have hR3:w3.heap[w.heap.size]? =some Z33:=by rw[hw];exact hR2
  clear hw HB2 hR2 hlI
  refine CoReach.seq ?_
  refine CoReach.region ?_
  rw[len8,show List.range 11=[0,1,2,3,4,5,6,7,8,9,10] from rfl]
  refine CoReach.move' cloz at8_0 gd8_0 (by decide) op8_0 ds8_0 (a':=⟨#[.string ⟨⟨s⟩⟩,.int .i64 dp,undef,undef,.pointer (some ⟨w.heap.size,0,none⟩),.pointer none,undef,undef,undef,undef,.string ⟨⟨s⟩⟩,.int .i64 s.length,.bool false,undef,undef,undef,undef,.string ⟨⟨s⟩⟩,undef,undef,undef,undef,undef,undef,undef,undef,undef,undef,undef,undef,undef,undef,undef,undef,undef,undef,undef,undef,undef,undef],[]⟩) (by simp[Act.eval,Act.put]) ?_
  refine CoReach.enter' (f:=43) (xs:=#[.tmp 17]) (ats:=#[9]) (args:=#[.string ⟨⟨s⟩⟩]) at8_1 gd8_1 (by decide) op8_1 bd13 nm13 (by simp[okX]) (by simp[Act.eval]) ?_
  refine CoReach.gather' (by omega) ds8_1 (a':=fun v=>⟨#[.string ⟨⟨s⟩⟩,.int .i64 dp,undef,undef,.pointer (some ⟨w.heap.size,0,none⟩),.pointer none,undef,undef,undef,undef,.string ⟨⟨s⟩⟩,.int .i64 s.length,.bool false,undef,undef,undef,undef,.string ⟨⟨s⟩⟩,v,undef,undef,undef,undef,undef,undef,undef,undef,undef,undef,undef,undef,undef,undef,undef,undef,undef,undef,undef,undef,undef],[]⟩) (fun v=>by simp[Act.put]) fun v w4 hb4 hrow=>?_
  have hlen:=gather_le (s.length+1) s 0
  obtain⟨hT0,hT⟩:=gather_last (s.length+1) s 0 (Nat.zero_le _) (by omega)
  obtain⟨g,cap,rfl⟩:∃ g cap,v= .slice (some ⟨g,0,none⟩) (gatherP (s.length+1) s 0).length cap:=by
   rcases hrow.2 with⟨_,h0⟩|⟨g,cap,cur,e,_⟩
   ·exact absurd (List.eq_nil_of_length_eq_zero h0) hT0
   ·exact⟨g,cap,e⟩
  refine CoReach.ops cloz rfl ⟨_,fz8⟩ rfl ok8r 2 ((o8 Tryz.f25).toList.drop 2) (by rw[List.length_drop,Array.length_toList,len8];rfl) (fun j=>by rw[List.getElem?_drop,Array.getElem?_toList]) fun τ' d'=>?_
  have HB4:Hid (HeapB w w4):=HB3.out.trans ⟨hb4.size,hb4.block⟩
  have hR4:w4.heap[w.heap.size]? =some Z33:=(hb4.block _ (Array.getElem?_eq_some_iff.1 hR3).1).trans hR3
  have hw:(w4.re τ' d').heap=w4.heap:=rfl
  have HROW:Hid ((w4.re τ' d').ownsRow 0 131 7 (.slice (some ⟨g,0,none⟩) (gatherP (s.length+1) s 0).length cap) (gatherP (s.length+1) s 0).length ((gatherP (s.length+1) s 0).flatMap tkCells)):=ownsRow_from (w:=w4) hrow (Nat.zero_le _) fun _ _ _=>rfl
  generalize w4.re τ' d'=w5 at *
  have hfu:=(fuel (gatherP (s.length+1) s 0) dp hT 2000).datum ⟨0,false,[]⟩ ⟨0,0,[]⟩ (List.length_pos_iff.2 hT0) (by show 2*((gatherP (s.length+1) s 0).length - 0)+2≤2000;omega)
  have HC:Hid _:=read_calls (gatherP (s.length+1) s 0) dp g cap w5 hdp hT hT0 (by omega) HROW.out
  clear hrow hb4 HB3 hR3 HROW hT hT0
  have HW5:Hid _:=hw
  clear hw
  generalize hkk:([.code (c8d Tryz.f25)]:List Item)=kq
  dsimp only[o8,c8c,c8,Ren.opsC,Ren.fstC,Ren.sndC,Tryz.f25,Option.getD]
  simp only[List.drop_succ_cons,List.drop_zero]
  go_wp2_with fail
  refine Calls.mono HC.out ?_
  clear HC
  rintro e w6 ⟨hb6,hpost⟩
  have HB6:Hid (HeapB w w6):=HB4.out.trans (HeapB.trans ⟨by rw[HW5.out];exact Nat.le_refl _,fun r _=>by rw[HW5.out]⟩ (HeapB.of hb6))
  have hR6:w6.heap[w.heap.size]? =some Z33:=(hb6.block _ (by rw[HW5.out];exact(Array.getElem?_eq_some_iff.1 hR4).1)).trans (by rw[HW5.out];exact hR4)
  have HR6:Hid _:=hR6
  clear hb6 HB4 HW5 hR4
  cases hrd:rdDatum (gatherP (s.length+1) s 0) dp 2000 ⟨0,false,[]⟩ ⟨0,0,[]⟩ with
  |out=>rw[hrd] at hfu;exact hfu.elim
  |fail er at_=>
   rw[hrd] at hpost
   obtain⟨fb,rfl,hfault⟩:=hpost
   have HF:Hid _:=hfault
   have HRN:Hid (readN s dp=some ([],at_,er)):=by show _=_;rw[readN_short hdp hlong,hrd]
   clear hfault hfu hrd hR6
   unfold ptrV
   go_wp2_with fail
   subst hkk
   show CoReach _ _ _ _ _ _
   refine CoReach.code cloz ok8d rfl ⟨_,fz8⟩ rfl fun τ d=>?_
   have hw:(w6.re τ d).heap=w6.heap:=rfl
   generalize w6.re τ d=w7 at *
   have hR7:w7.heap[w.heap.size]? =some Z33:=by rw[hw];exact HR6.out
   obtain⟨z0,z1,z2⟩:=cells3 hR7
   obtain⟨f0,f1,f2⟩:=frozen3 hR7
   have HW:Hid _:=hw
   have HR7:Hid _:=hR7
   clear hw hR7
   dsimp only[c8d,c8c,c8,Ren.fstC,Ren.sndC,Tryz.f25,Option.getD]
   go_wp2_with fail
   show ∀ todo,CoReach _ _ _ _ _ _
   intro todo
   have hb7:HeapB w w7:=⟨by rw[HW.out];exact HB6.out.1,fun r hr=>by rw[HW.out];exact HB6.out.2 r hr⟩
   have q1:=laid3 hb7 HR7.out .nilIface (.slice none 0 0) (.int .i64 0)
   have q2:=set3_at HR7.out .nilIface (.slice none 0 0) (.int .i64 0)
   have q3:FaultAt (((w7.setCell ⟨w.heap.size,0,none⟩ .nilIface).setCell ⟨w.heap.size,1,none⟩ (.slice none 0 0)).setCell ⟨w.heap.size,2,none⟩ (.int .i64 0)) fb er at_:=by
    have hf:w6.heap[fb]? =_:=HF.out
    refine(set3_ne (fun e=>?_) _ _ _).trans (by rw[HW.out];exact hf)
    rw[e,HR6.out] at hf
    simp at hf
   refine CoReach.leaveM cloz rfl rfl fz8 (run_res8 rfl rfl q2) ?_
   exact HH.out _ _ ⟨q1,.inl ⟨fb,er,at_,rfl,q3,HRN.out⟩⟩
  |ok d0 s'=>
   rw[hrd] at hpost
   obtain⟨v,E',t,ht,rfl,⟨ty,y,rfl⟩,hdat,hinj,-⟩:=hpost
   obtain⟨hgd,k0,g0,hnum,hgl⟩:=HGD.out d0 s' hrd
   have HRN:Hid (readN s dp=if 150<g0.nodes.length then some ([],0,2) else some (g0.nodes,t.to_,0)):=by
    show _=_
    rw[readN_short hdp hlong,hrd]
    simp only[hnum,Option.map_some,ht,Option.getD_some]
    split<;>rfl
   have HD:Hid _:=hdat
   have HI:Hid _:=hinj
   have HGB:Hid _:=hgd
   have HNM:Hid _:=hnum
   clear hdat hinj hgd hnum hfu hrd hR6 ht
   go_wp2_with fail
   subst hkk
   show CoReach _ _ _ _ _ _
   refine CoReach.code cloz ok8d rfl ⟨_,fz8⟩ rfl fun τ d=>?_
   have hw:(w6.re τ d).heap=w6.heap:=rfl
   generalize w6.re τ d=w7 at *
   have HGC:Hid _:=graph_calls w7 d0 (.iface ty y) (Dat.keep (w:=w6) (w':=w7) (Nat.le_refl _) (Nat.le_refl _) (fun _ h=>h) (fun b _ _=>by rw[hw]) ⟨fun _ _=>rfl,fun _ _=>rfl⟩ d0 _ HD.out) HGB.out HI.out 100000 k0 g0 HNM.out hgl
   have HB7:Hid (HeapB w w7):=⟨by rw[hw];exact HB6.out.1,fun r hr=>by rw[hw];exact HB6.out.2 r hr⟩
   have HR7:Hid (w7.heap[w.heap.size]? =some Z33):=by show _=_;rw[hw];exact HR6.out
   clear hw HD HI HGB HNM HB6 HR6
   dsimp only[c8d,c8c,c8,Ren.fstC,Ren.sndC,Tryz.f25,Option.getD]
   go_wp2_with fail
   refine Calls.mono HGC.out ?_
   clear HGC
   rintro e w8 ⟨nv,svs,rfl,hnodes,hb8⟩
   obtain⟨na,nc,rfl⟩:=ownsRow_slice hnodes.1
   have hR8:w8.heap[w.heap.size]? =some Z33:=(hb8.block _ (Array.getElem?_eq_some_iff.1 HR7.out).1).trans HR7.out
   have HB8:Hid (HeapB w w8):=HB7.out.trans (HeapB.of hb8)
   have HN8:Hid _:=hnodes
   have HR8:Hid _:=hR8
   obtain⟨z0,z1,z2⟩:=cells3 hR8
   obtain⟨f0,f1,f2⟩:=frozen3 hR8
   have e2:w.heap.size<w8.heap.size:=(Array.getElem?_eq_some_iff.1 hR8).1
   have e1:¬ w.heap.size=w8.heap.size:=by omega
   clear hb8 hnodes hR8 HB7 HR7
   by_cases hmany:150<g0.nodes.length
   ·have hmI:(150:Int)<(g0.nodes.length:Int):=by omega
    go_wp2_with fail
    show ∀ todo,CoReach _ _ _ _ _ _
    intro todo
    obtain⟨q1,q2,q3⟩:=laid3a HB8.out HR8.out .nilIface (.slice none 0 0) (.int .i64 0) (.cells #[.int .i64 2,.int .i64 0] 65)
    refine CoReach.leaveM cloz rfl rfl fz8 (run_res8 rfl rfl q2) ?_
    exact HH.out _ _ ⟨q1,.inl ⟨w8.heap.size,2,0,rfl,q3,by rw[HRN.out,if_pos hmany]⟩⟩
   ·have hmI:¬ ((150:Int)<(g0.nodes.length:Int)):=by omega
    go_wp2_with fail
    show ∀ todo,CoReach _ _ _ _ _ _
    intro todo
    have q1:=laid3 HB8.out HR8.out (.iface ty y) (.slice na g0.nodes.length nc) (.int .i64 t.to_)
    have q2:=set3_at HR8.out (.iface ty y) (.slice na g0.nodes.length nc) (.int .i64 t.to_)
    have q3:=NodesAt.set3 HN8.out HR8.out (.iface ty y) (.slice na g0.nodes.length nc) (.int .i64 t.to_)
    refine CoReach.leaveM cloz rfl rfl fz8 (run_res8 rfl rfl q2) ?_
    exact HH.out _ _ ⟨q1,.inr ⟨ty,y,.slice na g0.nodes.length nc,svs,g0.nodes,t.to_,rfl,q3,by rw[HRN.out,if_neg hmany]⟩⟩
end
def c5 (f:Func):Code:=f.body.getD .skip
def c5a (f:Func):Code:=Ren.fstC (c5 f)
def c5b (f:Func):Code:=Ren.fstC (Ren.sndC (c5 f))
def c5c (f:Func):Code:=Ren.sndC (Ren.sndC (c5 f))
def o5 (f:Func):Array Oper:=Ren.opsC (Ren.fstC (c5c f))
def c5d (f:Func):Code:=Ren.sndC (c5c f)
theorem fz5:Tryz.prog.funcs[18]? =some Tryz.f18:=by kernel_rfl
theorem c5_eq:Tryz.f18.body=some (.seq (c5a Tryz.f18) (.seq (c5b Tryz.f18) (.seq (.region 3 (o5 Tryz.f18) false) (c5d Tryz.f18)))):=by kernel_rfl
theorem nt5:Tryz.f18.ntmps=35:=by kernel_rfl
theorem t35 (x y:Value):(#[x,y]++Array.replicate (35-#[x,y].size) undef:Array Value)=#[x,y,undef,undef,undef,undef,undef,undef,undef,undef,undef,undef,undef,undef,undef,undef,undef,undef,undef,undef,undef,undef,undef,undef,undef,undef,undef,undef,undef,undef,undef,undef,undef,undef,undef]:=by
 generalize undef=u
 simp[Array.replicate,List.replicate]
theorem enter5 (x y:Value):Frame.enter Tryz.prog 18 #[x,y] .normal=(base 18).at ⟨#[x,y,undef,undef,undef,undef,undef,undef,undef,undef,undef,undef,undef,undef,undef,undef,undef,undef,undef,undef,undef,undef,undef,undef,undef,undef,undef,undef,undef,undef,undef,undef,undef,undef,undef],[]⟩ [.code (.seq (c5a Tryz.f18) (.seq (c5b Tryz.f18) (.seq (.region 3 (o5 Tryz.f18) false) (c5d Tryz.f18))))]:=by
 rw[enter_at _ fz5 c5_eq,nt5,t35]
theorem ok5a:okCode Tryz.prog Fz Sz (c5a Tryz.f18)=true:=by kernel_rfl
theorem ok5b:okCode Tryz.prog Fz Sz (c5b Tryz.f18)=true:=by kernel_rfl
theorem ok5d:okCode Tryz.prog Fz Sz (c5d Tryz.f18)=true:=by kernel_rfl
theorem len5:(o5 Tryz.f18).size=9:=by kernel_rfl
def op5 (f:Func)(i:Nat):Oper:=(o5 f)[i]!
theorem at5_0:(o5 Tryz.f18)[0]? =some (op5 Tryz.f18 0):=by kernel_rfl
theorem at5_1:(o5 Tryz.f18)[1]? =some (op5 Tryz.f18 1):=by kernel_rfl
theorem at5_2:(o5 Tryz.f18)[2]? =some (op5 Tryz.f18 2):=by kernel_rfl
theorem op5_0:(op5 Tryz.f18 0).op= .move (.tmp 0):=by kernel_rfl
theorem op5_1:(op5 Tryz.f18 1).op= .move (.tmp 1):=by kernel_rfl
theorem op5_2:(op5 Tryz.f18 2).op= .call { callee:= .value (.func 25),args:=#[.tmp 16,.tmp 17],argTypes:=#[9,3] }:=by kernel_rfl
theorem gd5_0:(op5 Tryz.f18 0).guard=none:=by kernel_rfl
theorem gd5_1:(op5 Tryz.f18 1).guard=none:=by kernel_rfl
theorem gd5_2:(op5 Tryz.f18 2).guard=none:=by kernel_rfl
theorem ds5_0:(op5 Tryz.f18 0).dst=some 16:=by kernel_rfl
theorem ds5_1:(op5 Tryz.f18 1).dst=some 17:=by kernel_rfl
theorem ds5_2:((o5 Tryz.f18)[2]?).bind (·.dst)=some 18:=by kernel_rfl
theorem ok5r:([3,4,5,6,7,8].all fun i=>((o5 Tryz.f18)[i]?).all fun o=>okOp Tryz.prog Fz Sz o.op)=true:=by kernel_rfl
theorem bd8:(Tryz.prog.funcs[25]?).any (fun fn=>fn.body.isSome)=true:=by kernel_rfl
theorem nm8:(Tryz.prog.funcs[25]?).any (fun fn=>fn.name != "runtime.NumGoroutine")=true:=by kernel_rfl
theorem res5:Tryz.f18.results=#[.tmp 4,.tmp 5,.tmp 6]:=by kernel_rfl
def TopPost (s:List UInt8)(dep:Int)(w:World)(v:Value)(w':World):Prop:=
 HeapB w w'∧∃ nodes at_ e nv svs,readN s dep=some (nodes,at_,e)∧v= .tuple #[nv,.int .i64 (at_:Nat),.int .i64 e]∧NodesAt w' 0 nv svs nodes
theorem CoReach.read' {Ψ:CoGoal}{cs:List Frame}{w:World}{b:Frame}{a:Act}{ops:Array Oper}{i:Nat}{rest:List Nat}{kk:List Item}{s:List UInt8}{dp:Nat}(hdp:dp≤30)(hgood:GoodText s dp){d:Tmp}(hd:(ops[i]?).bind (·.dst)=some d){a':Value→Act}(ha:∀ v,a.put (some d) v=a' v)(h:∀ v w',ReadPost s dp w v w'→CoReach Tryz.prog Sz Ψ (b.at (a' v) (.inRegion ops rest::kk)) cs w'):
 CoReach Tryz.prog Sz Ψ (Frame.enter Tryz.prog 25 #[.string ⟨⟨s⟩⟩,.int .i64 dp] .normal) (b.at a (.inRegion ops (i::rest)::kk)::cs) w:=
 CoReach.read hdp hgood fun v w' h1=>by rw[hd,ha];exact h v w' h1
theorem NodesAt.nil (w:World):NodesAt w 0 (.slice none 0 0) [] []:=⟨World.ownsRow_nil _ _ _ _,rfl,fun j x sv h=>by simp at h⟩
theorem HeapB.heap {w w' w'':World}(h:HeapB w w')(e:w''.heap=w'.heap):HeapB w w'':=⟨by rw[e];exact h.1,fun r hr=>by rw[e];exact h.2 r hr⟩
theorem NodesAt.heap {w w':World}{lo:Nat}{nv:Value}{svs:List Value}{nodes:List Nd0}(h:NodesAt w lo nv svs nodes)(e:w'.heap=w.heap):NodesAt w' lo nv svs nodes:=Ren.NodesAt.keep h (Nat.le_refl _) fun b c _=>by rw[e]
section
variable {Ψ:CoGoal} {cs:List Frame} {w:World} {b:Frame} {a:Act} {ops:Array Oper} {i:Nat} {rest:List Nat} {kk:List Item}
set_option maxRecDepth 100000 in
set_option maxHeartbeats 4000000 in
theorem CoReach.top {s:List UInt8}{dep:Int}(hgood:∀ dp:Nat,dep=dp→dp≤30→GoodText s dp)(h:∀ v w',TopPost s dep w v w'→CoReach Tryz.prog Sz Ψ (b.at (a.put ((ops[i]?).bind (·.dst)) v) (.inRegion ops rest::kk)) cs w'):
 CoReach Tryz.prog Sz Ψ (Frame.enter Tryz.prog 18 #[.string ⟨⟨s⟩⟩,.int .i64 dep] .normal) (b.at a (.inRegion ops (i::rest)::kk)::cs) w:=by
 have mixed:Tryz.prog.follows Departure.mixedOrders=true:=by kernel_rfl
 have HH:Hid _:=h
 have HGD:Hid _:=hgood
 clear h hgood
 rw[enter5]
 refine CoReach.seq ?_
 refine CoReach.code cloz ok5a rfl ⟨_,fz5⟩ rfl fun τ d=>?_
 have HB1:Hid (HeapB w (w.re τ d)):=⟨Nat.le_refl _,fun _ _=>rfl⟩
 generalize w.re τ d=w1 at *
 generalize hkk:([.code (.seq (c5b Tryz.f18) (.seq (.region 3 (o5 Tryz.f18) false) (c5d Tryz.f18)))]:List Item)=kq
 dsimp only[c5a,c5,Ren.fstC,Tryz.f18,Option.getD]
 go_wp2_with fail
 subst hkk
 show CoReach _ _ _ _ _ _
 refine CoReach.seq ?_
 by_cases hbad:dep<0∨30<dep
 ·refine CoReach.code cloz ok5b rfl ⟨_,fz5⟩ rfl fun τ d=>?_
  have HB2:Hid (HeapB w (w1.re τ d)):=HeapB.heap HB1.out rfl
  generalize w1.re τ d=w2 at *
  generalize hkk:([.code (.seq (.region 3 (o5 Tryz.f18) false) (c5d Tryz.f18))]:List Item)=kq
  dsimp only[c5b,c5,Ren.fstC,Ren.sndC,Tryz.f18,Option.getD]
  have HRN:Hid (readN s dep=some ([],0,1)):=by show _=_;unfold readN;rw[if_pos hbad]
  have fin:∀ (tm:Array Value) (todo:List Item),tm.getD 4 undef= .slice none 0 0→tm.getD 5 undef= .int .i64 0→tm.getD 6 undef= .int .i64 1→CoReach Tryz.prog Sz Ψ (outFr (base 18) ⟨tm,[]⟩ todo) (b.at a (.inRegion ops (i::rest)::kk)::cs) w2:=fun tm todo h4 h5 h6=>by
   refine CoReach.leaveM cloz rfl rfl fz5 ((results_tmp3 res5 _ _ _).trans (by rw[h4,h5,h6])) ?_
   exact HH.out _ _ ⟨HB2.out,[],0,1,_,[],HRN.out,rfl,Ren.NodesAt.nil _⟩
  have HFIN:Hid _:=fin
  clear fin
  by_cases hneg:dep<0
  ·go_wp2_with fail
   show ∀ todo,CoReach _ _ _ _ _ _
   exact fun todo=>HFIN.out _ todo rfl rfl rfl
  ·have h30:30<dep:=hbad.resolve_left hneg
   go_wp2_with fail
   show ∀ todo,CoReach _ _ _ _ _ _
   exact fun todo=>HFIN.out _ todo rfl rfl rfl
 ·obtain⟨dp,rfl⟩:∃ dp:Nat,dep=dp:=⟨dep.toNat,by omega⟩
  have hdp:dp≤30:=by omega
  refine CoReach.code cloz ok5b rfl ⟨_,fz5⟩ rfl fun τ d=>?_
  have HB2:Hid (HeapB w (w1.re τ d)):=HeapB.heap HB1.out rfl
  generalize w1.re τ d=w2 at *
  generalize hkk:([.code (.seq (.region 3 (o5 Tryz.f18) false) (c5d Tryz.f18))]:List Item)=kq
  dsimp only[c5b,c5,Ren.fstC,Ren.sndC,Tryz.f18,Option.getD]
  have hn:¬ ((dp:Int)<0):=by omega
  have hn2:¬ ((30:Int)<(dp:Int)):=by omega
  go_wp2_with fail
  subst hkk
  show CoReach _ _ _ _ _ _
  clear HB1 hn hn2 hbad
  refine CoReach.seq ?_
  refine CoReach.region ?_
  rw[len5,show List.range 9=[0,1,2,3,4,5,6,7,8] from rfl]
  refine CoReach.move' cloz at5_0 gd5_0 (by decide) op5_0 ds5_0 (a':=⟨#[.string ⟨⟨s⟩⟩,.int .i64 dp,undef,undef,.slice none 0 0,.int .i64 0,.int .i64 0,undef,undef,.int .i64 dp,.bool false,.bool false,.int .i64 dp,.bool false,.bool false,undef,.string ⟨⟨s⟩⟩,undef,undef,undef,undef,undef,undef,undef,undef,undef,undef,undef,undef,undef,undef,undef,undef,undef,undef],[]⟩) (by simp[Act.eval,Act.put]) ?_
  refine CoReach.move' cloz at5_1 gd5_1 (by decide) op5_1 ds5_1 (a':=⟨#[.string ⟨⟨s⟩⟩,.int .i64 dp,undef,undef,.slice none 0 0,.int .i64 0,.int .i64 0,undef,undef,.int .i64 dp,.bool false,.bool false,.int .i64 dp,.bool false,.bool false,undef,.string ⟨⟨s⟩⟩,.int .i64 dp,undef,undef,undef,undef,undef,undef,undef,undef,undef,undef,undef,undef,undef,undef,undef,undef,undef],[]⟩) (by simp[Act.eval,Act.put]) ?_
  refine CoReach.enter' (f:=25) (xs:=#[.tmp 16,.tmp 17]) (ats:=#[9,3]) (args:=#[.string ⟨⟨s⟩⟩,.int .i64 dp]) at5_2 gd5_2 (by decide) op5_2 bd8 nm8 (by simp[okX]) (by simp[Act.eval]) ?_
  refine CoReach.read' hdp (HGD.out dp rfl hdp) ds5_2 (a':=fun v=>⟨#[.string ⟨⟨s⟩⟩,.int .i64 dp,undef,undef,.slice none 0 0,.int .i64 0,.int .i64 0,undef,undef,.int .i64 dp,.bool false,.bool false,.int .i64 dp,.bool false,.bool false,undef,.string ⟨⟨s⟩⟩,.int .i64 dp,v,undef,undef,undef,undef,undef,undef,undef,undef,undef,undef,undef,undef,undef,undef,undef,undef],[]⟩) (fun v=>by simp[Act.put]) fun v w4 hpost=>?_
  clear HGD
  refine CoReach.ops cloz rfl ⟨_,fz5⟩ rfl ok5r 3 ((o5 Tryz.f18).toList.drop 3) (by rw[List.length_drop,Array.length_toList,len5];rfl) (fun j=>by rw[List.getElem?_drop,Array.getElem?_toList]) fun τ' d'=>?_
  have hw:(w4.re τ' d').heap=w4.heap:=rfl
  generalize w4.re τ' d'=w5 at *
  have HB5:Hid (HeapB w w5):=HeapB.heap (HB2.out.trans hpost.1) hw
  have HW5:Hid _:=hw
  clear hw HB2
  obtain⟨-,⟨fb,e,at_,rfl,hf,hrn⟩|⟨ty,y,nv,svs,nodes,to_,rfl,hnodes,hrn⟩⟩:=hpost
  ·have HF:Hid (FaultAt w5 fb e at_):=by show w5.heap[fb]? =_;rw[HW5.out];exact hf
   have HRN:Hid _:=hrn
   clear hf hrn HW5
   generalize hkk:([.code (c5d Tryz.f18)]:List Item)=kq
   dsimp only[o5,c5c,c5,Ren.opsC,Ren.fstC,Ren.sndC,Tryz.f18,Option.getD]
   simp only[List.drop_succ_cons,List.drop_zero]
   unfold ptrV
   go_wp2_with fail
   subst hkk
   show CoReach _ _ _ _ _ _
   have HB6:Hid (HeapB w (w5.alloc Z33)):=HB5.out.trans (HeapB.of ((Below.refl _ _).alloc (Nat.le_refl _) _))
   have HF6:Hid (FaultAt (w5.alloc Z33) fb e at_):=FaultAt.alloc HF.out _
   generalize w5.alloc Z33=w6 at *
   refine CoReach.code cloz ok5d rfl ⟨_,fz5⟩ rfl fun τ d=>?_
   have HB7:Hid (HeapB w (w6.re τ d)):=HeapB.heap HB6.out rfl
   have HF7:Hid (FaultAt (w6.re τ d) fb e at_):=HF6.out
   generalize w6.re τ d=w7 at *
   obtain⟨y0,y1⟩:w7.cell? ⟨fb,0,none⟩=some (.int .i64 e)∧w7.cell? ⟨fb,1,none⟩=some (.int .i64 at_):=by
    have hf:w7.heap[fb]? =_:=HF7.out
    constructor<;>simp[World.cell?,hf]
   clear HB6 HF6 HF HB5
   dsimp only[c5d,c5c,c5,Ren.fstC,Ren.sndC,Tryz.f18,Option.getD]
   go_wp2_with fail
   go_region
   go_wp2_with fail
   show ∀ todo,CoReach _ _ _ _ _ _
   intro todo
   refine CoReach.leaveM cloz rfl rfl fz5 (results_tmp3 res5 _ _ _) ?_
   exact HH.out _ _ ⟨HeapB.heap HB7.out rfl,[],at_,e,_,[],HRN.out,rfl,Ren.NodesAt.nil _⟩
  ·have HN:Hid (NodesAt w5 0 nv svs nodes):=Ren.NodesAt.heap hnodes HW5.out
   have HRN:Hid _:=hrn
   clear hnodes hrn HW5
   generalize hkk:([.code (c5d Tryz.f18)]:List Item)=kq
   dsimp only[o5,c5c,c5,Ren.opsC,Ren.fstC,Ren.sndC,Tryz.f18,Option.getD]
   simp only[List.drop_succ_cons,List.drop_zero]
   obtain⟨na,nc,rfl⟩:=ownsRow_slice HN.out.1
   go_wp2_with fail
   subst hkk
   show CoReach _ _ _ _ _ _
   have HB6:Hid (HeapB w (w5.alloc (.cells #[.iface ty y,.slice na nodes.length nc,.int .i64 to_] 60))):=HB5.out.trans (HeapB.of ((Below.refl _ _).alloc (Nat.le_refl _) _))
   have HN6:Hid (NodesAt (w5.alloc (.cells #[.iface ty y,.slice na nodes.length nc,.int .i64 to_] 60)) 0 (.slice na nodes.length nc) svs nodes):=Ren.NodesAt.keep HN.out (Nat.le_refl _) fun b c hb=>Lib.alloc_old _ _ _ (hb.elim (fun q=>(Array.getElem?_eq_some_iff.1 q).1) fun q=>(Array.getElem?_eq_some_iff.1 q).1)
   have hR6:(w5.alloc (.cells #[.iface ty y,.slice na nodes.length nc,.int .i64 to_] 60)).heap[w5.heap.size]? =some (.cells #[.iface ty y,.slice na nodes.length nc,.int .i64 to_] 60):=heap_alloc_new w5 _
   generalize w5.alloc (.cells #[.iface ty y,.slice na nodes.length nc,.int .i64 to_] 60)=w6 at *
   refine CoReach.code cloz ok5d rfl ⟨_,fz5⟩ rfl fun τ d=>?_
   have HB7:Hid (HeapB w (w6.re τ d)):=HeapB.heap HB6.out rfl
   have HN7:Hid (NodesAt (w6.re τ d) 0 (.slice na nodes.length nc) svs nodes):=Ren.NodesAt.heap HN6.out rfl
   have hR7:(w6.re τ d).heap[w5.heap.size]? =some (.cells #[.iface ty y,.slice na nodes.length nc,.int .i64 to_] 60):=hR6
   generalize w6.re τ d=w7 at *
   obtain⟨z0,z1,z2⟩:=cells3 hR7
   clear HB6 HN6 HN HB5 hR6 hR7
   dsimp only[c5d,c5c,c5,Ren.fstC,Ren.sndC,Tryz.f18,Option.getD]
   go_wp2_with fail
   go_region
   go_wp2_with fail
   show ∀ todo,CoReach _ _ _ _ _ _
   intro todo
   refine CoReach.leaveM cloz rfl rfl fz5 (results_tmp3 res5 _ _ _) ?_
   exact HH.out _ _ ⟨HeapB.heap HB7.out rfl,nodes,to_,0,_,svs,HRN.out,rfl,Ren.NodesAt.heap HN7.out rfl⟩
end
end Go.Ren
