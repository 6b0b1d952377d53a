import Derived.Test.YtlhimdjkkiflhaaGreatDoorDeep24
namespace Go.Proofs.YtlhimdjkkiflhaaGreatDoor
open Go.RowKit Go.Loop
theorem flat7:∀ (T:List Tok) (k j:Nat) (t:Tok),T[k]? =some t→j<7→(T.flatMap tkCells)[k*7+j]? =(tkCells t)[j]?
 |[],k,j,t,h,_=>by simp at h
 |x::T,0,j,t,h,hj=>by
  simp at h;subst h
  rw[List.flatMap_cons,List.getElem?_append_left (by simp[tkCells];omega)]
  simp
 |x::T,k+1,j,t,h,hj=>by
  rw[List.flatMap_cons,List.getElem?_append_right (by simp[tkCells];omega)]
  have:=flat7 T k j t (by simpa using h) hj
  rw[show(k+1)*7+j-(tkCells x).length=k*7+j by simp[tkCells];omega]
  exact this
theorem RdAt.tok {w:World}{R M g cap:Nat}{T:List Tok}{dp:Nat}{E:Env}{s:RSt}(h:RdAt w R M g cap T dp E s){t:Tok}(ht:T[s.k]? =some t):
 w.cell? ⟨g,s.k*7,none⟩=some (.int .i64 t.kind)∧w.cell? ⟨g,s.k*7+1,none⟩=some (.int .i64 t.from_)∧w.cell? ⟨g,s.k*7+2,none⟩=some (.int .i64 t.to_)∧w.cell? ⟨g,s.k*7+3,none⟩=some (.string ⟨⟨t.text⟩⟩)∧w.cell? ⟨g,s.k*7+4,none⟩=some (.int .i64 t.n)∧w.cell? ⟨g,s.k*7+5,none⟩=some (.int .i64 t.d)∧w.cell? ⟨g,s.k*7+6,none⟩=some (.int .i64 t.fault):=by
 have hlt:s.k<T.length:=(List.getElem?_eq_some_iff.1 ht).1
 have key:∀ j,j<7→w.cell? ⟨g,s.k*7+j,none⟩=(tkCells t)[j]?:=fun j hj=>by rw[h.row.cellAt _ (by omega),flat7 T s.k j t ht hj]
 exact⟨key 0 (by omega),key 1 (by omega),key 2 (by omega),key 3 (by omega),key 4 (by omega),key 5 (by omega),key 6 (by omega)⟩
theorem cells4 {w1:World}{b:Nat}{x0 x1 x2 x3:Value}{e:TypeId}(h:w1.heap[b]? =some (.cells #[x0,x1,x2,x3] e)):
 (w1.cell? ⟨b,0,none⟩=some x0∧w1.cell? ⟨b,1,none⟩=some x1∧w1.cell? ⟨b,2,none⟩=some x2∧w1.cell? ⟨b,3,none⟩=some x3)∧w1.frozen? ⟨b,1,none⟩=false:=by
 refine⟨⟨?_,?_,?_,?_⟩,?_⟩<;>simp[World.cell?,World.frozen?,h]
theorem Kp.then_below {R M:Nat}{w wr w':World}(h:Kp R M w wr)(k:Below w.heap.size wr w'):Kp R M w w':=
 ⟨k.os.trans h.os,k.tape.trans h.tape,k.output.trans h.output,Nat.le_trans h.size k.size,fun b h1 h2 h3=>(k.block b h1).trans (h.block b h1 h2 h3)⟩
theorem heap7 (w1:World)(c b:Nat)(hb:b≠c)(v0 v1 v2 v3 v4 v5 v6:Value):(((((((w1.setCell ⟨c,0,none⟩ v0).setCell ⟨c,1,none⟩ v1).setCell ⟨c,2,none⟩ v2).setCell ⟨c,3,none⟩ v3).setCell ⟨c,4,none⟩ v4).setCell ⟨c,5,none⟩ v5).setCell ⟨c,6,none⟩ v6).heap[b]? =w1.heap[b]?:=by
 rw[Below.heap_setCell _ _ _ _ hb,Below.heap_setCell _ _ _ _ hb,Below.heap_setCell _ _ _ _ hb,Below.heap_setCell _ _ _ _ hb,Below.heap_setCell _ _ _ _ hb,Below.heap_setCell _ _ _ _ hb,Below.heap_setCell _ _ _ _ hb]
@[reducible] def set7 (w1:World) (c:Nat) (v0 v1 v2 v3 v4 v5 v6:Value):World:=((((((w1.setCell ⟨c,0,none⟩ v0).setCell ⟨c,1,none⟩ v1).setCell ⟨c,2,none⟩ v2).setCell ⟨c,3,none⟩ v3).setCell ⟨c,4,none⟩ v4).setCell ⟨c,5,none⟩ v5).setCell ⟨c,6,none⟩ v6
theorem size7 (w1:World)(c:Nat)(v0 v1 v2 v3 v4 v5 v6:Value):(set7 w1 c v0 v1 v2 v3 v4 v5 v6).heap.size=w1.heap.size:=by simp[set7]
theorem fault_fin (wr:World)(c:Nat)(v0 v1 v2 v3 v4 v5 v6:Value)(A B:Obj):((((set7 wr c v0 v1 v2 v3 v4 v5 v6).alloc A).alloc B).drew.drew).heap[wr.heap.size+1]? =some B:=by
 have:=alloc2_at (set7 wr c v0 v1 v2 v3 v4 v5 v6) A B
 rw[size7] at this
 exact this
theorem below_set7 (wr:World)(c B:Nat)(h:B≤c)(v0 v1 v2 v3 v4 v5 v6:Value):Below B wr (set7 wr c v0 v1 v2 v3 v4 v5 v6):=
 (((((((Below.refl B wr).setCell (p:=⟨c,0,none⟩) h _).setCell (p:=⟨c,1,none⟩) h _).setCell (p:=⟨c,2,none⟩) h _).setCell (p:=⟨c,3,none⟩) h _).setCell (p:=⟨c,4,none⟩) h _).setCell (p:=⟨c,5,none⟩) h _).setCell (p:=⟨c,6,none⟩) h _
theorem fin_below (wr:World)(c B:Nat)(h:B≤c)(hB:B≤wr.heap.size)(v0 v1 v2 v3 v4 v5 v6:Value)(A C:Obj):Below B wr ((((set7 wr c v0 v1 v2 v3 v4 v5 v6).alloc A).alloc C).drew.drew):=
 ((((below_set7 wr c B h v0 v1 v2 v3 v4 v5 v6).alloc (by rw[size7];exact hB) _).alloc (by simp;omega) _).drew).drew
theorem blk_set {w1:World}{c:Nat}{cs:Array Value}{e:TypeId}(h:w1.heap[c]? =some (.cells cs e))(j:Nat)(v:Value):(w1.setCell ⟨c,j,none⟩ v).heap[c]? =some (.cells (cs.setIfInBounds j v) e):=by
 unfold World.setCell
 simp only[Array.getElem?_modify,if_true,h,Option.map_some]
 rfl
theorem blk_set7 {w1:World}{c:Nat}{u0 u1 u2 u3 u4 u5 u6:Value}{e:TypeId}(h:w1.heap[c]? =some (.cells #[u0,u1,u2,u3,u4,u5,u6] e))(v0 v1 v2 v3 v4 v5 v6:Value):(set7 w1 c v0 v1 v2 v3 v4 v5 v6).heap[c]? =some (.cells #[v0,v1,v2,v3,v4,v5,v6] e):=by
 have:=blk_set (blk_set (blk_set (blk_set (blk_set (blk_set (blk_set h 0 v0) 1 v1) 2 v2) 3 v3) 4 v4) 5 v5) 6 v6
 unfold set7
 rw[this]
 simp
theorem fin_cells {wr:World}{c:Nat}{u0 u1 u2 u3 u4 u5 u6:Value}{e:TypeId}(h:wr.heap[c]? =some (.cells #[u0,u1,u2,u3,u4,u5,u6] e))(v0 v1 v2 v3 v4 v5 v6:Value)(A B:Obj)(W:World)(hW:W=(((set7 wr c v0 v1 v2 v3 v4 v5 v6).alloc A).alloc B).drew.drew):
 W.cell? ⟨c,0,none⟩=some v0∧W.cell? ⟨c,1,none⟩=some v1∧W.cell? ⟨c,2,none⟩=some v2∧W.cell? ⟨c,3,none⟩=some v3∧W.cell? ⟨c,4,none⟩=some v4∧W.cell? ⟨c,5,none⟩=some v5∧W.cell? ⟨c,6,none⟩=some v6:=by
 have hl:c<wr.heap.size:=(Array.getElem?_eq_some_iff.1 h).1
 have h7:=blk_set7 h v0 v1 v2 v3 v4 v5 v6
 have hs:=size7 wr c v0 v1 v2 v3 v4 v5 v6
 have hd:W.heap=(((set7 wr c v0 v1 v2 v3 v4 v5 v6).alloc A).alloc B).heap:=by rw[hW];rfl
 clear hW
 generalize set7 wr c v0 v1 v2 v3 v4 v5 v6=w1 at *
 have hb:W.heap[c]? =some (.cells #[v0,v1,v2,v3,v4,v5,v6] e):=by
  rw[hd,Lib.alloc_old _ _ _ (by simp;omega),Lib.alloc_old _ _ _ (by omega),h7]
 refine⟨?_,?_,?_,?_,?_,?_,?_⟩<;>simp[World.cell?,hb]
theorem bodyPost_ret7 {P:Program}{fn:Func}{Q:Ending→World→Prop}{a:Act}{wr:World}{c:Nat}{u0 u1 u2 u3 u4 u5 u6:Value}{e:TypeId}(h:wr.heap[c]? =some (.cells #[u0,u1,u2,u3,u4,u5,u6] e)){v0 v1 v2 v3 v4 v5 v6:Value}{A B:Obj}{v:Value}
 (hr:∀ W:World,W.cell? ⟨c,0,none⟩=some v0→W.cell? ⟨c,1,none⟩=some v1→W.cell? ⟨c,2,none⟩=some v2→W.cell? ⟨c,3,none⟩=some v3→W.cell? ⟨c,4,none⟩=some v4→W.cell? ⟨c,5,none⟩=some v5→W.cell? ⟨c,6,none⟩=some v6→(results fn a.tmps).run P W= .ok v W)
 (hd:a.defers=[])(hR:Q (.returned v) (((set7 wr c v0 v1 v2 v3 v4 v5 v6).alloc A).alloc B).drew.drew):bodyPost P fn Q .ret a (((set7 wr c v0 v1 v2 v3 v4 v5 v6).alloc A).alloc B).drew.drew:=by
 obtain⟨y0,y1,y2,y3,y4,y5,y6⟩:=fin_cells h v0 v1 v2 v3 v4 v5 v6 A B _ rfl
 exact bodyPost_ret (hr _ y0 y1 y2 y3 y4 y5 y6) hd hR
theorem bodyPost_cells7 {P:Program}{fn:Func}{Q:Ending→World→Prop}{a:Act}{W:World}{c:Nat}{v0 v1 v2 v3 v4 v5 v6:Value}{e:TypeId}{v:Value}(h:W.heap[c]? =some (.cells #[v0,v1,v2,v3,v4,v5,v6] e))
 (hr:W.cell? ⟨c,0,none⟩=some v0→W.cell? ⟨c,1,none⟩=some v1→W.cell? ⟨c,2,none⟩=some v2→W.cell? ⟨c,3,none⟩=some v3→W.cell? ⟨c,4,none⟩=some v4→W.cell? ⟨c,5,none⟩=some v5→W.cell? ⟨c,6,none⟩=some v6→(results fn a.tmps).run P W= .ok v W)
 (hd:a.defers=[])(hR:Q (.returned v) W):bodyPost P fn Q .ret a W:=
 bodyPost_ret (hr (by simp[World.cell?,h]) (by simp[World.cell?,h]) (by simp[World.cell?,h]) (by simp[World.cell?,h]) (by simp[World.cell?,h]) (by simp[World.cell?,h]) (by simp[World.cell?,h])) hd hR
theorem kp_set {R M:Nat}(w:World)(j:Nat)(v:Value):Kp R M w (w.setCell ⟨R,j,none⟩ v):=
 ⟨rfl,rfl,rfl,by simp,fun b _ h2 _=>Below.heap_setCell _ _ _ _ h2⟩
theorem kp_step {R M:Nat}(w:World)(j:Nat)(v:Value)(A:Obj):Kp R M w ((w.setCell ⟨R,j,none⟩ v).alloc A).drew:=
 (kp_set w j v).trans (Kp.of_below (((Below.refl _ _).alloc (Nat.le_refl _) _).drew))
theorem RdAt.step {w w':World}{R M g cap:Nat}{T:List Tok}{dp:Nat}{E:Env}{s:RSt}(h:RdAt w R M g cap T dp E s){k:Nat}(hR:w'.heap[R]? =some (.cells #[.slice (some ⟨g,0,none⟩) T.length cap,.int .i64 k,.int .i64 dp,.map (some M)] 123))(_:w.heap.size≤w'.heap.size)(hk:∀ b,b<w.heap.size→b=g∨b=M→w'.heap[b]? =w.heap[b]?)(hl:∀ (b:Nat) (v:Value),w.heap[b]? =some (.cells #[v] 215)→w'.heap[b]? =w.heap[b]?):RdAt w' R M g cap T dp E { s with k:=k }:=by
 have hg:=(h.row.lt g rfl).2
 refine⟨h.rm,h.gr,h.gm,hR,?_,?_,fun n hn=>(h.low n hn).imp fun v hv=>(hl _ v hv).trans hv,h.inj,h.small,h.deep⟩
 ·refine⟨h.row.1,h.row.2.imp id ?_⟩
  rintro ⟨b,cp,cur,h1,h2,h3,h4⟩
  have:b=g:=by cases h1;rfl
  exact⟨b,cp,cur,h1,h2,(hk b (Array.getElem?_eq_some_iff.1 h3).1 (.inl this)).trans h3,h4⟩
 ·obtain⟨es,c,h1,h2⟩:=h.lm
  exact⟨es,c,(hk M h.mlt (.inr rfl)).trans h1,h2⟩
theorem RdAt.step1 {wr:World}{R M g cap:Nat}{T:List Tok}{dp:Nat}{E:Env}{s:RSt}(h:RdAt wr R M g cap T dp E s)(A:Obj):RdAt ((wr.setCell ⟨R,1,none⟩ (.int .i64 ((s.k:Int)+1))).alloc A).drew R M g cap T dp E { s with k:=s.k+1 }:=by
 have hb:=blk_set h.blk 1 (.int .i64 ((s.k:Int)+1))
 have hl:=h.lt
 have e0:∀ b,b<wr.heap.size→(((wr.setCell ⟨R,1,none⟩ (.int .i64 ((s.k:Int)+1))).alloc A).drew).heap[b]? =(wr.setCell ⟨R,1,none⟩ (.int .i64 ((s.k:Int)+1))).heap[b]?:=fun b h=>Lib.alloc_old _ _ _ (by simp;exact h)
 refine RdAt.step h ?_ (by simp) (fun b hb1 hb2=>?_) fun b v hv=>?_
 ·rw[e0 R hl,hb];simp
 rotate_left
 ·rw[e0 b (Array.getElem?_eq_some_iff.1 hv).1]
  exact Below.heap_setCell _ _ _ _ (fun e=>by rw[e,h.blk] at hv;simp at hv)
 ·rw[e0 b hb1]
  exact Below.heap_setCell _ _ _ _ (hb2.elim (fun e=>by rw[e];exact h.gr) (fun e=>by rw[e];exact fun x=>h.rm x.symm))
theorem fin7 {wr:World}{R c:Nat}(hc:c≠R){u0 u1 u2 u3 u4 u5 u6:Value}{e:TypeId}(h:wr.heap[c]? =some (.cells #[u0,u1,u2,u3,u4,u5,u6] e))(v v0 v1 v2 v3 v4 v5 v6:Value)(A:Obj):
 ((set7 (wr.setCell ⟨R,1,none⟩ v) c v0 v1 v2 v3 v4 v5 v6).alloc A).drew.heap[c]? =some (.cells #[v0,v1,v2,v3,v4,v5,v6] e):=by
 have h7:=blk_set7 ((Below.heap_setCell wr ⟨R,1,none⟩ v c hc).trans h) v0 v1 v2 v3 v4 v5 v6
 generalize set7 (wr.setCell ⟨R,1,none⟩ v) c v0 v1 v2 v3 v4 v5 v6=w1 at *
 show(w1.alloc A).heap[c]? =_
 rw[Lib.alloc_old _ _ _ (Array.getElem?_eq_some_iff.1 h7).1,h7]
theorem kp_fin7 {R M c:Nat}{w wr:World}(hk:Kp R M w wr)(h:w.heap.size≤c)(v v0 v1 v2 v3 v4 v5 v6:Value)(A:Obj):Kp R M w ((set7 (wr.setCell ⟨R,1,none⟩ v) c v0 v1 v2 v3 v4 v5 v6).alloc A).drew:=
 Kp.then_below (hk.trans (kp_set wr 1 v)) (((below_set7 _ c w.heap.size h v0 v1 v2 v3 v4 v5 v6).alloc (by rw[size7];simp;exact hk.size) _).drew)
theorem RdAt.fin7 {wr:World}{R M g cap c:Nat}{T:List Tok}{dp:Nat}{E:Env}{s:RSt}(h:RdAt wr R M g cap T dp E s)(h1:c≠R)(h2:c≠M)(h3:c≠g)(h4:wr.heap[c]? =some T0)(v0 v1 v2 v3 v4 v5 v6:Value)(A:Obj):RdAt ((set7 (wr.setCell ⟨R,1,none⟩ (.int .i64 ((s.k:Int)+1))) c v0 v1 v2 v3 v4 v5 v6).alloc A).drew R M g cap T dp E { s with k:=s.k+1 }:=by
 have hb:=blk_set h.blk 1 (.int .i64 ((s.k:Int)+1))
 have hl:=h.lt
 have hs:=size7 (wr.setCell ⟨R,1,none⟩ (.int .i64 ((s.k:Int)+1))) c v0 v1 v2 v3 v4 v5 v6
 have hh:∀ b,b≠c→(set7 (wr.setCell ⟨R,1,none⟩ (.int .i64 ((s.k:Int)+1))) c v0 v1 v2 v3 v4 v5 v6).heap[b]? =(wr.setCell ⟨R,1,none⟩ (.int .i64 ((s.k:Int)+1))).heap[b]?:=fun b hc=>heap7 _ c b hc _ _ _ _ _ _ _
 generalize set7 (wr.setCell ⟨R,1,none⟩ (.int .i64 ((s.k:Int)+1))) c v0 v1 v2 v3 v4 v5 v6=w1 at *
 have hs1:w1.heap.size=wr.heap.size:=by rw[hs];simp
 have e0:∀ b,b<wr.heap.size→b≠c→(w1.alloc A).drew.heap[b]? =(wr.setCell ⟨R,1,none⟩ (.int .i64 ((s.k:Int)+1))).heap[b]?:=fun b h hc=>by
  show(w1.alloc A).heap[b]? =_
  rw[Lib.alloc_old _ _ _ (by omega),hh b hc]
 refine RdAt.step h ?_ ?_ (fun b hb1 hb2=>?_) fun b v hv=>?_
 ·rw[e0 R hl h1.symm,hb];simp
 ·simp;omega
 rotate_left
 ·rw[e0 b (Array.getElem?_eq_some_iff.1 hv).1 (fun e=>by rw[e,h4] at hv;simp[T0] at hv)]
  exact Below.heap_setCell _ _ _ _ (fun e=>by rw[e,h.blk] at hv;simp at hv)
 ·rw[e0 b hb1 (hb2.elim (fun e=>by rw[e];exact h3.symm) (fun e=>by rw[e];exact h2.symm))]
  exact Below.heap_setCell _ _ _ _ (hb2.elim (fun e=>by rw[e];exact h.gr) (fun e=>by rw[e];exact fun x=>h.rm x.symm))
theorem Ext.to {w w':World}{E E':Env}{s s' s'':RSt}(h:Ext w w' E E' s s')(hf:s''.fresh=s'.fresh)(hl:s''.labs=s'.labs):Ext w w' E E' s s'':=
 ⟨h.agree,by rw[hf];exact h.fresh,by rw[hl];exact h.labs,by rw[hf];exact h.new,by rw[hf];exact h.inj⟩
theorem step_old (wr:World)(R c:Nat)(hc:c≠R)(h:c<wr.heap.size)(v:Value)(A:Obj):((wr.setCell ⟨R,1,none⟩ v).alloc A).drew.heap[c]? =wr.heap[c]?:=
 (Lib.alloc_old _ _ _ (by simp;exact h)).trans (Below.heap_setCell _ _ _ _ hc)
theorem step_new (wr:World)(R:Nat)(v:Value)(A:Obj):((wr.setCell ⟨R,1,none⟩ v).alloc A).drew.heap[wr.heap.size]? =some A:=by
 have:=heap_alloc_new (wr.setCell ⟨R,1,none⟩ v) A
 rw[show(wr.setCell ⟨R,1,none⟩ v).heap.size=wr.heap.size by simp] at this
 exact this
section
variable {R M g cap:Nat} {T:List Tok} {dp:Nat}
set_option maxHeartbeats 4000000 in
theorem take_step {N:Nat}(ih:∀ n,n≤N→IH R M g cap T dp n)(p:Pl)(av:Value)(w:World)(E:Env)(s:RSt)(hr:RdAt w R M g cap T dp E s)(ha:AhAt w E s p.ahead av)(hd:p.depth≤dp∧p.ahead.length≤p.depth)(ho:rdTake T dp (N+1) p s≠ .out):
 Calls Tryz.prog 105 #[ptrV R,plV p.depth p.passed av] w fun e w'=>OkT R M g cap T dp w E s (rdTake T dp (N+1) p s) e w':=by
 have mixed:Tryz.prog.follows Departure.mixedOrders=true:=by kernel_rfl
 obtain⟨⟨a0,n0,c0,rfl⟩⟩:=(⟨ha.2.1⟩:Nonempty _)
 have hrR:R<w.heap.size:=hr.lt
 have hrM:M<w.heap.size:=hr.mlt
 have hrg:g<w.heap.size:=(hr.row.lt g rfl).2
 have hb0:Below w.heap.size w ((w.alloc (.cells #[.int .i64 p.depth,.bool p.passed,.slice a0 n0 c0] 128)).alloc T0):=((Below.refl _ w).alloc (Nat.le_refl _) _).alloc (by simp) _
 have HP:Hid (((w.alloc (.cells #[.int .i64 p.depth,.bool p.passed,.slice a0 n0 c0] 128)).alloc T0).heap[w.heap.size]? =some (.cells #[.int .i64 p.depth,.bool p.passed,.slice a0 n0 c0] 128)):=(Lib.alloc_old _ _ _ (by simp)).trans (heap_alloc_new w _)
 have HQ:Hid (((w.alloc (.cells #[.int .i64 p.depth,.bool p.passed,.slice a0 n0 c0] 128)).alloc T0).heap[w.heap.size+1]? =some T0):=alloc2_at w _ _
 have HR:Hid _:=hr.below hb0
 have HB:Hid _:=hb0
 have HI:Hid _:=ih
 have HO:Hid _:=ho
 have hsm:=hr.small
 clear hr ha hb0 ih ho
 unfold plV ptrV
 go_enter Tryz.func105,Tryz.ntmps105
 go_wp2_with fail
 go_loopw [] (fun wr=>∃ (m:Nat) (E1:Env) (s1:RSt),m≤N+1∧w.heap.size+2≤wr.heap.size∧Hid (rdTake T dp (N+1) p s=rdTake T dp m p s1)∧Hid (RdAt wr R M g cap T dp E1 s1)∧Hid (Ext w wr E E1 s s1)∧Hid (Kp R M w wr)∧Hid (wr.heap[w.heap.size]? =some (.cells #[.int .i64 p.depth,.bool p.passed,.slice a0 n0 c0] 128))∧Hid (wr.heap[w.heap.size+1]? =some T0)) (fun wr=>T.length+1-(intOf ((wr.cell? ⟨R,1,none⟩).getD undef)).toNat)
 case atStart=>exact⟨N+1,E,s,Nat.le_refl _,by simp,rfl,HR.out,Ext.refl rfl rfl,Kp.of_below HB.out,HP.out,HQ.out⟩
 case round=>
  obtain⟨m,E1,s1,hm,hsz,HE,HR1,HX,HK,HP1,HQ1⟩:=hrel
  have hO1:rdTake T dp m p s1≠ .out:=by rw[←HE.out];exact HO.out
  obtain⟨m',rfl⟩:∃ m',m=m'+1:=by
   cases m with
   |zero=>exact absurd (by unfold rdTake;rfl) hO1
   |succ m'=>exact⟨m',rfl⟩
  cases ht:T[s1.k]? with
  |none=>exact absurd (by unfold rdTake;rw[ht]) hO1
  |some t=>
   have hlt:s1.k<T.length:=(List.getElem?_eq_some_iff.1 ht).1
   obtain⟨⟨r0,r1,r2,r3⟩,rf⟩:=cells4 HR1.out.blk
   obtain⟨t0,t1,t2,t3,t4,t5,t6⟩:=HR1.out.tok ht
   obtain⟨p0,p1,p2⟩:=cells3 HP1.out
   obtain⟨⟨x0,x1,x2,x3,x4,x5,x6⟩,f0,f1,f2,f3,f4,f5,f6⟩:=cells7 (b:=w.heap.size+1) (Below.refl _ wr) HQ1.out
   have hRr:R<wr.heap.size:=HR1.out.lt
   have hgr:g<wr.heap.size:=(HR1.out.row.lt g rfl).2
   have e1:¬ R=wr.heap.size:=by omega
   have e2:¬ g=wr.heap.size:=by omega
   have e3:¬ w.heap.size=wr.heap.size:=by omega
   have e4:¬ w.heap.size+1=wr.heap.size:=by omega
   have e5:w.heap.size<wr.heap.size:=by omega
   have e6:w.heap.size+1<wr.heap.size:=by omega
   have htk:Hid (rdTake T dp (m'+1) p s1=if t.kind=0 then .fail 4 t.from_ else if t.kind=1 then .fail 3 t.from_ else if t.kind=6 then(rdDatum T dp m' ⟨p.depth,true,[]⟩ { s1 with k:=s1.k+1 }).bind fun _ s=>rdTake T dp m' p s else .ok t { s1 with k:=s1.k+1 }):=by
    show _=_
    conv=>lhs;unfold rdTake
    rw[ht]
   by_cases k0:t.kind=0
   ·have HF:Hid (rdTake T dp (N+1) p s= .fail 4 t.from_):=by show _=_;rw[HE.out,htk.out,if_pos k0]
    have q0:(((t.kind:Nat):Int)==0)=true:=by rw[k0];rfl
    clear k0
    go_wp2_with fail
    go_region
    go_wp2_with fail
    go_region
    go_wp2_with fail
    refine bodyPost_ret7 HQ1.out (v:= .tuple #[tkV t,ptrV (wr.heap.size+1)]) (fun W y0 y1 y2 y3 y4 y5 y6=>by simp[results,Tryz.results105,tkV,ptrV,go_sem,y0,y1,y2,y3,y4,y5,y6]) rfl ?_
    rw[HF.out]
    refine⟨⟨_,_,rfl,?_⟩,Kp.then_below HK.out ?_⟩
    ·exact fault_fin wr (w.heap.size+1) _ _ _ _ _ _ _ _ _
    ·exact fin_below wr (w.heap.size+1) w.heap.size (by omega) (by omega) _ _ _ _ _ _ _ _ _
   have q0:(((t.kind:Nat):Int)==0)=false:=by rw[beq_eq_false_iff_ne];omega
   by_cases k1:t.kind=1
   ·have HF:Hid (rdTake T dp (N+1) p s= .fail 3 t.from_):=by show _=_;rw[HE.out,htk.out,if_neg k0,if_pos k1]
    have q1:(((t.kind:Nat):Int)==1)=true:=by rw[k1];rfl
    clear k0 k1
    go_wp2_with fail
    go_region
    go_wp2_with fail
    go_region
    go_wp2_with fail
    refine bodyPost_ret7 HQ1.out (v:= .tuple #[tkV t,ptrV (wr.heap.size+1)]) (fun W y0 y1 y2 y3 y4 y5 y6=>by simp[results,Tryz.results105,tkV,ptrV,go_sem,y0,y1,y2,y3,y4,y5,y6]) rfl ?_
    rw[HF.out]
    refine⟨⟨_,_,rfl,?_⟩,Kp.then_below HK.out ?_⟩
    ·exact fault_fin wr (w.heap.size+1) _ _ _ _ _ _ _ _ _
    ·exact fin_below wr (w.heap.size+1) w.heap.size (by omega) (by omega) _ _ _ _ _ _ _ _ _
   have q1:(((t.kind:Nat):Int)==1)=false:=by rw[beq_eq_false_iff_ne];omega
   by_cases k6:t.kind=6
   ·have q6:(((t.kind:Nat):Int)==6)=true:=by rw[k6];rfl
    have HF:Hid (rdTake T dp (N+1) p s=(rdDatum T dp m' ⟨p.depth,true,[]⟩ { s1 with k:=s1.k+1 }).bind fun _ s=>rdTake T dp m' p s):=by show _=_;rw[HE.out,htk.out,if_neg k0,if_neg k1,if_pos k6]
    clear k0 k1 k6
    have HR2:Hid _:=RdAt.step1 HR1.out (.cells #[.int .i64 t.kind,.int .i64 t.from_,.int .i64 t.to_,.string ⟨⟨t.text⟩⟩,.int .i64 t.n,.int .i64 t.d,.int .i64 t.fault] 131)
    have HK2:Hid _:=Kp.trans HK.out (kp_step wr 1 (.int .i64 ((s1.k:Int)+1)) (.cells #[.int .i64 t.kind,.int .i64 t.from_,.int .i64 t.to_,.string ⟨⟨t.text⟩⟩,.int .i64 t.n,.int .i64 t.d,.int .i64 t.fault] 131))
    have hne:rdDatum T dp m' ⟨p.depth,true,[]⟩ { s1 with k:=s1.k+1 }≠ .out:=fun h=>HO.out (by rw[HF.out,h];rfl)
    have HC:Hid _:=(HI.out m' (by omega)).datum ⟨p.depth,true,[]⟩ (.slice none 0 0) _ E1 _ HR2.out ⟨⟨rfl,.inl ⟨rfl,rfl⟩⟩,⟨_,_,_,rfl⟩,fun n hn=>by cases hn⟩ ⟨hd.1,Nat.zero_le _⟩ hne
    clear hne
    unfold ptrV plV at HC
    go_wp2_with fail
    go_region
    go_wp2_with fail
    refine Calls.mono HC.out ?_
    clear HC
    intro e w2 hok
    have HP2:Hid _:=(step_old wr R w.heap.size (by omega) (by omega) (.int .i64 ((s1.k:Int)+1)) (.cells #[.int .i64 t.kind,.int .i64 t.from_,.int .i64 t.to_,.string ⟨⟨t.text⟩⟩,.int .i64 t.n,.int .i64 t.d,.int .i64 t.fault] 131)).trans HP1.out
    have HQ2:Hid _:=(step_old wr R (w.heap.size+1) (by omega) (by omega) (.int .i64 ((s1.k:Int)+1)) (.cells #[.int .i64 t.kind,.int .i64 t.from_,.int .i64 t.to_,.string ⟨⟨t.text⟩⟩,.int .i64 t.n,.int .i64 t.d,.int .i64 t.fault] 131)).trans HQ1.out
    have HT2:Hid _:=step_new wr R (.int .i64 ((s1.k:Int)+1)) (.cells #[.int .i64 t.kind,.int .i64 t.from_,.int .i64 t.to_,.string ⟨⟨t.text⟩⟩,.int .i64 t.n,.int .i64 t.d,.int .i64 t.fault] 131)
    have hsz2:(((wr.setCell ⟨R,1,none⟩ (.int .i64 ((s1.k:Int)+1))).alloc (.cells #[.int .i64 t.kind,.int .i64 t.from_,.int .i64 t.to_,.string ⟨⟨t.text⟩⟩,.int .i64 t.n,.int .i64 t.d,.int .i64 t.fault] 131)).drew).heap.size=wr.heap.size+1:=by simp
    generalize ((wr.setCell ⟨R,1,none⟩ (.int .i64 ((s1.k:Int)+1))).alloc (.cells #[.int .i64 t.kind,.int .i64 t.from_,.int .i64 t.to_,.string ⟨⟨t.text⟩⟩,.int .i64 t.n,.int .i64 t.d,.int .i64 t.fault] 131)).drew=wm at *
    cases hF:rdDatum T dp m' ⟨p.depth,true,[]⟩ { s1 with k:=s1.k+1 } with
    |out=>exact absurd (by rw[HF.out,hF];rfl) HO.out
    |fail er a=>
     rw[hF] at hok
     obtain⟨⟨b,rfl,hf⟩,hk2⟩:=hok
     replace hk2:=KpA.plain hk2
     have hs2:=hk2.size
     have HF2:Hid _:=hf
     have HK3:Hid _:=Kp.trans HK2.out hk2
     have HE2:Hid (rdTake T dp (N+1) p s= .fail er a):=by show _=_;rw[HF.out,hF];rfl
     have HQ3:Hid _:=(hk2.block (w.heap.size+1) (by omega) (by omega) (by omega)).trans HQ2.out
     have ht2:=(hk2.block wr.heap.size (by omega) (by omega) (by omega)).trans HT2.out
     obtain⟨⟨y0,y1,y2,y3,y4,y5,y6⟩,-⟩:=cells7 (Below.refl _ w2) ht2
     obtain⟨⟨z0,z1,z2,z3,z4,z5,z6⟩,g0,g1,g2,g3,g4,g5,g6⟩:=cells7 (b:=w.heap.size+1) (Below.refl _ w2) HQ3.out
     have i1:¬ wr.heap.size=w2.heap.size:=by omega
     have i2:¬ w.heap.size+1=w2.heap.size:=by omega
     have i3:¬ wr.heap.size=w.heap.size+1:=by omega
     clear ht2 hf hk2 hF x0 x1 x2 x3 x4 x5 x6 f0 f1 f2 f3 f4 f5 f6 t0 t1 t2 t3 t4 t5 t6 r0 r1 r2 r3 rf p0 p1 p2
     unfold ptrV
     go_wp2_with fail
     refine bodyPost_cells7 (blk_set7 HQ3.out _ _ _ _ _ _ _) (v:= .tuple #[tkV t,ptrV b]) ?_ rfl ?_
     ·intro o0 o1 o2 o3 o4 o5 o6
      simp[results,Tryz.results105,tkV,ptrV,go_sem,o0,o1,o2,o3,o4,o5,o6]
     have hbc:b≠w.heap.size+1:=fun e=>by
      have q:=HF2.out
      unfold FaultAt at q
      rw[e,HQ3.out] at q
      simp[T0] at q
     rw[HE2.out]
     exact⟨⟨b,t,rfl,(heap7 w2 _ b hbc _ _ _ _ _ _ _).trans HF2.out⟩,Kp.then_below HK3.out (below_set7 w2 (w.heap.size+1) w.heap.size (by omega) _ _ _ _ _ _ _)⟩
    |ok d s2=>
     rw[hF] at hok
     obtain⟨v,E2,rfl,⟨ty,y,rfl⟩,-,hx2,hr2,hk2⟩:=hok
     replace hk2:=KpA.plain hk2
     have hs2:=hk2.size
     have HK3:Hid _:=Kp.trans HK2.out hk2
     have HE2:Hid (rdTake T dp (N+1) p s=rdTake T dp m' p s2):=by show _=_;rw[HF.out,hF];rfl
     have HX3:Hid _:=Ext.trans (Ext.to (s'':={ s1 with k:=s1.k+1 }) (Ext.wid (w3:=wm) HX.out (Nat.le_refl _) (by omega)) rfl rfl) hx2 (by omega) hs2
     have HR3:Hid _:=hr2
     have HP3:Hid _:=(hk2.block w.heap.size (by omega) (by omega) (by omega)).trans HP2.out
     have HQ3:Hid _:=(hk2.block (w.heap.size+1) (by omega) (by omega) (by omega)).trans HQ2.out
     have hgrow:s1.k+1≤s2.k:=(grows T dp m').datum _ _ _ _ hF
     clear hx2 hr2 hk2 hF x0 x1 x2 x3 x4 x5 x6 f0 f1 f2 f3 f4 f5 f6 t0 t1 t2 t3 t4 t5 t6 p0 p1 p2
     go_wp2_with fail
     refine⟨⟨m',E2,s2,by omega,by omega,HE2,HR3,HX3,HK3,HP3,HQ3⟩,?_⟩
     rw[(cells4 HR3.out.blk).1.2.1,(cells4 HR1.out.blk).1.2.1]
     simp only[Option.getD_some,intOf,Int.toNat_natCast]
     omega
   ·have q6:(((t.kind:Nat):Int)==6)=false:=by rw[beq_eq_false_iff_ne];omega
    have HF:Hid (rdTake T dp (N+1) p s= .ok t { s1 with k:=s1.k+1 }):=by show _=_;rw[HE.out,htk.out,if_neg k0,if_neg k1,if_neg k6]
    clear k0 k1 k6
    go_wp2_with fail
    go_region
    go_wp2_with fail
    refine bodyPost_cells7 (fin7 (by omega) HQ1.out _ _ _ _ _ _ _ _ _) (v:= .tuple #[tkV t,.pointer none]) ?_ rfl ?_
    ·intro y0 y1 y2 y3 y4 y5 y6
     simp[results,Tryz.results105,tkV,go_sem,y0,y1,y2,y3,y4,y5,y6]
    rw[HF.out]
    exact⟨E1,rfl,Ext.to (Ext.wid HX.out (Nat.le_refl _) (by simp)) rfl rfl,RdAt.fin7 HR1.out (by omega) (by omega) (by omega) HQ1.out _ _ _ _ _ _ _ _,kp_fin7 HK.out (by omega) _ _ _ _ _ _ _ _ _⟩
end
section
variable {P:Program}
theorem run_append_rowB (w:World)(base:Nat)(t ty e:TypeId)(i:TypeInfo)(z:Value)(y:Nat)(ht:P.underlying t=some (.slice e))(hi:P.info? e=some i)(hz:i.zero=some z)
 (hsize:i.size=1)(hby:i.bytes=y)(hy:y≤16)(hzs:z.cells.size=1)
 (v:Value)(n:Nat)(xs:List Value)(hown:w.ownsRow base e 1 v n xs)
 (a:Addr)(m c:Nat)(news:List Value)(hm:m≠0)(hl:news.length=m*1)(hnews:∀ j u,news[j]? =some u→w.cell? (a.add j)=some u)(h1:∀ u∈news,u.oneCell'=true)
 (hlen:n+m≤1000000)(hbase:base≤w.heap.size):
 ∃ v' w',(Builtin.append_ #[t,t] ty #[v,.slice (some a) m c]).run P w= .ok v' w'∧w'.ownsRow base e 1 v' (n+m) (xs++news)∧w.grownBy w' v.ownBlock∧
   (v'.ownBlock=v.ownBlock∨∃ k,v'.ownBlock=some k∧w.heap.size≤k):=by
 have h63:n+m≤maxLen:=by unfold maxLen;omega
 have hbytes:(n+m)*y≤140737488355328:=Nat.le_trans (Nat.mul_le_mul hlen hy) (by decide)
 have hby2:m*y≤281474976710656:=Nat.le_trans (Nat.mul_le_mul (show m≤1000000 by omega) hy) (by decide)
 obtain⟨v',w',hr,h2,h3,h4⟩:=run_append_own (P:=P) w base t ty e i z 1 y ht hi hz hsize hby hzs (by decide) v n xs hown a m c news hl hnews h1 h63 hbytes hbase
 refine⟨v',w',hr,h2,h3,?_⟩
 have hsmall:n+m≤9223372036854775807:=by omega
 rcases hown.2 with⟨rfl,rfl⟩|⟨g,cap,cur,rfl,hbg,hg,hnc,hcm,hcs,htake⟩
 ·have hr':=run_append_nil (P:=P) w t ty e i z ht hi hz a m c news (by rw[hsize];exact hl) hnews (by omega) (by omega) (by rw[hby];first|exact growslice_fits (by omega) (by simpa using hbytes)|exact hby2)
  rw[hr'] at hr
  injection hr with a b
  rw[←a]
  exact Or.inr ⟨_,rfl,Nat.le_refl _⟩
 ·by_cases hroom:n+m≤cap
  ·have hr':=run_append_room (P:=P) w t ty e i ht hi g n cap cur hg a m c news (by rw[hsize];exact hl) hnews h1 hroom (by rw[hsize];omega)
   rw[hr'] at hr
   injection hr with a b
   rw[←a]
   exact Or.inl rfl
  ·have holds:∀ j u,xs[j]? =some u→w.cell? ((⟨g,0,none⟩:Addr).add j)=some u:=hown.cells (g:=g) rfl
   have hr':=run_append_grow (P:=P) w t ty e i z ht hi hz ⟨g,0,none⟩ n cap xs (by rw[hsize];exact hown.1) holds a m c news (by rw[hsize];exact hl) hnews (by omega) (by omega) (by rw[hby];exact growslice_fits (by omega) hbytes)
   rw[hr'] at hr
   injection hr with a b
   rw[←a]
   exact Or.inr ⟨_,rfl,Nat.le_refl _⟩
theorem wpList_append_rowB {w:World}{ops:Array Oper}{rest:List Oper}{o:Oper}{a:Act}{Q:Exit→Act→World→Prop}(hgd:o.guard=none)(sl x:Operand)(t:TypeId)
 (ho:o.op= .call { callee:= .builtin .append,args:=#[sl,x],argTypes:=#[t,t] })
 (base:Nat)(e:TypeId)(i:TypeInfo)(z:Value)(y:Nat)(ht:P.underlying t=some (.slice e))(hi:P.info? e=some i)(hz:i.zero=some z)
 (hsize:i.size=1)(hby:i.bytes=y)(hy:y≤16)(hzs:z.cells.size=1)
 (v:Value)(n:Nat)(xs:List Value)(hs:a.eval sl=v)(hown:w.ownsRow base e 1 v n xs)
 (ad:Addr)(m c:Nat)(news:List Value)(hx:a.eval x= .slice (some ad) m c)(hm:m≠0)(hl:news.length=m*1)(hnews:∀ j u,news[j]? =some u→w.cell? (ad.add j)=some u)(h1:∀ u∈news,u.oneCell'=true)
 (hlen:n+m≤1000000)(hbase:base≤w.heap.size)
 (h:∀ v' w',w'.ownsRow base e 1 v' (n+m) (xs++news)→w.grownBy w' v.ownBlock→(v'.ownBlock=v.ownBlock∨∃ k,v'.ownBlock=some k∧w.heap.size≤k)→wpList P ops Q rest (a.put o.dst v') w'):wpList P ops Q (o::rest) a w:=by
 refine wpList_plain hgd fun K hK=>?_
 obtain⟨v',w',hr,h2,h3,h4⟩:=run_append_rowB (P:=P) w base t o.type e i z y ht hi hz hsize hby hy hzs v n xs hown ad m c news hm hl hnews h1 hlen hbase
 unfold Oper.wp execOp
 simp only[ho,resolve,invoke,builtin,Sem.run_bind,Sem.run_pure,Result.andThen_ok,List.map_toArray,List.map_cons,List.map_nil,hs,hx,hr]
 exact hK _ _ (h v' w' h2 h3 h4)
end
theorem infoDatum:(Tryz.prog.info? 58).map (fun i=>(i.zero,i.size,i.bytes))=some (some .nilIface,1,16):=by kernel_rfl
theorem infoLabel:(Tryz.prog.info? 212).map (fun i=>(i.zero,i.size,i.bytes))=some (some (.pointer none),1,8):=by kernel_rfl
def Held (wr:World)(lo k:Nat)(L:List Int)(E:Env)(c:Option Nat)(d:Dt)(v:Value):Prop:=
 (∃ t y,v= .iface t y)∧∃ wi z,lo≤z∧wi.heap.size≤wr.heap.size∧Dat z k L wi E d v∧(∀ b,z≤b→b<wi.heap.size→wr.heap[b]? =wi.heap[b]?)∧∀ b,c=some b→b<z∨wi.heap.size≤b
theorem Held.dat {wr:World}{lo k:Nat}{L:List Int}{E:Env}{c:Option Nat}{d:Dt}{v:Value}(h:Held wr lo k L E c d v):Dat lo k L wr E d v:=by
 obtain⟨-,wi,z,h1,h2,h3,h4,-⟩:=h
 exact Dat.keep h1 (Nat.le_refl _) (fun _ h=>h) h4 ⟨fun _ _=>rfl,fun _ _=>rfl⟩ d v h3
theorem Held.keep {wr w':World}{lo k k':Nat}{L L':List Int}{E E':Env}{c c':Option Nat}{d:Dt}{v:Value}(h:Held wr lo k L E c d v)(hs:wr.heap.size≤w'.heap.size)(hk:k≤k')(hL:∀ n∈L,n∈L')(hE:E.agree E' k L)
 (hw:∀ b,lo≤b→b<wr.heap.size→some b≠c→w'.heap[b]? =wr.heap[b]?)(hc:c'=c∨∃ b,c'=some b∧wr.heap.size≤b):Held w' lo k' L' E' c' d v:=by
 obtain⟨hi,wi,z,h1,h2,h3,h4,h5⟩:=h
 refine⟨hi,wi,z,h1,by omega,Dat.keep (Nat.le_refl _) hk hL (fun _ _ _=>rfl) hE d v h3,fun b b1 b2=>?_,fun b hb=>?_⟩
 ·refine(hw b (by omega) (by omega) fun e=>?_).trans (h4 b b1 b2)
  have:=h5 b e.symm
  omega
 ·rcases hc with hc|⟨b',hc,hlt⟩
  ·exact h5 b (by rw[←hc];exact hb)
  ·rw[hc] at hb
   cases hb
   exact .inr (by omega)
theorem chainD_len:∀ (l:List Dt) (r:Dt) (k:Nat),(chainD l r k).2=k+l.length
 |[],_,_=>rfl
 |d::l,r,k=>by simp only[chainD,chainD_len l r k,List.length_cons];omega
theorem chain_dat {w:World}{base lo K k0:Nat}{L:List Int}{E:Env}{rest:Dt}{vr:Value}(hr:Dat lo K L w E rest vr)(hlo:lo≤base):∀ (ds:List Dt) (vs:List Value) (v:Value),ChainAt w base vs vr v→ds.length=vs.length→(∀ (j:Nat) d x,ds[j]? =some d→vs[j]? =some x→Dat lo K L w E d x)→k0+ds.length≤K→(∀ j,j<ds.length→E.α (k0+j)=base+j)→Dat lo K L w E (chainD ds rest k0).1 v
 |[],[],v,hc,_,_,_,_=>by
  have:v=vr:=hc
  subst this
  exact hr
 |d::ds,x::vs,v,⟨h1,v',h2,h3⟩,hl,hd,hK,hα=>by
  simp only[List.length_cons] at hl hK hα
  have hl':ds.length=vs.length:=by omega
  have ih:=chain_dat hr hlo ds vs v' h3 hl' (fun j d' x' q1 q2=>hd (j+1) d' x' (by simpa using q1) (by simpa using q2)) (by omega) fun j hj=>hα j (by omega)
  have hp:E.α (chainD ds rest k0).2=base+vs.length:=by rw[chainD_len,hα ds.length (by omega),hl']
  have hx:=hd 0 d x (by simp) (by simp)
  show Dat lo K L w E (.pair (chainD ds rest k0).2 d (chainD ds rest k0).1) v
  unfold Dat
  rw[hp]
  exact⟨by rw[chainD_len];omega,by omega,h1,x,v',h2,hx,ih⟩
 |[],_::_,_,_,hl,_,_,_=>by simp at hl
 |_::_,[],_,_,hl,_,_,_=>by simp at hl
theorem take_lt {T:List Tok}{dp n:Nat}{p:Pl}{s s':RSt}{t:Tok}(h:rdTake T dp n p s= .ok t s'):s.k<T.length∧s.k<s'.k:=by
 cases n with
 |zero=>unfold rdTake at h;cases h
 |succ n=>
  unfold rdTake at h
  split at h
  ·cases h
  ·rename_i t' ht
   refine⟨(List.getElem?_eq_some_iff.1 ht).1,?_⟩
   split at h
   ·cases h
   ·split at h
    ·cases h
    ·split at h
     ·obtain⟨d,s1,h1,h2⟩:=RR.bind_ok h
      have a1:=(grows T dp n).datum _ _ _ _ h1
      have a2:=(grows T dp n).take _ _ _ _ h2
      simp at a1
      omega
     ·cases h;simp
set_option maxHeartbeats 2000000 in
theorem chain_nil (rest:Value)(w:World)(hir:∃ t y,rest= .iface t y):
 Calls Tryz.prog 221 #[.slice none 0 0,rest] w fun e w'=>e= .returned rest∧w'=w:=by
 obtain⟨tr,yr,rfl⟩:=hir
 go_enter Tryz.func221,Tryz.ntmps221
 go_wp2_with fail
 go_loopw [5,1] (fun i r wr=>i= .int .i64 (-1)∧r= .iface tr yr∧wr=w) (fun _ _ _=>0)
 case atStart=>exact⟨by go_num,rfl,rfl⟩
 case round=>
  obtain⟨rfl,rfl,rfl⟩:=hrel
  go_wp2_with fail
  go_ret
  exact⟨rfl,rfl⟩
theorem chain_row (vs:List Value)(sv:Value)(lo:Nat)(rest:Value)(w:World)(hrow:w.ownsRow lo 58 1 sv vs.length vs)(hn:vs.length≤1000000)(hif:∀ x∈vs,∃ t y,x= .iface t y)(hir:∃ t y,rest= .iface t y):
 Calls Tryz.prog 221 #[sv,rest] w fun e w'=>∃ v,e= .returned v∧ChainAt w' w.heap.size vs rest v∧w'.heap.size=w.heap.size+vs.length∧Below w.heap.size w w':=by
 rcases hrow.2 with⟨rfl,h0⟩|⟨g,cap,cur,rfl,_⟩
 ·have:vs=[]:=List.eq_nil_of_length_eq_zero h0
  subst this
  refine(chain_nil rest w hir).mono ?_
  rintro e w' ⟨rfl,rfl⟩
  exact⟨rest,rfl,rfl,rfl,Below.refl _ _⟩
 ·exact chain_any vs g cap lo rest w hrow hn hif hir
theorem ChainAt.iface {w:World}{base:Nat}{vs:List Value}{rest v:Value}(h:ChainAt w base vs rest v)(hr:∃ t y,rest= .iface t y):∃ t y,v= .iface t y:=by
 cases vs with
 |nil=>have:v=rest:=h
       rw[this];exact hr
 |cons x vs=>obtain⟨h1,_⟩:=h;exact⟨_,_,h1⟩
theorem chain_fin {R M g cap:Nat}{T:List Tok}{dp:Nat}{w wr w3:World}{E E1:Env}{s s1:RSt}{ds:List Dt}{vs:List Value}{rest:Dt}{vr v:Value}{lo:Nat}(hlo:w.heap.size≤lo)(hlow:lo≤wr.heap.size)(hds:∀ (j:Nat) d x,ds[j]? =some d→vs[j]? =some x→Dat lo s1.fresh s1.labs wr E1 d x)(hrest:Dat lo s1.fresh s1.labs wr E1 rest vr)(hl:ds.length=vs.length)(hir:∃ t y,vr= .iface t y)
 (hc:ChainAt w3 wr.heap.size vs vr v)(hsz:w3.heap.size=wr.heap.size+vs.length)(hb:Below wr.heap.size wr w3)(hr:RdAt wr R M g cap T dp E1 s1)(hx:Ext w wr E E1 s s1)(hk:Kp R M w wr):
 OkD R M g cap T dp none w E s (.ok (chainD ds rest s1.fresh).1 { s1 with fresh:=(chainD ds rest s1.fresh).2 }) (.returned (.tuple #[v,.pointer none])) w3:=by
 have ag:E1.agree ⟨fun i=>if i<s1.fresh then E1.α i else wr.heap.size+(i-s1.fresh),E1.lab⟩ s1.fresh s1.labs:=⟨fun i hi=>if_pos hi,fun _ _=>rfl⟩
 have hlen:=chainD_len ds rest s1.fresh
 have kp:∀ d x,Dat lo s1.fresh s1.labs wr E1 d x→Dat lo (chainD ds rest s1.fresh).2 s1.labs w3 ⟨fun i=>if i<s1.fresh then E1.α i else wr.heap.size+(i-s1.fresh),E1.lab⟩ d x:=fun d x h=>
  Dat.keep (Nat.le_refl _) (by omega) (fun _ h=>h) (fun b _ h2=>hb.block b h2) ag d x h
 have hdat:=chain_dat (base:=wr.heap.size) (k0:=s1.fresh) (kp rest vr hrest) hlow ds vs v hc hl (fun j d x h1 h2=>kp d x (hds j d x h1 h2)) (by omega) fun j hj=>by
  show(if s1.fresh+j<s1.fresh then _ else _)=_
  rw[if_neg (by omega)];congr 1;omega
 have h1:=hr.below hb
 refine⟨v,⟨fun i=>if i<s1.fresh then E1.α i else wr.heap.size+(i-s1.fresh),E1.lab⟩,rfl,hc.iface hir,Dat.keep hlo (Nat.le_refl _) (fun _ h=>h) (fun _ _ _=>rfl) ⟨fun _ _=>rfl,fun _ _=>rfl⟩ _ _ hdat,?_,⟨h1.rm,h1.gr,h1.gm,h1.blk,h1.row,h1.lm,h1.low,h1.inj,h1.small,h1.deep⟩,(hk.trans (Kp.of_below hb)).a none⟩
 refine Ext.trans hx ⟨ag,by show s1.fresh≤(chainD ds rest s1.fresh).2;omega,fun _ h=>h,fun i i1 i2=>?_,fun i j i1 i2 j1 j2 e=>?_⟩ hk.size (by omega)
 ·have i2':i<(chainD ds rest s1.fresh).2:=i2
  show wr.heap.size≤(if i<s1.fresh then _ else _)∧(if i<s1.fresh then _ else _)<_
  rw[if_neg (by omega)];omega
 ·have e':(if i<s1.fresh then E1.α i else wr.heap.size+(i-s1.fresh))=(if j<s1.fresh then E1.α j else wr.heap.size+(j-s1.fresh)):=e
  rw[if_neg (by omega),if_neg (by omega)] at e';omega
theorem Kp.ge {R M lo:Nat}{w w':World}(h:Kp R M w w')(hR:R<lo)(hM:M<lo):∀ b,lo≤b→b<w.heap.size→w'.heap[b]? =w.heap[b]?:=fun b h1 h2=>h.block b h2 (by omega) (by omega)
section
variable {R M g cap:Nat} {T:List Tok} {dp:Nat}
set_option maxHeartbeats 4000000 in
theorem dotted_step {n:Nat}(ih:IH R M g cap T dp n)(p:Pl)(hp:p.ahead=[])(hd:p.depth≤dp∧p.ahead.length≤p.depth)(w wr:World)(E E1:Env)(s s1:RSt)(hr:RdAt wr R M g cap T dp E1 s1)(hx:Ext w wr E E1 s s1)(hk:Kp R M w wr)(lo:Nat)(hlo:w.heap.size≤lo)(hlow:lo≤wr.heap.size)(hRl:R<lo)(hMl:M<lo)
 (ds:List Dt)(vs:List Value)(hl:ds.length=vs.length)(hn:vs.length≤1000000)(a0:Option Addr)(n0 c0:Nat)(hrow:wr.ownsRow lo 58 1 (.slice a0 n0 c0) vs.length vs)(hh:∀ (j:Nat) d x,ds[j]? =some d→vs[j]? =some x→Held wr lo s1.fresh s1.labs E1 (Value.slice a0 n0 c0).ownBlock d x)(hif:∀ x∈vs,∃ t y,x= .iface t y)
 (r:RR Dt)(hrd:r=((rdDatum T dp n p s1).bind fun rest s=>(rdTake T dp n p s).bind fun t s=>
   if t.kind=3 then .ok (chainD ds rest s.fresh).1 { s with fresh:=(chainD ds rest s.fresh).2 } else .fail 3 t.from_))(ho:r≠ .out):
 Calls Tryz.prog 222 #[ptrV R,.slice a0 n0 c0,plV p.depth p.passed (.slice none 0 0)] wr fun e w'=>OkD R M g cap T dp none w E s r e w':=by
 have mixed:Tryz.prog.follows Departure.mixedOrders=true:=by kernel_rfl
 have hb0:Below wr.heap.size wr (wr.alloc (.cells #[.int .i64 p.depth,.bool p.passed,.slice none 0 0] 128)):=(Below.refl _ wr).alloc (Nat.le_refl _) _
 have HR:Hid _:=hr.below hb0
 have HP:Hid _:=heap_alloc_new wr (.cells #[.int .i64 p.depth,.bool p.passed,.slice none 0 0] 128)
 have hsz0:(wr.alloc (.cells #[.int .i64 p.depth,.bool p.passed,.slice none 0 0] 128)).heap.size=wr.heap.size+1:=by simp
 have hne:rdDatum T dp n p s1≠ .out:=fun h=>ho (by rw[hrd,h];rfl)
 have ah:∀ (w':World) (E':Env) (s':RSt),AhAt w' E' s' p.ahead (.slice none 0 0):=fun w' E' s'=>by rw[hp];exact⟨⟨rfl,.inl ⟨rfl,rfl⟩⟩,⟨_,_,_,rfl⟩,fun n hn=>by cases hn⟩
 have HT:Hid _:=ih.datum p (.slice none 0 0) _ E1 s1 HR.out (ah _ _ _) hd hne
 have HK:Hid _:=hk.trans (Kp.of_below hb0)
 have HX:Hid _:=Ext.wid (w:=w) (w3:=(wr.alloc (.cells #[.int .i64 p.depth,.bool p.passed,.slice none 0 0] 128))) hx (Nat.le_refl _) (by omega)
 have HH:Hid (∀ (j:Nat) d x,ds[j]? =some d→vs[j]? =some x→Dat lo s1.fresh s1.labs (wr.alloc (.cells #[.int .i64 p.depth,.bool p.passed,.slice none 0 0] 128)) E1 d x):=fun j d x h1 h2=>Dat.keep (Nat.le_refl _) (Nat.le_refl _) (fun _ h=>h) (fun b _ h=>hb0.block b h) ⟨fun _ _=>rfl,fun _ _=>rfl⟩ d x (hh j d x h1 h2).dat
 have HW:Hid _:=ownsRow_from hrow (Nat.le_refl _) fun b _ h=>hb0.block b h
 have hrR:R<wr.heap.size:=hr.lt
 have hrM:M<wr.heap.size:=hr.mlt
 have HI:Hid _:=ih
 have HO:Hid _:=ho
 have HA:Hid _:=ah
 have HRD:Hid _:=hrd
 clear hr hb0 ih ho hne ah hx hk hrow hh hrd
 generalize hw0:wr.alloc (.cells #[.int .i64 p.depth,.bool p.passed,.slice none 0 0] 128)=w0 at *
 have HW0:Hid _:=hw0
 clear hw0
 cases hT:rdDatum T dp n p s1 with
 |out=>exact absurd (by rw[HRD.out,hT];rfl) HO.out
 |fail er a=>
  rw[hT] at HT
  have HE:Hid (r= .fail er a):=by show _=_;rw[HRD.out,hT];rfl
  unfold plV ptrV at HT ⊢
  go_enter Tryz.func222,Tryz.ntmps222
  go_wp2_with fail
  rw[HW0.out]
  refine Calls.mono HT.out ?_
  rintro e w1 ⟨⟨b,rfl,hf⟩,hk⟩
  have HF:Hid _:=hf
  have HK1:Hid _:=KpA.plain hk
  clear hf hk HT
  unfold ptrV
  go_wp2_with fail
  go_ret2
  rw[HE.out]
  exact⟨⟨b,rfl,HF.out⟩,(Kp.trans HK.out HK1.out).a none⟩
 |ok rest s2=>
  rw[hT] at HT
  unfold plV ptrV at HT ⊢
  go_enter Tryz.func222,Tryz.ntmps222
  go_wp2_with fail
  rw[HW0.out]
  refine Calls.mono HT.out ?_
  rintro e w1 ⟨vr,E2,rfl,⟨ty,yy,rfl⟩,hdat,hx2,hr2,hk2⟩
  replace hk2:=KpA.plain hk2
  have hs1:=hk2.size
  obtain⟨x0,x1,x2⟩:=cells3 ((hk2.block wr.heap.size (by omega) (by omega) (by omega)).trans HP.out)
  have HE:Hid (r=(rdTake T dp n p s2).bind fun t s=>if t.kind=3 then .ok (chainD ds rest s.fresh).1 { s with fresh:=(chainD ds rest s.fresh).2 } else .fail 3 t.from_):=by show _=_;rw[HRD.out,hT];rfl
  have hne:rdTake T dp n p s2≠ .out:=fun h=>HO.out (by rw[HE.out,h];rfl)
  have HK2:Hid _:=Kp.trans HK.out hk2
  have HX2:Hid _:=Ext.trans HX.out hx2 (Kp.size HK.out) hs1
  have HH2:Hid (∀ (j:Nat) d x,ds[j]? =some d→vs[j]? =some x→Dat lo s2.fresh s2.labs w1 E2 d x):=fun j d x h1 h2=>Dat.keep (Nat.le_refl _) hx2.fresh hx2.labs (Kp.ge hk2 hRl hMl) hx2.agree d x (HH.out j d x h1 h2)
  have HD2:Hid (Dat lo s2.fresh s2.labs w1 E2 rest (.iface ty yy)):=Dat.keep (by omega) (Nat.le_refl _) (fun _ h=>h) (fun _ _ _=>rfl) ⟨fun _ _=>rfl,fun _ _=>rfl⟩ _ _ hdat
  have HW2:Hid _:=ownsRow_from HW.out (Nat.le_refl _) (Kp.ge hk2 hRl hMl)
  have HR2:Hid _:=hr2
  have HT2:Hid _:=HI.out.take p (.slice none 0 0) _ E2 s2 hr2 (HA.out _ _ _) hd hne
  clear hdat hx2 hr2 hk2 HT hne
  cases hT2:rdTake T dp n p s2 with
  |out=>exact absurd (by rw[HE.out,hT2];rfl) HO.out
  |fail er a=>
   rw[hT2] at HT2
   have HE2:Hid (r= .fail er a):=by show _=_;rw[HE.out,hT2];rfl
   unfold plV ptrV at HT2
   go_wp2_with fail
   refine Calls.mono HT2.out ?_
   rintro e w2 ⟨⟨b,t,rfl,hf⟩,hk⟩
   have HF:Hid _:=hf
   have HK3:Hid _:=hk
   clear hf hk HT2
   unfold tkV ptrV
   go_wp2_with fail
   go_ret2
   rw[HE2.out]
   exact⟨⟨b,rfl,FaultAt.alloc HF.out _⟩,(Kp.trans (Kp.trans HK2.out HK3.out) (Kp.of_below ((Below.refl _ _).alloc (Nat.le_refl _) _))).a none⟩
  |ok t s3=>
   rw[hT2] at HT2
   have HE2:Hid (r=if t.kind=3 then .ok (chainD ds rest s3.fresh).1 { s3 with fresh:=(chainD ds rest s3.fresh).2 } else .fail 3 t.from_):=by show _=_;rw[HE.out,hT2];rfl
   unfold plV ptrV at HT2
   go_wp2_with fail
   refine Calls.mono HT2.out ?_
   rintro e w2 ⟨E3,rfl,hx3,hr3,hk3⟩
   have HK3:Hid _:=hk3
   have HX3:Hid _:=hx3
   have HR3:Hid _:=hr3
   have hs3:=hk3.size
   clear hx3 hr3 hk3 HT2
   unfold tkV
   by_cases k3:t.kind=3
   ·have q3:(((t.kind:Nat):Int)==3)=true:=by rw[k3];rfl
    rw[if_pos k3] at HE2
    clear k3
    have hb4:Below w2.heap.size w2 (w2.alloc (.cells #[.int .i64 t.kind,.int .i64 t.from_,.int .i64 t.to_,.string ⟨⟨t.text⟩⟩,.int .i64 t.n,.int .i64 t.d,.int .i64 t.fault] 131)):=(Below.refl _ w2).alloc (Nat.le_refl _) _
    have HB4:Hid _:=hb4
    have hs4:(w2.alloc (.cells #[.int .i64 t.kind,.int .i64 t.from_,.int .i64 t.to_,.string ⟨⟨t.text⟩⟩,.int .i64 t.n,.int .i64 t.d,.int .i64 t.fault] 131)).heap.size=w2.heap.size+1:=by simp
    have HW4:Hid _:=ownsRow_from (ownsRow_from HW2.out (Nat.le_refl _) (Kp.ge HK3.out hRl hMl)) (Nat.le_refl _) fun b _ h=>hb4.block b h
    have HC:Hid _:=chain_row vs (.slice a0 n0 c0) lo (.iface ty yy) _ HW4.out hn hif ⟨_,_,rfl⟩
    clear hb4
    go_wp2_with fail
    refine Calls.mono HC.out ?_
    rintro e w5 ⟨v,rfl,hc,hs5,hb5⟩
    obtain⟨tv,yv,rfl⟩:=hc.iface ⟨_,_,rfl⟩
    have HK4:Hid _:=Kp.trans (Kp.trans HK2.out HK3.out) (Kp.of_below HB4.out)
    have hlo4:lo≤(w2.alloc (.cells #[.int .i64 t.kind,.int .i64 t.from_,.int .i64 t.to_,.string ⟨⟨t.text⟩⟩,.int .i64 t.n,.int .i64 t.d,.int .i64 t.fault] 131)).heap.size:=by have:=(HW2.out.2);have:=Kp.size HK.out;omega
    have HG:Hid _:=chain_fin (T:=T) (dp:=dp) (g:=g) (cap:=cap) (w:=w) (lo:=lo) (ds:=ds) (rest:=rest) (s1:=s3) (E1:=E3) hlo hlo4
     (fun j d x h1 h2=>Dat.keep (Nat.le_refl _) (Nat.le_refl _) (fun _ h=>h) (fun b _ h=>HB4.out.block b h) ⟨fun _ _=>rfl,fun _ _=>rfl⟩ d x (Dat.keep (Nat.le_refl _) (Ext.fresh HX3.out) (Ext.labs HX3.out) (Kp.ge HK3.out hRl hMl) (Ext.agree HX3.out) d x (HH2.out j d x h1 h2)))
     (Dat.keep (Nat.le_refl _) (Nat.le_refl _) (fun _ h=>h) (fun b _ h=>HB4.out.block b h) ⟨fun _ _=>rfl,fun _ _=>rfl⟩ _ _ (Dat.keep (Nat.le_refl _) (Ext.fresh HX3.out) (Ext.labs HX3.out) (Kp.ge HK3.out hRl hMl) (Ext.agree HX3.out) _ _ HD2.out))
     hl ⟨_,_,rfl⟩ hc hs5 hb5 (RdAt.below HR3.out HB4.out) (Ext.wid (w:=w) (Ext.trans HX2.out HX3.out (Kp.size HK2.out) hs3) (Nat.le_refl _) (by omega)) HK4.out
    clear hc hb5
    go_wp2_with fail
    go_ret2
    rw[HE2.out]
    exact HG.out
   ·have q3:(((t.kind:Nat):Int)==3)=false:=by rw[beq_eq_false_iff_ne];omega
    rw[if_neg k3] at HE2
    clear k3
    go_wp2_with fail
    go_region
    go_wp2_with fail
    go_ret2
    rw[HE2.out]
    refine⟨⟨w2.heap.size+1,rfl,?_⟩,(Kp.trans (Kp.trans HK2.out HK3.out) (Kp.of_below ((((Below.refl _ w2).alloc (Nat.le_refl _) _).alloc (by simp) _).drew))).a none⟩
    exact alloc2_at w2 _ _
end
end Go.Proofs.YtlhimdjkkiflhaaGreatDoor
