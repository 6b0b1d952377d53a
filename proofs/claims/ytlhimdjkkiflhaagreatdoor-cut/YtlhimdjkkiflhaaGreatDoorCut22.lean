import Derived.Test.YtlhimdjkkiflhaaGreatDoorCut21
set_option maxHeartbeats 8000000
set_option maxRecDepth 100000
namespace Go.Proofs.YtlhimdjkkiflhaaGreatDoor
open Go.Proofs.Tryz
open Go.RowKit Go.Loop
theorem Mv:∀(T:List Tok) (k j:Nat) (t:Tok),T[k]?=some t→j<7→(T.flatMap iQ)[k*7+j]?=(iQ t)[j]?
 |[],k,j,t,h,_=>by simp at h
 |x::T,0,j,t,h,hj=>by
  simp at h;subst h;rw[List.flatMap_cons,zaF (by simp[iQ];omega)];simp
 |x::T,k+1,j,t,h,hj=>by
  rw[List.flatMap_cons,zaK (by simp[iQ];omega)];have:=Mv T k j t (by simpa using h) hj;rw[show(k+1)*7+j-(iQ x).length=k*7+j by simp[iQ];omega];exact this
theorem bZ.tok {w:World}{R M g cap:Nat}{T:List Tok}{dp:Nat}{E:Env}{s:eX}(h:bZ w R M g cap T dp E s){t:Tok}(ht:T[s.k]?=some t):w.cell? ⟨g,s.k*7,none⟩=some (.int .i64 t.kind)∧w.cell? ⟨g,s.k*7+1,none⟩=some (.int .i64 t.from_)∧w.cell? ⟨g,s.k*7+2,none⟩=some (.int .i64 t.dF)∧w.cell? ⟨g,s.k*7+3,none⟩=some (.string ⟨⟨t.text⟩⟩)∧w.cell? ⟨g,s.k*7+4,none⟩=some (.int .i64 t.n)∧w.cell? ⟨g,s.k*7+5,none⟩=some (.int .i64 t.d)∧w.cell? ⟨g,s.k*7+6,none⟩=some (.int .i64 t.fault):=by
 have hlt:s.k<T.length:=(zbg.1 ht).1;have key:∀j,j<7→w.cell? ⟨g,s.k*7+j,none⟩=(iQ t)[j]?:=λj hj=>by rw[h.row.cellAt _ (by omega),Mv T s.k j t ht hj]
 exact⟨key 0 (by omega),key 1 (by omega),key 2 (by omega),key 3 (by omega),key 4 (by omega),key 5 (by omega),key 6 (by omega)⟩
theorem im {w1:World}{b:Nat}{x0 x1 x2 x3:Value}{e:TypeId}(h:w1.heap[b]?=some (.cells #[x0,x1,x2,x3] e)):(w1.cell? ⟨b,0,none⟩=some x0∧w1.cell? ⟨b,1,none⟩=some x1∧w1.cell? ⟨b,2,none⟩=some x2∧w1.cell? ⟨b,3,none⟩=some x3)∧w1.frozen? ⟨b,1,none⟩=false:=by
 refine⟨⟨?_,?_,?_,?_⟩,?_⟩<;>simp[World.cell?,World.frozen?,h]
theorem Kp.kN {R M:Nat}{w wr w':World}(h:Kp R M w wr)(k:Below w.heap.size wr w'):Kp R M w w':=
 ⟨k.os.trans h.os,k.tape.trans h.tape,k.output.trans h.output,zad h.size k.size,λb h1 h2 h3=>(k.block b h1).trans (h.block b h1 h2 h3)⟩
theorem SJ (w1:World)(c b:Nat)(hb:b≠c)(v0 v1 v2 v3 v4 v5 v6:Value):(((((((w1.setCell ⟨c,0,none⟩ v0).setCell ⟨c,1,none⟩ v1).setCell ⟨c,2,none⟩ v2).setCell ⟨c,3,none⟩ v3).setCell ⟨c,4,none⟩ v4).setCell ⟨c,5,none⟩ v5).setCell ⟨c,6,none⟩ v6).heap[b]?=w1.heap[b]?:=by
 rw[Below.heap_setCell _ _ _ _ hb,Below.heap_setCell _ _ _ _ hb,Below.heap_setCell _ _ _ _ hb,Below.heap_setCell _ _ _ _ hb,Below.heap_setCell _ _ _ _ hb,Below.heap_setCell _ _ _ _ hb,Below.heap_setCell _ _ _ _ hb]
@[reducible] def mP (w1:World) (c:Nat) (v0 v1 v2 v3 v4 v5 v6:Value):World:=((((((w1.setCell ⟨c,0,none⟩ v0).setCell ⟨c,1,none⟩ v1).setCell ⟨c,2,none⟩ v2).setCell ⟨c,3,none⟩ v3).setCell ⟨c,4,none⟩ v4).setCell ⟨c,5,none⟩ v5).setCell ⟨c,6,none⟩ v6
theorem CO (w1:World)(c:Nat)(v0 v1 v2 v3 v4 v5 v6:Value):(mP w1 c v0 v1 v2 v3 v4 v5 v6).heap.size=w1.heap.size:=by simp[mP]
theorem zo (wr:World)(c:Nat)(v0 v1 v2 v3 v4 v5 v6:Value)(A B:Obj):((((mP wr c v0 v1 v2 v3 v4 v5 v6).alloc A).alloc B).drew.drew).heap[wr.heap.size+1]?=some B:=by
 have:=ed (mP wr c v0 v1 v2 v3 v4 v5 v6) A B;rw[CO]at this;exact this
theorem qj (wr:World)(c B:Nat)(h:B≤c)(v0 v1 v2 v3 v4 v5 v6:Value):Below B wr (mP wr c v0 v1 v2 v3 v4 v5 v6):=
 (((((((Below.refl B wr).setCell (p:=⟨c,0,none⟩) h _).setCell (p:=⟨c,1,none⟩) h _).setCell (p:=⟨c,2,none⟩) h _).setCell (p:=⟨c,3,none⟩) h _).setCell (p:=⟨c,4,none⟩) h _).setCell (p:=⟨c,5,none⟩) h _).setCell (p:=⟨c,6,none⟩) h _
theorem zq (wr:World)(c B:Nat)(h:B≤c)(hB:B≤wr.heap.size)(v0 v1 v2 v3 v4 v5 v6:Value)(A C:Obj):Below B wr ((((mP wr c v0 v1 v2 v3 v4 v5 v6).alloc A).alloc C).drew.drew):=
 ((((qj wr c B h v0 v1 v2 v3 v4 v5 v6).alloc (by rw[CO];exact hB) _).alloc (by simp;omega) _).drew).drew
theorem ey {w1:World}{c:Nat}{cs:Array Value}{e:TypeId}(h:w1.heap[c]?=some (.cells cs e))(j:Nat)(v:Value):(w1.setCell ⟨c,j,none⟩ v).heap[c]?=some (.cells (cs.setIfInBounds j v) e):=by
 unfold World.setCell;simp only[Array.getElem?_modify,if_true,h,zaM];rfl
theorem xg {w1:World}{c:Nat}{u0 u1 u2 u3 u4 u5 u6:Value}{e:TypeId}(h:w1.heap[c]?=some (.cells #[u0,u1,u2,u3,u4,u5,u6] e))(v0 v1 v2 v3 v4 v5 v6:Value):(mP w1 c v0 v1 v2 v3 v4 v5 v6).heap[c]?=some (.cells #[v0,v1,v2,v3,v4,v5,v6] e):=by
 have:=ey (ey (ey (ey (ey (ey (ey h 0 v0) 1 v1) 2 v2) 3 v3) 4 v4) 5 v5) 6 v6;unfold mP;rw[this];simp
theorem Jm {wr:World}{c:Nat}{u0 u1 u2 u3 u4 u5 u6:Value}{e:TypeId}(h:wr.heap[c]?=some (.cells #[u0,u1,u2,u3,u4,u5,u6] e))(v0 v1 v2 v3 v4 v5 v6:Value)(A B:Obj)(W:World)(hW:W=(((mP wr c v0 v1 v2 v3 v4 v5 v6).alloc A).alloc B).drew.drew):W.cell? ⟨c,0,none⟩=some v0∧W.cell? ⟨c,1,none⟩=some v1∧W.cell? ⟨c,2,none⟩=some v2∧W.cell? ⟨c,3,none⟩=some v3∧W.cell? ⟨c,4,none⟩=some v4∧W.cell? ⟨c,5,none⟩=some v5∧W.cell? ⟨c,6,none⟩=some v6:=by
 have hl:c<wr.heap.size:=(zae.1 h).1;have h7:=xg h v0 v1 v2 v3 v4 v5 v6;have hs:=CO wr c v0 v1 v2 v3 v4 v5 v6;have hd:W.heap=(((mP wr c v0 v1 v2 v3 v4 v5 v6).alloc A).alloc B).heap:=by rw[hW];rfl
 clear hW;generalize mP wr c v0 v1 v2 v3 v4 v5 v6=w1 at *;have hb:W.heap[c]?=some (.cells #[v0,v1,v2,v3,v4,v5,v6] e):=by
  rw[hd,Lib.alloc_old _ _ _ (by simp;omega),Lib.alloc_old _ _ _ (by omega),h7]
 refine⟨?_,?_,?_,?_,?_,?_,?_⟩<;>simp[World.cell?,hb]
theorem pP {P:Program}{fn:Func}{Q:Ending→World→Prop}{a:Act}{wr:World}{c:Nat}{u0 u1 u2 u3 u4 u5 u6:Value}{e:TypeId}(h:wr.heap[c]?=some (.cells #[u0,u1,u2,u3,u4,u5,u6] e)){v0 v1 v2 v3 v4 v5 v6:Value}{A B:Obj}{v:Value}
 (hr:∀W:World,W.cell? ⟨c,0,none⟩=some v0→W.cell? ⟨c,1,none⟩=some v1→W.cell? ⟨c,2,none⟩=some v2→W.cell? ⟨c,3,none⟩=some v3→W.cell? ⟨c,4,none⟩=some v4→W.cell? ⟨c,5,none⟩=some v5→W.cell? ⟨c,6,none⟩=some v6→(results fn a.tmps).run P W=.ok v W)
 (hd:a.defers=[])(hR:Q (.returned v) (((mP wr c v0 v1 v2 v3 v4 v5 v6).alloc A).alloc B).drew.drew):bodyPost P fn Q .ret a (((mP wr c v0 v1 v2 v3 v4 v5 v6).alloc A).alloc B).drew.drew:=by
 obtain⟨y0,y1,y2,y3,y4,y5,y6⟩:=Jm h v0 v1 v2 v3 v4 v5 v6 A B _ rfl;exact bodyPost_ret (hr _ y0 y1 y2 y3 y4 y5 y6) hd hR
theorem nz {P:Program}{fn:Func}{Q:Ending→World→Prop}{a:Act}{W:World}{c:Nat}{v0 v1 v2 v3 v4 v5 v6:Value}{e:TypeId}{v:Value}(h:W.heap[c]?=some (.cells #[v0,v1,v2,v3,v4,v5,v6] e))
 (hr:W.cell? ⟨c,0,none⟩=some v0→W.cell? ⟨c,1,none⟩=some v1→W.cell? ⟨c,2,none⟩=some v2→W.cell? ⟨c,3,none⟩=some v3→W.cell? ⟨c,4,none⟩=some v4→W.cell? ⟨c,5,none⟩=some v5→W.cell? ⟨c,6,none⟩=some v6→(results fn a.tmps).run P W=.ok v W)
 (hd:a.defers=[])(hR:Q (.returned v) W):bodyPost P fn Q .ret a W:=
 bodyPost_ret (hr (by simp[World.cell?,h]) (by simp[World.cell?,h]) (by simp[World.cell?,h]) (by simp[World.cell?,h]) (by simp[World.cell?,h]) (by simp[World.cell?,h]) (by simp[World.cell?,h])) hd hR
theorem Mw {R M:Nat}(w:World)(j:Nat)(v:Value):Kp R M w (w.setCell ⟨R,j,none⟩ v):=
 ⟨rfl,rfl,rfl,by simp,λb _ h2 _=>Below.heap_setCell _ _ _ _ h2⟩
theorem Ps {R M:Nat}(w:World)(j:Nat)(v:Value)(A:Obj):Kp R M w ((w.setCell ⟨R,j,none⟩ v).alloc A).drew:=
 (Mw w j v).trans (Kp.aJ (((Below.refl _ _).alloc (zaa _) _).drew))
theorem bZ.step {w w':World}{R M g cap:Nat}{T:List Tok}{dp:Nat}{E:Env}{s:eX}(h:bZ w R M g cap T dp E s){k:Nat}(hR:w'.heap[R]?=some (.cells #[.slice (some ⟨g,0,none⟩) T.length cap,.int .i64 k,.int .i64 dp,.map (some M)] 123))(_:w.heap.size≤w'.heap.size)(hk:∀b,b<w.heap.size→b=g∨b=M→w'.heap[b]?=w.heap[b]?)(hl:∀(b:Nat) (v:Value),w.heap[b]?=some (.cells #[v] 215)→w'.heap[b]?=w.heap[b]?):bZ w' R M g cap T dp E { s with k:=k }:=by
 have hg:=(h.row.lt g rfl).2;refine⟨h.rm,h.gr,h.gm,hR,?_,?_,λn hn=>(h.low n hn).imp λv hv=>(hl _ v hv).trans hv,h.inj,h.small,h.deep⟩
 ·refine⟨h.row.1,h.row.2.imp id ?_⟩;rintro ⟨b,cp,cur,h1,h2,h3,h4⟩;have:b=g:=by cases h1;rfl
  exact⟨b,cp,cur,h1,h2,(hk b (zae.1 h3).1 (.inl this)).trans h3,h4⟩
 ·obtain⟨es,c,h1,h2⟩:=h.lm;exact⟨es,c,(hk M h.mlt (.inr rfl)).trans h1,h2⟩
theorem bZ.step1 {wr:World}{R M g cap:Nat}{T:List Tok}{dp:Nat}{E:Env}{s:eX}(h:bZ wr R M g cap T dp E s)(A:Obj):bZ ((wr.setCell ⟨R,1,none⟩ (.int .i64 ((s.k:Int)+1))).alloc A).drew R M g cap T dp E { s with k:=s.k+1 }:=by
 have hb:=ey h.blk 1 (.int .i64 ((s.k:Int)+1));have hl:=h.lt;have e0:∀b,b<wr.heap.size→(((wr.setCell ⟨R,1,none⟩ (.int .i64 ((s.k:Int)+1))).alloc A).drew).heap[b]?=(wr.setCell ⟨R,1,none⟩ (.int .i64 ((s.k:Int)+1))).heap[b]?:=λb h=>Lib.alloc_old _ _ _ (by simp;exact h);refine bZ.step h ?_ (by simp) (λb hb1 hb2=>?_) λb v hv=>?_
 ·rw[e0 R hl,hb];simp
 rotate_left
 ·rw[e0 b (zae.1 hv).1];exact Below.heap_setCell _ _ _ _ (λe=>by rw[e,h.blk]at hv;simp at hv)
 ·rw[e0 b hb1];exact Below.heap_setCell _ _ _ _ (hb2.elim (λe=>by rw[e];exact h.gr) (λe=>by rw[e];exact λx=>h.rm x.symm))
theorem Uy {wr:World}{R c:Nat}(hc:c≠R){u0 u1 u2 u3 u4 u5 u6:Value}{e:TypeId}(h:wr.heap[c]?=some (.cells #[u0,u1,u2,u3,u4,u5,u6] e))(v v0 v1 v2 v3 v4 v5 v6:Value)(A:Obj):((mP (wr.setCell ⟨R,1,none⟩ v) c v0 v1 v2 v3 v4 v5 v6).alloc A).drew.heap[c]?=some (.cells #[v0,v1,v2,v3,v4,v5,v6] e):=by
 have h7:=xg ((Below.heap_setCell wr ⟨R,1,none⟩ v c hc).trans h) v0 v1 v2 v3 v4 v5 v6;generalize mP (wr.setCell ⟨R,1,none⟩ v) c v0 v1 v2 v3 v4 v5 v6=w1 at *;show(w1.alloc A).heap[c]?=_;rw[Lib.alloc_old _ _ _ (zae.1 h7).1,h7]
theorem Pt {R M c:Nat}{w wr:World}(hk:Kp R M w wr)(h:w.heap.size≤c)(v v0 v1 v2 v3 v4 v5 v6:Value)(A:Obj):Kp R M w ((mP (wr.setCell ⟨R,1,none⟩ v) c v0 v1 v2 v3 v4 v5 v6).alloc A).drew:=
 Kp.kN (hk.trans (Mw wr 1 v)) (((qj _ c w.heap.size h v0 v1 v2 v3 v4 v5 v6).alloc (by rw[CO];simp;exact hk.size) _).drew)
theorem bZ.Uy {wr:World}{R M g cap c:Nat}{T:List Tok}{dp:Nat}{E:Env}{s:eX}(h:bZ wr R M g cap T dp E s)(h1:c≠R)(h2:c≠M)(h3:c≠g)(h4:wr.heap[c]?=some T0)(v0 v1 v2 v3 v4 v5 v6:Value)(A:Obj):bZ ((mP (wr.setCell ⟨R,1,none⟩ (.int .i64 ((s.k:Int)+1))) c v0 v1 v2 v3 v4 v5 v6).alloc A).drew R M g cap T dp E { s with k:=s.k+1 }:=by
 have hb:=ey h.blk 1 (.int .i64 ((s.k:Int)+1));have hl:=h.lt;have hs:=CO (wr.setCell ⟨R,1,none⟩ (.int .i64 ((s.k:Int)+1))) c v0 v1 v2 v3 v4 v5 v6;have hh:∀b,b≠c→(mP (wr.setCell ⟨R,1,none⟩ (.int .i64 ((s.k:Int)+1))) c v0 v1 v2 v3 v4 v5 v6).heap[b]?=(wr.setCell ⟨R,1,none⟩ (.int .i64 ((s.k:Int)+1))).heap[b]?:=λb hc=>SJ _ c b hc _ _ _ _ _ _ _;generalize mP (wr.setCell ⟨R,1,none⟩ (.int .i64 ((s.k:Int)+1))) c v0 v1 v2 v3 v4 v5 v6=w1 at *;have hs1:w1.heap.size=wr.heap.size:=by rw[hs];simp
 have e0:∀b,b<wr.heap.size→b≠c→(w1.alloc A).drew.heap[b]?=(wr.setCell ⟨R,1,none⟩ (.int .i64 ((s.k:Int)+1))).heap[b]?:=λb h hc=>by
  show(w1.alloc A).heap[b]?=_;rw[Lib.alloc_old _ _ _ (by omega),hh b hc]
 refine bZ.step h ?_ ?_ (λb hb1 hb2=>?_) λb v hv=>?_
 ·rw[e0 R hl h1.symm,hb];simp
 ·simp;omega
 rotate_left
 ·rw[e0 b (zae.1 hv).1 (λe=>by rw[e,h4]at hv;simp[T0]at hv)];exact Below.heap_setCell _ _ _ _ (λe=>by rw[e,h.blk]at hv;simp at hv)
 ·rw[e0 b hb1 (hb2.elim (λe=>by rw[e];exact h3.symm) (λe=>by rw[e];exact h2.symm))];exact Below.heap_setCell _ _ _ _ (hb2.elim (λe=>by rw[e];exact h.gr) (λe=>by rw[e];exact λx=>h.rm x.symm))
theorem Ext.to {w w':World}{E E':Env}{s s' s'':eX}(h:Ext w w' E E' s s')(hf:s''.fresh=s'.fresh)(hl:s''.aN=s'.aN):Ext w w' E E' s s'':=
 ⟨h.agree,by rw[hf];exact h.fresh,by rw[hl];exact h.aN,by rw[hf];exact h.new,by rw[hf];exact h.inj⟩
theorem CP (wr:World)(R c:Nat)(hc:c≠R)(h:c<wr.heap.size)(v:Value)(A:Obj):((wr.setCell ⟨R,1,none⟩ v).alloc A).drew.heap[c]?=wr.heap[c]?:=
 (Lib.alloc_old _ _ _ (by simp;exact h)).trans (Below.heap_setCell _ _ _ _ hc)
theorem Mx (wr:World)(R:Nat)(v:Value)(A:Obj):((wr.setCell ⟨R,1,none⟩ v).alloc A).drew.heap[wr.heap.size]?=some A:=by
 have:=heap_alloc_new (wr.setCell ⟨R,1,none⟩ v) A;rw[show(wr.setCell ⟨R,1,none⟩ v).heap.size=wr.heap.size by simp]at this;exact this
section
variable {R M g cap:Nat}{T:List Tok}{dp:Nat}
theorem Jn {N:Nat}(ih:∀n,n≤N→IH R M g cap T dp n)(p:Pl)(av:Value)(w:World)(E:Env)(s:eX)(hr:bZ w R M g cap T dp E s)(ha:iZ w E s p.ahead av)(hd:p.depth≤dp∧p.ahead.length≤p.depth)(ho:aX T dp (N+1) p s≠.out):Calls prog 105 #[aH R,gX p.depth p.passed av] w λe w'=>OkT R M g cap T dp w E s (aX T dp (N+1) p s) e w':=by
 have mixed:prog.follows Departure.mixedOrders=true:=by kernel_rfl
 obtain⟨⟨a0,n0,c0,rfl⟩⟩:=(⟨ha.2.1⟩:Nonempty _);have Ko:R<w.heap.size:=hr.lt;have lB:M<w.heap.size:=hr.mlt;have hrg:g<w.heap.size:=(hr.row.lt g rfl).2;have hb0:Below w.heap.size w ((w.alloc (.cells #[.int .i64 p.depth,.bool p.passed,.slice a0 n0 c0] 128)).alloc T0):=((Below.refl _ w).alloc (zaa _) _).alloc (by simp) _;have HP:Hid (((w.alloc (.cells #[.int .i64 p.depth,.bool p.passed,.slice a0 n0 c0] 128)).alloc T0).heap[w.heap.size]?=some (.cells #[.int .i64 p.depth,.bool p.passed,.slice a0 n0 c0] 128)):=(Lib.alloc_old _ _ _ (by simp)).trans (heap_alloc_new w _);have HQ:Hid (((w.alloc (.cells #[.int .i64 p.depth,.bool p.passed,.slice a0 n0 c0] 128)).alloc T0).heap[w.heap.size+1]?=some T0):=ed w _ _;have HR:Hid _:=hr.below hb0;have HB:Hid _:=hb0;have HI:Hid _:=ih;have HO:Hid _:=ho;have hsm:=hr.small;clear hr ha hb0 ih ho;unfold gX aH;go_enter func105,ntmps105;go_wp2_with fail;go_loopw [] (λwr=>∃(m:Nat) (E1:Env) (s1:eX),m≤N+1∧w.heap.size+2≤wr.heap.size∧Hid (aX T dp (N+1) p s=aX T dp m p s1)∧Hid (bZ wr R M g cap T dp E1 s1)∧Hid (Ext w wr E E1 s s1)∧Hid (Kp R M w wr)∧Hid (wr.heap[w.heap.size]?=some (.cells #[.int .i64 p.depth,.bool p.passed,.slice a0 n0 c0] 128))∧Hid (wr.heap[w.heap.size+1]?=some T0)) (λwr=>T.length+1-(intOf ((wr.cell? ⟨R,1,none⟩).getD undef)).toNat)
 case atStart=>exact⟨N+1,E,s,zaa _,by simp,rfl,HR.out,Ext.refl rfl rfl,Kp.aJ HB.out,HP.out,HQ.out⟩
 case round=>
  obtain⟨m,E1,s1,hm,hsz,HE,u7,HX,HK,N1,WN⟩:=hrel;have EO:aX T dp m p s1≠.out:=by rw[←HE.out];exact HO.out
  obtain⟨m',rfl⟩:∃m',m=m'+1:=by
   cases m with
   |zero=>exact absurd (by unfold aX;rfl) EO
   |succ m'=>exact⟨m',rfl⟩
  cases ht:T[s1.k]? with
  |none=>exact absurd (by unfold aX;rw[ht]) EO
  |some t=>
   have hlt:s1.k<T.length:=(zbg.1 ht).1;obtain⟨⟨r0,r1,r2,r3⟩,rf⟩:=im u7.out.blk;obtain⟨t0,t1,t2,t3,t4,t5,t6⟩:=u7.out.tok ht;obtain⟨p0,p1,p2⟩:=fL N1.out;obtain⟨⟨x0,x1,x2,x3,x4,x5,x6⟩,f0,f1,f2,f3,f4,f5,f6⟩:=dz (b:=w.heap.size+1) (Below.refl _ wr) WN.out;have hRr:R<wr.heap.size:=u7.out.lt;have hgr:g<wr.heap.size:=(u7.out.row.lt g rfl).2;have e1:¬R=wr.heap.size:=by omega
   have e2:¬g=wr.heap.size:=by omega
   have e3:¬w.heap.size=wr.heap.size:=by omega
   have e4:¬w.heap.size+1=wr.heap.size:=by omega
   have e5:w.heap.size<wr.heap.size:=by omega
   have e6:w.heap.size+1<wr.heap.size:=by omega
   have htk:Hid (aX T dp (m'+1) p s1=if t.kind=0 then .fail 4 t.from_ else if t.kind=1 then .fail 3 t.from_ else if t.kind=6 then(aM T dp m' ⟨p.depth,true,[]⟩ { s1 with k:=s1.k+1 }).bind λ_ s=>aX T dp m' p s else .ok t { s1 with k:=s1.k+1 }):=by
    show _=_
    conv=>lhs;unfold aX
    rw[ht]
   by_cases k0:t.kind=0
   ·have HF:Hid (aX T dp (N+1) p s=.fail 4 t.from_):=by show _=_;rw[HE.out,htk.out,if_pos k0]
    have q0:(((t.kind:Nat):Int)==0)=true:=by rw[k0];rfl
    clear k0;go_wp2_with fail;go_region;go_wp2_with fail;go_region;go_wp2_with fail;refine pP WN.out (v:= .tuple #[bn t,aH (wr.heap.size+1)]) (λW y0 y1 y2 y3 y4 y5 y6=>by simp[results,results105,bn,aH,go_sem,y0,y1,y2,y3,y4,y5,y6]) rfl ?_;rw[HF.out];refine⟨⟨_,_,rfl,?_⟩,Kp.kN HK.out ?_⟩
    ·exact zo wr (w.heap.size+1) _ _ _ _ _ _ _ _ _
    ·exact zq wr (w.heap.size+1) w.heap.size (by omega) (by omega) _ _ _ _ _ _ _ _ _
   have q0:(((t.kind:Nat):Int)==0)=false:=by rw[beq_eq_false_iff_ne];omega
   by_cases k1:t.kind=1
   ·have HF:Hid (aX T dp (N+1) p s=.fail 3 t.from_):=by show _=_;rw[HE.out,htk.out,if_neg k0,if_pos k1]
    have q1:(((t.kind:Nat):Int)==1)=true:=by rw[k1];rfl
    clear k0 k1;go_wp2_with fail;go_region;go_wp2_with fail;go_region;go_wp2_with fail;refine pP WN.out (v:= .tuple #[bn t,aH (wr.heap.size+1)]) (λW y0 y1 y2 y3 y4 y5 y6=>by simp[results,results105,bn,aH,go_sem,y0,y1,y2,y3,y4,y5,y6]) rfl ?_;rw[HF.out];refine⟨⟨_,_,rfl,?_⟩,Kp.kN HK.out ?_⟩
    ·exact zo wr (w.heap.size+1) _ _ _ _ _ _ _ _ _
    ·exact zq wr (w.heap.size+1) w.heap.size (by omega) (by omega) _ _ _ _ _ _ _ _ _
   have q1:(((t.kind:Nat):Int)==1)=false:=by rw[beq_eq_false_iff_ne];omega
   by_cases k6:t.kind=6
   ·have q6:(((t.kind:Nat):Int)==6)=true:=by rw[k6];rfl
    have HF:Hid (aX T dp (N+1) p s=(aM T dp m' ⟨p.depth,true,[]⟩ { s1 with k:=s1.k+1 }).bind λ_ s=>aX T dp m' p s):=by show _=_;rw[HE.out,htk.out,if_neg k0,if_neg k1,if_pos k6]
    clear k0 k1 k6;have Ff:Hid _:=bZ.step1 u7.out (.cells #[.int .i64 t.kind,.int .i64 t.from_,.int .i64 t.dF,.string ⟨⟨t.text⟩⟩,.int .i64 t.n,.int .i64 t.d,.int .i64 t.fault] 131);have pg:Hid _:=Kp.trans HK.out (Ps wr 1 (.int .i64 ((s1.k:Int)+1)) (.cells #[.int .i64 t.kind,.int .i64 t.from_,.int .i64 t.dF,.string ⟨⟨t.text⟩⟩,.int .i64 t.n,.int .i64 t.d,.int .i64 t.fault] 131));have hne:aM T dp m' ⟨p.depth,true,[]⟩ { s1 with k:=s1.k+1 }≠.out:=λh=>HO.out (by rw[HF.out,h];rfl);have HC:Hid _:=(HI.out m' (by omega)).datum ⟨p.depth,true,[]⟩ (.slice none 0 0) _ E1 _ Ff.out ⟨⟨rfl,.inl ⟨rfl,rfl⟩⟩,⟨_,_,_,rfl⟩,λn hn=>by cases hn⟩ ⟨hd.1,zaj _⟩ hne;clear hne;unfold aH gX at HC;go_wp2_with fail;go_region;go_wp2_with fail;refine Calls.mono HC.out ?_;clear HC;intro e w2 cC;have HP2:Hid _:=(CP wr R w.heap.size (by omega) (by omega) (.int .i64 ((s1.k:Int)+1)) (.cells #[.int .i64 t.kind,.int .i64 t.from_,.int .i64 t.dF,.string ⟨⟨t.text⟩⟩,.int .i64 t.n,.int .i64 t.d,.int .i64 t.fault] 131)).trans N1.out;have YM:Hid _:=(CP wr R (w.heap.size+1) (by omega) (by omega) (.int .i64 ((s1.k:Int)+1)) (.cells #[.int .i64 t.kind,.int .i64 t.from_,.int .i64 t.dF,.string ⟨⟨t.text⟩⟩,.int .i64 t.n,.int .i64 t.d,.int .i64 t.fault] 131)).trans WN.out;have N2:Hid _:=Mx wr R (.int .i64 ((s1.k:Int)+1)) (.cells #[.int .i64 t.kind,.int .i64 t.from_,.int .i64 t.dF,.string ⟨⟨t.text⟩⟩,.int .i64 t.n,.int .i64 t.d,.int .i64 t.fault] 131);have El:(((wr.setCell ⟨R,1,none⟩ (.int .i64 ((s1.k:Int)+1))).alloc (.cells #[.int .i64 t.kind,.int .i64 t.from_,.int .i64 t.dF,.string ⟨⟨t.text⟩⟩,.int .i64 t.n,.int .i64 t.d,.int .i64 t.fault] 131)).drew).heap.size=wr.heap.size+1:=by simp
    generalize ((wr.setCell ⟨R,1,none⟩ (.int .i64 ((s1.k:Int)+1))).alloc (.cells #[.int .i64 t.kind,.int .i64 t.from_,.int .i64 t.dF,.string ⟨⟨t.text⟩⟩,.int .i64 t.n,.int .i64 t.d,.int .i64 t.fault] 131)).drew=wm at *;cases hF:aM T dp m' ⟨p.depth,true,[]⟩ { s1 with k:=s1.k+1 } with
    |out=>exact absurd (by rw[HF.out,hF];rfl) HO.out
    |fail er a=>
     rw[hF]at cC;obtain⟨⟨b,rfl,hf⟩,hk2⟩:=cC;replace hk2:=jP.plain hk2;have hs2:=hk2.size;have HF2:Hid _:=hf;have nE:Hid _:=Kp.trans pg.out hk2;have jK:Hid (aX T dp (N+1) p s=.fail er a):=by show _=_;rw[HF.out,hF];rfl
     have My:Hid _:=(hk2.block (w.heap.size+1) (by omega) (by omega) (by omega)).trans YM.out;have WJ:=(hk2.block wr.heap.size (by omega) (by omega) (by omega)).trans N2.out;obtain⟨⟨y0,y1,y2,y3,y4,y5,y6⟩,-⟩:=dz (Below.refl _ w2) WJ;obtain⟨⟨z0,z1,z2,z3,z4,z5,z6⟩,g0,g1,g2,g3,g4,g5,g6⟩:=dz (b:=w.heap.size+1) (Below.refl _ w2) My.out;have i1:¬wr.heap.size=w2.heap.size:=by omega
     have i2:¬w.heap.size+1=w2.heap.size:=by omega
     have i3:¬wr.heap.size=w.heap.size+1:=by omega
     clear WJ hf hk2 hF x0 x1 x2 x3 x4 x5 x6 f0 f1 f2 f3 f4 f5 f6 t0 t1 t2 t3 t4 t5 t6 r0 r1 r2 r3 rf p0 p1 p2;unfold aH;go_wp2_with fail;refine nz (xg My.out _ _ _ _ _ _ _) (v:= .tuple #[bn t,aH b]) ?_ rfl ?_
     ·intro o0 o1 o2 o3 o4 o5 o6;simp[results,results105,bn,aH,go_sem,o0,o1,o2,o3,o4,o5,o6]
     have hbc:b≠w.heap.size+1:=λe=>by
      have q:=HF2.out;unfold dL at q;rw[e,My.out]at q;simp[T0]at q
     rw[jK.out];exact⟨⟨b,t,rfl,(SJ w2 _ b hbc _ _ _ _ _ _ _).trans HF2.out⟩,Kp.kN nE.out (qj w2 (w.heap.size+1) w.heap.size (by omega) _ _ _ _ _ _ _)⟩
    |ok d s2=>
     rw[hF]at cC;obtain⟨v,E2,rfl,⟨ty,y,rfl⟩,-,hx2,hr2,hk2⟩:=cC;replace hk2:=jP.plain hk2;have hs2:=hk2.size;have nE:Hid _:=Kp.trans pg.out hk2;have jK:Hid (aX T dp (N+1) p s=aX T dp m' p s2):=by show _=_;rw[HF.out,hF];rfl
     have Pu:Hid _:=Ext.trans (Ext.to (s'':={ s1 with k:=s1.k+1 }) (Ext.wid (w3:=wm) HX.out (zaa _) (by omega)) rfl rfl) hx2 (by omega) hs2;have Mz:Hid _:=hr2;have N3:Hid _:=(hk2.block w.heap.size (by omega) (by omega) (by omega)).trans HP2.out;have My:Hid _:=(hk2.block (w.heap.size+1) (by omega) (by omega) (by omega)).trans YM.out;have hgrow:s1.k+1≤s2.k:=(grows T dp m').datum _ _ _ _ hF;clear hx2 hr2 hk2 hF x0 x1 x2 x3 x4 x5 x6 f0 f1 f2 f3 f4 f5 f6 t0 t1 t2 t3 t4 t5 t6 p0 p1 p2;go_wp2_with fail;refine⟨⟨m',E2,s2,by omega,by omega,jK,Mz,Pu,nE,N3,My⟩,?_⟩;rw[(im Mz.out.blk).1.2.1,(im u7.out.blk).1.2.1];simp only[zaD,intOf,zaB];omega
   ·have q6:(((t.kind:Nat):Int)==6)=false:=by rw[beq_eq_false_iff_ne];omega
    have HF:Hid (aX T dp (N+1) p s=.ok t { s1 with k:=s1.k+1 }):=by show _=_;rw[HE.out,htk.out,if_neg k0,if_neg k1,if_neg k6]
    clear k0 k1 k6;go_wp2_with fail;go_region;go_wp2_with fail;refine nz (Uy (by omega) WN.out _ _ _ _ _ _ _ _ _) (v:= .tuple #[bn t,.pointer none]) ?_ rfl ?_
    ·intro y0 y1 y2 y3 y4 y5 y6;simp[results,results105,bn,go_sem,y0,y1,y2,y3,y4,y5,y6]
    rw[HF.out];exact⟨E1,rfl,Ext.to (Ext.wid HX.out (zaa _) (by simp)) rfl rfl,bZ.Uy u7.out (by omega) (by omega) (by omega) WN.out _ _ _ _ _ _ _ _,Pt HK.out (by omega) _ _ _ _ _ _ _ _ _⟩
end
section
variable {P:Program}
theorem uD (w:World)(base:Nat)(t ty e:TypeId)(i:TypeInfo)(z:Value)(y:Nat)(ht:P.underlying t=some (.slice e))(hi:P.info? e=some i)(hz:i.zero=some z)
 (hsize:i.size=1)(hby:i.bytes=y)(hy:y≤16)(hzs:z.cells.size=1)
 (v:Value)(n:Nat)(xs:List Value)(hown:w.ownsRow base e 1 v n xs)
 (a:Addr)(m c:Nat)(news:List Value)(hm:m≠0)(hl:news.length=m*1)(hnews:∀j u,news[j]?=some u→w.cell? (a.add j)=some u)(h1:∀u∈news,u.oneCell'=true)
 (hlen:n+m≤1000000)(hbase:base≤w.heap.size):
 ∃v' w',(Builtin.append_ #[t,t] ty #[v,.slice (some a) m c]).run P w=.ok v' w'∧w'.ownsRow base e 1 v' (n+m) (xs++news)∧w.grownBy w' v.ownBlock∧
  (v'.ownBlock=v.ownBlock∨∃k,v'.ownBlock=some k∧w.heap.size≤k):=by
 have h63:n+m≤maxLen:=by unfold maxLen;omega
 have hbytes:(n+m)*y≤140737488355328:=zad (Nat.mul_le_mul hlen hy) (by decide);have abo:m*y≤281474976710656:=zad (Nat.mul_le_mul (show m≤1000000 by omega) hy) (by decide);obtain⟨v',w',hr,h2,h3,h4⟩:=run_append_own (P:=P) w base t ty e i z 1 y ht hi hz hsize hby hzs (by decide) v n xs hown a m c news hl hnews h1 h63 hbytes hbase;refine⟨v',w',hr,h2,h3,?_⟩;have E4:n+m≤9223372036854775807:=by omega
 rcases hown.2 with⟨rfl,rfl⟩|⟨g,cap,cur,rfl,hbg,hg,hnc,hcm,hcs,CH⟩
 ·have l4:=run_append_nil (P:=P) w t ty e i z ht hi hz a m c news (by rw[hsize];exact hl) hnews (by omega) (by omega) (by rw[hby];first|exact growslice_fits (by omega) (by simpa using hbytes)|exact abo);rw[l4]at hr;injection hr with a b;rw[←a];exact Or.inr ⟨_,rfl,zaa _⟩
 ·by_cases hroom:n+m≤cap
  ·have l4:=run_append_room (P:=P) w t ty e i ht hi g n cap cur hg a m c news (by rw[hsize];exact hl) hnews h1 hroom (by rw[hsize];omega);rw[l4]at hr;injection hr with a b;rw[←a];exact Or.inl rfl
  ·have holds:∀j u,xs[j]?=some u→w.cell? ((⟨g,0,none⟩:Addr).add j)=some u:=hown.cells (g:=g) rfl;have l4:=run_append_grow (P:=P) w t ty e i z ht hi hz ⟨g,0,none⟩ n cap xs (by rw[hsize];exact hown.1) holds a m c news (by rw[hsize];exact hl) hnews (by omega) (by omega) (by rw[hby];exact growslice_fits (by omega) hbytes);rw[l4]at hr;injection hr with a b;rw[←a];exact Or.inr ⟨_,rfl,zaa _⟩
theorem iq {w:World}{ops:Array Oper}{rest:List Oper}{o:Oper}{a:Act}{Q:Exit→Act→World→Prop}(hgd:o.guard=none)(sl x:Operand)(t:TypeId)
 (ho:o.op=.call { callee:= .builtin .append,args:=#[sl,x],argTypes:=#[t,t] })
 (base:Nat)(e:TypeId)(i:TypeInfo)(z:Value)(y:Nat)(ht:P.underlying t=some (.slice e))(hi:P.info? e=some i)(hz:i.zero=some z)
 (hsize:i.size=1)(hby:i.bytes=y)(hy:y≤16)(hzs:z.cells.size=1)
 (v:Value)(n:Nat)(xs:List Value)(hs:a.eval sl=v)(hown:w.ownsRow base e 1 v n xs)
 (ad:Addr)(m c:Nat)(news:List Value)(hx:a.eval x=.slice (some ad) m c)(hm:m≠0)(hl:news.length=m*1)(hnews:∀j u,news[j]?=some u→w.cell? (ad.add j)=some u)(h1:∀u∈news,u.oneCell'=true)
 (hlen:n+m≤1000000)(hbase:base≤w.heap.size)
 (h:∀v' w',w'.ownsRow base e 1 v' (n+m) (xs++news)→w.grownBy w' v.ownBlock→(v'.ownBlock=v.ownBlock∨∃k,v'.ownBlock=some k∧w.heap.size≤k)→wpList P ops Q rest (a.put o.dst v') w'):wpList P ops Q (o::rest) a w:=by
 refine wpList_plain hgd λK hK=>?_;obtain⟨v',w',hr,h2,h3,h4⟩:=uD (P:=P) w base t o.type e i z y ht hi hz hsize hby hy hzs v n xs hown ad m c news hm hl hnews h1 hlen hbase;unfold Oper.wp execOp;simp only[ho,resolve,invoke,builtin,Sem.run_bind,Sem.run_pure,Result.andThen_ok,zbe,zao,zaG,hs,hx,hr];exact hK _ _ (h v' w' h2 h3 h4)
end
theorem zr:(prog.info? 58).map (λi=>(i.zero,i.size,i.bytes))=some (some .nilIface,1,16):=by kernel_rfl
theorem Jo:(prog.info? 212).map (λi=>(i.zero,i.size,i.bytes))=some (some (.pointer none),1,8):=by kernel_rfl
def Held (wr:World)(lo k:Nat)(L:List Int)(E:Env)(c:Option Nat)(d:Dt)(v:Value):Prop:=
 (∃t y,v=.iface t y)∧∃wi z,lo≤z∧wi.heap.size≤wr.heap.size∧cz z k L wi E d v∧(∀b,z≤b→b<wi.heap.size→wr.heap[b]?=wi.heap[b]?)∧∀b,c=some b→b<z∨wi.heap.size≤b
theorem Held.YN {wr:World}{lo k:Nat}{L:List Int}{E:Env}{c:Option Nat}{d:Dt}{v:Value}(h:Held wr lo k L E c d v):cz lo k L wr E d v:=by
 obtain⟨-,wi,z,h1,h2,h3,h4,-⟩:=h;exact cz.keep h1 (zaa _) (λ_ h=>h) h4 ⟨λ_ _=>rfl,λ_ _=>rfl⟩ d v h3
theorem Held.keep {wr w':World}{lo k k':Nat}{L L':List Int}{E E':Env}{c c':Option Nat}{d:Dt}{v:Value}(h:Held wr lo k L E c d v)(hs:wr.heap.size≤w'.heap.size)(hk:k≤k')(hL:∀n∈L,n∈L')(hE:E.agree E' k L)
 (hw:∀b,lo≤b→b<wr.heap.size→some b≠c→w'.heap[b]?=wr.heap[b]?)(hc:c'=c∨∃b,c'=some b∧wr.heap.size≤b):Held w' lo k' L' E' c' d v:=by
 obtain⟨hi,wi,z,h1,h2,h3,h4,h5⟩:=h;refine⟨hi,wi,z,h1,by omega,cz.keep (zaa _) hk hL (λ_ _ _=>rfl) hE d v h3,λb b1 b2=>?_,λb hb=>?_⟩
 ·refine(hw b (by omega) (by omega) λe=>?_).trans (h4 b b1 b2);have:=h5 b e.symm;omega
 ·rcases hc with hc|⟨b',hc,hlt⟩
  ·exact h5 b (by rw[←hc];exact hb)
  ·rw[hc]at hb;cases hb;exact .inr (by omega)
theorem mQ:∀(l:List Dt) (r:Dt) (k:Nat),(aW l r k).2=k+l.length
 |[],_,_=>rfl
 |d::l,r,k=>by simp only[aW,mQ l r k,zak];omega
theorem zt {w:World}{base lo K k0:Nat}{L:List Int}{E:Env}{rest:Dt}{vr:Value}(hr:cz lo K L w E rest vr)(Mc:lo≤base):∀(ds:List Dt) (vs:List Value) (v:Value),fK w base vs vr v→ds.length=vs.length→(∀(j:Nat) d x,ds[j]?=some d→vs[j]?=some x→cz lo K L w E d x)→k0+ds.length≤K→(∀j,j<ds.length→E.α (k0+j)=base+j)→cz lo K L w E (aW ds rest k0).1 v
 |[],[],v,hc,_,_,_,_=>by
  have:v=vr:=hc;subst this;exact hr
 |d::ds,x::vs,v,⟨h1,v',h2,h3⟩,hl,hd,hK,ly=>by
  simp only[zak]at hl hK ly;have hl':ds.length=vs.length:=by omega
  have ih:=zt hr Mc ds vs v' h3 hl' (λj d' x' q1 q2=>hd (j+1) d' x' (by simpa using q1) (by simpa using q2)) (by omega) λj hj=>ly j (by omega);have hp:E.α (aW ds rest k0).2=base+vs.length:=by rw[mQ,ly ds.length (by omega),hl']
  have hx:=hd 0 d x (by simp) (by simp);show cz lo K L w E (.pair (aW ds rest k0).2 d (aW ds rest k0).1) v;unfold cz;rw[hp];exact⟨by rw[mQ];omega,by omega,h1,x,v',h2,hx,ih⟩
 |[],_::_,_,_,hl,_,_,_=>by simp at hl
 |_::_,[],_,_,hl,_,_,_=>by simp at hl
theorem G4 {T:List Tok}{dp n:Nat}{p:Pl}{s s':eX}{t:Tok}(h:aX T dp n p s=.ok t s'):s.k<T.length∧s.k<s'.k:=by
 cases n with
 |zero=>unfold aX at h;cases h
 |succ n=>
  unfold aX at h;split at h
  ·cases h
  ·rename_i t' ht;refine⟨(zbg.1 ht).1,?_⟩;split at h
   ·cases h
   ·split at h
    ·cases h
    ·split at h
     ·obtain⟨d,s1,h1,h2⟩:=RR.bA h;have a1:=(grows T dp n).datum _ _ _ _ h1;have a2:=(grows T dp n).take _ _ _ _ h2;simp at a1;omega
     ·cases h;simp
theorem Jp (rest:Value)(w:World)(SI:∃t y,rest=.iface t y):Calls prog 221 #[.slice none 0 0,rest] w λe w'=>e=.returned rest∧w'=w:=by
 obtain⟨tr,yr,rfl⟩:=SI;go_enter func221,ntmps221;go_wp2_with fail;go_loopw [5,1] (λi r wr=>i=.int .i64 (-1)∧r=.iface tr yr∧wr=w) (λ_ _ _=>0)
 case atStart=>exact⟨by go_num,rfl,rfl⟩
 case round=>
  obtain⟨rfl,rfl,rfl⟩:=hrel;go_wp2_with fail;go_ret;exact⟨rfl,rfl⟩
theorem sX (vs:List Value)(sv:Value)(lo:Nat)(rest:Value)(w:World)(hrow:w.ownsRow lo 58 1 sv vs.length vs)(hn:vs.length≤1000000)(SH:∀x∈vs,∃t y,x=.iface t y)(SI:∃t y,rest=.iface t y):Calls prog 221 #[sv,rest] w λe w'=>∃v,e=.returned v∧fK w' w.heap.size vs rest v∧w'.heap.size=w.heap.size+vs.length∧Below w.heap.size w w':=by
 rcases hrow.2 with⟨rfl,h0⟩|⟨g,cap,cur,rfl,_⟩
 ·have:vs=[]:=zby h0;subst this;refine(Jp rest w SI).mono ?_;rintro e w' ⟨rfl,rfl⟩;exact⟨rest,rfl,rfl,rfl,Below.refl _ _⟩
 ·exact Jk vs g cap lo rest w hrow hn SH SI
theorem fK.iface {w:World}{base:Nat}{vs:List Value}{rest v:Value}(h:fK w base vs rest v)(hr:∃t y,rest=.iface t y):∃t y,v=.iface t y:=by
 cases vs with
 |nil=>have:v=rest:=h
       rw[this];exact hr
 |cons x vs=>obtain⟨h1,_⟩:=h;exact⟨_,_,h1⟩
theorem sY {R M g cap:Nat}{T:List Tok}{dp:Nat}{w wr w3:World}{E E1:Env}{s s1:eX}{ds:List Dt}{vs:List Value}{rest:Dt}{vr v:Value}{lo:Nat}(Mc:w.heap.size≤lo)(fW:lo≤wr.heap.size)(hds:∀(j:Nat) d x,ds[j]?=some d→vs[j]?=some x→cz lo s1.fresh s1.aN wr E1 d x)(zj:cz lo s1.fresh s1.aN wr E1 rest vr)(hl:ds.length=vs.length)(SI:∃t y,vr=.iface t y)
 (hc:fK w3 wr.heap.size vs vr v)(hsz:w3.heap.size=wr.heap.size+vs.length)(hb:Below wr.heap.size wr w3)(hr:bZ wr R M g cap T dp E1 s1)(hx:Ext w wr E E1 s s1)(hk:Kp R M w wr):
 j0 R M g cap T dp none w E s (.ok (aW ds rest s1.fresh).1 { s1 with fresh:=(aW ds rest s1.fresh).2 }) (.returned (.tuple #[v,.pointer none])) w3:=by
 have ag:E1.agree ⟨λi=>if i<s1.fresh then E1.α i else wr.heap.size+(i-s1.fresh),E1.eL⟩ s1.fresh s1.aN:=⟨λi hi=>if_pos hi,λ_ _=>rfl⟩;have hlen:=mQ ds rest s1.fresh;have kp:∀d x,cz lo s1.fresh s1.aN wr E1 d x→cz lo (aW ds rest s1.fresh).2 s1.aN w3 ⟨λi=>if i<s1.fresh then E1.α i else wr.heap.size+(i-s1.fresh),E1.eL⟩ d x:=λd x h=>
  cz.keep (zaa _) (by omega) (λ_ h=>h) (λb _ h2=>hb.block b h2) ag d x h
 have cH:=zt (base:=wr.heap.size) (k0:=s1.fresh) (kp rest vr zj) fW ds vs v hc hl (λj d x h1 h2=>kp d x (hds j d x h1 h2)) (by omega) λj hj=>by
  show(if s1.fresh+j<s1.fresh then _ else _)=_;rw[if_neg (by omega)];congr 1;omega
 have h1:=hr.below hb;refine⟨v,⟨λi=>if i<s1.fresh then E1.α i else wr.heap.size+(i-s1.fresh),E1.eL⟩,rfl,hc.iface SI,cz.keep Mc (zaa _) (λ_ h=>h) (λ_ _ _=>rfl) ⟨λ_ _=>rfl,λ_ _=>rfl⟩ _ _ cH,?_,⟨h1.rm,h1.gr,h1.gm,h1.blk,h1.row,h1.lm,h1.low,h1.inj,h1.small,h1.deep⟩,(hk.trans (Kp.aJ hb)).a none⟩;refine Ext.trans hx ⟨ag,by show s1.fresh≤(aW ds rest s1.fresh).2;omega,λ_ h=>h,λi i1 i2=>?_,λi j i1 i2 j1 j2 e=>?_⟩ hk.size (by omega)
 ·have i2':i<(aW ds rest s1.fresh).2:=i2;show wr.heap.size≤(if i<s1.fresh then _ else _)∧(if i<s1.fresh then _ else _)<_;rw[if_neg (by omega)];omega
 ·have e':(if i<s1.fresh then E1.α i else wr.heap.size+(i-s1.fresh))=(if j<s1.fresh then E1.α j else wr.heap.size+(j-s1.fresh)):=e;rw[if_neg (by omega),if_neg (by omega)]at e';omega
theorem Kp.ge {R M lo:Nat}{w w':World}(h:Kp R M w w')(hR:R<lo)(hM:M<lo):∀b,lo≤b→b<w.heap.size→w'.heap[b]?=w.heap[b]?:=λb h1 h2=>h.block b h2 (by omega) (by omega)
section
variable {R M g cap:Nat}{T:List Tok}{dp:Nat}
theorem CQ {n:Nat}(ih:IH R M g cap T dp n)(p:Pl)(hp:p.ahead=[])(hd:p.depth≤dp∧p.ahead.length≤p.depth)(w wr:World)(E E1:Env)(s s1:eX)(hr:bZ wr R M g cap T dp E1 s1)(hx:Ext w wr E E1 s s1)(hk:Kp R M w wr)(lo:Nat)(Mc:w.heap.size≤lo)(fW:lo≤wr.heap.size)(WO:R<lo)(WQ:M<lo)
 (ds:List Dt)(vs:List Value)(hl:ds.length=vs.length)(hn:vs.length≤1000000)(a0:Option Addr)(n0 c0:Nat)(hrow:wr.ownsRow lo 58 1 (.slice a0 n0 c0) vs.length vs)(hh:∀(j:Nat) d x,ds[j]?=some d→vs[j]?=some x→Held wr lo s1.fresh s1.aN E1 (Value.slice a0 n0 c0).ownBlock d x)(SH:∀x∈vs,∃t y,x=.iface t y)
 (r:RR Dt)(gl:r=((aM T dp n p s1).bind λrest s=>(aX T dp n p s).bind λt s=>
   if t.kind=3 then .ok (aW ds rest s.fresh).1 { s with fresh:=(aW ds rest s.fresh).2 } else .fail 3 t.from_))(ho:r≠.out):
 Calls prog 222 #[aH R,.slice a0 n0 c0,gX p.depth p.passed (.slice none 0 0)] wr λe w'=>j0 R M g cap T dp none w E s r e w':=by
 have mixed:prog.follows Departure.mixedOrders=true:=by kernel_rfl
 have hb0:Below wr.heap.size wr (wr.alloc (.cells #[.int .i64 p.depth,.bool p.passed,.slice none 0 0] 128)):=(Below.refl _ wr).alloc (zaa _) _;have HR:Hid _:=hr.below hb0;have HP:Hid _:=heap_alloc_new wr (.cells #[.int .i64 p.depth,.bool p.passed,.slice none 0 0] 128);have Mu:(wr.alloc (.cells #[.int .i64 p.depth,.bool p.passed,.slice none 0 0] 128)).heap.size=wr.heap.size+1:=by simp
 have hne:aM T dp n p s1≠.out:=λh=>ho (by rw[gl,h];rfl);have ah:∀(w':World) (E':Env) (s':eX),iZ w' E' s' p.ahead (.slice none 0 0):=λw' E' s'=>by rw[hp];exact⟨⟨rfl,.inl ⟨rfl,rfl⟩⟩,⟨_,_,_,rfl⟩,λn hn=>by cases hn⟩
 have HT:Hid _:=ih.datum p (.slice none 0 0) _ E1 s1 HR.out (ah _ _ _) hd hne;have HK:Hid _:=hk.trans (Kp.aJ hb0);have HX:Hid _:=Ext.wid (w:=w) (w3:=(wr.alloc (.cells #[.int .i64 p.depth,.bool p.passed,.slice none 0 0] 128))) hx (zaa _) (by omega);have HH:Hid (∀(j:Nat) d x,ds[j]?=some d→vs[j]?=some x→cz lo s1.fresh s1.aN (wr.alloc (.cells #[.int .i64 p.depth,.bool p.passed,.slice none 0 0] 128)) E1 d x):=λj d x h1 h2=>cz.keep (zaa _) (zaa _) (λ_ h=>h) (λb _ h=>hb0.block b h) ⟨λ_ _=>rfl,λ_ _=>rfl⟩ d x (hh j d x h1 h2).YN;have HW:Hid _:=bH hrow (zaa _) λb _ h=>hb0.block b h;have Ko:R<wr.heap.size:=hr.lt;have lB:M<wr.heap.size:=hr.mlt;have HI:Hid _:=ih;have HO:Hid _:=ho;have HA:Hid _:=ah;have Kq:Hid _:=gl;clear hr hb0 ih ho hne ah hx hk hrow hh gl;generalize hw0:wr.alloc (.cells #[.int .i64 p.depth,.bool p.passed,.slice none 0 0] 128)=w0 at *;have NZ:Hid _:=hw0;clear hw0;cases hT:aM T dp n p s1 with
 |out=>exact absurd (by rw[Kq.out,hT];rfl) HO.out
 |fail er a=>
  rw[hT]at HT;have HE:Hid (r=.fail er a):=by show _=_;rw[Kq.out,hT];rfl
  unfold gX aH at HT ⊢;go_enter func222,ntmps222;go_wp2_with fail;rw[NZ.out];refine Calls.mono HT.out ?_;rintro e w1 ⟨⟨b,rfl,hf⟩,hk⟩;have HF:Hid _:=hf;have zu:Hid _:=jP.plain hk;clear hf hk HT;unfold aH;go_wp2_with fail;go_ret2;rw[HE.out];exact⟨⟨b,rfl,HF.out⟩,(Kp.trans HK.out zu.out).a none⟩
 |ok rest s2=>
  rw[hT]at HT;unfold gX aH at HT ⊢;go_enter func222,ntmps222;go_wp2_with fail;rw[NZ.out];refine Calls.mono HT.out ?_;rintro e w1 ⟨vr,E2,rfl,⟨ty,yy,rfl⟩,cH,hx2,hr2,hk2⟩;replace hk2:=jP.plain hk2;have hs1:=hk2.size;obtain⟨x0,x1,x2⟩:=fL ((hk2.block wr.heap.size (by omega) (by omega) (by omega)).trans HP.out);have HE:Hid (r=(aX T dp n p s2).bind λt s=>if t.kind=3 then .ok (aW ds rest s.fresh).1 { s with fresh:=(aW ds rest s.fresh).2 } else .fail 3 t.from_):=by show _=_;rw[Kq.out,hT];rfl
  have hne:aX T dp n p s2≠.out:=λh=>HO.out (by rw[HE.out,h];rfl);have pg:Hid _:=Kp.trans HK.out hk2;have Jq:Hid _:=Ext.trans HX.out hx2 (Kp.size HK.out) hs1;have HH2:Hid (∀(j:Nat) d x,ds[j]?=some d→vs[j]?=some x→cz lo s2.fresh s2.aN w1 E2 d x):=λj d x h1 h2=>cz.keep (zaa _) hx2.fresh hx2.aN (Kp.ge hk2 WO WQ) hx2.agree d x (HH.out j d x h1 h2);have HD2:Hid (cz lo s2.fresh s2.aN w1 E2 rest (.iface ty yy)):=cz.keep (by omega) (zaa _) (λ_ h=>h) (λ_ _ _=>rfl) ⟨λ_ _=>rfl,λ_ _=>rfl⟩ _ _ cH;have xS:Hid _:=bH HW.out (zaa _) (Kp.ge hk2 WO WQ);have Ff:Hid _:=hr2;have N2:Hid _:=HI.out.take p (.slice none 0 0) _ E2 s2 hr2 (HA.out _ _ _) hd hne;clear cH hx2 hr2 hk2 HT hne;cases uR:aX T dp n p s2 with
  |out=>exact absurd (by rw[HE.out,uR];rfl) HO.out
  |fail er a=>
   rw[uR]at N2;have jK:Hid (r=.fail er a):=by show _=_;rw[HE.out,uR];rfl
   unfold gX aH at N2;go_wp2_with fail;refine Calls.mono N2.out ?_;rintro e w2 ⟨⟨b,t,rfl,hf⟩,hk⟩;have HF:Hid _:=hf;have nE:Hid _:=hk;clear hf hk N2;unfold bn aH;go_wp2_with fail;go_ret2;rw[jK.out];exact⟨⟨b,rfl,dL.alloc HF.out _⟩,(Kp.trans (Kp.trans pg.out nE.out) (Kp.aJ ((Below.refl _ _).alloc (zaa _) _))).a none⟩
  |ok t s3=>
   rw[uR]at N2;have jK:Hid (r=if t.kind=3 then .ok (aW ds rest s3.fresh).1 { s3 with fresh:=(aW ds rest s3.fresh).2 } else .fail 3 t.from_):=by show _=_;rw[HE.out,uR];rfl
   unfold gX aH at N2;go_wp2_with fail;refine Calls.mono N2.out ?_;rintro e w2 ⟨E3,rfl,hx3,hr3,hk3⟩;have nE:Hid _:=hk3;have Pu:Hid _:=hx3;have Mz:Hid _:=hr3;have hs3:=hk3.size;clear hx3 hr3 hk3 N2;unfold bn;by_cases k3:t.kind=3
   ·have q3:(((t.kind:Nat):Int)==3)=true:=by rw[k3];rfl
    rw[if_pos k3]at jK;clear k3;have hb4:Below w2.heap.size w2 (w2.alloc (.cells #[.int .i64 t.kind,.int .i64 t.from_,.int .i64 t.dF,.string ⟨⟨t.text⟩⟩,.int .i64 t.n,.int .i64 t.d,.int .i64 t.fault] 131)):=(Below.refl _ w2).alloc (zaa _) _;have sk:Hid _:=hb4;have Kj:(w2.alloc (.cells #[.int .i64 t.kind,.int .i64 t.from_,.int .i64 t.dF,.string ⟨⟨t.text⟩⟩,.int .i64 t.n,.int .i64 t.d,.int .i64 t.fault] 131)).heap.size=w2.heap.size+1:=by simp
    have tY:Hid _:=bH (bH xS.out (zaa _) (Kp.ge nE.out WO WQ)) (zaa _) λb _ h=>hb4.block b h;have HC:Hid _:=sX vs (.slice a0 n0 c0) lo (.iface ty yy) _ tY.out hn SH ⟨_,_,rfl⟩;clear hb4;go_wp2_with fail;refine Calls.mono HC.out ?_;rintro e w5 ⟨v,rfl,hc,hs5,lC⟩;obtain⟨tv,yv,rfl⟩:=hc.iface ⟨_,_,rfl⟩;have qA:Hid _:=Kp.trans (Kp.trans pg.out nE.out) (Kp.aJ sk.out);have abp:lo≤(w2.alloc (.cells #[.int .i64 t.kind,.int .i64 t.from_,.int .i64 t.dF,.string ⟨⟨t.text⟩⟩,.int .i64 t.n,.int .i64 t.d,.int .i64 t.fault] 131)).heap.size:=by have:=(xS.out.2);have:=Kp.size HK.out;omega
    have HG:Hid _:=sY (T:=T) (dp:=dp) (g:=g) (cap:=cap) (w:=w) (lo:=lo) (ds:=ds) (rest:=rest) (s1:=s3) (E1:=E3) Mc abp
     (λj d x h1 h2=>cz.keep (zaa _) (zaa _) (λ_ h=>h) (λb _ h=>sk.out.block b h) ⟨λ_ _=>rfl,λ_ _=>rfl⟩ d x (cz.keep (zaa _) (Ext.fresh Pu.out) (Ext.aN Pu.out) (Kp.ge nE.out WO WQ) (Ext.agree Pu.out) d x (HH2.out j d x h1 h2)))
     (cz.keep (zaa _) (zaa _) (λ_ h=>h) (λb _ h=>sk.out.block b h) ⟨λ_ _=>rfl,λ_ _=>rfl⟩ _ _ (cz.keep (zaa _) (Ext.fresh Pu.out) (Ext.aN Pu.out) (Kp.ge nE.out WO WQ) (Ext.agree Pu.out) _ _ HD2.out))
     hl ⟨_,_,rfl⟩ hc hs5 lC (bZ.below Mz.out sk.out) (Ext.wid (w:=w) (Ext.trans Jq.out Pu.out (Kp.size pg.out) hs3) (zaa _) (by omega)) qA.out
    clear hc lC;go_wp2_with fail;go_ret2;rw[jK.out];exact HG.out
   ·have q3:(((t.kind:Nat):Int)==3)=false:=by rw[beq_eq_false_iff_ne];omega
    rw[if_neg k3]at jK;clear k3;go_wp2_with fail;go_region;go_wp2_with fail;go_ret2;rw[jK.out];refine⟨⟨w2.heap.size+1,rfl,?_⟩,(Kp.trans (Kp.trans pg.out nE.out) (Kp.aJ ((((Below.refl _ w2).alloc (zaa _) _).alloc (by simp) _).drew))).a none⟩;exact ed w2 _ _
end
end Go.Proofs.YtlhimdjkkiflhaaGreatDoor
