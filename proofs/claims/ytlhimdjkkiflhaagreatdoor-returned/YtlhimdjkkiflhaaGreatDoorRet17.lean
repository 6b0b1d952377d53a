import Derived.Test.YtlhimdjkkiflhaaGreatDoorRet16
set_option maxHeartbeats 8000000
set_option maxRecDepth 100000
open Go.Value renaming int→Γ
open Go.IntKind renaming i64→Δ
open Go renaming Value→Θ,World→Λ,TypeId→Ξ,Calls→Φ,Program→ζ
open Go.Departure renaming mixedOrders→Ω
namespace Go.Proofs.YtlhimdjkkiflhaaGreatDoor
open Go.Proofs.Tryz
open Go.RowKit Go.Loop
theorem PX:∀(T:List Tok) (k j:Nat) (t:Tok),T[k]?=some t→j<7→(T.flatMap iR)[k*7+j]?=(iR t)[j]?
 |[],k,j,t,h,_=>by simp at h
 |x::T,0,j,t,h,hj=>by
  simp at h;subst h;rw[zbB,zbi (by simp[iR];omega)];simp
 |x::T,k+1,j,t,h,hj=>by
  rw[zbB,zbv (by simp[iR];omega)];have:=PX T k j t (by simpa using h) hj;rw[show(k+1)*7+j-(iR x).length=k*7+j by simp[iR];omega];exact this
theorem bS.tok {w:Λ}{R M g cap:Nat}{T:List Tok}{dp:Nat}{E:Env}{s:eD}(h:bS w R M g cap T dp E s){t:Tok}(ht:T[s.k]?=some t):w.cell? ⟨g,s.k*7,none⟩=some (Γ Δ t.kind)∧w.cell? ⟨g,s.k*7+1,none⟩=some (Γ Δ t.from_)∧w.cell? ⟨g,s.k*7+2,none⟩=some (Γ Δ t.gw)∧w.cell? ⟨g,s.k*7+3,none⟩=some (.string ⟨⟨t.text⟩⟩)∧w.cell? ⟨g,s.k*7+4,none⟩=some (Γ Δ t.n)∧w.cell? ⟨g,s.k*7+5,none⟩=some (Γ Δ t.d)∧w.cell? ⟨g,s.k*7+6,none⟩=some (Γ Δ t.fault):=by
 have hlt:s.k<T.length:=(zbh.1 ht).1;have key:∀j,j<7→w.cell? ⟨g,s.k*7+j,none⟩=(iR t)[j]?:=λj hj=>by rw[h.row.cellAt _ (by omega),PX T s.k j t ht hj]
 exact⟨key 0 (by omega),key 1 (by omega),key 2 (by omega),key 3 (by omega),key 4 (by omega),key 5 (by omega),key 6 (by omega)⟩
theorem ig {w1:Λ}{b:Nat}{x0 x1 x2 x3:Θ}{e:Ξ}(h:w1.heap[b]?=some (.cells #[x0,x1,x2,x3] e)):(w1.cell? ⟨b,0,none⟩=some x0∧w1.cell? ⟨b,1,none⟩=some x1∧w1.cell? ⟨b,2,none⟩=some x2∧w1.cell? ⟨b,3,none⟩=some x3)∧w1.frozen? ⟨b,1,none⟩=false:=by
 refine⟨⟨?_,?_,?_,?_⟩,?_⟩<;>simp[Λ.cell?,Λ.frozen?,h]
theorem Kp.kV {R M:Nat}{w wr w':Λ}(h:Kp R M w wr)(k:Below w.heap.size wr w'):Kp R M w w':=
 ⟨k.os.trans h.os,k.tape.trans h.tape,k.output.trans h.output,zag h.size k.size,λb h1 h2 h3=>(k.block b h1).trans (h.block b h1 h2 h3)⟩
theorem Xb (w1:Λ)(c b:Nat)(hb:b≠c)(v0 v1 v2 v3 v4 v5 v6:Θ):(((((((w1.setCell ⟨c,0,none⟩ v0).setCell ⟨c,1,none⟩ v1).setCell ⟨c,2,none⟩ v2).setCell ⟨c,3,none⟩ v3).setCell ⟨c,4,none⟩ v4).setCell ⟨c,5,none⟩ v5).setCell ⟨c,6,none⟩ v6).heap[b]?=w1.heap[b]?:=by
 rw[zax _ _ _ _ hb,zax _ _ _ _ hb,zax _ _ _ _ hb,zax _ _ _ _ hb,zax _ _ _ _ hb,zax _ _ _ _ hb,zax _ _ _ _ hb]
@[reducible] def mV (w1:Λ) (c:Nat) (v0 v1 v2 v3 v4 v5 v6:Θ):Λ:=((((((w1.setCell ⟨c,0,none⟩ v0).setCell ⟨c,1,none⟩ v1).setCell ⟨c,2,none⟩ v2).setCell ⟨c,3,none⟩ v3).setCell ⟨c,4,none⟩ v4).setCell ⟨c,5,none⟩ v5).setCell ⟨c,6,none⟩ v6
theorem FA (w1:Λ)(c:Nat)(v0 v1 v2 v3 v4 v5 v6:Θ):(mV w1 c v0 v1 v2 v3 v4 v5 v6).heap.size=w1.heap.size:=by simp[mV]
theorem BF (wr:Λ)(c:Nat)(v0 v1 v2 v3 v4 v5 v6:Θ)(A B:Obj):((((mV wr c v0 v1 v2 v3 v4 v5 v6).alloc A).alloc B).drew.drew).heap[wr.heap.size+1]?=some B:=by
 have:=en (mV wr c v0 v1 v2 v3 v4 v5 v6) A B;rw[FA]at this;exact this
theorem rz (wr:Λ)(c B:Nat)(h:B≤c)(v0 v1 v2 v3 v4 v5 v6:Θ):Below B wr (mV wr c v0 v1 v2 v3 v4 v5 v6):=
 (((((((zad B wr).setCell (p:=⟨c,0,none⟩) h _).setCell (p:=⟨c,1,none⟩) h _).setCell (p:=⟨c,2,none⟩) h _).setCell (p:=⟨c,3,none⟩) h _).setCell (p:=⟨c,4,none⟩) h _).setCell (p:=⟨c,5,none⟩) h _).setCell (p:=⟨c,6,none⟩) h _
theorem BG (wr:Λ)(c B:Nat)(h:B≤c)(hB:B≤wr.heap.size)(v0 v1 v2 v3 v4 v5 v6:Θ)(A C:Obj):Below B wr ((((mV wr c v0 v1 v2 v3 v4 v5 v6).alloc A).alloc C).drew.drew):=
 ((((rz wr c B h v0 v1 v2 v3 v4 v5 v6).alloc (by rw[FA];exact hB) _).alloc (by simp;omega) _).drew).drew
theorem eE {w1:Λ}{c:Nat}{cs:Array Θ}{e:Ξ}(h:w1.heap[c]?=some (.cells cs e))(j:Nat)(v:Θ):(w1.setCell ⟨c,j,none⟩ v).heap[c]?=some (.cells (cs.setIfInBounds j v) e):=by
 unfold Λ.setCell;simp only[Array.getElem?_modify,if_true,h,zbp];rfl
theorem yH {w1:Λ}{c:Nat}{u0 u1 u2 u3 u4 u5 u6:Θ}{e:Ξ}(h:w1.heap[c]?=some (.cells #[u0,u1,u2,u3,u4,u5,u6] e))(v0 v1 v2 v3 v4 v5 v6:Θ):(mV w1 c v0 v1 v2 v3 v4 v5 v6).heap[c]?=some (.cells #[v0,v1,v2,v3,v4,v5,v6] e):=by
 have:=eE (eE (eE (eE (eE (eE (eE h 0 v0) 1 v1) 2 v2) 3 v3) 4 v4) 5 v5) 6 v6;unfold mV;rw[this];simp
theorem Mj {wr:Λ}{c:Nat}{u0 u1 u2 u3 u4 u5 u6:Θ}{e:Ξ}(h:wr.heap[c]?=some (.cells #[u0,u1,u2,u3,u4,u5,u6] e))(v0 v1 v2 v3 v4 v5 v6:Θ)(A B:Obj)(W:Λ)(hW:W=(((mV wr c v0 v1 v2 v3 v4 v5 v6).alloc A).alloc B).drew.drew):W.cell? ⟨c,0,none⟩=some v0∧W.cell? ⟨c,1,none⟩=some v1∧W.cell? ⟨c,2,none⟩=some v2∧W.cell? ⟨c,3,none⟩=some v3∧W.cell? ⟨c,4,none⟩=some v4∧W.cell? ⟨c,5,none⟩=some v5∧W.cell? ⟨c,6,none⟩=some v6:=by
 have hl:c<wr.heap.size:=(zaj.1 h).1;have h7:=yH h v0 v1 v2 v3 v4 v5 v6;have hs:=FA wr c v0 v1 v2 v3 v4 v5 v6;have hd:W.heap=(((mV wr c v0 v1 v2 v3 v4 v5 v6).alloc A).alloc B).heap:=by rw[hW];rfl
 clear hW;generalize mV wr c v0 v1 v2 v3 v4 v5 v6=w1 at *;have hb:W.heap[c]?=some (.cells #[v0,v1,v2,v3,v4,v5,v6] e):=by
  rw[hd,zaT _ _ _ (by simp;omega),zaT _ _ _ (by omega),h7]
 refine⟨?_,?_,?_,?_,?_,?_,?_⟩<;>simp[Λ.cell?,hb]
theorem qI {P:ζ}{fn:Func}{Q:Ending→Λ→Prop}{a:Act}{wr:Λ}{c:Nat}{u0 u1 u2 u3 u4 u5 u6:Θ}{e:Ξ}(h:wr.heap[c]?=some (.cells #[u0,u1,u2,u3,u4,u5,u6] e)){v0 v1 v2 v3 v4 v5 v6:Θ}{A B:Obj}{v:Θ}
 (hr:∀W:Λ,W.cell? ⟨c,0,none⟩=some v0→W.cell? ⟨c,1,none⟩=some v1→W.cell? ⟨c,2,none⟩=some v2→W.cell? ⟨c,3,none⟩=some v3→W.cell? ⟨c,4,none⟩=some v4→W.cell? ⟨c,5,none⟩=some v5→W.cell? ⟨c,6,none⟩=some v6→(results fn a.tmps).run P W=.ok v W)
 (hd:a.defers=[])(hR:Q (.returned v) (((mV wr c v0 v1 v2 v3 v4 v5 v6).alloc A).alloc B).drew.drew):bodyPost P fn Q .ret a (((mV wr c v0 v1 v2 v3 v4 v5 v6).alloc A).alloc B).drew.drew:=by
 obtain⟨y0,y1,y2,y3,y4,y5,y6⟩:=Mj h v0 v1 v2 v3 v4 v5 v6 A B _ rfl;exact zao (hr _ y0 y1 y2 y3 y4 y5 y6) hd hR
theorem nR {P:ζ}{fn:Func}{Q:Ending→Λ→Prop}{a:Act}{W:Λ}{c:Nat}{v0 v1 v2 v3 v4 v5 v6:Θ}{e:Ξ}{v:Θ}(h:W.heap[c]?=some (.cells #[v0,v1,v2,v3,v4,v5,v6] e))
 (hr:W.cell? ⟨c,0,none⟩=some v0→W.cell? ⟨c,1,none⟩=some v1→W.cell? ⟨c,2,none⟩=some v2→W.cell? ⟨c,3,none⟩=some v3→W.cell? ⟨c,4,none⟩=some v4→W.cell? ⟨c,5,none⟩=some v5→W.cell? ⟨c,6,none⟩=some v6→(results fn a.tmps).run P W=.ok v W)
 (hd:a.defers=[])(hR:Q (.returned v) W):bodyPost P fn Q .ret a W:=
 zao (hr (by simp[Λ.cell?,h]) (by simp[Λ.cell?,h]) (by simp[Λ.cell?,h]) (by simp[Λ.cell?,h]) (by simp[Λ.cell?,h]) (by simp[Λ.cell?,h]) (by simp[Λ.cell?,h])) hd hR
theorem PY {R M:Nat}(w:Λ)(j:Nat)(v:Θ):Kp R M w (w.setCell ⟨R,j,none⟩ v):=
 ⟨rfl,rfl,rfl,by simp,λb _ h2 _=>zax _ _ _ _ h2⟩
theorem Un {R M:Nat}(w:Λ)(j:Nat)(v:Θ)(A:Obj):Kp R M w ((w.setCell ⟨R,j,none⟩ v).alloc A).drew:=
 (PY w j v).trans (Kp.aG (((zad _ _).alloc (zac _) _).drew))
theorem bS.step {w w':Λ}{R M g cap:Nat}{T:List Tok}{dp:Nat}{E:Env}{s:eD}(h:bS w R M g cap T dp E s){k:Nat}(hR:w'.heap[R]?=some (.cells #[.slice (some ⟨g,0,none⟩) T.length cap,Γ Δ k,Γ Δ dp,.map (some M)] 123))(_:w.heap.size≤w'.heap.size)(hk:∀b,b<w.heap.size→b=g∨b=M→w'.heap[b]?=w.heap[b]?)(hl:∀(b:Nat) (v:Θ),w.heap[b]?=some (.cells #[v] 215)→w'.heap[b]?=w.heap[b]?):bS w' R M g cap T dp E { s with k:=k }:=by
 have hg:=(h.row.lt g rfl).2;refine⟨h.rm,h.gr,h.gm,hR,?_,?_,λn hn=>(h.low n hn).imp λv hv=>(hl _ v hv).trans hv,h.inj,h.small,h.deep⟩
 ·refine⟨h.row.1,h.row.2.imp id ?_⟩;rintro ⟨b,cp,cur,h1,h2,h3,h4⟩;have:b=g:=by cases h1;rfl
  exact⟨b,cp,cur,h1,h2,(hk b (zaj.1 h3).1 (.inl this)).trans h3,h4⟩
 ·obtain⟨es,c,h1,h2⟩:=h.lm;exact⟨es,c,(hk M h.mlt (.inr rfl)).trans h1,h2⟩
theorem bS.step1 {wr:Λ}{R M g cap:Nat}{T:List Tok}{dp:Nat}{E:Env}{s:eD}(h:bS wr R M g cap T dp E s)(A:Obj):bS ((wr.setCell ⟨R,1,none⟩ (Γ Δ ((s.k:Int)+1))).alloc A).drew R M g cap T dp E { s with k:=s.k+1 }:=by
 have hb:=eE h.blk 1 (Γ Δ ((s.k:Int)+1));have hl:=h.lt;have e0:∀b,b<wr.heap.size→(((wr.setCell ⟨R,1,none⟩ (Γ Δ ((s.k:Int)+1))).alloc A).drew).heap[b]?=(wr.setCell ⟨R,1,none⟩ (Γ Δ ((s.k:Int)+1))).heap[b]?:=λb h=>zaT _ _ _ (by simp;exact h);refine bS.step h ?_ (by simp) (λb hb1 hb2=>?_) λb v hv=>?_
 ·rw[e0 R hl,hb];simp
 rotate_left
 ·rw[e0 b (zaj.1 hv).1];exact zax _ _ _ _ (λe=>by rw[e,h.blk]at hv;simp at hv)
 ·rw[e0 b hb1];exact zax _ _ _ _ (hb2.elim (λe=>by rw[e];exact h.gr) (λe=>by rw[e];exact λx=>h.rm x.symm))
theorem YL {wr:Λ}{R c:Nat}(hc:c≠R){u0 u1 u2 u3 u4 u5 u6:Θ}{e:Ξ}(h:wr.heap[c]?=some (.cells #[u0,u1,u2,u3,u4,u5,u6] e))(v v0 v1 v2 v3 v4 v5 v6:Θ)(A:Obj):((mV (wr.setCell ⟨R,1,none⟩ v) c v0 v1 v2 v3 v4 v5 v6).alloc A).drew.heap[c]?=some (.cells #[v0,v1,v2,v3,v4,v5,v6] e):=by
 have h7:=yH ((zax wr ⟨R,1,none⟩ v c hc).trans h) v0 v1 v2 v3 v4 v5 v6;generalize mV (wr.setCell ⟨R,1,none⟩ v) c v0 v1 v2 v3 v4 v5 v6=w1 at *;show(w1.alloc A).heap[c]?=_;rw[zaT _ _ _ (zaj.1 h7).1,h7]
theorem Uo {R M c:Nat}{w wr:Λ}(hk:Kp R M w wr)(h:w.heap.size≤c)(v v0 v1 v2 v3 v4 v5 v6:Θ)(A:Obj):Kp R M w ((mV (wr.setCell ⟨R,1,none⟩ v) c v0 v1 v2 v3 v4 v5 v6).alloc A).drew:=
 Kp.kV (hk.trans (PY wr 1 v)) (((rz _ c w.heap.size h v0 v1 v2 v3 v4 v5 v6).alloc (by rw[FA];simp;exact hk.size) _).drew)
theorem bS.YL {wr:Λ}{R M g cap c:Nat}{T:List Tok}{dp:Nat}{E:Env}{s:eD}(h:bS wr R M g cap T dp E s)(h1:c≠R)(h2:c≠M)(h3:c≠g)(h4:wr.heap[c]?=some T0)(v0 v1 v2 v3 v4 v5 v6:Θ)(A:Obj):bS ((mV (wr.setCell ⟨R,1,none⟩ (Γ Δ ((s.k:Int)+1))) c v0 v1 v2 v3 v4 v5 v6).alloc A).drew R M g cap T dp E { s with k:=s.k+1 }:=by
 have hb:=eE h.blk 1 (Γ Δ ((s.k:Int)+1));have hl:=h.lt;have hs:=FA (wr.setCell ⟨R,1,none⟩ (Γ Δ ((s.k:Int)+1))) c v0 v1 v2 v3 v4 v5 v6;have hh:∀b,b≠c→(mV (wr.setCell ⟨R,1,none⟩ (Γ Δ ((s.k:Int)+1))) c v0 v1 v2 v3 v4 v5 v6).heap[b]?=(wr.setCell ⟨R,1,none⟩ (Γ Δ ((s.k:Int)+1))).heap[b]?:=λb hc=>Xb _ c b hc _ _ _ _ _ _ _;generalize mV (wr.setCell ⟨R,1,none⟩ (Γ Δ ((s.k:Int)+1))) c v0 v1 v2 v3 v4 v5 v6=w1 at *;have hs1:w1.heap.size=wr.heap.size:=by rw[hs];simp
 have e0:∀b,b<wr.heap.size→b≠c→(w1.alloc A).drew.heap[b]?=(wr.setCell ⟨R,1,none⟩ (Γ Δ ((s.k:Int)+1))).heap[b]?:=λb h hc=>by
  show(w1.alloc A).heap[b]?=_;rw[zaT _ _ _ (by omega),hh b hc]
 refine bS.step h ?_ ?_ (λb hb1 hb2=>?_) λb v hv=>?_
 ·rw[e0 R hl h1.symm,hb];simp
 ·simp;omega
 rotate_left
 ·rw[e0 b (zaj.1 hv).1 (λe=>by rw[e,h4]at hv;simp[T0]at hv)];exact zax _ _ _ _ (λe=>by rw[e,h.blk]at hv;simp at hv)
 ·rw[e0 b hb1 (hb2.elim (λe=>by rw[e];exact h3.symm) (λe=>by rw[e];exact h2.symm))];exact zax _ _ _ _ (hb2.elim (λe=>by rw[e];exact h.gr) (λe=>by rw[e];exact λx=>h.rm x.symm))
theorem Ext.to {w w':Λ}{E E':Env}{s s' s'':eD}(h:Ext w w' E E' s s')(hf:s''.fresh=s'.fresh)(hl:s''.ak=s'.ak):Ext w w' E E' s s'':=
 ⟨h.agree,by rw[hf];exact h.fresh,by rw[hl];exact h.ak,by rw[hf];exact h.new,by rw[hf];exact h.inj⟩
theorem FB (wr:Λ)(R c:Nat)(hc:c≠R)(h:c<wr.heap.size)(v:Θ)(A:Obj):((wr.setCell ⟨R,1,none⟩ v).alloc A).drew.heap[c]?=wr.heap[c]?:=
 (zaT _ _ _ (by simp;exact h)).trans (zax _ _ _ _ hc)
theorem PZ (wr:Λ)(R:Nat)(v:Θ)(A:Obj):((wr.setCell ⟨R,1,none⟩ v).alloc A).drew.heap[wr.heap.size]?=some A:=by
 have:=zav (wr.setCell ⟨R,1,none⟩ v) A;rw[show(wr.setCell ⟨R,1,none⟩ v).heap.size=wr.heap.size by simp]at this;exact this
section
variable {R M g cap:Nat}{T:List Tok}{dp:Nat}
theorem Mk {N:Nat}(ih:∀n,n≤N→IH R M g cap T dp n)(p:Pl)(av:Θ)(w:Λ)(E:Env)(s:eD)(hr:bS w R M g cap T dp E s)(ha:jd w E s p.ahead av)(hd:p.depth≤dp∧p.ahead.length≤p.depth)(ho:aM T dp (N+1) p s≠.out):Φ prog 105 #[aC R,gI p.depth p.passed av] w λe w'=>OkT R M g cap T dp w E s (aM T dp (N+1) p s) e w':=by
 have mixed:prog.follows Ω=true:=by kernel_rfl
 obtain⟨⟨a0,n0,c0,rfl⟩⟩:=(⟨ha.2.1⟩:Nonempty _);have NH:R<w.heap.size:=hr.lt;have lS:M<w.heap.size:=hr.mlt;have hrg:g<w.heap.size:=(hr.row.lt g rfl).2;have hb0:Below w.heap.size w ((w.alloc (gW p.depth p.passed a0 n0 c0)).alloc T0):=((zad _ w).alloc (zac _) _).alloc (by simp) _;have HP:Hid (((w.alloc (gW p.depth p.passed a0 n0 c0)).alloc T0).heap[w.heap.size]?=some (gW p.depth p.passed a0 n0 c0)):=(zaT _ _ _ (by simp)).trans (zav w _);have HQ:Hid (((w.alloc (gW p.depth p.passed a0 n0 c0)).alloc T0).heap[w.heap.size+1]?=some T0):=en w _ _;have HR:Hid _:=hr.below hb0;have HB:Hid _:=hb0;have HI:Hid _:=ih;have HO:Hid _:=ho;have hsm:=hr.small;clear hr ha hb0 ih ho;unfold gI aC;go_enter func105,ntmps105;go_wp2_with fail;go_loopw [] (λwr=>∃(m:Nat) (E1:Env) (s1:eD),m≤N+1∧w.heap.size+2≤wr.heap.size∧Hid (aM T dp (N+1) p s=aM T dp m p s1)∧Hid (bS wr R M g cap T dp E1 s1)∧Hid (Ext w wr E E1 s s1)∧Hid (Kp R M w wr)∧Hid (wr.heap[w.heap.size]?=some (gW p.depth p.passed a0 n0 c0))∧Hid (wr.heap[w.heap.size+1]?=some T0)) (λwr=>T.length+1-(intOf ((wr.cell? ⟨R,1,none⟩).getD undef)).toNat)
 case atStart=>exact⟨N+1,E,s,zac _,by simp,rfl,HR.out,Ext.refl rfl rfl,Kp.aG HB.out,HP.out,HQ.out⟩
 case round=>
  obtain⟨m,E1,s1,hm,hsz,HE,wO,HX,HK,SS,HQ1⟩:=hrel;have yg:aM T dp m p s1≠.out:=by rw[←HE.out];exact HO.out
  obtain⟨m',rfl⟩:∃m',m=m'+1:=by
   cases m with
   |zero=>exact absurd (by unfold aM;rfl) yg
   |succ m'=>exact⟨m',rfl⟩
  cases ht:T[s1.k]? with
  |none=>exact absurd (by unfold aM;rw[ht]) yg
  |some t=>
   have hlt:s1.k<T.length:=(zbh.1 ht).1;obtain⟨⟨r0,r1,r2,r3⟩,rf⟩:=ig wO.out.blk;obtain⟨t0,t1,t2,t3,t4,t5,t6⟩:=wO.out.tok ht;obtain⟨p0,p1,p2⟩:=fG SS.out;obtain⟨⟨x0,x1,x2,x3,x4,x5,x6⟩,f0,f1,f2,f3,f4,f5,f6⟩:=dt (b:=w.heap.size+1) (zad _ wr) HQ1.out;have hRr:R<wr.heap.size:=wO.out.lt;have hgr:g<wr.heap.size:=(wO.out.row.lt g rfl).2;have e1:¬R=wr.heap.size:=by omega
   have e2:¬g=wr.heap.size:=by omega
   have e3:¬w.heap.size=wr.heap.size:=by omega
   have e4:¬w.heap.size+1=wr.heap.size:=by omega
   have e5:w.heap.size<wr.heap.size:=by omega
   have e6:w.heap.size+1<wr.heap.size:=by omega
   have NK:Hid (aM T dp (m'+1) p s1=if t.kind=0 then .fail 4 t.from_ else if t.kind=1 then .fail 3 t.from_ else if t.kind=6 then(ay T dp m' ⟨p.depth,true,[]⟩ { s1 with k:=s1.k+1 }).bind λ_ s=>aM T dp m' p s else .ok t { s1 with k:=s1.k+1 }):=by
    show _=_
    conv=>lhs;unfold aM
    rw[ht]
   by_cases k0:t.kind=0
   ·have HF:Hid (aM T dp (N+1) p s=.fail 4 t.from_):=by show _=_;rw[HE.out,NK.out,zab k0]
    have q0:(((t.kind:Nat):Int)==0)=true:=by rw[k0];rfl
    clear k0;go_wp2_with fail;go_region;go_wp2_with fail;go_region;go_wp2_with fail;refine qI HQ1.out (v:= .tuple #[bP t,aC (wr.heap.size+1)]) (λW y0 y1 y2 y3 y4 y5 y6=>by simp[results,results105,bP,aC,go_sem,y0,y1,y2,y3,y4,y5,y6]) rfl ?_;rw[HF.out];refine⟨⟨_,_,rfl,?_⟩,Kp.kV HK.out ?_⟩
    ·exact BF wr (w.heap.size+1) _ _ _ _ _ _ _ _ _
    ·exact BG wr (w.heap.size+1) w.heap.size (by omega) (by omega) _ _ _ _ _ _ _ _ _
   have q0:(((t.kind:Nat):Int)==0)=false:=by rw[zah];omega
   by_cases k1:t.kind=1
   ·have HF:Hid (aM T dp (N+1) p s=.fail 3 t.from_):=by show _=_;rw[HE.out,NK.out,zaa k0,zab k1]
    have q1:(((t.kind:Nat):Int)==1)=true:=by rw[k1];rfl
    clear k0 k1;go_wp2_with fail;go_region;go_wp2_with fail;go_region;go_wp2_with fail;refine qI HQ1.out (v:= .tuple #[bP t,aC (wr.heap.size+1)]) (λW y0 y1 y2 y3 y4 y5 y6=>by simp[results,results105,bP,aC,go_sem,y0,y1,y2,y3,y4,y5,y6]) rfl ?_;rw[HF.out];refine⟨⟨_,_,rfl,?_⟩,Kp.kV HK.out ?_⟩
    ·exact BF wr (w.heap.size+1) _ _ _ _ _ _ _ _ _
    ·exact BG wr (w.heap.size+1) w.heap.size (by omega) (by omega) _ _ _ _ _ _ _ _ _
   have q1:(((t.kind:Nat):Int)==1)=false:=by rw[zah];omega
   by_cases k6:t.kind=6
   ·have q6:(((t.kind:Nat):Int)==6)=true:=by rw[k6];rfl
    have HF:Hid (aM T dp (N+1) p s=(ay T dp m' ⟨p.depth,true,[]⟩ { s1 with k:=s1.k+1 }).bind λ_ s=>aM T dp m' p s):=by show _=_;rw[HE.out,NK.out,zaa k0,zaa k1,zab k6]
    clear k0 k1 k6;have IG:Hid _:=bS.step1 wO.out (iz t);have pM:Hid _:=Kp.trans HK.out (Un wr 1 (Γ Δ ((s1.k:Int)+1)) (iz t));have hne:ay T dp m' ⟨p.depth,true,[]⟩ { s1 with k:=s1.k+1 }≠.out:=λh=>HO.out (by rw[HF.out,h];rfl);have HC:Hid _:=(HI.out m' (by omega)).datum ⟨p.depth,true,[]⟩ (.slice none 0 0) _ E1 _ IG.out ⟨⟨rfl,.inl ⟨rfl,rfl⟩⟩,⟨_,_,_,rfl⟩,λn hn=>by cases hn⟩ ⟨hd.1,zaq _⟩ hne;clear hne;unfold aC gI at HC;go_wp2_with fail;go_region;go_wp2_with fail;refine zai HC.out ?_;clear HC;intro e w2 cG;have HP2:Hid _:=(FB wr R w.heap.size (by omega) (by omega) (Γ Δ ((s1.k:Int)+1)) (iz t)).trans SS.out;have HQ2:Hid _:=(FB wr R (w.heap.size+1) (by omega) (by omega) (Γ Δ ((s1.k:Int)+1)) (iz t)).trans HQ1.out;have SU:Hid _:=PZ wr R (Γ Δ ((s1.k:Int)+1)) (iz t);have aaj:(((wr.setCell ⟨R,1,none⟩ (Γ Δ ((s1.k:Int)+1))).alloc (iz t)).drew).heap.size=wr.heap.size+1:=by simp
    generalize ((wr.setCell ⟨R,1,none⟩ (Γ Δ ((s1.k:Int)+1))).alloc (iz t)).drew=wm at *;cases hF:ay T dp m' ⟨p.depth,true,[]⟩ { s1 with k:=s1.k+1 } with
    |out=>exact absurd (by rw[HF.out,hF];rfl) HO.out
    |fail er a=>
     rw[hF]at cG;obtain⟨⟨b,rfl,hf⟩,hk2⟩:=cG;replace hk2:=jO.plain hk2;have hs2:=hk2.size;have HF2:Hid _:=hf;have nZ:Hid _:=Kp.trans pM.out hk2;have jL:Hid (aM T dp (N+1) p s=.fail er a):=by show _=_;rw[HF.out,hF];rfl
     have P0:Hid _:=(hk2.block (w.heap.size+1) (by omega) (by omega) (by omega)).trans HQ2.out;have ht2:=(hk2.block wr.heap.size (by omega) (by omega) (by omega)).trans SU.out;obtain⟨⟨y0,y1,y2,y3,y4,y5,y6⟩,-⟩:=dt (zad _ w2) ht2;obtain⟨⟨z0,z1,z2,z3,z4,z5,z6⟩,g0,g1,g2,g3,g4,g5,g6⟩:=dt (b:=w.heap.size+1) (zad _ w2) P0.out;have i1:¬wr.heap.size=w2.heap.size:=by omega
     have i2:¬w.heap.size+1=w2.heap.size:=by omega
     have i3:¬wr.heap.size=w.heap.size+1:=by omega
     clear ht2 hf hk2 hF x0 x1 x2 x3 x4 x5 x6 f0 f1 f2 f3 f4 f5 f6 t0 t1 t2 t3 t4 t5 t6 r0 r1 r2 r3 rf p0 p1 p2;unfold aC;go_wp2_with fail;refine nR (yH P0.out _ _ _ _ _ _ _) (v:= .tuple #[bP t,aC b]) ?_ rfl ?_
     ·intro o0 o1 o2 o3 o4 o5 o6;simp[results,results105,bP,aC,go_sem,o0,o1,o2,o3,o4,o5,o6]
     have hbc:b≠w.heap.size+1:=λe=>by
      have q:=HF2.out;unfold dQ at q;rw[e,P0.out]at q;simp[T0]at q
     rw[jL.out];exact⟨⟨b,t,rfl,(Xb w2 _ b hbc _ _ _ _ _ _ _).trans HF2.out⟩,Kp.kV nZ.out (rz w2 (w.heap.size+1) w.heap.size (by omega) _ _ _ _ _ _ _)⟩
    |ok d s2=>
     rw[hF]at cG;obtain⟨v,E2,rfl,⟨ty,y,rfl⟩,-,hx2,hr2,hk2⟩:=cG;replace hk2:=jO.plain hk2;have hs2:=hk2.size;have nZ:Hid _:=Kp.trans pM.out hk2;have jL:Hid (aM T dp (N+1) p s=aM T dp m' p s2):=by show _=_;rw[HF.out,hF];rfl
     have Up:Hid _:=Ext.trans (Ext.to (s'':={ s1 with k:=s1.k+1 }) (Ext.wid (w3:=wm) HX.out (zac _) (by omega)) rfl rfl) hx2 (by omega) hs2;have P3:Hid _:=hr2;have Ml:Hid _:=(hk2.block w.heap.size (by omega) (by omega) (by omega)).trans HP2.out;have P0:Hid _:=(hk2.block (w.heap.size+1) (by omega) (by omega) (by omega)).trans HQ2.out;have hgrow:s1.k+1≤s2.k:=(grows T dp m').datum _ _ _ _ hF;clear hx2 hr2 hk2 hF x0 x1 x2 x3 x4 x5 x6 f0 f1 f2 f3 f4 f5 f6 t0 t1 t2 t3 t4 t5 t6 p0 p1 p2;go_wp2_with fail;refine⟨⟨m',E2,s2,by omega,by omega,jL,P3,Up,nZ,Ml,P0⟩,?_⟩;rw[(ig P3.out.blk).1.2.1,(ig wO.out.blk).1.2.1];simp only[zbg,intOf,zbn];omega
   ·have q6:(((t.kind:Nat):Int)==6)=false:=by rw[zah];omega
    have HF:Hid (aM T dp (N+1) p s=.ok t { s1 with k:=s1.k+1 }):=by show _=_;rw[HE.out,NK.out,zaa k0,zaa k1,zaa k6]
    clear k0 k1 k6;go_wp2_with fail;go_region;go_wp2_with fail;refine nR (YL (by omega) HQ1.out _ _ _ _ _ _ _ _ _) (v:= .tuple #[bP t,.pointer none]) ?_ rfl ?_
    ·intro y0 y1 y2 y3 y4 y5 y6;simp[results,results105,bP,go_sem,y0,y1,y2,y3,y4,y5,y6]
    rw[HF.out];exact⟨E1,rfl,Ext.to (Ext.wid HX.out (zac _) (by simp)) rfl rfl,bS.YL wO.out (by omega) (by omega) (by omega) HQ1.out _ _ _ _ _ _ _ _,Uo HK.out (by omega) _ _ _ _ _ _ _ _ _⟩
end
section
variable {P:ζ}
theorem vP (w:Λ)(base:Nat)(t ty e:Ξ)(i:TypeInfo)(z:Θ)(y:Nat)(ht:P.underlying t=some (.slice e))(hi:P.info? e=some i)(hz:i.zero=some z)
 (hsize:i.size=1)(hby:i.bytes=y)(hy:y≤16)(hzs:z.cells.size=1)
 (v:Θ)(n:Nat)(xs:List Θ)(hown:w.ownsRow base e 1 v n xs)
 (a:Addr)(m c:Nat)(news:List Θ)(hm:m≠0)(hl:news.length=m*1)(hnews:∀j u,news[j]?=some u→w.cell? (a.add j)=some u)(h1:∀u∈news,u.oneCell'=true)
 (hlen:n+m≤1000000)(hbase:base≤w.heap.size):
 ∃v' w',(Builtin.append_ #[t,t] ty #[v,.slice (some a) m c]).run P w=.ok v' w'∧w'.ownsRow base e 1 v' (n+m) (xs++news)∧w.grownBy w' v.ownBlock∧
  (v'.ownBlock=v.ownBlock∨∃k,v'.ownBlock=some k∧w.heap.size≤k):=by
 have h63:n+m≤maxLen:=by unfold maxLen;omega
 have hbytes:(n+m)*y≤140737488355328:=zag (Nat.mul_le_mul hlen hy) (by decide);have adH:m*y≤281474976710656:=zag (Nat.mul_le_mul (show m≤1000000 by omega) hy) (by decide);obtain⟨v',w',hr,h2,h3,h4⟩:=run_append_own (P:=P) w base t ty e i z 1 y ht hi hz hsize hby hzs (by decide) v n xs hown a m c news hl hnews h1 h63 hbytes hbase;refine⟨v',w',hr,h2,h3,?_⟩;have Ir:n+m≤9223372036854775807:=by omega
 rcases hown.2 with⟨rfl,rfl⟩|⟨g,cap,cur,rfl,hbg,hg,hnc,hcm,hcs,Fl⟩
 ·have qy:=run_append_nil (P:=P) w t ty e i z ht hi hz a m c news (by rw[hsize];exact hl) hnews (by omega) (by omega) (by rw[hby];first|exact growslice_fits (by omega) (by simpa using hbytes)|exact adH);rw[qy]at hr;injection hr with a b;rw[←a];exact Or.inr ⟨_,rfl,zac _⟩
 ·by_cases hroom:n+m≤cap
  ·have qy:=run_append_room (P:=P) w t ty e i ht hi g n cap cur hg a m c news (by rw[hsize];exact hl) hnews h1 hroom (by rw[hsize];omega);rw[qy]at hr;injection hr with a b;rw[←a];exact Or.inl rfl
  ·have holds:∀j u,xs[j]?=some u→w.cell? ((⟨g,0,none⟩:Addr).add j)=some u:=hown.cells (g:=g) rfl;have qy:=run_append_grow (P:=P) w t ty e i z ht hi hz ⟨g,0,none⟩ n cap xs (by rw[hsize];exact hown.1) holds a m c news (by rw[hsize];exact hl) hnews (by omega) (by omega) (by rw[hby];exact growslice_fits (by omega) hbytes);rw[qy]at hr;injection hr with a b;rw[←a];exact Or.inr ⟨_,rfl,zac _⟩
theorem fH {w:Λ}{ops:Array Oper}{rest:List Oper}{o:Oper}{a:Act}{Q:Exit→Act→Λ→Prop}(hgd:o.guard=none)(sl x:Operand)(t:Ξ)
 (ho:o.op=.call { callee:= .builtin .append,args:=#[sl,x],argTypes:=#[t,t] })
 (base:Nat)(e:Ξ)(i:TypeInfo)(z:Θ)(y:Nat)(ht:P.underlying t=some (.slice e))(hi:P.info? e=some i)(hz:i.zero=some z)
 (hsize:i.size=1)(hby:i.bytes=y)(hy:y≤16)(hzs:z.cells.size=1)
 (v:Θ)(n:Nat)(xs:List Θ)(hs:a.eval sl=v)(hown:w.ownsRow base e 1 v n xs)
 (ad:Addr)(m c:Nat)(news:List Θ)(hx:a.eval x=.slice (some ad) m c)(hm:m≠0)(hl:news.length=m*1)(hnews:∀j u,news[j]?=some u→w.cell? (ad.add j)=some u)(h1:∀u∈news,u.oneCell'=true)
 (hlen:n+m≤1000000)(hbase:base≤w.heap.size)
 (h:∀v' w',w'.ownsRow base e 1 v' (n+m) (xs++news)→w.grownBy w' v.ownBlock→(v'.ownBlock=v.ownBlock∨∃k,v'.ownBlock=some k∧w.heap.size≤k)→wpList P ops Q rest (a.put o.dst v') w'):wpList P ops Q (o::rest) a w:=by
 refine wpList_plain hgd λK hK=>?_;obtain⟨v',w',hr,h2,h3,h4⟩:=vP (P:=P) w base t o.type e i z y ht hi hz hsize hby hy hzs v n xs hown ad m c news hm hl hnews h1 hlen hbase;unfold Oper.wp execOp;simp only[ho,resolve,invoke,builtin,zba,zbd,zbb,zbR,zaB,zbt,hs,hx,hr];exact hK _ _ (h v' w' h2 h3 h4)
end
theorem BH:(prog.info? 58).map (λi=>(i.zero,i.size,i.bytes))=some (some .nilIface,1,16):=by kernel_rfl
theorem Mm:(prog.info? 212).map (λi=>(i.zero,i.size,i.bytes))=some (some (.pointer none),1,8):=by kernel_rfl
def Held (wr:Λ)(lo k:Nat)(L:List Int)(E:Env)(c:Option Nat)(d:Dt)(v:Θ):Prop:=
 (∃t y,v=.iface t y)∧∃wi z,lo≤z∧wi.heap.size≤wr.heap.size∧ct z k L wi E d v∧(∀b,z≤b→b<wi.heap.size→wr.heap[b]?=wi.heap[b]?)∧∀b,c=some b→b<z∨wi.heap.size≤b
theorem Held.dat {wr:Λ}{lo k:Nat}{L:List Int}{E:Env}{c:Option Nat}{d:Dt}{v:Θ}(h:Held wr lo k L E c d v):ct lo k L wr E d v:=by
 obtain⟨-,wi,z,h1,h2,h3,h4,-⟩:=h;exact ct.keep h1 (zac _) (λ_ h=>h) h4 ⟨λ_ _=>rfl,λ_ _=>rfl⟩ d v h3
theorem Held.keep {wr w':Λ}{lo k k':Nat}{L L':List Int}{E E':Env}{c c':Option Nat}{d:Dt}{v:Θ}(h:Held wr lo k L E c d v)(hs:wr.heap.size≤w'.heap.size)(hk:k≤k')(hL:∀n∈L,n∈L')(hE:E.agree E' k L)
 (hw:∀b,lo≤b→b<wr.heap.size→some b≠c→w'.heap[b]?=wr.heap[b]?)(hc:c'=c∨∃b,c'=some b∧wr.heap.size≤b):Held w' lo k' L' E' c' d v:=by
 obtain⟨hi,wi,z,h1,h2,h3,h4,h5⟩:=h;refine⟨hi,wi,z,h1,by omega,ct.keep (zac _) hk hL (λ_ _ _=>rfl) hE d v h3,λb b1 b2=>?_,λb hb=>?_⟩
 ·refine(hw b (by omega) (by omega) λe=>?_).trans (h4 b b1 b2);have:=h5 b e.symm;omega
 ·rcases hc with hc|⟨b',hc,hlt⟩
  ·exact h5 b (by rw[←hc];exact hb)
  ·rw[hc]at hb;cases hb;exact .inr (by omega)
theorem mW:∀(l:List Dt) (r:Dt) (k:Nat),(aU l r k).2=k+l.length
 |[],_,_=>rfl
 |d::l,r,k=>by simp only[aU,mW l r k,zar];omega
theorem BI {w:Λ}{base lo K k0:Nat}{L:List Int}{E:Env}{rest:Dt}{vr:Θ}(hr:ct lo K L w E rest vr)(AJ:lo≤base):∀(ds:List Dt) (vs:List Θ) (v:Θ),fF w base vs vr v→ds.length=vs.length→(∀(j:Nat) d x,ds[j]?=some d→vs[j]?=some x→ct lo K L w E d x)→k0+ds.length≤K→(∀j,j<ds.length→E.α (k0+j)=base+j)→ct lo K L w E (aU ds rest k0).1 v
 |[],[],v,hc,_,_,_,_=>by
  have:v=vr:=hc;subst this;exact hr
 |d::ds,x::vs,v,⟨h1,v',h2,h3⟩,hl,hd,hK,Ar=>by
  simp only[zar]at hl hK Ar;have hl':ds.length=vs.length:=by omega
  have ih:=BI hr AJ ds vs v' h3 hl' (λj d' x' q1 q2=>hd (j+1) d' x' (by simpa using q1) (by simpa using q2)) (by omega) λj hj=>Ar j (by omega);have hp:E.α (aU ds rest k0).2=base+vs.length:=by rw[mW,Ar ds.length (by omega),hl']
  have hx:=hd 0 d x (by simp) (by simp);show ct lo K L w E (.pair (aU ds rest k0).2 d (aU ds rest k0).1) v;unfold ct;rw[hp];exact⟨by rw[mW];omega,by omega,h1,x,v',h2,hx,ih⟩
 |[],_::_,_,_,hl,_,_,_=>by simp at hl
 |_::_,[],_,_,hl,_,_,_=>by simp at hl
theorem Km {T:List Tok}{dp n:Nat}{p:Pl}{s s':eD}{t:Tok}(h:aM T dp n p s=.ok t s'):s.k<T.length∧s.k<s'.k:=by
 cases n with
 |zero=>unfold aM at h;cases h
 |succ n=>
  unfold aM at h;split at h
  ·cases h
  ·rename_i t' ht;refine⟨(zbh.1 ht).1,?_⟩;split at h
   ·cases h
   ·split at h
    ·cases h
    ·split at h
     ·obtain⟨d,s1,h1,h2⟩:=RR.bk h;have a1:=(grows T dp n).datum _ _ _ _ h1;have a2:=(grows T dp n).take _ _ _ _ h2;simp at a1;omega
     ·cases h;simp
theorem Mn (rest:Θ)(w:Λ)(Xa:∃t y,rest=.iface t y):Φ prog 221 #[.slice none 0 0,rest] w λe w'=>e=.returned rest∧w'=w:=by
 obtain⟨tr,yr,rfl⟩:=Xa;go_enter func221,ntmps221;go_wp2_with fail;go_loopw [5,1] (λi r wr=>i=Γ Δ (-1)∧r=.iface tr yr∧wr=w) (λ_ _ _=>0)
 case atStart=>exact⟨by go_num,rfl,rfl⟩
 case round=>
  obtain⟨rfl,rfl,rfl⟩:=hrel;go_wp2_with fail;go_ret;exact⟨rfl,rfl⟩
theorem uu (vs:List Θ)(sv:Θ)(lo:Nat)(rest:Θ)(w:Λ)(hrow:w.ownsRow lo 58 1 sv vs.length vs)(hn:vs.length≤1000000)(W9:∀x∈vs,∃t y,x=.iface t y)(Xa:∃t y,rest=.iface t y):Φ prog 221 #[sv,rest] w λe w'=>∃v,e=.returned v∧fF w' w.heap.size vs rest v∧w'.heap.size=w.heap.size+vs.length∧Below w.heap.size w w':=by
 rcases hrow.2 with⟨rfl,h0⟩|⟨g,cap,cur,rfl,_⟩
 ·have:vs=[]:=zcf h0;subst this;refine(Mn rest w Xa).mono ?_;rintro e w' ⟨rfl,rfl⟩;exact⟨rest,rfl,rfl,rfl,zad _ _⟩
 ·exact Mh vs g cap lo rest w hrow hn W9 Xa
theorem fF.iface {w:Λ}{base:Nat}{vs:List Θ}{rest v:Θ}(h:fF w base vs rest v)(hr:∃t y,rest=.iface t y):∃t y,v=.iface t y:=by
 cases vs with
 |nil=>have:v=rest:=h
       rw[this];exact hr
 |cons x vs=>obtain⟨h1,_⟩:=h;exact⟨_,_,h1⟩
theorem uv {R M g cap:Nat}{T:List Tok}{dp:Nat}{w wr w3:Λ}{E E1:Env}{s s1:eD}{ds:List Dt}{vs:List Θ}{rest:Dt}{vr v:Θ}{lo:Nat}(AJ:w.heap.size≤lo)(fV:lo≤wr.heap.size)(hds:∀(j:Nat) d x,ds[j]?=some d→vs[j]?=some x→ct lo s1.fresh s1.ak wr E1 d x)(Bw:ct lo s1.fresh s1.ak wr E1 rest vr)(hl:ds.length=vs.length)(Xa:∃t y,vr=.iface t y)
 (hc:fF w3 wr.heap.size vs vr v)(hsz:w3.heap.size=wr.heap.size+vs.length)(hb:Below wr.heap.size wr w3)(hr:bS wr R M g cap T dp E1 s1)(hx:Ext w wr E E1 s s1)(hk:Kp R M w wr):
 jP R M g cap T dp none w E s (.ok (aU ds rest s1.fresh).1 { s1 with fresh:=(aU ds rest s1.fresh).2 }) (.returned (.tuple #[v,.pointer none])) w3:=by
 have ag:E1.agree ⟨λi=>if i<s1.fresh then E1.α i else wr.heap.size+(i-s1.fresh),E1.cE⟩ s1.fresh s1.ak:=⟨λi hi=>zab hi,λ_ _=>rfl⟩;have hlen:=mW ds rest s1.fresh;have kp:∀d x,ct lo s1.fresh s1.ak wr E1 d x→ct lo (aU ds rest s1.fresh).2 s1.ak w3 ⟨λi=>if i<s1.fresh then E1.α i else wr.heap.size+(i-s1.fresh),E1.cE⟩ d x:=λd x h=>
  ct.keep (zac _) (by omega) (λ_ h=>h) (λb _ h2=>hb.block b h2) ag d x h
 have cK:=BI (base:=wr.heap.size) (k0:=s1.fresh) (kp rest vr Bw) fV ds vs v hc hl (λj d x h1 h2=>kp d x (hds j d x h1 h2)) (by omega) λj hj=>by
  show(if s1.fresh+j<s1.fresh then _ else _)=_;rw[zaa (by omega)];congr 1;omega
 have h1:=hr.below hb;refine⟨v,⟨λi=>if i<s1.fresh then E1.α i else wr.heap.size+(i-s1.fresh),E1.cE⟩,rfl,hc.iface Xa,ct.keep AJ (zac _) (λ_ h=>h) (λ_ _ _=>rfl) ⟨λ_ _=>rfl,λ_ _=>rfl⟩ _ _ cK,?_,⟨h1.rm,h1.gr,h1.gm,h1.blk,h1.row,h1.lm,h1.low,h1.inj,h1.small,h1.deep⟩,(hk.trans (Kp.aG hb)).a none⟩;refine Ext.trans hx ⟨ag,by show s1.fresh≤(aU ds rest s1.fresh).2;omega,λ_ h=>h,λi i1 i2=>?_,λi j i1 i2 j1 j2 e=>?_⟩ hk.size (by omega)
 ·have i2':i<(aU ds rest s1.fresh).2:=i2;show wr.heap.size≤(if i<s1.fresh then _ else _)∧(if i<s1.fresh then _ else _)<_;rw[zaa (by omega)];omega
 ·have e':(if i<s1.fresh then E1.α i else wr.heap.size+(i-s1.fresh))=(if j<s1.fresh then E1.α j else wr.heap.size+(j-s1.fresh)):=e;rw[zaa (by omega),zaa (by omega)]at e';omega
theorem Kp.ge {R M lo:Nat}{w w':Λ}(h:Kp R M w w')(hR:R<lo)(hM:M<lo):∀b,lo≤b→b<w.heap.size→w'.heap[b]?=w.heap[b]?:=λb h1 h2=>h.block b h2 (by omega) (by omega)
section
variable {R M g cap:Nat}{T:List Tok}{dp:Nat}
theorem FC {n:Nat}(ih:IH R M g cap T dp n)(p:Pl)(hp:p.ahead=[])(hd:p.depth≤dp∧p.ahead.length≤p.depth)(w wr:Λ)(E E1:Env)(s s1:eD)(hr:bS wr R M g cap T dp E1 s1)(hx:Ext w wr E E1 s s1)(hk:Kp R M w wr)(lo:Nat)(AJ:w.heap.size≤lo)(fV:lo≤wr.heap.size)(hRl:R<lo)(hMl:M<lo)
 (ds:List Dt)(vs:List Θ)(hl:ds.length=vs.length)(hn:vs.length≤1000000)(a0:Option Addr)(n0 c0:Nat)(hrow:wr.ownsRow lo 58 1 (.slice a0 n0 c0) vs.length vs)(hh:∀(j:Nat) d x,ds[j]?=some d→vs[j]?=some x→Held wr lo s1.fresh s1.ak E1 (Θ.slice a0 n0 c0).ownBlock d x)(W9:∀x∈vs,∃t y,x=.iface t y)
 (r:RR Dt)(eK:r=((ay T dp n p s1).bind λrest s=>(aM T dp n p s).bind λt s=>
   if t.kind=3 then .ok (aU ds rest s.fresh).1 { s with fresh:=(aU ds rest s.fresh).2 } else .fail 3 t.from_))(ho:r≠.out):
 Φ prog 222 #[aC R,.slice a0 n0 c0,gI p.depth p.passed (.slice none 0 0)] wr λe w'=>jP R M g cap T dp none w E s r e w':=by
 have mixed:prog.follows Ω=true:=by kernel_rfl
 have hb0:Below wr.heap.size wr (wr.alloc (gW p.depth p.passed none 0 0)):=(zad _ wr).alloc (zac _) _;have HR:Hid _:=hr.below hb0;have HP:Hid _:=zav wr (gW p.depth p.passed none 0 0);have PW:(wr.alloc (gW p.depth p.passed none 0 0)).heap.size=wr.heap.size+1:=by simp
 have hne:ay T dp n p s1≠.out:=λh=>ho (by rw[eK,h];rfl);have ah:∀(w':Λ) (E':Env) (s':eD),jd w' E' s' p.ahead (.slice none 0 0):=λw' E' s'=>by rw[hp];exact⟨⟨rfl,.inl ⟨rfl,rfl⟩⟩,⟨_,_,_,rfl⟩,λn hn=>by cases hn⟩
 have HT:Hid _:=ih.datum p (.slice none 0 0) _ E1 s1 HR.out (ah _ _ _) hd hne;have HK:Hid _:=hk.trans (Kp.aG hb0);have HX:Hid _:=Ext.wid (w:=w) (w3:=(wr.alloc (gW p.depth p.passed none 0 0))) hx (zac _) (by omega);have HH:Hid (∀(j:Nat) d x,ds[j]?=some d→vs[j]?=some x→ct lo s1.fresh s1.ak (wr.alloc (gW p.depth p.passed none 0 0)) E1 d x):=λj d x h1 h2=>ct.keep (zac _) (zac _) (λ_ h=>h) (λb _ h=>hb0.block b h) ⟨λ_ _=>rfl,λ_ _=>rfl⟩ d x (hh j d x h1 h2).dat
 have HW:Hid _:=bC hrow (zac _) λb _ h=>hb0.block b h;have NH:R<wr.heap.size:=hr.lt;have lS:M<wr.heap.size:=hr.mlt;have HI:Hid _:=ih;have HO:Hid _:=ho;have HA:Hid _:=ah;have NL:Hid _:=eK;clear hr hb0 ih ho hne ah hx hk hrow hh eK;generalize hw0:wr.alloc (gW p.depth p.passed none 0 0)=w0 at *;have NJ:Hid _:=hw0;clear hw0;cases hT:ay T dp n p s1 with
 |out=>exact absurd (by rw[NL.out,hT];rfl) HO.out
 |fail er a=>
  rw[hT]at HT;have HE:Hid (r=.fail er a):=by show _=_;rw[NL.out,hT];rfl
  unfold gI aC at HT ⊢;go_enter func222,ntmps222;go_wp2_with fail;rw[NJ.out];refine zai HT.out ?_;rintro e w1 ⟨⟨b,rfl,hf⟩,hk⟩;have HF:Hid _:=hf;have BJ:Hid _:=jO.plain hk;clear hf hk HT;unfold aC;go_wp2_with fail;go_ret2;rw[HE.out];exact⟨⟨b,rfl,HF.out⟩,(Kp.trans HK.out BJ.out).a none⟩
 |ok rest s2=>
  rw[hT]at HT;unfold gI aC at HT ⊢;go_enter func222,ntmps222;go_wp2_with fail;rw[NJ.out];refine zai HT.out ?_;rintro e w1 ⟨vr,E2,rfl,⟨ty,yy,rfl⟩,cK,hx2,hr2,hk2⟩;replace hk2:=jO.plain hk2;have hs1:=hk2.size;obtain⟨x0,x1,x2⟩:=fG ((hk2.block wr.heap.size (by omega) (by omega) (by omega)).trans HP.out);have HE:Hid (r=(aM T dp n p s2).bind λt s=>if t.kind=3 then .ok (aU ds rest s.fresh).1 { s with fresh:=(aU ds rest s.fresh).2 } else .fail 3 t.from_):=by show _=_;rw[NL.out,hT];rfl
  have hne:aM T dp n p s2≠.out:=λh=>HO.out (by rw[HE.out,h];rfl);have pM:Hid _:=Kp.trans HK.out hk2;have Mo:Hid _:=Ext.trans HX.out hx2 (Kp.size HK.out) hs1;have HH2:Hid (∀(j:Nat) d x,ds[j]?=some d→vs[j]?=some x→ct lo s2.fresh s2.ak w1 E2 d x):=λj d x h1 h2=>ct.keep (zac _) hx2.fresh hx2.ak (Kp.ge hk2 hRl hMl) hx2.agree d x (HH.out j d x h1 h2);have HD2:Hid (ct lo s2.fresh s2.ak w1 E2 rest (.iface ty yy)):=ct.keep (by omega) (zac _) (λ_ h=>h) (λ_ _ _=>rfl) ⟨λ_ _=>rfl,λ_ _=>rfl⟩ _ _ cK;have wP:Hid _:=bC HW.out (zac _) (Kp.ge hk2 hRl hMl);have IG:Hid _:=hr2;have SU:Hid _:=HI.out.take p (.slice none 0 0) _ E2 s2 hr2 (HA.out _ _ _) hd hne;clear cK hx2 hr2 hk2 HT hne;cases Ah:aM T dp n p s2 with
  |out=>exact absurd (by rw[HE.out,Ah];rfl) HO.out
  |fail er a=>
   rw[Ah]at SU;have jL:Hid (r=.fail er a):=by show _=_;rw[HE.out,Ah];rfl
   unfold gI aC at SU;go_wp2_with fail;refine zai SU.out ?_;rintro e w2 ⟨⟨b,t,rfl,hf⟩,hk⟩;have HF:Hid _:=hf;have nZ:Hid _:=hk;clear hf hk SU;unfold bP aC;go_wp2_with fail;go_ret2;rw[jL.out];exact⟨⟨b,rfl,dQ.alloc HF.out _⟩,(Kp.trans (Kp.trans pM.out nZ.out) (Kp.aG ((zad _ _).alloc (zac _) _))).a none⟩
  |ok t s3=>
   rw[Ah]at SU;have jL:Hid (r=if t.kind=3 then .ok (aU ds rest s3.fresh).1 { s3 with fresh:=(aU ds rest s3.fresh).2 } else .fail 3 t.from_):=by show _=_;rw[HE.out,Ah];rfl
   unfold gI aC at SU;go_wp2_with fail;refine zai SU.out ?_;rintro e w2 ⟨E3,rfl,hx3,hr3,hk3⟩;have nZ:Hid _:=hk3;have Up:Hid _:=hx3;have P3:Hid _:=hr3;have hs3:=hk3.size;clear hx3 hr3 hk3 SU;unfold bP;by_cases k3:t.kind=3
   ·have q3:(((t.kind:Nat):Int)==3)=true:=by rw[k3];rfl
    rw[zab k3]at jL;clear k3;have hb4:Below w2.heap.size w2 (w2.alloc (iz t)):=(zad _ w2).alloc (zac _) _;have qJ:Hid _:=hb4;have NB:(w2.alloc (iz t)).heap.size=w2.heap.size+1:=by simp
    have vh:Hid _:=bC (bC wP.out (zac _) (Kp.ge nZ.out hRl hMl)) (zac _) λb _ h=>hb4.block b h;have HC:Hid _:=uu vs (.slice a0 n0 c0) lo (.iface ty yy) _ vh.out hn W9 ⟨_,_,rfl⟩;clear hb4;go_wp2_with fail;refine zai HC.out ?_;rintro e w5 ⟨v,rfl,hc,hs5,j8⟩;obtain⟨tv,yv,rfl⟩:=hc.iface ⟨_,_,rfl⟩;have rJ:Hid _:=Kp.trans (Kp.trans pM.out nZ.out) (Kp.aG qJ.out);have adI:lo≤(w2.alloc (iz t)).heap.size:=by have:=(wP.out.2);have:=Kp.size HK.out;omega
    have HG:Hid _:=uv (T:=T) (dp:=dp) (g:=g) (cap:=cap) (w:=w) (lo:=lo) (ds:=ds) (rest:=rest) (s1:=s3) (E1:=E3) AJ adI
     (λj d x h1 h2=>ct.keep (zac _) (zac _) (λ_ h=>h) (λb _ h=>qJ.out.block b h) ⟨λ_ _=>rfl,λ_ _=>rfl⟩ d x (ct.keep (zac _) (Ext.fresh Up.out) (Ext.ak Up.out) (Kp.ge nZ.out hRl hMl) (Ext.agree Up.out) d x (HH2.out j d x h1 h2)))
     (ct.keep (zac _) (zac _) (λ_ h=>h) (λb _ h=>qJ.out.block b h) ⟨λ_ _=>rfl,λ_ _=>rfl⟩ _ _ (ct.keep (zac _) (Ext.fresh Up.out) (Ext.ak Up.out) (Kp.ge nZ.out hRl hMl) (Ext.agree Up.out) _ _ HD2.out))
     hl ⟨_,_,rfl⟩ hc hs5 j8 (bS.below P3.out qJ.out) (Ext.wid (w:=w) (Ext.trans Mo.out Up.out (Kp.size pM.out) hs3) (zac _) (by omega)) rJ.out
    clear hc j8;go_wp2_with fail;go_ret2;rw[jL.out];exact HG.out
   ·have q3:(((t.kind:Nat):Int)==3)=false:=by rw[zah];omega
    rw[zaa k3]at jL;clear k3;go_wp2_with fail;go_region;go_wp2_with fail;go_ret2;rw[jL.out];refine⟨⟨w2.heap.size+1,rfl,?_⟩,(Kp.trans (Kp.trans pM.out nZ.out) (Kp.aG ((((zad _ w2).alloc (zac _) _).alloc (by simp) _).drew))).a none⟩;exact en w2 _ _
end
theorem bD {w:Λ}{lo:Nat}{e:Ξ}{z:Nat}{v:Θ}{n:Nat}{xs:List Θ}(h:w.ownsRow lo e z v n xs):∃a c,v=.slice a n c:=by
 rcases h.2 with⟨rfl,rfl⟩|⟨g,cap,cur,rfl,_⟩
 ·exact⟨_,_,rfl⟩
 ·exact⟨_,_,rfl⟩
theorem FD {R M g cap:Nat}{T:List Tok}{dp:Nat}{E:Env}{s:eD}{w w5 w6:Λ}{row:Option Nat}{A:Obj}(hr:bS w5 R M g cap T dp E s)(hk:Kp R M w w5)(hg:(w5.alloc A).grownBy w6 row)(hrow:∀k,row=some k→w.heap.size≤k)(II:∀(b:Nat) (v:Θ),w5.heap[b]?=some (.cells #[v] 215)→some b≠row)(h1:R<w.heap.size)(h2:M<w.heap.size)(h3:g<w.heap.size):bS w6 R M g cap T dp E s∧Kp R M w w6∧(∀b,b<w5.heap.size→some b≠row→w6.heap[b]?=w5.heap[b]?)∧w5.heap.size+1≤w6.heap.size:=by
 have hs:(w5.alloc A).heap.size=w5.heap.size+1:=by simp
 have hb:∀b,b<w5.heap.size→some b≠row→w6.heap[b]?=w5.heap[b]?:=λb h h'=>(hg.block b (by omega) h').trans (zaT _ _ _ h);have hz:=hg.size;have fV:∀b,b<w.heap.size→some b≠row:=λb h e=>by have:=hrow b e.symm;omega
 have h5:=hk.size;refine⟨?_,⟨hg.os.trans hk.os,hg.tape.trans hk.tape,hg.output.trans hk.output,by omega,λb b1 b2 b3=>(hb b (by omega) (fV b b1)).trans (hk.block b b1 b2 b3)⟩,hb,by omega⟩;exact bS.step hr (k:=s.k) ((hb R (by omega) (fV R h1)).trans hr.blk) (by omega) (λb b1 b2=>hb b b1 (b2.elim (λe=>by rw[e];exact fV g h3) (λe=>by rw[e];exact fV M h2))) λb v hv=>hb b (zaj.1 hv).1 (II b v hv)
theorem Kn {w:Λ}{lo:Nat}{v:Θ}{n:Nat}{xs:List Θ}(h:w.ownsRow lo 58 1 v n xs):∀(b:Nat) (x:Θ),w.heap[b]?=some (.cells #[x] 215)→some b≠v.ownBlock:=by
 intro b x hb e;rcases h.2 with⟨rfl,_⟩|⟨g,cap,cur,rfl,_,hg,_⟩
 ·cases e
 ·have:b=g:=by cases e;rfl
  rw[this,hg]at hb;simp at hb
section
variable {R M g cap:Nat}{T:List Tok}{dp:Nat}
theorem Mp {N:Nat}(ih:∀n,n≤N→IH R M g cap T dp n)(p:Pl)(hp:p.ahead=[])(w:Λ)(E:Env)(s:eD)(hr:bS w R M g cap T dp E s)(hd:p.depth≤dp∧p.ahead.length≤p.depth)(ho:bh T dp (N+1) [] p s≠.out):Φ prog 196 #[aC R,gI p.depth p.passed (.slice none 0 0)] w λe w'=>jP R M g cap T dp none w E s (bh T dp (N+1) [] p s) e w':=by
 have mixed:prog.follows Ω=true:=by kernel_rfl
 have NH:R<w.heap.size:=hr.lt;have lS:M<w.heap.size:=hr.mlt;have hrg:g<w.heap.size:=(hr.row.lt g rfl).2;have hb0:Below w.heap.size w (w.alloc (gW p.depth p.passed none 0 0)):=(zad _ w).alloc (zac _) _;have HP:Hid _:=zav w (gW p.depth p.passed none 0 0);have HR:Hid _:=hr.below hb0;have HB:Hid _:=hb0;have HI:Hid _:=ih;have HO:Hid _:=ho;have hsm:=hr.small;have HA:Hid (∀(w':Λ) (E':Env) (s':eD),jd w' E' s' p.ahead (.slice none 0 0)):=λw' E' s'=>by rw[hp];exact⟨⟨rfl,.inl ⟨rfl,rfl⟩⟩,⟨_,_,_,rfl⟩,λn hn=>by cases hn⟩
 clear hr hb0 ih ho;unfold gI aC;go_enter func196,ntmps196;go_wp2_with fail;go_loopw [6] (λsv wr=>∃(m:Nat) (E1:Env) (s1:eD) (ds:List Dt) (vs:List Θ),m≤N+1∧w.heap.size+1≤wr.heap.size∧ds.length=vs.length∧vs.length≤s1.k∧Hid (bh T dp (N+1) [] p s=bh T dp m ds p s1)∧Hid (bS wr R M g cap T dp E1 s1)∧Hid (Ext w wr E E1 s s1)∧Hid (Kp R M w wr)∧Hid (wr.heap[w.heap.size]?=some (gW p.depth p.passed none 0 0))∧Hid (wr.ownsRow (w.heap.size+1) 58 1 sv vs.length vs)∧Hid (∀(j:Nat) d x,ds[j]?=some d→vs[j]?=some x→Held wr (w.heap.size+1) s1.fresh s1.ak E1 sv.ownBlock d x)) (λ_ wr=>T.length+1-(intOf ((wr.cell? ⟨R,1,none⟩).getD undef)).toNat)
 case atStart=>exact⟨N+1,E,s,[],[],zac _,by simp,rfl,zaq _,rfl,HR.out,Ext.refl rfl rfl,Kp.aG HB.out,HP.out,zck _ _ _ _,λj d x h=>by simp at h⟩
 case round=>
  obtain⟨m,E1,s1,ds,vs,hm,hsz,hl,hlen,HE,wO,HX,HK,SS,HW,HH⟩:=hrel;have yg:bh T dp m ds p s1≠.out:=by rw[←HE.out];exact HO.out
  obtain⟨m',rfl⟩:∃m',m=m'+1:=by
   cases m with
   |zero=>exact absurd (by unfold bh;rfl) yg
   |succ m'=>exact⟨m',rfl⟩
  have Uq:Hid (bh T dp (N+1) [] p s=(aM T dp m' p s1).bind λt s=>
   if t.kind=3 then .ok (aU ds .nil s.fresh).1 { s with fresh:=(aU ds .nil s.fresh).2 }
   else if t.kind=7∧ds≠[]then
    (ay T dp m' p s).bind λrest s=>(aM T dp m' p s).bind λt s=>
      if t.kind=3 then .ok (aU ds rest s.fresh).1 { s with fresh:=(aU ds rest s.fresh).2 } else .fail 3 t.from_
   else(aL T dp m' t p s).bind λd s=>bh T dp m' (ds++[d]) p s):=by
    show _=_;rw[HE.out]
    conv=>lhs;unfold bh
  clear yg HE;obtain⟨a1,c1,rfl⟩:=bD HW.out;obtain⟨p0,p1,p2⟩:=fG SS.out;have hne:aM T dp m' p s1≠.out:=λh=>HO.out (by rw[Uq.out,h];rfl);have HT:Hid _:=(HI.out m' (by omega)).take p (.slice none 0 0) _ E1 s1 wO.out (HA.out _ _ _) hd hne;have W9:∀x∈vs,∃t y,x=.iface t y:=λx hx=>by
   obtain⟨j,hj,rfl⟩:=List.getElem_of_mem hx;exact(HH.out j (ds[j]'(by omega)) vs[j] (zat (by omega)) (zat hj)).1
  have HIF:Hid _:=W9;clear hne W9;cases hT:aM T dp m' p s1 with
  |out=>exact absurd (by rw[Uq.out,hT];rfl) HO.out
  |fail er a=>
   rw[hT]at HT;have jL:Hid (bh T dp (N+1) [] p s=.fail er a):=by show _=_;rw[Uq.out,hT];rfl
   unfold gI aC at HT;go_wp2_with fail;refine zai HT.out ?_;rintro e w2 ⟨⟨b,t,rfl,hf⟩,hk⟩;have HF:Hid _:=hf;have nZ:Hid _:=hk;clear hf hk HT;unfold bP aC;go_wp2_with fail;go_ret2;rw[jL.out];exact⟨⟨b,rfl,dQ.alloc HF.out _⟩,(Kp.trans (Kp.trans HK.out nZ.out) (Kp.aG ((zad _ _).alloc (zac _) _))).a none⟩
  |ok t s3=>
   have HMt:Hid (t∈T):=sR _ _ _ _ _ hT;have htl:=Km hT;rw[hT]at HT;have jL:Hid (bh T dp (N+1) [] p s=if t.kind=3 then .ok (aU ds .nil s3.fresh).1 { s3 with fresh:=(aU ds .nil s3.fresh).2 }
   else if t.kind=7∧ds≠[]then
    (ay T dp m' p s3).bind λrest s=>(aM T dp m' p s).bind λt s=>
      if t.kind=3 then .ok (aU ds rest s.fresh).1 { s with fresh:=(aU ds rest s.fresh).2 } else .fail 3 t.from_
   else(aL T dp m' t p s3).bind λd s=>bh T dp m' (ds++[d]) p s):=by show _=_;rw[Uq.out,hT];rfl
   unfold gI aC at HT;go_wp2_with fail;refine zai HT.out ?_;rintro e w2 ⟨E3,rfl,hx3,hr3,hk3⟩;have hs3:=hk3.size;have hb4:Below w2.heap.size w2 (w2.alloc (iz t)):=(zad _ w2).alloc (zac _) _;have NB:(w2.alloc (iz t)).heap.size=w2.heap.size+1:=by simp
   have hk4:=Kp.trans hk3 (Kp.aG hb4);have HR4:Hid _:=hr3.below hb4;have rJ:Hid _:=Kp.trans HK.out hk4;have HX4:Hid _:=Ext.wid (w:=w) (w3:=(w2.alloc (iz t))) (Ext.trans HX.out hx3 (Kp.size HK.out) hs3) (zac _) (by omega);have vh:Hid _:=bC HW.out (zac _) (Kp.ge hk4 (by omega) (by omega));have HH4:Hid (∀(j:Nat) d x,ds[j]?=some d→vs[j]?=some x→Held (w2.alloc (iz t)) (w.heap.size+1) s3.fresh s3.ak E3 (Θ.slice a1 vs.length c1).ownBlock d x):=λj d x h1 h2=>
    Held.keep (HH.out j d x h1 h2) (by omega) hx3.fresh hx3.ak hx3.agree (λb b1 b2 _=>Kp.ge hk4 (lo:=w.heap.size+1) (by omega) (by omega) b b1 b2) (.inl rfl)
   have HP4:Hid _:=(hk4.block w.heap.size (by omega) (by omega) (by omega)).trans SS.out;obtain⟨y0,y1,y2⟩:=fG HP4.out;obtain⟨⟨o0,o1,o2,o3,o4,o5,o6⟩,-⟩:=dt (zad _ _) (zav w2 (iz t));clear hx3 hr3 hk3 hk4 hb4 HT p0 p1 p2;unfold bP;by_cases k3:t.kind=3
   ·have q3:(((t.kind:Nat):Int)==3)=true:=by rw[k3];rfl
    rw[zab k3]at jL;clear k3;have HC:Hid _:=uu vs (.slice a1 vs.length c1) (w.heap.size+1) (.iface 272 (.agg #[])) _ vh.out (by omega) HIF.out ⟨_,_,rfl⟩;go_wp2_with fail;refine zai HC.out ?_;rintro e w5 ⟨v,rfl,hc,hs5,j8⟩;obtain⟨tv,yv,rfl⟩:=hc.iface ⟨_,_,rfl⟩;have HG:Hid _:=uv (T:=T) (dp:=dp) (g:=g) (cap:=cap) (w:=w) (lo:=w.heap.size+1) (ds:=ds) (rest:= .nil) (s1:=s3) (E1:=E3) (by omega) (by omega)
     (λj d x h1 h2=>(HH4.out j d x h1 h2).dat) (by unfold ct;rfl) hl ⟨_,_,rfl⟩ hc hs5 j8 HR4.out HX4.out rJ.out
    clear hc j8;go_wp2_with fail;go_ret2;rw[jL.out];exact HG.out
   have q3:(((t.kind:Nat):Int)==3)=false:=by rw[zah];omega
   rw[zaa k3]at jL;clear k3;by_cases k7:t.kind=7∧ds≠[]
   ·have q7:(((t.kind:Nat):Int)==7)=true:=by rw[k7.1];rfl
    have jT:0<vs.length:=by have:=zbT.2 k7.2;omega
    have q8:decide ((0:Int)<(vs.length:Int))=true:=by simp;omega
    rw[zab k7]at jL;clear k7;have HC:Hid _:=FC (HI.out m' (by omega)) p hp hd w _ E E3 s s3 HR4.out HX4.out rJ.out (w.heap.size+1) (by omega) (by omega) (by omega) (by omega) ds vs hl (by omega) a1 vs.length c1 vh.out HH4.out HIF.out _ jL.out HO.out;unfold gI aC at HC;go_wp2_with fail;refine zai HC.out ?_;intro e w5 cG;cases hF:bh T dp (N+1) [] p s with
    |out=>exact absurd hF HO.out
    |fail er a=>
     rw[hF]at cG;obtain⟨⟨b,rfl,hf⟩,hk2⟩:=cG;have HG:Hid (jP R M g cap T dp none w E s (RR.fail er a) (.returned (.tuple #[.nilIface,aC b])) w5):=⟨⟨b,rfl,hf⟩,hk2⟩;clear hf hk2;unfold aC;go_wp2_with fail;go_ret2;rw[hF];exact HG.out
    |ok d s2=>
     rw[hF]at cG;obtain⟨v,E2,rfl,⟨ty,y,rfl⟩,cK,hx2,hr2,hk2⟩:=cG;have HG:Hid (jP R M g cap T dp none w E s (RR.ok d s2) (.returned (.tuple #[.iface ty y,.pointer none])) w5):=⟨.iface ty y,E2,rfl,⟨ty,y,rfl⟩,cK,hx2,hr2,hk2⟩;clear cK hx2 hr2 hk2;go_wp2_with fail;go_ret2;rw[hF];exact HG.out
   ·rw[zaa k7]at jL;have hq:(((t.kind:Nat):Int)==7)=false∨((((t.kind:Nat):Int)==7)=true∧¬0<vs.length∧¬((0:Int)<(vs.length:Int))):=by
     by_cases h7:t.kind=7
     ·refine .inr ⟨by rw[h7];rfl,?_⟩;have:ds=[]:=by
       cases ds with
       |nil=>rfl
       |cons x l=>exact absurd ⟨h7,by simp⟩ k7
      have h0:vs.length=0:=by rw[←hl,this];rfl
      exact⟨by omega,by omega⟩
     ·exact .inl (by rw[zah];omega)
    clear k7;have hne:aL T dp m' t p s3≠.out:=λh=>HO.out (by rw[jL.out,h];rfl);have HC:Hid _:=(HI.out m' (by omega)).nY t p (.slice none 0 0) _ E3 s3 HMt.out HR4.out (HA.out _ _ _) hd hne;clear hne;unfold bP gI aC at HC;obtain⟨i0,hi,hz0,hz1,hz2⟩:=info_parts BH;rcases hq with q7|⟨q7,q9,Ur⟩
    all_goals
     go_wp2_with fail;refine zai HC.out ?_;intro e w5 cG;cases hF:aL T dp m' t p s3 with
     |out=>exact absurd (by rw[jL.out,hF];rfl) HO.out
     |fail er a=>
      rw[hF]at cG;have YM:Hid (bh T dp (N+1) [] p s=.fail er a):=by show _=_;rw[jL.out,hF];rfl
      obtain⟨⟨b,rfl,hf⟩,hk2⟩:=cG;have HG:Hid (jP R M g cap T dp none w E s (RR.fail er a) (.returned (.tuple #[.nilIface,aC b])) w5):=⟨⟨b,rfl,hf⟩,(Kp.trans rJ.out (jO.plain hk2)).a none⟩;clear hf hk2;unfold aC;go_wp2_with fail;go_ret2;rw[YM.out];exact HG.out
     |ok d s5=>
      rw[hF]at cG;have YM:Hid (bh T dp (N+1) [] p s=bh T dp m' (ds++[d]) p s5):=by show _=_;rw[jL.out,hF];rfl
      have hg5:=(grows T dp m').nY _ _ _ _ _ hF;obtain⟨v,E5,rfl,⟨ty,y,rfl⟩,cK,Mq,SN,rK⟩:=cG;replace rK:=jO.plain rK;have hs5:=rK.size;have G2:Hid _:=Kp.trans rJ.out rK;have HX5:Hid _:=Ext.trans HX4.out Mq (Kp.size rJ.out) hs5;have HP5:Hid _:=(rK.block w.heap.size (by omega) (by omega) (by omega)).trans HP4.out;have vn:Hid _:=bC vh.out (zac _) (Kp.ge rK (by omega) (by omega));have Xc:Hid _:=SN;have HD5:Hid _:=cK;have HH5:Hid (∀(j:Nat) d x,ds[j]?=some d→vs[j]?=some x→Held w5 (w.heap.size+1) s5.fresh s5.ak E5 (Θ.slice a1 vs.length c1).ownBlock d x):=λj d x h1 h2=>
       Held.keep (HH4.out j d x h1 h2) (by omega) Mq.fresh Mq.ak Mq.agree (λb b1 b2 _=>Kp.ge rK (lo:=w.heap.size+1) (by omega) (by omega) b b1 b2) (.inl rfl)
      clear cK Mq SN rK hF y0 y1 y2 o0 o1 o2 o3 o4 o5 o6;have BK:∀k,(Θ.slice a1 vs.length c1).ownBlock=some k→w.heap.size+1≤k∧k<w5.heap.size:=zcr vn.out;go_wp2_with (at_builtin;refine fH rfl _ _ 162 rfl (w.heap.size+1) 58 i0 .nilIface 16 underlying162 hi hz0 hz1 hz2 (by decide) rfl _ vs.length vs rfl (zcI vn.out _) ⟨w5.heap.size,0,none⟩ 1 1 [.iface ty y] rfl (by decide) rfl ?c1 ?c2 ?c3 ?c4 ?_)
      case c1=>
       intro j u hj
       match j,hj with
       |0,hj=>simp at hj;subst hj;simp[Addr.add]
      case c2=>intro u hu;simp at hu;subst hu;rfl
      case c3=>omega
      case c4=>simp;omega
      intro v' w6 hown' hgrow kT;obtain⟨AE,NM,nX,hs6⟩:=FD Xc.out G2.out hgrow (λk hk=>by have:=BK k hk;omega) (Kn vn.out) NH lS hrg;have YN:Hid _:=AE;have HK6:Hid _:=NM;have HW6:Hid (w6.ownsRow (w.heap.size+1) 58 1 v' (vs++[Θ.iface ty y]).length (vs++[Θ.iface ty y])):=by show Λ.ownsRow _ _ _ _ _ _ _;rw[zaR];exact hown'
      have HP6:Hid _:=(nX w.heap.size (by omega) (λe=>by have:=BK _ e.symm;omega)).trans HP5.out;have hc6:v'.ownBlock=(Θ.slice a1 vs.length c1).ownBlock∨∃b,v'.ownBlock=some b∧w5.heap.size≤b:=kT.imp id λ⟨k,k1,k2⟩=>⟨k,k1,zag (by simp) k2⟩;have HH6:Hid (∀(j:Nat) d' x,(ds++[d])[j]?=some d'→(vs++[Θ.iface ty y])[j]?=some x→Held w6 (w.heap.size+1) s5.fresh s5.ak E5 v'.ownBlock d' x):=λj d' x h1 h2=>by
       rcases zaw j ds.length with hj|hj
       ·rw[zbi hj]at h1;rw[zbi (by omega)]at h2;exact Held.keep (HH5.out j d' x h1 h2) (by omega) (zac _) (λ_ h=>h) ⟨λ_ _=>rfl,λ_ _=>rfl⟩ (λb _ b2 b3=>nX b b2 b3) hc6
       ·have e0:j=ds.length:=by
         have:=(zbh.1 h1).1;simp at this;omega
        subst e0;rw[zbv (zac _)]at h1;rw[zbv (by omega)]at h2;simp at h1;simp[hl]at h2;subst h1 h2;refine⟨⟨_,_,rfl⟩,w5,_,?_,by omega,HD5.out,λb b1 b2=>nX b b2 λe=>?_,λb e=>?_⟩
        ·omega
        ·have:=zcr vh.out b e.symm;omega
        ·rcases hc6 with q|⟨b',q,q'⟩
         ·have:=zcr vh.out b (q.symm.trans e);omega
         ·rw[q]at e;cases e;exact .inr q'
      have aaL:ds.length+1=vs.length+1:=by omega
      clear AE NM hown' hgrow kT;obtain⟨a6,c6,rfl⟩:=bD HW6.out;go_wp2_with fail;refine⟨⟨m',E5,s5,ds++[d],vs++[Θ.iface ty y],by omega,by omega,by simp;omega,by simp;omega,YM,YN,Ext.wid HX5.out (zac _) (by omega),HK6,HP6,HW6,HH6⟩,?_⟩;rw[(ig YN.out.blk).1.2.1,(ig wO.out.blk).1.2.1];simp only[zbg,intOf,zbn];omega
end
end Go.Proofs.YtlhimdjkkiflhaaGreatDoor
