import Derived.Test.YtlhimdjkkiflhaaGreatReads17
set_option maxHeartbeats 8000000
set_option maxRecDepth 100000
open Go.Value renaming int→Γ
open Go.IntKind renaming i64→Δ
open Go renaming World→Θ,Value→Λ,TypeId→Ξ,Program→Φ,Calls→Ω
namespace Go.Proofs.YtlhimdjkkiflhaaGreat
open Go.Proofs.Tryz
open Go.RowKit Go.Loop
theorem MC:∀(T:List Tok) (k j:Nat) (t:Tok),T[k]?=some t→j<7→(T.flatMap iH)[k*7+j]?=(iH t)[j]?
 |[],k,j,t,h,_=>by simp at h
 |x::T,0,j,t,h,hj=>by
  simp at h;subst h;rw[List.flatMap_cons,zaS (by simp[iH];omega)];simp
 |x::T,k+1,j,t,h,hj=>by
  rw[List.flatMap_cons,zaZ (by simp[iH];omega)];have:=MC T k j t (by simpa using h) hj;rw[show(k+1)*7+j-(iH x).length=k*7+j by simp[iH];omega];exact this
theorem bH.tok {w:Θ}{R M g cap:Nat}{T:List Tok}{dp:Nat}{E:Env}{s:eA}(h:bH w R M g cap T dp E s){t:Tok}(ht:T[s.k]?=some t):w.cell? ⟨g,s.k*7,none⟩=some (Γ Δ t.kind)∧w.cell? ⟨g,s.k*7+1,none⟩=some (Γ Δ t.from_)∧w.cell? ⟨g,s.k*7+2,none⟩=some (Γ Δ t.jZ)∧w.cell? ⟨g,s.k*7+3,none⟩=some (.string ⟨⟨t.text⟩⟩)∧w.cell? ⟨g,s.k*7+4,none⟩=some (Γ Δ t.n)∧w.cell? ⟨g,s.k*7+5,none⟩=some (Γ Δ t.d)∧w.cell? ⟨g,s.k*7+6,none⟩=some (Γ Δ t.fault):=by
 have hlt:s.k<T.length:=(zaD.1 ht).1;have key:∀j,j<7→w.cell? ⟨g,s.k*7+j,none⟩=(iH t)[j]?:=λj hj=>by rw[h.row.cellAt _ (by omega),MC T s.k j t ht hj]
 exact⟨key 0 (by omega),key 1 (by omega),key 2 (by omega),key 3 (by omega),key 4 (by omega),key 5 (by omega),key 6 (by omega)⟩
theorem gP {w1:Θ}{b:Nat}{x0 x1 x2 x3:Λ}{e:Ξ}(h:w1.heap[b]?=some (.cells #[x0,x1,x2,x3] e)):(w1.cell? ⟨b,0,none⟩=some x0∧w1.cell? ⟨b,1,none⟩=some x1∧w1.cell? ⟨b,2,none⟩=some x2∧w1.cell? ⟨b,3,none⟩=some x3)∧w1.frozen? ⟨b,1,none⟩=false:=by
 refine⟨⟨?_,?_,?_,?_⟩,?_⟩<;>simp[Θ.cell?,Θ.frozen?,h]
theorem Kp.kN {R M:Nat}{w wr w':Θ}(h:Kp R M w wr)(k:Below w.heap.size wr w'):Kp R M w w':=
 ⟨k.os.trans h.os,k.tape.trans h.tape,k.output.trans h.output,zaj h.size k.size,λb h1 h2 h3=>(k.block b h1).trans (h.block b h1 h2 h3)⟩
theorem R8 (w1:Θ)(c b:Nat)(hb:b≠c)(v0 v1 v2 v3 v4 v5 v6:Λ):(((((((w1.setCell ⟨c,0,none⟩ v0).setCell ⟨c,1,none⟩ v1).setCell ⟨c,2,none⟩ v2).setCell ⟨c,3,none⟩ v3).setCell ⟨c,4,none⟩ v4).setCell ⟨c,5,none⟩ v5).setCell ⟨c,6,none⟩ v6).heap[b]?=w1.heap[b]?:=by
 rw[zay _ _ _ _ hb,zay _ _ _ _ hb,zay _ _ _ _ hb,zay _ _ _ _ hb,zay _ _ _ _ hb,zay _ _ _ _ hb,zay _ _ _ _ hb]
@[reducible] def mF (w1:Θ) (c:Nat) (v0 v1 v2 v3 v4 v5 v6:Λ):Θ:=((((((w1.setCell ⟨c,0,none⟩ v0).setCell ⟨c,1,none⟩ v1).setCell ⟨c,2,none⟩ v2).setCell ⟨c,3,none⟩ v3).setCell ⟨c,4,none⟩ v4).setCell ⟨c,5,none⟩ v5).setCell ⟨c,6,none⟩ v6
theorem Dr (w1:Θ)(c:Nat)(v0 v1 v2 v3 v4 v5 v6:Λ):(mF w1 c v0 v1 v2 v3 v4 v5 v6).heap.size=w1.heap.size:=by simp[mF]
theorem zO (wr:Θ)(c:Nat)(v0 v1 v2 v3 v4 v5 v6:Λ)(A B:Obj):((((mF wr c v0 v1 v2 v3 v4 v5 v6).alloc A).alloc B).drew.drew).heap[wr.heap.size+1]?=some B:=by
 have:=dJ (mF wr c v0 v1 v2 v3 v4 v5 v6) A B;rw[Dr]at this;exact this
theorem qo (wr:Θ)(c B:Nat)(h:B≤c)(v0 v1 v2 v3 v4 v5 v6:Λ):Below B wr (mF wr c v0 v1 v2 v3 v4 v5 v6):=
 (((((((zad B wr).setCell (p:=⟨c,0,none⟩) h _).setCell (p:=⟨c,1,none⟩) h _).setCell (p:=⟨c,2,none⟩) h _).setCell (p:=⟨c,3,none⟩) h _).setCell (p:=⟨c,4,none⟩) h _).setCell (p:=⟨c,5,none⟩) h _).setCell (p:=⟨c,6,none⟩) h _
theorem zP (wr:Θ)(c B:Nat)(h:B≤c)(hB:B≤wr.heap.size)(v0 v1 v2 v3 v4 v5 v6:Λ)(A C:Obj):Below B wr ((((mF wr c v0 v1 v2 v3 v4 v5 v6).alloc A).alloc C).drew.drew):=
 ((((qo wr c B h v0 v1 v2 v3 v4 v5 v6).alloc (by rw[Dr];exact hB) _).alloc (by simp;omega) _).drew).drew
theorem bk {w1:Θ}{c:Nat}{cs:Array Λ}{e:Ξ}(h:w1.heap[c]?=some (.cells cs e))(j:Nat)(v:Λ):(w1.setCell ⟨c,j,none⟩ v).heap[c]?=some (.cells (cs.setIfInBounds j v) e):=by
 unfold Θ.setCell;simp only[Array.getElem?_modify,if_true,h,zbA];rfl
theorem xu {w1:Θ}{c:Nat}{u0 u1 u2 u3 u4 u5 u6:Λ}{e:Ξ}(h:w1.heap[c]?=some (.cells #[u0,u1,u2,u3,u4,u5,u6] e))(v0 v1 v2 v3 v4 v5 v6:Λ):(mF w1 c v0 v1 v2 v3 v4 v5 v6).heap[c]?=some (.cells #[v0,v1,v2,v3,v4,v5,v6] e):=by
 have:=bk (bk (bk (bk (bk (bk (bk h 0 v0) 1 v1) 2 v2) 3 v3) 4 v4) 5 v5) 6 v6;unfold mF;rw[this];simp
theorem JE {wr:Θ}{c:Nat}{u0 u1 u2 u3 u4 u5 u6:Λ}{e:Ξ}(h:wr.heap[c]?=some (.cells #[u0,u1,u2,u3,u4,u5,u6] e))(v0 v1 v2 v3 v4 v5 v6:Λ)(A B:Obj)(W:Θ)(hW:W=(((mF wr c v0 v1 v2 v3 v4 v5 v6).alloc A).alloc B).drew.drew):W.cell? ⟨c,0,none⟩=some v0∧W.cell? ⟨c,1,none⟩=some v1∧W.cell? ⟨c,2,none⟩=some v2∧W.cell? ⟨c,3,none⟩=some v3∧W.cell? ⟨c,4,none⟩=some v4∧W.cell? ⟨c,5,none⟩=some v5∧W.cell? ⟨c,6,none⟩=some v6:=by
 have hl:c<wr.heap.size:=(zag.1 h).1;have h7:=xu h v0 v1 v2 v3 v4 v5 v6;have hs:=Dr wr c v0 v1 v2 v3 v4 v5 v6;have hd:W.heap=(((mF wr c v0 v1 v2 v3 v4 v5 v6).alloc A).alloc B).heap:=by rw[hW];rfl
 clear hW;generalize mF wr c v0 v1 v2 v3 v4 v5 v6=w1 at *;have hb:W.heap[c]?=some (.cells #[v0,v1,v2,v3,v4,v5,v6] e):=by
  rw[hd,zaK _ _ _ (by simp;omega),zaK _ _ _ (by omega),h7]
 refine⟨?_,?_,?_,?_,?_,?_,?_⟩<;>simp[Θ.cell?,hb]
theorem pU {P:Φ}{fn:Func}{Q:Ending→Θ→Prop}{a:Act}{wr:Θ}{c:Nat}{u0 u1 u2 u3 u4 u5 u6:Λ}{e:Ξ}(h:wr.heap[c]?=some (.cells #[u0,u1,u2,u3,u4,u5,u6] e)){v0 v1 v2 v3 v4 v5 v6:Λ}{A B:Obj}{v:Λ}
 (hr:∀W:Θ,W.cell? ⟨c,0,none⟩=some v0→W.cell? ⟨c,1,none⟩=some v1→W.cell? ⟨c,2,none⟩=some v2→W.cell? ⟨c,3,none⟩=some v3→W.cell? ⟨c,4,none⟩=some v4→W.cell? ⟨c,5,none⟩=some v5→W.cell? ⟨c,6,none⟩=some v6→(results fn a.tmps).run P W=.ok v W)
 (hd:a.defers=[])(hR:Q (.returned v) (((mF wr c v0 v1 v2 v3 v4 v5 v6).alloc A).alloc B).drew.drew):bodyPost P fn Q .ret a (((mF wr c v0 v1 v2 v3 v4 v5 v6).alloc A).alloc B).drew.drew:=by
 obtain⟨y0,y1,y2,y3,y4,y5,y6⟩:=JE h v0 v1 v2 v3 v4 v5 v6 A B _ rfl;exact zak (hr _ y0 y1 y2 y3 y4 y5 y6) hd hR
theorem mY {P:Φ}{fn:Func}{Q:Ending→Θ→Prop}{a:Act}{W:Θ}{c:Nat}{v0 v1 v2 v3 v4 v5 v6:Λ}{e:Ξ}{v:Λ}(h:W.heap[c]?=some (.cells #[v0,v1,v2,v3,v4,v5,v6] e))
 (hr:W.cell? ⟨c,0,none⟩=some v0→W.cell? ⟨c,1,none⟩=some v1→W.cell? ⟨c,2,none⟩=some v2→W.cell? ⟨c,3,none⟩=some v3→W.cell? ⟨c,4,none⟩=some v4→W.cell? ⟨c,5,none⟩=some v5→W.cell? ⟨c,6,none⟩=some v6→(results fn a.tmps).run P W=.ok v W)
 (hd:a.defers=[])(hR:Q (.returned v) W):bodyPost P fn Q .ret a W:=
 zak (hr (by simp[Θ.cell?,h]) (by simp[Θ.cell?,h]) (by simp[Θ.cell?,h]) (by simp[Θ.cell?,h]) (by simp[Θ.cell?,h]) (by simp[Θ.cell?,h]) (by simp[Θ.cell?,h])) hd hR
theorem MD {R M:Nat}(w:Θ)(j:Nat)(v:Λ):Kp R M w (w.setCell ⟨R,j,none⟩ v):=
 ⟨rfl,rfl,rfl,by simp,λb _ h2 _=>zay _ _ _ _ h2⟩
theorem P6 {R M:Nat}(w:Θ)(j:Nat)(v:Λ)(A:Obj):Kp R M w ((w.setCell ⟨R,j,none⟩ v).alloc A).drew:=
 (MD w j v).trans (Kp.aF (((zad _ _).alloc (zab _) _).drew))
theorem bH.step {w w':Θ}{R M g cap:Nat}{T:List Tok}{dp:Nat}{E:Env}{s:eA}(h:bH w R M g cap T dp E s){k:Nat}(hR:w'.heap[R]?=some (.cells #[.slice (some ⟨g,0,none⟩) T.length cap,Γ Δ k,Γ Δ dp,.map (some M)] 68))(_:w.heap.size≤w'.heap.size)(hk:∀b,b<w.heap.size→b=g∨b=M→w'.heap[b]?=w.heap[b]?)(hl:∀(b:Nat) (v:Λ),w.heap[b]?=some (.cells #[v] 157)→w'.heap[b]?=w.heap[b]?):bH w' R M g cap T dp E { s with k:=k }:=by
 have hg:=(h.row.lt g rfl).2;refine⟨h.rm,h.gr,h.gm,hR,?_,?_,λn hn=>(h.low n hn).imp λv hv=>(hl _ v hv).trans hv,h.inj,h.small,h.deep⟩
 ·refine⟨h.row.1,h.row.2.imp id ?_⟩;rintro ⟨b,cp,cur,h1,h2,h3,h4⟩;have:b=g:=by cases h1;rfl
  exact⟨b,cp,cur,h1,h2,(hk b (zag.1 h3).1 (.inl this)).trans h3,h4⟩
 ·obtain⟨es,c,h1,h2⟩:=h.lm;exact⟨es,c,(hk M h.mlt (.inr rfl)).trans h1,h2⟩
theorem bH.step1 {wr:Θ}{R M g cap:Nat}{T:List Tok}{dp:Nat}{E:Env}{s:eA}(h:bH wr R M g cap T dp E s)(A:Obj):bH ((wr.setCell ⟨R,1,none⟩ (Γ Δ ((s.k:Int)+1))).alloc A).drew R M g cap T dp E { s with k:=s.k+1 }:=by
 have hb:=bk h.blk 1 (Γ Δ ((s.k:Int)+1));have hl:=h.lt;have e0:∀b,b<wr.heap.size→(((wr.setCell ⟨R,1,none⟩ (Γ Δ ((s.k:Int)+1))).alloc A).drew).heap[b]?=(wr.setCell ⟨R,1,none⟩ (Γ Δ ((s.k:Int)+1))).heap[b]?:=λb h=>zaK _ _ _ (by simp;exact h);refine bH.step h ?_ (by simp) (λb hb1 hb2=>?_) λb v hv=>?_
 ·rw[e0 R hl,hb];simp
 rotate_left
 ·rw[e0 b (zag.1 hv).1];exact zay _ _ _ _ (λe=>by rw[e,h.blk]at hv;simp at hv)
 ·rw[e0 b hb1];exact zay _ _ _ _ (hb2.elim (λe=>by rw[e];exact h.gr) (λe=>by rw[e];exact λx=>h.rm x.symm))
theorem TN {wr:Θ}{R c:Nat}(hc:c≠R){u0 u1 u2 u3 u4 u5 u6:Λ}{e:Ξ}(h:wr.heap[c]?=some (.cells #[u0,u1,u2,u3,u4,u5,u6] e))(v v0 v1 v2 v3 v4 v5 v6:Λ)(A:Obj):((mF (wr.setCell ⟨R,1,none⟩ v) c v0 v1 v2 v3 v4 v5 v6).alloc A).drew.heap[c]?=some (.cells #[v0,v1,v2,v3,v4,v5,v6] e):=by
 have h7:=xu ((zay wr ⟨R,1,none⟩ v c hc).trans h) v0 v1 v2 v3 v4 v5 v6;generalize mF (wr.setCell ⟨R,1,none⟩ v) c v0 v1 v2 v3 v4 v5 v6=w1 at *;show(w1.alloc A).heap[c]?=_;rw[zaK _ _ _ (zag.1 h7).1,h7]
theorem P7 {R M c:Nat}{w wr:Θ}(hk:Kp R M w wr)(h:w.heap.size≤c)(v v0 v1 v2 v3 v4 v5 v6:Λ)(A:Obj):Kp R M w ((mF (wr.setCell ⟨R,1,none⟩ v) c v0 v1 v2 v3 v4 v5 v6).alloc A).drew:=
 Kp.kN (hk.trans (MD wr 1 v)) (((qo _ c w.heap.size h v0 v1 v2 v3 v4 v5 v6).alloc (by rw[Dr];simp;exact hk.size) _).drew)
theorem bH.TN {wr:Θ}{R M g cap c:Nat}{T:List Tok}{dp:Nat}{E:Env}{s:eA}(h:bH wr R M g cap T dp E s)(h1:c≠R)(h2:c≠M)(h3:c≠g)(h4:wr.heap[c]?=some T0)(v0 v1 v2 v3 v4 v5 v6:Λ)(A:Obj):bH ((mF (wr.setCell ⟨R,1,none⟩ (Γ Δ ((s.k:Int)+1))) c v0 v1 v2 v3 v4 v5 v6).alloc A).drew R M g cap T dp E { s with k:=s.k+1 }:=by
 have hb:=bk h.blk 1 (Γ Δ ((s.k:Int)+1));have hl:=h.lt;have hs:=Dr (wr.setCell ⟨R,1,none⟩ (Γ Δ ((s.k:Int)+1))) c v0 v1 v2 v3 v4 v5 v6;have hh:∀b,b≠c→(mF (wr.setCell ⟨R,1,none⟩ (Γ Δ ((s.k:Int)+1))) c v0 v1 v2 v3 v4 v5 v6).heap[b]?=(wr.setCell ⟨R,1,none⟩ (Γ Δ ((s.k:Int)+1))).heap[b]?:=λb hc=>R8 _ c b hc _ _ _ _ _ _ _;generalize mF (wr.setCell ⟨R,1,none⟩ (Γ Δ ((s.k:Int)+1))) c v0 v1 v2 v3 v4 v5 v6=w1 at *;have hs1:w1.heap.size=wr.heap.size:=by rw[hs];simp
 have e0:∀b,b<wr.heap.size→b≠c→(w1.alloc A).drew.heap[b]?=(wr.setCell ⟨R,1,none⟩ (Γ Δ ((s.k:Int)+1))).heap[b]?:=λb h hc=>by
  show(w1.alloc A).heap[b]?=_;rw[zaK _ _ _ (by omega),hh b hc]
 refine bH.step h ?_ ?_ (λb hb1 hb2=>?_) λb v hv=>?_
 ·rw[e0 R hl h1.symm,hb];simp
 ·simp;omega
 rotate_left
 ·rw[e0 b (zag.1 hv).1 (λe=>by rw[e,h4]at hv;simp[T0]at hv)];exact zay _ _ _ _ (λe=>by rw[e,h.blk]at hv;simp at hv)
 ·rw[e0 b hb1 (hb2.elim (λe=>by rw[e];exact h3.symm) (λe=>by rw[e];exact h2.symm))];exact zay _ _ _ _ (hb2.elim (λe=>by rw[e];exact h.gr) (λe=>by rw[e];exact λx=>h.rm x.symm))
theorem Ext.to {w w':Θ}{E E':Env}{s s' s'':eA}(h:Ext w w' E E' s s')(hf:s''.fresh=s'.fresh)(hl:s''.ax=s'.ax):Ext w w' E E' s s'':=
 ⟨h.agree,by rw[hf];exact h.fresh,by rw[hl];exact h.ax,by rw[hf];exact h.new,by rw[hf];exact h.inj⟩
theorem Ds (wr:Θ)(R c:Nat)(hc:c≠R)(h:c<wr.heap.size)(v:Λ)(A:Obj):((wr.setCell ⟨R,1,none⟩ v).alloc A).drew.heap[c]?=wr.heap[c]?:=
 (zaK _ _ _ (by simp;exact h)).trans (zay _ _ _ _ hc)
theorem ME (wr:Θ)(R:Nat)(v:Λ)(A:Obj):((wr.setCell ⟨R,1,none⟩ v).alloc A).drew.heap[wr.heap.size]?=some A:=by
 have:=zau (wr.setCell ⟨R,1,none⟩ v) A;rw[show(wr.setCell ⟨R,1,none⟩ v).heap.size=wr.heap.size by simp]at this;exact this
section
variable {R M g cap:Nat}{T:List Tok}{dp:Nat}
theorem JF {N:Nat}(ih:∀n,n≤N→IH R M g cap T dp n)(p:Pl)(av:Λ)(w:Θ)(E:Env)(s:eA)(hr:bH w R M g cap T dp E s)(ha:iR w E s p.ahead av)(hd:p.depth≤dp∧p.ahead.length≤p.depth)(ho:aM T dp (N+1) p s≠.out):Ω prog 32 #[ai R,gf p.depth p.passed av] w λe w'=>OkT R M g cap T dp w E s (aM T dp (N+1) p s) e w':=by
 have mixed:prog.follows Departure.mixedOrders=true:=by kernel_rfl
 obtain⟨⟨a0,n0,c0,rfl⟩⟩:=(⟨ha.2.1⟩:Nonempty _);have KI:R<w.heap.size:=hr.lt;have lG:M<w.heap.size:=hr.mlt;have hrg:g<w.heap.size:=(hr.row.lt g rfl).2;have hb0:Below w.heap.size w ((w.alloc (gL p.depth p.passed a0 n0 c0)).alloc T0):=((zad _ w).alloc (zab _) _).alloc (by simp) _;have HP:Hid (((w.alloc (gL p.depth p.passed a0 n0 c0)).alloc T0).heap[w.heap.size]?=some (gL p.depth p.passed a0 n0 c0)):=(zaK _ _ _ (by simp)).trans (zau w _);have HQ:Hid (((w.alloc (gL p.depth p.passed a0 n0 c0)).alloc T0).heap[w.heap.size+1]?=some T0):=dJ w _ _;have HR:Hid _:=hr.below hb0;have HB:Hid _:=hb0;have HI:Hid _:=ih;have HO:Hid _:=ho;have hsm:=hr.small;clear hr ha hb0 ih ho;unfold gf ai;go_enter func32,ntmps32;go_wp2_with fail;go_loopw [] (λwr=>∃(m:Nat) (E1:Env) (s1:eA),m≤N+1∧w.heap.size+2≤wr.heap.size∧Hid (aM T dp (N+1) p s=aM T dp m p s1)∧Hid (bH wr R M g cap T dp E1 s1)∧Hid (Ext w wr E E1 s s1)∧Hid (Kp R M w wr)∧Hid (wr.heap[w.heap.size]?=some (gL p.depth p.passed a0 n0 c0))∧Hid (wr.heap[w.heap.size+1]?=some T0)) (λwr=>T.length+1-(intOf ((wr.cell? ⟨R,1,none⟩).getD undef)).toNat)
 case atStart=>exact⟨N+1,E,s,zab _,by simp,rfl,HR.out,Ext.refl rfl rfl,Kp.aF HB.out,HP.out,HQ.out⟩
 case round=>
  obtain⟨m,E1,s1,hm,hsz,HE,sH,HX,HK,yI,VC⟩:=hrel;have Fu:aM T dp m p s1≠.out:=by rw[←HE.out];exact HO.out
  obtain⟨m',rfl⟩:∃m',m=m'+1:=by
   cases m with
   |zero=>exact absurd (by unfold aM;rfl) Fu
   |succ m'=>exact⟨m',rfl⟩
  cases ht:T[s1.k]? with
  |none=>exact absurd (by unfold aM;rw[ht]) Fu
  |some t=>
   have hlt:s1.k<T.length:=(zaD.1 ht).1;obtain⟨⟨r0,r1,r2,r3⟩,rf⟩:=gP sH.out.blk;obtain⟨t0,t1,t2,t3,t4,t5,t6⟩:=sH.out.tok ht;obtain⟨p0,p1,p2⟩:=fh yI.out;obtain⟨⟨x0,x1,x2,x3,x4,x5,x6⟩,f0,f1,f2,f3,f4,f5,f6⟩:=cZ (b:=w.heap.size+1) (zad _ wr) VC.out;have hRr:R<wr.heap.size:=sH.out.lt;have hgr:g<wr.heap.size:=(sH.out.row.lt g rfl).2;have e1:¬R=wr.heap.size:=by omega
   have e2:¬g=wr.heap.size:=by omega
   have e3:¬w.heap.size=wr.heap.size:=by omega
   have e4:¬w.heap.size+1=wr.heap.size:=by omega
   have e5:w.heap.size<wr.heap.size:=by omega
   have e6:w.heap.size+1<wr.heap.size:=by omega
   have htk:Hid (aM T dp (m'+1) p s1=if t.kind=0 then .fail 4 t.from_ else if t.kind=1 then .fail 3 t.from_ else if t.kind=6 then(aI T dp m' ⟨p.depth,true,[]⟩ { s1 with k:=s1.k+1 }).bind λ_ s=>aM T dp m' p s else .ok t { s1 with k:=s1.k+1 }):=by
    show _=_
    conv=>lhs;unfold aM
    rw[ht]
   by_cases k0:t.kind=0
   ·have HF:Hid (aM T dp (N+1) p s=.fail 4 t.from_):=by show _=_;rw[HE.out,htk.out,zac k0]
    have q0:(((t.kind:Nat):Int)==0)=true:=by rw[k0];rfl
    clear k0;go_wp2_with fail;go_region;go_wp2_with fail;go_region;go_wp2_with fail;refine pU VC.out (v:= .tuple #[bC t,ai (wr.heap.size+1)]) (λW y0 y1 y2 y3 y4 y5 y6=>by simp[results,results32,bC,ai,go_sem,y0,y1,y2,y3,y4,y5,y6]) rfl ?_;rw[HF.out];refine⟨⟨_,_,rfl,?_⟩,Kp.kN HK.out ?_⟩
    ·exact zO wr (w.heap.size+1) _ _ _ _ _ _ _ _ _
    ·exact zP wr (w.heap.size+1) w.heap.size (by omega) (by omega) _ _ _ _ _ _ _ _ _
   have q0:(((t.kind:Nat):Int)==0)=false:=by rw[zao];omega
   by_cases k1:t.kind=1
   ·have HF:Hid (aM T dp (N+1) p s=.fail 3 t.from_):=by show _=_;rw[HE.out,htk.out,zaa k0,zac k1]
    have q1:(((t.kind:Nat):Int)==1)=true:=by rw[k1];rfl
    clear k0 k1;go_wp2_with fail;go_region;go_wp2_with fail;go_region;go_wp2_with fail;refine pU VC.out (v:= .tuple #[bC t,ai (wr.heap.size+1)]) (λW y0 y1 y2 y3 y4 y5 y6=>by simp[results,results32,bC,ai,go_sem,y0,y1,y2,y3,y4,y5,y6]) rfl ?_;rw[HF.out];refine⟨⟨_,_,rfl,?_⟩,Kp.kN HK.out ?_⟩
    ·exact zO wr (w.heap.size+1) _ _ _ _ _ _ _ _ _
    ·exact zP wr (w.heap.size+1) w.heap.size (by omega) (by omega) _ _ _ _ _ _ _ _ _
   have q1:(((t.kind:Nat):Int)==1)=false:=by rw[zao];omega
   by_cases k6:t.kind=6
   ·have q6:(((t.kind:Nat):Int)==6)=true:=by rw[k6];rfl
    have HF:Hid (aM T dp (N+1) p s=(aI T dp m' ⟨p.depth,true,[]⟩ { s1 with k:=s1.k+1 }).bind λ_ s=>aM T dp m' p s):=by show _=_;rw[HE.out,htk.out,zaa k0,zaa k1,zac k6]
    clear k0 k1 k6;have Du:Hid _:=bH.step1 sH.out (ic t);have oX:Hid _:=Kp.trans HK.out (P6 wr 1 (Γ Δ ((s1.k:Int)+1)) (ic t));have hne:aI T dp m' ⟨p.depth,true,[]⟩ { s1 with k:=s1.k+1 }≠.out:=λh=>HO.out (by rw[HF.out,h];rfl);have HC:Hid _:=(HI.out m' (by omega)).datum ⟨p.depth,true,[]⟩ (.slice none 0 0) _ E1 _ Du.out ⟨⟨rfl,.inl ⟨rfl,rfl⟩⟩,⟨_,_,_,rfl⟩,λn hn=>by cases hn⟩ ⟨hd.1,zap _⟩ hne;clear hne;unfold ai gf at HC;go_wp2_with fail;go_region;go_wp2_with fail;refine zae HC.out ?_;clear HC;intro e w2 bM;have HP2:Hid _:=(Ds wr R w.heap.size (by omega) (by omega) (Γ Δ ((s1.k:Int)+1)) (ic t)).trans yI.out;have Yu:Hid _:=(Ds wr R (w.heap.size+1) (by omega) (by omega) (Γ Δ ((s1.k:Int)+1)) (ic t)).trans VC.out;have ux:Hid _:=ME wr R (Γ Δ ((s1.k:Int)+1)) (ic t);have Le:(((wr.setCell ⟨R,1,none⟩ (Γ Δ ((s1.k:Int)+1))).alloc (ic t)).drew).heap.size=wr.heap.size+1:=by simp
    generalize ((wr.setCell ⟨R,1,none⟩ (Γ Δ ((s1.k:Int)+1))).alloc (ic t)).drew=wm at *;cases hF:aI T dp m' ⟨p.depth,true,[]⟩ { s1 with k:=s1.k+1 } with
    |out=>exact absurd (by rw[HF.out,hF];rfl) HO.out
    |fail er a=>
     rw[hF]at bM;obtain⟨⟨b,rfl,hf⟩,hk2⟩:=bM;replace hk2:=jL.plain hk2;have hs2:=hk2.size;have Ox:Hid _:=hf;have uS:Hid _:=Kp.trans oX.out hk2;have jG:Hid (aM T dp (N+1) p s=.fail er a):=by show _=_;rw[HF.out,hF];rfl
     have MF:Hid _:=(hk2.block (w.heap.size+1) (by omega) (by omega) (by omega)).trans Yu.out;have PS:=(hk2.block wr.heap.size (by omega) (by omega) (by omega)).trans ux.out;obtain⟨⟨y0,y1,y2,y3,y4,y5,y6⟩,-⟩:=cZ (zad _ w2) PS;obtain⟨⟨z0,z1,z2,z3,z4,z5,z6⟩,g0,g1,g2,g3,g4,g5,g6⟩:=cZ (b:=w.heap.size+1) (zad _ w2) MF.out;have i1:¬wr.heap.size=w2.heap.size:=by omega
     have i2:¬w.heap.size+1=w2.heap.size:=by omega
     have i3:¬wr.heap.size=w.heap.size+1:=by omega
     clear PS hf hk2 hF x0 x1 x2 x3 x4 x5 x6 f0 f1 f2 f3 f4 f5 f6 t0 t1 t2 t3 t4 t5 t6 r0 r1 r2 r3 rf p0 p1 p2;unfold ai;go_wp2_with fail;refine mY (xu MF.out _ _ _ _ _ _ _) (v:= .tuple #[bC t,ai b]) ?_ rfl ?_
     ·intro o0 o1 o2 o3 o4 o5 o6;simp[results,results32,bC,ai,go_sem,o0,o1,o2,o3,o4,o5,o6]
     have P8:b≠w.heap.size+1:=λe=>by
      have q:=Ox.out;unfold dK at q;rw[e,MF.out]at q;simp[T0]at q
     rw[jG.out];exact⟨⟨b,t,rfl,(R8 w2 _ b P8 _ _ _ _ _ _ _).trans Ox.out⟩,Kp.kN uS.out (qo w2 (w.heap.size+1) w.heap.size (by omega) _ _ _ _ _ _ _)⟩
    |ok d s2=>
     rw[hF]at bM;obtain⟨v,E2,rfl,⟨ty,y,rfl⟩,-,hx2,hr2,hk2⟩:=bM;replace hk2:=jL.plain hk2;have hs2:=hk2.size;have uS:Hid _:=Kp.trans oX.out hk2;have jG:Hid (aM T dp (N+1) p s=aM T dp m' p s2):=by show _=_;rw[HF.out,hF];rfl
     have P9:Hid _:=Ext.trans (Ext.to (s'':={ s1 with k:=s1.k+1 }) (Ext.wid (w3:=wm) HX.out (zab _) (by omega)) rfl rfl) hx2 (by omega) hs2;have tI:Hid _:=hr2;have Oy:Hid _:=(hk2.block w.heap.size (by omega) (by omega) (by omega)).trans HP2.out;have MF:Hid _:=(hk2.block (w.heap.size+1) (by omega) (by omega) (by omega)).trans Yu.out;have hgrow:s1.k+1≤s2.k:=(grows T dp m').datum _ _ _ _ hF;clear hx2 hr2 hk2 hF x0 x1 x2 x3 x4 x5 x6 f0 f1 f2 f3 f4 f5 f6 t0 t1 t2 t3 t4 t5 t6 p0 p1 p2;go_wp2_with fail;refine⟨⟨m',E2,s2,by omega,by omega,jG,tI,P9,uS,Oy,MF⟩,?_⟩;rw[(gP tI.out.blk).1.2.1,(gP sH.out.blk).1.2.1];simp only[zbw,intOf,zbn];omega
   ·have q6:(((t.kind:Nat):Int)==6)=false:=by rw[zao];omega
    have HF:Hid (aM T dp (N+1) p s=.ok t { s1 with k:=s1.k+1 }):=by show _=_;rw[HE.out,htk.out,zaa k0,zaa k1,zaa k6]
    clear k0 k1 k6;go_wp2_with fail;go_region;go_wp2_with fail;refine mY (TN (by omega) VC.out _ _ _ _ _ _ _ _ _) (v:= .tuple #[bC t,.pointer none]) ?_ rfl ?_
    ·intro y0 y1 y2 y3 y4 y5 y6;simp[results,results32,bC,go_sem,y0,y1,y2,y3,y4,y5,y6]
    rw[HF.out];exact⟨E1,rfl,Ext.to (Ext.wid HX.out (zab _) (by simp)) rfl rfl,bH.TN sH.out (by omega) (by omega) (by omega) VC.out _ _ _ _ _ _ _ _,P7 HK.out (by omega) _ _ _ _ _ _ _ _ _⟩
end
section
variable {P:Φ}
theorem uT (w:Θ)(base:Nat)(t ty e:Ξ)(i:TypeInfo)(z:Λ)(y:Nat)(ht:P.underlying t=some (.slice e))(hi:P.info? e=some i)(hz:i.zero=some z)
 (hsize:i.size=1)(hby:i.bytes=y)(hy:y≤16)(hzs:z.cells.size=1)
 (v:Λ)(n:Nat)(xs:List Λ)(hown:w.ownsRow base e 1 v n xs)
 (a:Addr)(m c:Nat)(news:List Λ)(hm:m≠0)(hl:news.length=m*1)(hnews:∀j u,news[j]?=some u→w.cell? (a.add j)=some u)(h1:∀u∈news,u.oneCell'=true)
 (hlen:n+m≤1000000)(hbase:base≤w.heap.size):
 ∃v' w',(Builtin.append_ #[t,t] ty #[v,.slice (some a) m c]).run P w=.ok v' w'∧w'.ownsRow base e 1 v' (n+m) (xs++news)∧w.grownBy w' v.ownBlock∧
  (v'.ownBlock=v.ownBlock∨∃k,v'.ownBlock=some k∧w.heap.size≤k):=by
 have h63:n+m≤maxLen:=by unfold maxLen;omega
 have hbytes:(n+m)*y≤140737488355328:=zaj (Nat.mul_le_mul hlen hy) (by decide);have ac2:m*y≤281474976710656:=zaj (Nat.mul_le_mul (show m≤1000000 by omega) hy) (by decide);obtain⟨v',w',hr,h2,h3,h4⟩:=run_append_own (P:=P) w base t ty e i z 1 y ht hi hz hsize hby hzs (by decide) v n xs hown a m c news hl hnews h1 h63 hbytes hbase;refine⟨v',w',hr,h2,h3,?_⟩;have Mr:n+m≤9223372036854775807:=by omega
 rcases hown.2 with⟨rfl,rfl⟩|⟨g,cap,cur,rfl,hbg,hg,hnc,hcm,hcs,iX⟩
 ·have ug:=run_append_nil (P:=P) w t ty e i z ht hi hz a m c news (by rw[hsize];exact hl) hnews (by omega) (by omega) (by rw[hby];first|exact growslice_fits (by omega) (by simpa using hbytes)|exact ac2);rw[ug]at hr;injection hr with a b;rw[←a];exact Or.inr ⟨_,rfl,zab _⟩
 ·by_cases hroom:n+m≤cap
  ·have ug:=run_append_room (P:=P) w t ty e i ht hi g n cap cur hg a m c news (by rw[hsize];exact hl) hnews h1 hroom (by rw[hsize];omega);rw[ug]at hr;injection hr with a b;rw[←a];exact Or.inl rfl
  ·have holds:∀j u,xs[j]?=some u→w.cell? ((⟨g,0,none⟩:Addr).add j)=some u:=hown.cells (g:=g) rfl;have ug:=run_append_grow (P:=P) w t ty e i z ht hi hz ⟨g,0,none⟩ n cap xs (by rw[hsize];exact hown.1) holds a m c news (by rw[hsize];exact hl) hnews (by omega) (by omega) (by rw[hby];exact growslice_fits (by omega) hbytes);rw[ug]at hr;injection hr with a b;rw[←a];exact Or.inr ⟨_,rfl,zab _⟩
theorem cj {w:Θ}{ops:Array Oper}{rest:List Oper}{o:Oper}{a:Act}{Q:Exit→Act→Θ→Prop}(hgd:o.guard=none)(sl x:Operand)(t:Ξ)
 (ho:o.op=.call { callee:= .builtin .append,args:=#[sl,x],argTypes:=#[t,t] })
 (base:Nat)(e:Ξ)(i:TypeInfo)(z:Λ)(y:Nat)(ht:P.underlying t=some (.slice e))(hi:P.info? e=some i)(hz:i.zero=some z)
 (hsize:i.size=1)(hby:i.bytes=y)(hy:y≤16)(hzs:z.cells.size=1)
 (v:Λ)(n:Nat)(xs:List Λ)(hs:a.eval sl=v)(hown:w.ownsRow base e 1 v n xs)
 (ad:Addr)(m c:Nat)(news:List Λ)(hx:a.eval x=.slice (some ad) m c)(hm:m≠0)(hl:news.length=m*1)(hnews:∀j u,news[j]?=some u→w.cell? (ad.add j)=some u)(h1:∀u∈news,u.oneCell'=true)
 (hlen:n+m≤1000000)(hbase:base≤w.heap.size)
 (h:∀v' w',w'.ownsRow base e 1 v' (n+m) (xs++news)→w.grownBy w' v.ownBlock→(v'.ownBlock=v.ownBlock∨∃k,v'.ownBlock=some k∧w.heap.size≤k)→wpList P ops Q rest (a.put o.dst v') w'):wpList P ops Q (o::rest) a w:=by
 refine wpList_plain hgd λK hK=>?_;obtain⟨v',w',hr,h2,h3,h4⟩:=uT (P:=P) w base t o.type e i z y ht hi hz hsize hby hy hzs v n xs hown ad m c news hm hl hnews h1 hlen hbase;unfold Oper.wp execOp;simp only[ho,resolve,invoke,builtin,zbb,zbf,zbc,zbR,zaC,zbv,hs,hx,hr];exact hK _ _ (h v' w' h2 h3 h4)
end
theorem zQ:(prog.info? 31).map (λi=>(i.zero,i.size,i.bytes))=some (some .nilIface,1,16):=by kernel_rfl
theorem JG:(prog.info? 154).map (λi=>(i.zero,i.size,i.bytes))=some (some (.pointer none),1,8):=by kernel_rfl
def Held (wr:Θ)(lo k:Nat)(L:List Int)(E:Env)(c:Option Nat)(d:Dt)(v:Λ):Prop:=
 (∃t y,v=.iface t y)∧∃wi z,lo≤z∧wi.heap.size≤wr.heap.size∧bX z k L wi E d v∧(∀b,z≤b→b<wi.heap.size→wr.heap[b]?=wi.heap[b]?)∧∀b,c=some b→b<z∨wi.heap.size≤b
theorem Held.mj {wr:Θ}{lo k:Nat}{L:List Int}{E:Env}{c:Option Nat}{d:Dt}{v:Λ}(h:Held wr lo k L E c d v):bX lo k L wr E d v:=by
 obtain⟨-,wi,z,h1,h2,h3,h4,-⟩:=h;exact bX.keep h1 (zab _) (λ_ h=>h) h4 ⟨λ_ _=>rfl,λ_ _=>rfl⟩ d v h3
theorem Held.keep {wr w':Θ}{lo k k':Nat}{L L':List Int}{E E':Env}{c c':Option Nat}{d:Dt}{v:Λ}(h:Held wr lo k L E c d v)(hs:wr.heap.size≤w'.heap.size)(hk:k≤k')(hL:∀n∈L,n∈L')(hE:E.agree E' k L)
 (hw:∀b,lo≤b→b<wr.heap.size→some b≠c→w'.heap[b]?=wr.heap[b]?)(hc:c'=c∨∃b,c'=some b∧wr.heap.size≤b):Held w' lo k' L' E' c' d v:=by
 obtain⟨hi,wi,z,h1,h2,h3,h4,h5⟩:=h;refine⟨hi,wi,z,h1,by omega,bX.keep (zab _) hk hL (λ_ _ _=>rfl) hE d v h3,λb b1 b2=>?_,λb hb=>?_⟩
 ·refine(hw b (by omega) (by omega) λe=>?_).trans (h4 b b1 b2);have:=h5 b e.symm;omega
 ·rcases hc with hc|⟨b',hc,hlt⟩
  ·exact h5 b (by rw[←hc];exact hb)
  ·rw[hc]at hb;cases hb;exact .inr (by omega)
theorem mG:∀(l:List Dt) (r:Dt) (k:Nat),(aU l r k).2=k+l.length
 |[],_,_=>rfl
 |d::l,r,k=>by simp only[aU,mG l r k,zas];omega
theorem zR {w:Θ}{base lo K k0:Nat}{L:List Int}{E:Env}{rest:Dt}{vr:Λ}(hr:bX lo K L w E rest vr)(KE:lo≤base):∀(ds:List Dt) (vs:List Λ) (v:Λ),fe w base vs vr v→ds.length=vs.length→(∀(j:Nat) d x,ds[j]?=some d→vs[j]?=some x→bX lo K L w E d x)→k0+ds.length≤K→(∀j,j<ds.length→E.α (k0+j)=base+j)→bX lo K L w E (aU ds rest k0).1 v
 |[],[],v,hc,_,_,_,_=>by
  have:v=vr:=hc;subst this;exact hr
 |d::ds,x::vs,v,⟨h1,v',h2,h3⟩,hl,hd,hK,yo=>by
  simp only[zas]at hl hK yo;have hl':ds.length=vs.length:=by omega
  have ih:=zR hr KE ds vs v' h3 hl' (λj d' x' q1 q2=>hd (j+1) d' x' (by simpa using q1) (by simpa using q2)) (by omega) λj hj=>yo j (by omega);have hp:E.α (aU ds rest k0).2=base+vs.length:=by rw[mG,yo ds.length (by omega),hl']
  have hx:=hd 0 d x (by simp) (by simp);show bX lo K L w E (.pair (aU ds rest k0).2 d (aU ds rest k0).1) v;unfold bX;rw[hp];exact⟨by rw[mG];omega,by omega,h1,x,v',h2,hx,ih⟩
 |[],_::_,_,_,hl,_,_,_=>by simp at hl
 |_::_,[],_,_,hl,_,_,_=>by simp at hl
theorem Hp {T:List Tok}{dp n:Nat}{p:Pl}{s s':eA}{t:Tok}(h:aM T dp n p s=.ok t s'):s.k<T.length∧s.k<s'.k:=by
 cases n with
 |zero=>unfold aM at h;cases h
 |succ n=>
  unfold aM at h;split at h
  ·cases h
  ·rename_i t' ht;refine⟨(zaD.1 ht).1,?_⟩;split at h
   ·cases h
   ·split at h
    ·cases h
    ·split at h
     ·obtain⟨d,s1,h1,h2⟩:=RR.aY h;have a1:=(grows T dp n).datum _ _ _ _ h1;have a2:=(grows T dp n).take _ _ _ _ h2;simp at a1;omega
     ·cases h;simp
theorem JH (rest:Λ)(w:Θ)(R7:∃t y,rest=.iface t y):Ω prog 114 #[.slice none 0 0,rest] w λe w'=>e=.returned rest∧w'=w:=by
 obtain⟨tr,yr,rfl⟩:=R7;go_enter func114,ntmps114;go_wp2_with fail;go_loopw [5,1] (λi r wr=>i=Γ Δ (-1)∧r=.iface tr yr∧wr=w) (λ_ _ _=>0)
 case atStart=>exact⟨by go_num,rfl,rfl⟩
 case round=>
  obtain⟨rfl,rfl,rfl⟩:=hrel;go_wp2_with fail;go_ret;exact⟨rfl,rfl⟩
theorem tJ (vs:List Λ)(sv:Λ)(lo:Nat)(rest:Λ)(w:Θ)(hrow:w.ownsRow lo 31 1 sv vs.length vs)(hn:vs.length≤1000000)(R6:∀x∈vs,∃t y,x=.iface t y)(R7:∃t y,rest=.iface t y):Ω prog 114 #[sv,rest] w λe w'=>∃v,e=.returned v∧fe w' w.heap.size vs rest v∧w'.heap.size=w.heap.size+vs.length∧Below w.heap.size w w':=by
 rcases hrow.2 with⟨rfl,h0⟩|⟨g,cap,cur,rfl,_⟩
 ·have:vs=[]:=zch h0;subst this;refine(JH rest w R7).mono ?_;rintro e w' ⟨rfl,rfl⟩;exact⟨rest,rfl,rfl,rfl,zad _ _⟩
 ·exact JC vs g cap lo rest w hrow hn R6 R7
theorem fe.iface {w:Θ}{base:Nat}{vs:List Λ}{rest v:Λ}(h:fe w base vs rest v)(hr:∃t y,rest=.iface t y):∃t y,v=.iface t y:=by
 cases vs with
 |nil=>have:v=rest:=h
       rw[this];exact hr
 |cons x vs=>obtain⟨h1,_⟩:=h;exact⟨_,_,h1⟩
theorem tK {R M g cap:Nat}{T:List Tok}{dp:Nat}{w wr w3:Θ}{E E1:Env}{s s1:eA}{ds:List Dt}{vs:List Λ}{rest:Dt}{vr v:Λ}{lo:Nat}(KE:w.heap.size≤lo)(eQ:lo≤wr.heap.size)(hds:∀(j:Nat) d x,ds[j]?=some d→vs[j]?=some x→bX lo s1.fresh s1.ax wr E1 d x)(uk:bX lo s1.fresh s1.ax wr E1 rest vr)(hl:ds.length=vs.length)(R7:∃t y,vr=.iface t y)
 (hc:fe w3 wr.heap.size vs vr v)(hsz:w3.heap.size=wr.heap.size+vs.length)(hb:Below wr.heap.size wr w3)(hr:bH wr R M g cap T dp E1 s1)(hx:Ext w wr E E1 s s1)(hk:Kp R M w wr):
 jM R M g cap T dp none w E s (.ok (aU ds rest s1.fresh).1 { s1 with fresh:=(aU ds rest s1.fresh).2 }) (.returned (.tuple #[v,.pointer none])) w3:=by
 have ag:E1.agree ⟨λi=>if i<s1.fresh then E1.α i else wr.heap.size+(i-s1.fresh),E1.bT⟩ s1.fresh s1.ax:=⟨λi hi=>zac hi,λ_ _=>rfl⟩;have hlen:=mG ds rest s1.fresh;have kp:∀d x,bX lo s1.fresh s1.ax wr E1 d x→bX lo (aU ds rest s1.fresh).2 s1.ax w3 ⟨λi=>if i<s1.fresh then E1.α i else wr.heap.size+(i-s1.fresh),E1.bT⟩ d x:=λd x h=>
  bX.keep (zab _) (by omega) (λ_ h=>h) (λb _ h2=>hb.block b h2) ag d x h
 have cy:=zR (base:=wr.heap.size) (k0:=s1.fresh) (kp rest vr uk) eQ ds vs v hc hl (λj d x h1 h2=>kp d x (hds j d x h1 h2)) (by omega) λj hj=>by
  show(if s1.fresh+j<s1.fresh then _ else _)=_;rw[zaa (by omega)];congr 1;omega
 have h1:=hr.below hb;refine⟨v,⟨λi=>if i<s1.fresh then E1.α i else wr.heap.size+(i-s1.fresh),E1.bT⟩,rfl,hc.iface R7,bX.keep KE (zab _) (λ_ h=>h) (λ_ _ _=>rfl) ⟨λ_ _=>rfl,λ_ _=>rfl⟩ _ _ cy,?_,⟨h1.rm,h1.gr,h1.gm,h1.blk,h1.row,h1.lm,h1.low,h1.inj,h1.small,h1.deep⟩,(hk.trans (Kp.aF hb)).a none⟩;refine Ext.trans hx ⟨ag,by show s1.fresh≤(aU ds rest s1.fresh).2;omega,λ_ h=>h,λi i1 i2=>?_,λi j i1 i2 j1 j2 e=>?_⟩ hk.size (by omega)
 ·have i2':i<(aU ds rest s1.fresh).2:=i2;show wr.heap.size≤(if i<s1.fresh then _ else _)∧(if i<s1.fresh then _ else _)<_;rw[zaa (by omega)];omega
 ·have e':(if i<s1.fresh then E1.α i else wr.heap.size+(i-s1.fresh))=(if j<s1.fresh then E1.α j else wr.heap.size+(j-s1.fresh)):=e;rw[zaa (by omega),zaa (by omega)]at e';omega
theorem Kp.ge {R M lo:Nat}{w w':Θ}(h:Kp R M w w')(hR:R<lo)(hM:M<lo):∀b,lo≤b→b<w.heap.size→w'.heap[b]?=w.heap[b]?:=λb h1 h2=>h.block b h2 (by omega) (by omega)
section
variable {R M g cap:Nat}{T:List Tok}{dp:Nat}
theorem Dv {n:Nat}(ih:IH R M g cap T dp n)(p:Pl)(hp:p.ahead=[])(hd:p.depth≤dp∧p.ahead.length≤p.depth)(w wr:Θ)(E E1:Env)(s s1:eA)(hr:bH wr R M g cap T dp E1 s1)(hx:Ext w wr E E1 s s1)(hk:Kp R M w wr)(lo:Nat)(KE:w.heap.size≤lo)(eQ:lo≤wr.heap.size)(Qa:R<lo)(Oz:M<lo)
 (ds:List Dt)(vs:List Λ)(hl:ds.length=vs.length)(hn:vs.length≤1000000)(a0:Option Addr)(n0 c0:Nat)(hrow:wr.ownsRow lo 31 1 (.slice a0 n0 c0) vs.length vs)(hh:∀(j:Nat) d x,ds[j]?=some d→vs[j]?=some x→Held wr lo s1.fresh s1.ax E1 (Λ.slice a0 n0 c0).ownBlock d x)(R6:∀x∈vs,∃t y,x=.iface t y)
 (r:RR Dt)(et:r=((aI T dp n p s1).bind λrest s=>(aM T dp n p s).bind λt s=>
   if t.kind=3 then .ok (aU ds rest s.fresh).1 { s with fresh:=(aU ds rest s.fresh).2 } else .fail 3 t.from_))(ho:r≠.out):
 Ω prog 115 #[ai R,.slice a0 n0 c0,gf p.depth p.passed (.slice none 0 0)] wr λe w'=>jM R M g cap T dp none w E s r e w':=by
 have mixed:prog.follows Departure.mixedOrders=true:=by kernel_rfl
 have hb0:Below wr.heap.size wr (wr.alloc (gL p.depth p.passed none 0 0)):=(zad _ wr).alloc (zab _) _;have HR:Hid _:=hr.below hb0;have HP:Hid _:=zau wr (gL p.depth p.passed none 0 0);have MB:(wr.alloc (gL p.depth p.passed none 0 0)).heap.size=wr.heap.size+1:=by simp
 have hne:aI T dp n p s1≠.out:=λh=>ho (by rw[et,h];rfl);have ah:∀(w':Θ) (E':Env) (s':eA),iR w' E' s' p.ahead (.slice none 0 0):=λw' E' s'=>by rw[hp];exact⟨⟨rfl,.inl ⟨rfl,rfl⟩⟩,⟨_,_,_,rfl⟩,λn hn=>by cases hn⟩
 have HT:Hid _:=ih.datum p (.slice none 0 0) _ E1 s1 HR.out (ah _ _ _) hd hne;have HK:Hid _:=hk.trans (Kp.aF hb0);have HX:Hid _:=Ext.wid (w:=w) (w3:=(wr.alloc (gL p.depth p.passed none 0 0))) hx (zab _) (by omega);have HH:Hid (∀(j:Nat) d x,ds[j]?=some d→vs[j]?=some x→bX lo s1.fresh s1.ax (wr.alloc (gL p.depth p.passed none 0 0)) E1 d x):=λj d x h1 h2=>bX.keep (zab _) (zab _) (λ_ h=>h) (λb _ h=>hb0.block b h) ⟨λ_ _=>rfl,λ_ _=>rfl⟩ d x (hh j d x h1 h2).mj;have HW:Hid _:=aT hrow (zab _) λb _ h=>hb0.block b h;have KI:R<wr.heap.size:=hr.lt;have lG:M<wr.heap.size:=hr.mlt;have HI:Hid _:=ih;have HO:Hid _:=ho;have HA:Hid _:=ah;have B5:Hid _:=et;clear hr hb0 ih ho hne ah hx hk hrow hh et;generalize hw0:wr.alloc (gL p.depth p.passed none 0 0)=w0 at *;have P5:Hid _:=hw0;clear hw0;cases hT:aI T dp n p s1 with
 |out=>exact absurd (by rw[B5.out,hT];rfl) HO.out
 |fail er a=>
  rw[hT]at HT;have HE:Hid (r=.fail er a):=by show _=_;rw[B5.out,hT];rfl
  unfold gf ai at HT ⊢;go_enter func115,ntmps115;go_wp2_with fail;rw[P5.out];refine zae HT.out ?_;rintro e w1 ⟨⟨b,rfl,hf⟩,hk⟩;have HF:Hid _:=hf;have Qb:Hid _:=jL.plain hk;clear hf hk HT;unfold ai;go_wp2_with fail;go_ret2;rw[HE.out];exact⟨⟨b,rfl,HF.out⟩,(Kp.trans HK.out Qb.out).a none⟩
 |ok rest s2=>
  rw[hT]at HT;unfold gf ai at HT ⊢;go_enter func115,ntmps115;go_wp2_with fail;rw[P5.out];refine zae HT.out ?_;rintro e w1 ⟨vr,E2,rfl,⟨ty,yy,rfl⟩,cy,hx2,hr2,hk2⟩;replace hk2:=jL.plain hk2;have hs1:=hk2.size;obtain⟨x0,x1,x2⟩:=fh ((hk2.block wr.heap.size (by omega) (by omega) (by omega)).trans HP.out);have HE:Hid (r=(aM T dp n p s2).bind λt s=>if t.kind=3 then .ok (aU ds rest s.fresh).1 { s with fresh:=(aU ds rest s.fresh).2 } else .fail 3 t.from_):=by show _=_;rw[B5.out,hT];rfl
  have hne:aM T dp n p s2≠.out:=λh=>HO.out (by rw[HE.out,h];rfl);have oX:Hid _:=Kp.trans HK.out hk2;have JI:Hid _:=Ext.trans HX.out hx2 (Kp.size HK.out) hs1;have HH2:Hid (∀(j:Nat) d x,ds[j]?=some d→vs[j]?=some x→bX lo s2.fresh s2.ax w1 E2 d x):=λj d x h1 h2=>bX.keep (zab _) hx2.fresh hx2.ax (Kp.ge hk2 Qa Oz) hx2.agree d x (HH.out j d x h1 h2);have MG:Hid (bX lo s2.fresh s2.ax w1 E2 rest (.iface ty yy)):=bX.keep (by omega) (zab _) (λ_ h=>h) (λ_ _ _=>rfl) ⟨λ_ _=>rfl,λ_ _=>rfl⟩ _ _ cy;have OA:Hid _:=aT HW.out (zab _) (Kp.ge hk2 Qa Oz);have Du:Hid _:=hr2;have ux:Hid _:=HI.out.take p (.slice none 0 0) _ E2 s2 hr2 (HA.out _ _ _) hd hne;clear cy hx2 hr2 hk2 HT hne;cases qY:aM T dp n p s2 with
  |out=>exact absurd (by rw[HE.out,qY];rfl) HO.out
  |fail er a=>
   rw[qY]at ux;have jG:Hid (r=.fail er a):=by show _=_;rw[HE.out,qY];rfl
   unfold gf ai at ux;go_wp2_with fail;refine zae ux.out ?_;rintro e w2 ⟨⟨b,t,rfl,hf⟩,hk⟩;have HF:Hid _:=hf;have uS:Hid _:=hk;clear hf hk ux;unfold bC ai;go_wp2_with fail;go_ret2;rw[jG.out];exact⟨⟨b,rfl,dK.alloc HF.out _⟩,(Kp.trans (Kp.trans oX.out uS.out) (Kp.aF ((zad _ _).alloc (zab _) _))).a none⟩
  |ok t s3=>
   rw[qY]at ux;have jG:Hid (r=if t.kind=3 then .ok (aU ds rest s3.fresh).1 { s3 with fresh:=(aU ds rest s3.fresh).2 } else .fail 3 t.from_):=by show _=_;rw[HE.out,qY];rfl
   unfold gf ai at ux;go_wp2_with fail;refine zae ux.out ?_;rintro e w2 ⟨E3,rfl,hx3,hr3,hk3⟩;have uS:Hid _:=hk3;have P9:Hid _:=hx3;have tI:Hid _:=hr3;have hs3:=hk3.size;clear hx3 hr3 hk3 ux;unfold bC;by_cases k3:t.kind=3
   ·have q3:(((t.kind:Nat):Int)==3)=true:=by rw[k3];rfl
    rw[zac k3]at jG;clear k3;have hb4:Below w2.heap.size w2 (w2.alloc (ic t)):=(zad _ w2).alloc (zab _) _;have EA:Hid _:=hb4;have KD:(w2.alloc (ic t)).heap.size=w2.heap.size+1:=by simp
    have KJ:Hid _:=aT (aT OA.out (zab _) (Kp.ge uS.out Qa Oz)) (zab _) λb _ h=>hb4.block b h;have HC:Hid _:=tJ vs (.slice a0 n0 c0) lo (.iface ty yy) _ KJ.out hn R6 ⟨_,_,rfl⟩;clear hb4;go_wp2_with fail;refine zae HC.out ?_;rintro e w5 ⟨v,rfl,hc,hs5,qA⟩;obtain⟨tv,yv,rfl⟩:=hc.iface ⟨_,_,rfl⟩;have JJ:Hid _:=Kp.trans (Kp.trans oX.out uS.out) (Kp.aF EA.out);have ac3:lo≤(w2.alloc (ic t)).heap.size:=by have:=(OA.out.2);have:=Kp.size HK.out;omega
    have HG:Hid _:=tK (T:=T) (dp:=dp) (g:=g) (cap:=cap) (w:=w) (lo:=lo) (ds:=ds) (rest:=rest) (s1:=s3) (E1:=E3) KE ac3
     (λj d x h1 h2=>bX.keep (zab _) (zab _) (λ_ h=>h) (λb _ h=>EA.out.block b h) ⟨λ_ _=>rfl,λ_ _=>rfl⟩ d x (bX.keep (zab _) (Ext.fresh P9.out) (Ext.ax P9.out) (Kp.ge uS.out Qa Oz) (Ext.agree P9.out) d x (HH2.out j d x h1 h2)))
     (bX.keep (zab _) (zab _) (λ_ h=>h) (λb _ h=>EA.out.block b h) ⟨λ_ _=>rfl,λ_ _=>rfl⟩ _ _ (bX.keep (zab _) (Ext.fresh P9.out) (Ext.ax P9.out) (Kp.ge uS.out Qa Oz) (Ext.agree P9.out) _ _ MG.out))
     hl ⟨_,_,rfl⟩ hc hs5 qA (bH.below tI.out EA.out) (Ext.wid (w:=w) (Ext.trans JI.out P9.out (Kp.size oX.out) hs3) (zab _) (by omega)) JJ.out
    clear hc qA;go_wp2_with fail;go_ret2;rw[jG.out];exact HG.out
   ·have q3:(((t.kind:Nat):Int)==3)=false:=by rw[zao];omega
    rw[zaa k3]at jG;clear k3;go_wp2_with fail;go_region;go_wp2_with fail;go_ret2;rw[jG.out];refine⟨⟨w2.heap.size+1,rfl,?_⟩,(Kp.trans (Kp.trans oX.out uS.out) (Kp.aF ((((zad _ w2).alloc (zab _) _).alloc (by simp) _).drew))).a none⟩;exact dJ w2 _ _
end
end Go.Proofs.YtlhimdjkkiflhaaGreat
