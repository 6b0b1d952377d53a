import Derived.Test.YtlhimdjkkiflhaaGreatReads38
set_option maxHeartbeats 8000000
set_option maxRecDepth 100000
open Go.Value renaming int→Γ
open Go.IntKind renaming i64→Δ
open Go renaming undef→Θ,Value→Λ,World→Φ,Frame→Ω,Program→ζ,TypeId→η,FuncId→θ
open Option renaming getD→Ξ
namespace Go.Ren
open Go.Proofs.Tryz
open Go Go.Conc Go.ConcX Go.RowKit Go.Proofs Go.Loop Go.Proofs.YtlhimdjkkiflhaaGreat
abbrev Hy:Obj:= .cells #[.nilIface,.slice none 0 0,Γ Δ 0] 33
theorem len8:(o8 Tryz.f8).size=11:=by kernel_rfl
theorem Br {w1:Φ}{b:Nat}{x0 x1 x2:Λ}{e:η}(h:w1.heap[b]?=some (.cells #[x0,x1,x2] e)):(w1.frozen? ⟨b,0,none⟩=false∧w1.frozen? ⟨b,1,none⟩=false∧w1.frozen? ⟨b,2,none⟩=false):=by
 refine⟨?_,?_,?_⟩<;>simp[Φ.frozen?,h]
theorem ae.xC {P:ζ}{S:Sd}{Ψ:dZ}{b:Ω}{a:Act}{cs:List Ω}{w:Φ}{ops:Array Oper}{i:Nat}{rest:List Nat}{o:Oper}{kk:List Item}(ho:ops[i]?=some o)(hw:o.guard=none)(hk:b.kind≠.early){f:θ}{xs:Array Operand}{ats:Array η}(hop:o.op=.call { callee:= .value (.func f),args:=xs,argTypes:=ats })
 (qW:(P.funcs[f]?).any (λfn=>fn.body.isSome)=true)(E6:(P.funcs[f]?).any (λfn=>fn.name != "runtime.NumGoroutine")=true)(hx:xs.all (gN S)=true){args:Array Λ}(YM:xs.map a.eval=args)
 (h:ae P S Ψ (Ω.enter P f args .normal) (b.at a (.inRegion ops (i::rest)::kk)::cs) w):ae P S Ψ (b.at a (.inRegion ops (i::rest)::kk)) cs w:=by
 subst YM;exact ae.enter ho (by simp[Region.wanted,hw]) hk hop qW E6 hx h
theorem ae.move' {P:ζ}{F:θ→Bool}{S:Sd}{Ψ:dZ}{b:Ω}{a:Act}{cs:List Ω}{w:Φ}{ops:Array Oper}{i:Nat}{rest:List Nat}{o:Oper}{kk:List Item}(hC:kZ P F S)(ho:ops[i]?=some o)(hw:o.guard=none)(hk:b.kind≠.early){t d:Tmp}(hop:o.op=.move (.tmp t))(hd:o.dst=some d){a':Act}(ha:a.put (some d) (a.eval (.tmp t))=a')
 (h:ae P S Ψ (b.at a' (.inRegion ops rest::kk)) cs w):ae P S Ψ (b.at a (.inRegion ops (i::rest)::kk)) cs w:=by
 subst ha;refine ae.IY hC (by rw[hop];rfl) ho (by simp[Region.wanted,hw]) hk λτ dd=>⟨a.eval (.tmp t),w.re τ dd,?_,?_⟩
 ·simp[execOp,hop]
 ·rw[hd];exact h.re rfl
theorem ae.Qu {Ψ:dZ}{cs:List Ω}{w:Φ}{b:Ω}{a:Act}{ops:Array Oper}{i:Nat}{rest:List Nat}{kk:List Item}{s:List UInt8}(hlen:s.length≤1000){d:Tmp}(hd:(ops[i]?).bind (·.dst)=some d){a':Λ→Act}(ha:∀v,a.put (some d) v=a' v)(h:∀v w',Below w.heap.size w w'→w'.ownsRow w.heap.size 76 7 v (aH (s.length+1) s 0).length ((aH (s.length+1) s 0).flatMap iH)→ae prog Sz Ψ (b.at (a' v) (.inRegion ops rest::kk)) cs w'):ae prog Sz Ψ (Ω.enter prog 13 #[.string ⟨⟨s⟩⟩] .normal) (b.at a (.inRegion ops (i::rest)::kk)::cs) w:=
 ae.TJ hlen λv w' h1 h2=>by rw[hd,ha];exact h v w' h1 h2
theorem Bt {w:Φ}{b:Nat}{y0 y1 y2:Λ}{e:η}(h:w.heap[b]?=some (.cells #[y0,y1,y2] e))(x0 x1 x2:Λ):(((w.setCell ⟨b,0,none⟩ x0).setCell ⟨b,1,none⟩ x1).setCell ⟨b,2,none⟩ x2).heap[b]?=some (.cells #[x0,x1,x2] e):=by
 have h1:=bk h 0 x0;have h2:=bk h1 1 x1;have h3:=bk h2 2 x2;simpa using h3
theorem vv {w:Φ}{b c:Nat}(h:c≠b)(x0 x1 x2:Λ):(((w.setCell ⟨b,0,none⟩ x0).setCell ⟨b,1,none⟩ x1).setCell ⟨b,2,none⟩ x2).heap[c]?=w.heap[c]?:=
 (zay _ _ _ _ h).trans ((zay _ _ _ _ h).trans (zay _ _ _ _ h))
theorem zW (w:Φ)(b:Nat)(x0 x1 x2:Λ):(((w.setCell ⟨b,0,none⟩ x0).setCell ⟨b,1,none⟩ x1).setCell ⟨b,2,none⟩ x2).heap.size=w.heap.size:=by simp
theorem MR {w w3:Φ}(hb:bm w w3){y0 y1 y2:Λ}{e:η}(_h:w3.heap[w.heap.size]?=some (.cells #[y0,y1,y2] e))(x0 x1 x2:Λ):bm w (((w3.setCell ⟨w.heap.size,0,none⟩ x0).setCell ⟨w.heap.size,1,none⟩ x1).setCell ⟨w.heap.size,2,none⟩ x2):=
 ⟨by rw[zW];exact hb.1,λr hr=>(vv (by omega) _ _ _).trans (hb.2 r hr)⟩
theorem MS {w w3:Φ}(hb:bm w w3){y0 y1 y2:Λ}{e:η}(h:w3.heap[w.heap.size]?=some (.cells #[y0,y1,y2] e))(x0 x1 x2:Λ)(o:Obj):bm w ((((w3.setCell ⟨w.heap.size,0,none⟩ x0).setCell ⟨w.heap.size,1,none⟩ x1).setCell ⟨w.heap.size,2,none⟩ x2).alloc o)∧((((w3.setCell ⟨w.heap.size,0,none⟩ x0).setCell ⟨w.heap.size,1,none⟩ x1).setCell ⟨w.heap.size,2,none⟩ x2).alloc o).heap[w.heap.size]?=some (.cells #[x0,x1,x2] e)∧((((w3.setCell ⟨w.heap.size,0,none⟩ x0).setCell ⟨w.heap.size,1,none⟩ x1).setCell ⟨w.heap.size,2,none⟩ x2).alloc o).heap[w3.heap.size]?=some o:=by
 have h1:=MR hb h x0 x1 x2;have h2:=Bt h x0 x1 x2;have h3:=zW w3 w.heap.size x0 x1 x2;generalize ((w3.setCell ⟨w.heap.size,0,none⟩ x0).setCell ⟨w.heap.size,1,none⟩ x1).setCell ⟨w.heap.size,2,none⟩ x2=w5 at *;refine⟨h1.trans (bm.of ((zad _ _).alloc (zab _) _)),(zaK _ _ _ (zag.1 h2).1).trans h2,?_⟩;rw[←h3];exact zau w5 o
theorem b9.keep {w w':Φ}{lo My:Nat}{nv:Λ}{ay:List Λ}{nodes:List dF}(h:b9 w lo nv ay nodes)(hl:My≤lo)(hw:∀(b:Nat) c,w.heap[b]?=some (.cells c 50)∨w.heap[b]?=some (.cells c 3)→w'.heap[b]?=w.heap[b]?):b9 w' My nv ay nodes:=by
 refine⟨⟨h.1.1,h.1.2.imp id ?_⟩,h.2.1,λj x sv hx ml=>?_⟩
 ·rintro ⟨b,cp,cur,q1,q2,q3,q4⟩;exact⟨b,cp,cur,q1,by omega,(hw b _ (.inl q3)).trans q3,q4⟩
 ·rcases h.2.2 j x sv hx ml with q|⟨b,q1,q2,q3⟩
  ·exact .inl q
  ·exact .inr ⟨b,q1,by omega,(hw b _ (.inr q3)).trans q3⟩
theorem b9.ac8 {w:Φ}{lo:Nat}{nv:Λ}{ay:List Λ}{nodes:List dF}(h:b9 w lo nv ay nodes){b:Nat}{y0 y1 y2:Λ}(hb:w.heap[b]?=some (.cells #[y0,y1,y2] 33))(x0 x1 x2:Λ):b9 (((w.setCell ⟨b,0,none⟩ x0).setCell ⟨b,1,none⟩ x1).setCell ⟨b,2,none⟩ x2) 0 nv ay nodes:=
 Ren.b9.keep h (zap _) λc cc hc=>vv (λe=>by
  rw[e,hb]at hc;rcases hc with hc|hc<;>simp at hc) _ _ _
theorem F7 {s:List UInt8}{dp:Nat}(qa:dp≤30)(h:400<s.length):fE s dp=some ([],0,2):=by
 unfold fE;rw[zaa (by omega),zac h]
theorem uz {s:List UInt8}{dp:Nat}(qa:dp≤30)(h:¬400<s.length):fE s dp=match aI (aH (s.length+1) s 0) dp 2000 ⟨0,false,[]⟩ ⟨0,0,[]⟩with
 |.out=>none
 |.fail e a=>some ([],a,e)
 |.ok d s'=>(nj d 100000 d ⟨[],[]⟩).map λg=>if 150<g.2.nodes.length then([],0,2)else(g.2.nodes,(((aH (s.length+1) s 0)[s'.k-1]?).map (·.jZ)).getD 0,0):=by
 unfold fE;rw[zaa (by omega),zaa h,zbn];cases aI (aH (s.length+1) s 0) dp 2000 ⟨0,false,[]⟩ ⟨0,0,[]⟩<;>rfl
def T5 (f:Func)(i:Nat):Oper:=(o8 f)[i]!
theorem YN:(o8 Tryz.f8)[0]?=some (T5 Tryz.f8 0):=by kernel_rfl
theorem YO:(o8 Tryz.f8)[1]?=some (T5 Tryz.f8 1):=by kernel_rfl
theorem YP:(T5 Tryz.f8 0).op=.move (.tmp 0):=by kernel_rfl
theorem YQ:(T5 Tryz.f8 1).op=.call { callee:= .value (.func 13),args:=#[.tmp 17],argTypes:=#[9] }:=by kernel_rfl
theorem YR:(T5 Tryz.f8 0).guard=none:=by kernel_rfl
theorem YS:(T5 Tryz.f8 1).guard=none:=by kernel_rfl
theorem YT:(T5 Tryz.f8 0).dst=some 17:=by kernel_rfl
theorem YU:((o8 Tryz.f8)[1]?).bind (·.dst)=some 18:=by kernel_rfl
theorem ac9:([2,3,4,5,6,7,8,9,10].all λi=>((o8 Tryz.f8)[i]?).all λo=>jx prog Fz Sz o.op)=true:=by kernel_rfl
theorem ada:(prog.funcs[13]?).any (λfn=>fn.body.isSome)=true:=by kernel_rfl
theorem adb:(prog.funcs[13]?).any (λfn=>fn.name != "runtime.NumGoroutine")=true:=by kernel_rfl
theorem ade:Tryz.f8.results=#[.cell 4 33,.tmp 5]:=by kernel_rfl
theorem rQ {W:Φ}{R:Nat}{x0 x1 x2 fv:Λ}{tmps:Array Λ}(h4:tmps.getD 4 Θ=.pointer (some ⟨R,0,none⟩))(h5:tmps.getD 5 Θ=fv)(h:W.heap[R]?=some (.cells #[x0,x1,x2] 33)):(results Tryz.f8 tmps).run prog W=.ok (.tuple #[.agg #[x0,x1,x2],fv]) W:=by
 rw[results_cell_tmp ade,h4,h5];obtain⟨z0,z1,z2⟩:=fh h;have h1:(loadVar 33 ⟨R,0,none⟩).run prog W=.ok (.agg #[x0,x1,x2]) W:=by
  go_simp
 simp[asAddr,h1]
section
variable {Ψ:dZ}{cs:List Ω}{w:Φ}{b:Ω}{a:Act}{ops:Array Oper}{i:Nat}{rest:List Nat}{kk:List Item}
theorem ae.read {s:List UInt8}{dp:Nat}(qa:dp≤30)(dm:s.length≤400→om s dp)(h:∀v w',DR s dp w v w'→ae prog Sz Ψ (b.at (a.put ((ops[i]?).bind (·.dst)) v) (.inRegion ops rest::kk)) cs w'):ae prog Sz Ψ (Ω.enter prog 8 #[.string ⟨⟨s⟩⟩,Γ Δ dp] .normal) (b.at a (.inRegion ops (i::rest)::kk)::cs) w:=by
 have HH:Hid _:=h;have OC:Hid _:=dm;clear h dm;rw[T2];refine ae.seq ?_;refine ae.code fX ac7 rfl ⟨_,MQ⟩ rfl λτ d=>?_;have hw:(w.re τ d).heap=w.heap:=rfl;generalize w.re τ d=w1 at *;generalize kX:([.code (.seq (VO Tryz.f8) (.seq (.region 3 (o8 Tryz.f8) false) (Qs Tryz.f8)))]:List Item)=kq;dsimp only[c8a,c8,Ren.cY,Tryz.f8,Ξ];go_wp2_with fail;subst kX;show ae _ _ _ _ _ _;have pS:Hid (bm w (w1.alloc Hy)):=⟨by rw[←hw];simp,λr hr=>by rw[←hw]at hr ⊢;exact zaK _ _ _ hr⟩;have T6:(w1.alloc Hy).heap[w.heap.size]?=some Hy:=by rw[←hw];exact zau w1 _
 generalize hw2:w1.alloc Hy=w2 at *;clear hw2 hw;refine ae.seq ?_;by_cases MT:400<s.length
 ·refine ae.code fX YK rfl ⟨_,MQ⟩ rfl λτ d=>?_;have hw:(w2.re τ d).heap=w2.heap:=rfl;generalize w2.re τ d=w3 at *;have MU:w3.heap[w.heap.size]?=some Hy:=by rw[hw];exact T6
  obtain⟨z0,z1,z2⟩:=fh MU;obtain⟨f0,f1,f2⟩:=Br MU;have e2:w.heap.size<w3.heap.size:=(zag.1 MU).1;have e1:¬w.heap.size=w3.heap.size:=by omega
  have HW:Hid _:=hw;have tI:Hid _:=MU;clear hw MU T6;have hlI:(400:Int)<(s.length:Int):=by omega
  generalize kX:([.code (.seq (.region 3 (o8 Tryz.f8) false) (Qs Tryz.f8))]:List Item)=kq;dsimp only[VO,c8,Ren.cY,Ren.bS,Tryz.f8,Ξ];go_wp2_with fail;show ∀todo,ae _ _ _ _ _ _;intro todo;have hb3:bm w w3:=⟨by rw[HW.out];exact pS.out.1,λr hr=>by rw[HW.out];exact pS.out.2 r hr⟩;obtain⟨q1,q2,q3⟩:=MS hb3 tI.out .nilIface (.slice none 0 0) (Γ Δ 0) (.cells #[Γ Δ 2,Γ Δ 0] 38);refine ae.xo fX rfl rfl MQ (rQ rfl rfl q2) ?_;exact HH.out _ _ ⟨q1,.inl ⟨w3.heap.size,2,0,rfl,q3,F7 qa MT⟩⟩
 ·refine ae.code fX YK rfl ⟨_,MQ⟩ rfl λτ d=>?_;have hw:(w2.re τ d).heap=w2.heap:=rfl;generalize w2.re τ d=w3 at *;have hlI:¬((400:Int)<(s.length:Int)):=by omega
  generalize kX:([.code (.seq (.region 3 (o8 Tryz.f8) false) (Qs Tryz.f8))]:List Item)=kq;dsimp only[VO,c8,Ren.cY,Ren.bS,Tryz.f8,Ξ];go_wp2_with fail;subst kX;show ae _ _ _ _ _ _;have yK:Hid (bm w w3):=⟨by rw[hw];exact pS.out.1,λr hr=>by rw[hw];exact pS.out.2 r hr⟩;have MU:w3.heap[w.heap.size]?=some Hy:=by rw[hw];exact T6
  clear hw pS T6 hlI;refine ae.seq ?_;refine ae.region ?_;rw[len8,show List.range 11=[0,1,2,3,4,5,6,7,8,9,10] from rfl];refine ae.move' fX YN YR (by decide) YP YT (a':=⟨#[.string ⟨⟨s⟩⟩,Γ Δ dp,Θ,Θ,.pointer (some ⟨w.heap.size,0,none⟩),.pointer none,Θ,Θ,Θ,Θ,.string ⟨⟨s⟩⟩,Γ Δ s.length,.bool false,Θ,Θ,Θ,Θ,.string ⟨⟨s⟩⟩,Θ,Θ,Θ,Θ,Θ,Θ,Θ,Θ,Θ,Θ,Θ,Θ,Θ,Θ,Θ,Θ,Θ,Θ,Θ,Θ,Θ,Θ],[]⟩) (by simp[Act.eval,Act.put]) ?_;refine ae.xC (f:=13) (xs:=#[.tmp 17]) (ats:=#[9]) (args:=#[.string ⟨⟨s⟩⟩]) YO YS (by decide) YQ ada adb (by simp[gN]) (by simp[Act.eval]) ?_;refine ae.Qu (by omega) YU (a':=λv=>⟨#[.string ⟨⟨s⟩⟩,Γ Δ dp,Θ,Θ,.pointer (some ⟨w.heap.size,0,none⟩),.pointer none,Θ,Θ,Θ,Θ,.string ⟨⟨s⟩⟩,Γ Δ s.length,.bool false,Θ,Θ,Θ,Θ,.string ⟨⟨s⟩⟩,v,Θ,Θ,Θ,Θ,Θ,Θ,Θ,Θ,Θ,Θ,Θ,Θ,Θ,Θ,Θ,Θ,Θ,Θ,Θ,Θ,Θ],[]⟩) (λv=>by simp[Act.put]) λv w4 hb4 hrow=>?_;have hlen:=oZ (s.length+1) s 0;obtain⟨T1,hT⟩:=ly (s.length+1) s 0 (zap _) (by omega);obtain⟨g,cap,rfl⟩:∃g cap,v=.slice (some ⟨g,0,none⟩) (aH (s.length+1) s 0).length cap:=by
   rcases hrow.2 with⟨_,h0⟩|⟨g,cap,cur,e,_⟩
   ·exact absurd (zch h0) T1
   ·exact⟨g,cap,e⟩
  refine ae.ops fX rfl ⟨_,MQ⟩ rfl ac9 2 ((o8 Tryz.f8).toList.drop 2) (by rw[zan,zco,len8];rfl) (λj=>by rw[zck,zcp]) λAJ d'=>?_;have EA:Hid (bm w w4):=yK.out.trans ⟨hb4.size,hb4.block⟩;have hR4:w4.heap[w.heap.size]?=some Hy:=(hb4.block _ (zag.1 MU).1).trans MU;have hw:(w4.re AJ d').heap=w4.heap:=rfl;have ig:Hid ((w4.re AJ d').ownsRow 0 76 7 (.slice (some ⟨g,0,none⟩) (aH (s.length+1) s 0).length cap) (aH (s.length+1) s 0).length ((aH (s.length+1) s 0).flatMap iH)):=aT (w:=w4) hrow (zap _) λ_ _ _=>rfl;generalize w4.re AJ d'=w5 at *;have T7:=(fuel (aH (s.length+1) s 0) dp hT 2000).datum ⟨0,false,[]⟩ ⟨0,0,[]⟩ (zbS.2 T1) (by show 2*((aH (s.length+1) s 0).length - 0)+2≤2000;omega);have HC:Hid _:=DO (aH (s.length+1) s 0) dp g cap (λh=>(OC.out (by omega)).2.1 h g cap) (λh=>(OC.out (by omega)).2.2 h g cap) w5 qa hT T1 (by omega) ig.out;have HLO:Hid (w.heap.size<w5.heap.size):=by show _<_;rw[hw];exact(zag.1 hR4).1
  clear hrow hb4 yK MU ig hT T1;have B6:Hid _:=hw;clear hw;generalize kX:([.code (Qs Tryz.f8)]:List Item)=kq;dsimp only[o8,YI,c8,Ren.ib,Ren.cY,Ren.bS,Tryz.f8,Ξ];simp only[zca,zbJ];go_wp2_with fail;refine zae HC.out ?_;clear HC;rintro e w6 ⟨uq,l9⟩;have Bu:Hid (bm w w6):=EA.out.trans (bm.trans ⟨by rw[B6.out];exact zab _,λr _=>by rw[B6.out]⟩ (bm.of uq));have VP:w6.heap[w.heap.size]?=some Hy:=(uq.block _ (by rw[B6.out];exact(zag.1 hR4).1)).trans (by rw[B6.out];exact hR4);have TQ:Hid _:=VP;clear uq EA B6 hR4;cases et:aI (aH (s.length+1) s 0) dp 2000 ⟨0,false,[]⟩ ⟨0,0,[]⟩with
  |out=>rw[et]at T7;exact T7.elim
  |fail er at_=>
   rw[et]at l9;obtain⟨fb,rfl,MV⟩:=l9;have HF:Hid _:=MV;have OE:Hid (fE s dp=some ([],at_,er)):=by show _=_;rw[uz qa MT,et]
   clear MV T7 et VP;unfold ai;go_wp2_with fail;subst kX;show ae _ _ _ _ _ _;refine ae.code fX YL rfl ⟨_,MQ⟩ rfl λτ d=>?_;have hw:(w6.re τ d).heap=w6.heap:=rfl;generalize w6.re τ d=w7 at *;have T9:w7.heap[w.heap.size]?=some Hy:=by rw[hw];exact TQ.out
   obtain⟨z0,z1,z2⟩:=fh T9;obtain⟨f0,f1,f2⟩:=Br T9;have HW:Hid _:=hw;have Qd:Hid _:=T9;clear hw T9;dsimp only[Qs,YI,c8,Ren.cY,Ren.bS,Tryz.f8,Ξ];go_wp2_with fail;show ∀todo,ae _ _ _ _ _ _;intro todo;have hb7:bm w w7:=⟨by rw[HW.out];exact Bu.out.1,λr hr=>by rw[HW.out];exact Bu.out.2 r hr⟩;have q1:=MR hb7 Qd.out .nilIface (.slice none 0 0) (Γ Δ 0);have q2:=Bt Qd.out .nilIface (.slice none 0 0) (Γ Δ 0);have q3:dK (((w7.setCell ⟨w.heap.size,0,none⟩ .nilIface).setCell ⟨w.heap.size,1,none⟩ (.slice none 0 0)).setCell ⟨w.heap.size,2,none⟩ (Γ Δ 0)) fb er at_:=by
    have hf:w6.heap[fb]?=_:=HF.out;refine(vv (λe=>?_) _ _ _).trans (by rw[HW.out];exact hf);rw[e,TQ.out]at hf;simp at hf
   refine ae.xo fX rfl rfl MQ (rQ rfl rfl q2) ?_;exact HH.out _ _ ⟨q1,.inl ⟨fb,er,at_,rfl,q3,OE.out⟩⟩
  |ok d0 s'=>
   rw[et]at l9;obtain⟨v,E',t,ht,rfl,⟨ty,y,rfl⟩,cy,xw,-⟩:=l9;obtain⟨hgd,k0,g0,df,IP⟩:=(OC.out (by omega)).1 d0 s' et;have OE:Hid (fE s dp=if 150<g0.nodes.length then some ([],0,2)else some (g0.nodes,t.jZ,0)):=by
    show _=_;rw[uz qa MT,et];simp only[df,zbA,ht,zbw];split<;>rfl
   have HD:Hid _:=cy;have HI:Hid _:=xw;have HGB:Hid _:=hgd;have HNM:Hid _:=df;have B5:Hid _:=et;have aew:w.heap.size<w5.heap.size:=HLO.out;clear cy xw hgd df T7 et VP ht HLO;go_wp2_with fail;subst kX;show ae _ _ _ _ _ _;refine ae.code fX YL rfl ⟨_,MQ⟩ rfl λτ d=>?_;have hw:(w6.re τ d).heap=w6.heap:=rfl;generalize w6.re τ d=w7 at *;have HD7:Hid (bX w5.heap.size s'.fresh s'.ax w7 E' d0 (.iface ty y)):=bX.keep (w:=w6) (w':=w7) (zab _) (zab _) (λ_ h=>h) (λb _ _=>by rw[hw]) ⟨λ_ _=>rfl,λ_ _=>rfl⟩ d0 _ HD.out;have HGC:Hid _:=DN w7 d0 (.iface ty y) (bX.keep (w:=w6) (w':=w7) (zab _) (zab _) (λ_ h=>h) (λb _ _=>by rw[hw]) ⟨λ_ _=>rfl,λ_ _=>rfl⟩ d0 _ HD.out) HGB.out HI.out 100000 k0 g0 HNM.out IP;have MW:Hid (bm w w7):=⟨by rw[hw];exact Bu.out.1,λr hr=>by rw[hw];exact Bu.out.2 r hr⟩;have Qd:Hid (w7.heap[w.heap.size]?=some Hy):=by show _=_;rw[hw];exact TQ.out
   clear hw HD HNM Bu TQ;dsimp only[Qs,YI,c8,Ren.cY,Ren.bS,Tryz.f8,Ξ];go_wp2_with fail;refine zae HGC.out ?_;clear HGC;rintro e w8 ⟨nv,ay,rfl,tP,KO⟩;obtain⟨na,nc,rfl⟩:=aw tP.1;have YV:w8.heap[w.heap.size]?=some Hy:=(KO.block _ (zag.1 Qd.out).1).trans Qd.out;have HB8:Hid (bm w w8):=MW.out.trans (bm.of KO);have HN8:Hid _:=tP;have HD8:Hid (bX w5.heap.size s'.fresh s'.ax w8 E' d0 (.iface ty y)):=bX.keep (w:=w7) (w':=w8) (zab _) (zab _) (λ_ h=>h) (λb _ h=>KO.block b h) ⟨λ_ _=>rfl,λ_ _=>rfl⟩ d0 _ HD7.out;have HR8:Hid _:=YV;obtain⟨z0,z1,z2⟩:=fh YV;obtain⟨f0,f1,f2⟩:=Br YV;have e2:w.heap.size<w8.heap.size:=(zag.1 YV).1;have e1:¬w.heap.size=w8.heap.size:=by omega
   clear KO tP YV MW Qd;by_cases Sl:150<g0.nodes.length
   ·have hmI:(150:Int)<(g0.nodes.length:Int):=by omega
    go_wp2_with fail;show ∀todo,ae _ _ _ _ _ _;intro todo;obtain⟨q1,q2,q3⟩:=MS HB8.out HR8.out .nilIface (.slice none 0 0) (Γ Δ 0) (.cells #[Γ Δ 2,Γ Δ 0] 38);refine ae.xo fX rfl rfl MQ (rQ rfl rfl q2) ?_;exact HH.out _ _ ⟨q1,.inl ⟨w8.heap.size,2,0,rfl,q3,by rw[OE.out,zac Sl]⟩⟩
   ·have hmI:¬((150:Int)<(g0.nodes.length:Int)):=by omega
    go_wp2_with fail;show ∀todo,ae _ _ _ _ _ _;intro todo;have q1:=MR HB8.out HR8.out (.iface ty y) (.slice na g0.nodes.length nc) (Γ Δ t.jZ);have q2:=Bt HR8.out (.iface ty y) (.slice na g0.nodes.length nc) (Γ Δ t.jZ);have q3:=b9.ac8 HN8.out HR8.out (.iface ty y) (.slice na g0.nodes.length nc) (Γ Δ t.jZ);refine ae.xo fX rfl rfl MQ (rQ rfl rfl q2) ?_;exact HH.out _ _ ⟨q1,.inr ⟨ty,y,.slice na g0.nodes.length nc,ay,g0.nodes,t.jZ,rfl,q3,by rw[OE.out,zaa Sl],_,_,_,_,_,_,B5.out,bX.keep (w:=w8) (zab _) (zab _) (λ_ h=>h) (λb h _=>vv (by omega) _ _ _) ⟨λ_ _=>rfl,λ_ _=>rfl⟩ d0 _ HD8.out,HI.out,HGB.out⟩⟩
end
def c5 (f:Func):Code:=f.body.getD .skip
def c5a (f:Func):Code:=Ren.cY (c5 f)
def VR (f:Func):Code:=Ren.cY (Ren.bS (c5 f))
def VS (f:Func):Code:=Ren.bS (Ren.bS (c5 f))
def o5 (f:Func):Array Oper:=Ren.ib (Ren.cY (VS f))
def OG (f:Func):Code:=Ren.bS (VS f)
theorem OH:prog.funcs[5]?=some Tryz.f5:=by kernel_rfl
theorem YW:Tryz.f5.body=some (.seq (c5a Tryz.f5) (.seq (VR Tryz.f5) (.seq (.region 3 (o5 Tryz.f5) false) (OG Tryz.f5)))):=by kernel_rfl
theorem nt5:Tryz.f5.ntmps=35:=by kernel_rfl
theorem t35 (x y:Λ):(#[x,y]++Array.replicate (35-#[x,y].size) Θ:Array Λ)=#[x,y,Θ,Θ,Θ,Θ,Θ,Θ,Θ,Θ,Θ,Θ,Θ,Θ,Θ,Θ,Θ,Θ,Θ,Θ,Θ,Θ,Θ,Θ,Θ,Θ,Θ,Θ,Θ,Θ,Θ,Θ,Θ,Θ,Θ]:=by
 generalize Θ=u;simp[Array.replicate,List.replicate]
theorem Ua (x y:Λ):Ω.enter prog 5 #[x,y] .normal=(base 5).at ⟨#[x,y,Θ,Θ,Θ,Θ,Θ,Θ,Θ,Θ,Θ,Θ,Θ,Θ,Θ,Θ,Θ,Θ,Θ,Θ,Θ,Θ,Θ,Θ,Θ,Θ,Θ,Θ,Θ,Θ,Θ,Θ,Θ,Θ,Θ],[]⟩ [.code (.seq (c5a Tryz.f5) (.seq (VR Tryz.f5) (.seq (.region 3 (o5 Tryz.f5) false) (OG Tryz.f5))))]:=by
 rw[enter_at _ OH YW,nt5,t35]
theorem adf:br prog Fz Sz (c5a Tryz.f5)=true:=by kernel_rfl
theorem YX:br prog Fz Sz (VR Tryz.f5)=true:=by kernel_rfl
theorem YY:br prog Fz Sz (OG Tryz.f5)=true:=by kernel_rfl
theorem YZ:(o5 Tryz.f5).size=9:=by kernel_rfl
def MX (f:Func)(i:Nat):Oper:=(o5 f)[i]!
theorem Y0:(o5 Tryz.f5)[0]?=some (MX Tryz.f5 0):=by kernel_rfl
theorem Y1:(o5 Tryz.f5)[1]?=some (MX Tryz.f5 1):=by kernel_rfl
theorem Y2:(o5 Tryz.f5)[2]?=some (MX Tryz.f5 2):=by kernel_rfl
theorem Y3:(MX Tryz.f5 0).op=.move (.tmp 0):=by kernel_rfl
theorem Y4:(MX Tryz.f5 1).op=.move (.tmp 1):=by kernel_rfl
theorem Y5:(MX Tryz.f5 2).op=.call { callee:= .value (.func 8),args:=#[.tmp 16,.tmp 17],argTypes:=#[9,3] }:=by kernel_rfl
theorem Y6:(MX Tryz.f5 0).guard=none:=by kernel_rfl
theorem Y7:(MX Tryz.f5 1).guard=none:=by kernel_rfl
theorem Y8:(MX Tryz.f5 2).guard=none:=by kernel_rfl
theorem Y9:(MX Tryz.f5 0).dst=some 16:=by kernel_rfl
theorem Za:(MX Tryz.f5 1).dst=some 17:=by kernel_rfl
theorem Zb:((o5 Tryz.f5)[2]?).bind (·.dst)=some 18:=by kernel_rfl
theorem adg:([3,4,5,6,7,8].all λi=>((o5 Tryz.f5)[i]?).all λo=>jx prog Fz Sz o.op)=true:=by kernel_rfl
theorem bd8:(prog.funcs[8]?).any (λfn=>fn.body.isSome)=true:=by kernel_rfl
theorem nm8:(prog.funcs[8]?).any (λfn=>fn.name != "runtime.NumGoroutine")=true:=by kernel_rfl
theorem Ub:Tryz.f5.results=#[.tmp 4,.tmp 5,.tmp 6]:=by kernel_rfl
def Bv (s:List UInt8)(dep:Int)(w:Φ)(v:Λ)(w':Φ):Prop:=
 bm w w'∧∃nodes at_ e nv ay,fE s dep=some (nodes,at_,e)∧v=.tuple #[nv,Γ Δ (at_:Nat),Γ Δ e]∧b9 w' 0 nv ay nodes
theorem ae.Zc {Ψ:dZ}{cs:List Ω}{w:Φ}{b:Ω}{a:Act}{ops:Array Oper}{i:Nat}{rest:List Nat}{kk:List Item}{s:List UInt8}{dp:Nat}(qa:dp≤30)(dm:s.length≤400→om s dp){d:Tmp}(hd:(ops[i]?).bind (·.dst)=some d){a':Λ→Act}(ha:∀v,a.put (some d) v=a' v)(h:∀v w',DR s dp w v w'→ae prog Sz Ψ (b.at (a' v) (.inRegion ops rest::kk)) cs w'):ae prog Sz Ψ (Ω.enter prog 8 #[.string ⟨⟨s⟩⟩,Γ Δ dp] .normal) (b.at a (.inRegion ops (i::rest)::kk)::cs) w:=
 ae.read qa dm λv w' h1=>by rw[hd,ha];exact h v w' h1
theorem b9.nil (w:Φ):b9 w 0 (.slice none 0 0) [] []:=⟨zcm _ _ _ _,rfl,λj x sv h=>by simp at h⟩
theorem bm.heap {w w' w'':Φ}(h:bm w w')(e:w''.heap=w'.heap):bm w w'':=⟨by rw[e];exact h.1,λr hr=>by rw[e];exact h.2 r hr⟩
theorem b9.heap {w w':Φ}{lo:Nat}{nv:Λ}{ay:List Λ}{nodes:List dF}(h:b9 w lo nv ay nodes)(e:w'.heap=w.heap):b9 w' lo nv ay nodes:=Ren.b9.keep h (zab _) λb c _=>by rw[e]
def xD (P:ζ)(S:Sd)(Ψ:dZ)(cs:List Ω)(v:Λ)(w:Φ):Prop:=∀(b0:Ω) (a0:Act) (fn:Func) (todo:List Item),b0.kind=.normal→a0.defers=[]→P.funcs[b0.fn]?=some fn→(results fn a0.tmps).run P w=.ok v w→ae P S Ψ (fJ b0 a0 todo) cs w
theorem xD.of {P:ζ}{F:θ→Bool}{S:Sd}{Ψ:dZ}{cs:List Ω}{v:Λ}{w:Φ}{b:Ω}{a:Act}{ops:Array Oper}{i:Nat}{rest:List Nat}{kk:List Item}(hC:kZ P F S)(h:ae P S Ψ (b.at (a.put ((ops[i]?).bind (·.dst)) v) (.inRegion ops rest::kk)) cs w):xD P S Ψ (b.at a (.inRegion ops (i::rest)::kk)::cs) v w:=λ_ _ _ _ hn hd hf hr=>ae.xo hC hn hd hf hr h
theorem ae.Bw {P:ζ}{S:Sd}{Ψ:dZ}{cs:List Ω}{v:Λ}{w:Φ}{b:Ω}{a:Act}{fn:Func}{todo:List Item}(hn:b.kind=.normal)(hd:a.defers=[])(hf:P.funcs[b.fn]?=some fn)(hr:(results fn a.tmps).run P w=.ok v w)(h:xD P S Ψ cs v w):ae P S Ψ (fJ b a todo) cs w:=h b a fn todo hn hd hf hr
section
variable {Ψ:dZ}{cs:List Ω}{w:Φ}{b:Ω}{a:Act}{ops:Array Oper}{i:Nat}{rest:List Nat}{kk:List Item}
theorem ae.adh {s:List UInt8}{dep:Int}(dm:∀dp:Nat,dep=dp→dp≤30→s.length≤400→om s dp)(h:∀v w',Bv s dep w v w'→xD prog Sz Ψ cs v w'):ae prog Sz Ψ (Ω.enter prog 5 #[.string ⟨⟨s⟩⟩,Γ Δ dep] .normal) cs w:=by
 have mixed:prog.follows Departure.mixedOrders=true:=by kernel_rfl
 have HH:Hid _:=h;have OC:Hid _:=dm;clear h dm;rw[Ua];refine ae.seq ?_;refine ae.code fX adf rfl ⟨_,OH⟩ rfl λτ d=>?_;have zN:Hid (bm w (w.re τ d)):=⟨zab _,λ_ _=>rfl⟩;generalize w.re τ d=w1 at *;generalize kX:([.code (.seq (VR Tryz.f5) (.seq (.region 3 (o5 Tryz.f5) false) (OG Tryz.f5)))]:List Item)=kq;dsimp only[c5a,c5,Ren.cY,Tryz.f5,Ξ];go_wp2_with fail;subst kX;show ae _ _ _ _ _ _;refine ae.seq ?_;by_cases fM:dep<0∨30<dep
 ·refine ae.code fX YX rfl ⟨_,OH⟩ rfl λτ d=>?_;have pS:Hid (bm w (w1.re τ d)):=bm.heap zN.out rfl;generalize w1.re τ d=w2 at *;generalize kX:([.code (.seq (.region 3 (o5 Tryz.f5) false) (OG Tryz.f5))]:List Item)=kq;dsimp only[VR,c5,Ren.cY,Ren.bS,Tryz.f5,Ξ];have OE:Hid (fE s dep=some ([],0,1)):=by show _=_;unfold fE;rw[zac fM]
  have fin:∀(tm:Array Λ) (todo:List Item),tm.getD 4 Θ=.slice none 0 0→tm.getD 5 Θ=Γ Δ 0→tm.getD 6 Θ=Γ Δ 1→ae prog Sz Ψ (fJ (base 5) ⟨tm,[]⟩ todo) cs w2:=λtm todo h4 h5 h6=>by
   refine ae.Bw rfl rfl OH ((results_tmp3 Ub _ _ _).trans (by rw[h4,h5,h6])) ?_;exact HH.out _ _ ⟨pS.out,[],0,1,_,[],OE.out,rfl,Ren.b9.nil _⟩
  have pC:Hid _:=fin;clear fin;by_cases Qw:dep<0
  ·go_wp2_with fail;show ∀todo,ae _ _ _ _ _ _;exact λtodo=>pC.out _ todo rfl rfl rfl
  ·have h30:30<dep:=fM.resolve_left Qw;go_wp2_with fail;show ∀todo,ae _ _ _ _ _ _;exact λtodo=>pC.out _ todo rfl rfl rfl
 ·obtain⟨dp,rfl⟩:∃dp:Nat,dep=dp:=⟨dep.toNat,by omega⟩;have qa:dp≤30:=by omega
  refine ae.code fX YX rfl ⟨_,OH⟩ rfl λτ d=>?_;have pS:Hid (bm w (w1.re τ d)):=bm.heap zN.out rfl;generalize w1.re τ d=w2 at *;generalize kX:([.code (.seq (.region 3 (o5 Tryz.f5) false) (OG Tryz.f5))]:List Item)=kq;dsimp only[VR,c5,Ren.cY,Ren.bS,Tryz.f5,Ξ];have hn:¬((dp:Int)<0):=by omega
  have Ov:¬((30:Int)<(dp:Int)):=by omega
  go_wp2_with fail;subst kX;show ae _ _ _ _ _ _;clear zN hn Ov fM;refine ae.seq ?_;refine ae.region ?_;rw[YZ,show List.range 9=[0,1,2,3,4,5,6,7,8] from rfl];refine ae.move' fX Y0 Y6 (by decide) Y3 Y9 (a':=⟨#[.string ⟨⟨s⟩⟩,Γ Δ dp,Θ,Θ,.slice none 0 0,Γ Δ 0,Γ Δ 0,Θ,Θ,Γ Δ dp,.bool false,.bool false,Γ Δ dp,.bool false,.bool false,Θ,.string ⟨⟨s⟩⟩,Θ,Θ,Θ,Θ,Θ,Θ,Θ,Θ,Θ,Θ,Θ,Θ,Θ,Θ,Θ,Θ,Θ,Θ],[]⟩) (by simp[Act.eval,Act.put]) ?_;refine ae.move' fX Y1 Y7 (by decide) Y4 Za (a':=⟨#[.string ⟨⟨s⟩⟩,Γ Δ dp,Θ,Θ,.slice none 0 0,Γ Δ 0,Γ Δ 0,Θ,Θ,Γ Δ dp,.bool false,.bool false,Γ Δ dp,.bool false,.bool false,Θ,.string ⟨⟨s⟩⟩,Γ Δ dp,Θ,Θ,Θ,Θ,Θ,Θ,Θ,Θ,Θ,Θ,Θ,Θ,Θ,Θ,Θ,Θ,Θ],[]⟩) (by simp[Act.eval,Act.put]) ?_;refine ae.xC (f:=8) (xs:=#[.tmp 16,.tmp 17]) (ats:=#[9,3]) (args:=#[.string ⟨⟨s⟩⟩,Γ Δ dp]) Y2 Y8 (by decide) Y5 bd8 nm8 (by simp[gN]) (by simp[Act.eval]) ?_;refine ae.Zc qa (OC.out dp rfl qa) Zb (a':=λv=>⟨#[.string ⟨⟨s⟩⟩,Γ Δ dp,Θ,Θ,.slice none 0 0,Γ Δ 0,Γ Δ 0,Θ,Θ,Γ Δ dp,.bool false,.bool false,Γ Δ dp,.bool false,.bool false,Θ,.string ⟨⟨s⟩⟩,Γ Δ dp,v,Θ,Θ,Θ,Θ,Θ,Θ,Θ,Θ,Θ,Θ,Θ,Θ,Θ,Θ,Θ,Θ],[]⟩) (λv=>by simp[Act.put]) λv w4 l9=>?_;clear OC;refine ae.ops fX rfl ⟨_,OH⟩ rfl adg 3 ((o5 Tryz.f5).toList.drop 3) (by rw[zan,zco,YZ];rfl) (λj=>by rw[zck,zcp]) λAJ d'=>?_;have hw:(w4.re AJ d').heap=w4.heap:=rfl;generalize w4.re AJ d'=w5 at *;have OI:Hid (bm w w5):=bm.heap (pS.out.trans l9.1) hw;have B6:Hid _:=hw;clear hw pS;obtain⟨-,⟨fb,e,at_,rfl,hf,Zd⟩|⟨ty,y,nv,ay,nodes,jZ,rfl,tP,Zd,-⟩⟩:=l9
  ·have HF:Hid (dK w5 fb e at_):=by show w5.heap[fb]?=_;rw[B6.out];exact hf
   have OE:Hid _:=Zd;clear hf Zd B6;generalize kX:([.code (OG Tryz.f5)]:List Item)=kq;dsimp only[o5,VS,c5,Ren.ib,Ren.cY,Ren.bS,Tryz.f5,Ξ];simp only[zca,zbJ];unfold ai;go_wp2_with fail;subst kX;show ae _ _ _ _ _ _;have Bu:Hid (bm w (w5.alloc Hy)):=OI.out.trans (bm.of ((zad _ _).alloc (zab _) _));have HF6:Hid (dK (w5.alloc Hy) fb e at_):=dK.alloc HF.out _;generalize w5.alloc Hy=w6 at *;refine ae.code fX YY rfl ⟨_,OH⟩ rfl λτ d=>?_;have MW:Hid (bm w (w6.re τ d)):=bm.heap Bu.out rfl;have HF7:Hid (dK (w6.re τ d) fb e at_):=HF6.out;generalize w6.re τ d=w7 at *;obtain⟨y0,y1⟩:w7.cell? ⟨fb,0,none⟩=some (Γ Δ e)∧w7.cell? ⟨fb,1,none⟩=some (Γ Δ at_):=by
    have hf:w7.heap[fb]?=_:=HF7.out;constructor<;>simp[Φ.cell?,hf]
   clear Bu HF6 HF OI;dsimp only[OG,VS,c5,Ren.cY,Ren.bS,Tryz.f5,Ξ];go_wp2_with fail;go_region;go_wp2_with fail;show ∀todo,ae _ _ _ _ _ _;intro todo;refine ae.Bw rfl rfl OH (results_tmp3 Ub _ _ _) ?_;exact HH.out _ _ ⟨bm.heap MW.out rfl,[],at_,e,_,[],OE.out,rfl,Ren.b9.nil _⟩
  ·have HN:Hid (b9 w5 0 nv ay nodes):=Ren.b9.heap tP B6.out;have OE:Hid _:=Zd;clear tP Zd B6;generalize kX:([.code (OG Tryz.f5)]:List Item)=kq;dsimp only[o5,VS,c5,Ren.ib,Ren.cY,Ren.bS,Tryz.f5,Ξ];simp only[zca,zbJ];obtain⟨na,nc,rfl⟩:=aw HN.out.1;go_wp2_with fail;subst kX;show ae _ _ _ _ _ _;have Bu:Hid (bm w (w5.alloc (.cells #[.iface ty y,.slice na nodes.length nc,Γ Δ jZ] 33))):=OI.out.trans (bm.of ((zad _ _).alloc (zab _) _));have HN6:Hid (b9 (w5.alloc (.cells #[.iface ty y,.slice na nodes.length nc,Γ Δ jZ] 33)) 0 (.slice na nodes.length nc) ay nodes):=Ren.b9.keep HN.out (zab _) λb c hb=>zaK _ _ _ (hb.elim (λq=>(zag.1 q).1) λq=>(zag.1 q).1);have VP:(w5.alloc (.cells #[.iface ty y,.slice na nodes.length nc,Γ Δ jZ] 33)).heap[w5.heap.size]?=some (.cells #[.iface ty y,.slice na nodes.length nc,Γ Δ jZ] 33):=zau w5 _;generalize w5.alloc (.cells #[.iface ty y,.slice na nodes.length nc,Γ Δ jZ] 33)=w6 at *;refine ae.code fX YY rfl ⟨_,OH⟩ rfl λτ d=>?_;have MW:Hid (bm w (w6.re τ d)):=bm.heap Bu.out rfl;have HN7:Hid (b9 (w6.re τ d) 0 (.slice na nodes.length nc) ay nodes):=Ren.b9.heap HN6.out rfl;have T9:(w6.re τ d).heap[w5.heap.size]?=some (.cells #[.iface ty y,.slice na nodes.length nc,Γ Δ jZ] 33):=VP;generalize w6.re τ d=w7 at *;obtain⟨z0,z1,z2⟩:=fh T9;clear Bu HN6 HN OI VP T9;dsimp only[OG,VS,c5,Ren.cY,Ren.bS,Tryz.f5,Ξ];go_wp2_with fail;go_region;go_wp2_with fail;show ∀todo,ae _ _ _ _ _ _;intro todo;refine ae.Bw rfl rfl OH (results_tmp3 Ub _ _ _) ?_;exact HH.out _ _ ⟨bm.heap MW.out rfl,nodes,jZ,0,_,ay,OE.out,rfl,Ren.b9.heap HN7.out rfl⟩
theorem ae.top {s:List UInt8}{dep:Int}(dm:∀dp:Nat,dep=dp→dp≤30→s.length≤400→om s dp)(h:∀v w',Bv s dep w v w'→ae prog Sz Ψ (b.at (a.put ((ops[i]?).bind (·.dst)) v) (.inRegion ops rest::kk)) cs w'):ae prog Sz Ψ (Ω.enter prog 5 #[.string ⟨⟨s⟩⟩,Γ Δ dep] .normal) (b.at a (.inRegion ops (i::rest)::kk)::cs) w:=
 ae.adh dm λv w' hp=>xD.of fX (h v w' hp)
end
end Go.Ren
