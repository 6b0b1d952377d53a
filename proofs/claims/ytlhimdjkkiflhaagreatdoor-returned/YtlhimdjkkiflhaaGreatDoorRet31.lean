import Derived.Test.YtlhimdjkkiflhaaGreatDoorRet30
set_option maxHeartbeats 8000000
set_option maxRecDepth 100000
open Go.Value renaming int→Γ
open Go.IntKind renaming i64→Δ
open Go renaming undef→Θ,Value→Λ,World→Φ,Frame→Ω,Program→ζ,TypeId→η,FuncId→θ
open Option renaming getD→Ξ
namespace Go.Ren
open Go.Proofs.Tryz
open Go Go.Conc Go.ConcX Go.RowKit Go.Proofs Go.Loop Go.Proofs.YtlhimdjkkiflhaaGreatDoor
abbrev Kw:Obj:= .cells #[.nilIface,.slice none 0 0,Γ Δ 0] 60
theorem len8:(o8 f25).size=11:=by kernel_rfl
theorem Dk {w1:Φ}{b:Nat}{x0 x1 x2:Λ}{e:η}(h:w1.heap[b]?=some (.cells #[x0,x1,x2] e)):(w1.frozen? ⟨b,0,none⟩=false∧w1.frozen? ⟨b,1,none⟩=false∧w1.frozen? ⟨b,2,none⟩=false):=by
 refine⟨?_,?_,?_⟩<;>simp[Φ.frozen?,h]
theorem aa.lY {P:ζ}{S:Sd}{Ψ:dn}{b:Ω}{a:Act}{cs:List Ω}{w:Φ}{ops:Array Oper}{i:Nat}{rest:List Nat}{o:Oper}{kk:List Item}(ho:ops[i]?=some o)(hw:o.guard=none)(hk:b.kind≠.early){f:θ}{xs:Array Operand}{ats:Array η}(hop:o.op=.call { callee:= .value (.func f),args:=xs,argTypes:=ats })
 (vL:(P.funcs[f]?).any (λfn=>fn.body.isSome)=true)(OG:(P.funcs[f]?).any (λfn=>fn.name != "runtime.NumGoroutine")=true)(hx:xs.all (gD S)=true){args:Array Λ}(abg:xs.map a.eval=args)
 (h:aa P S Ψ (Ω.enter P f args .normal) (b.at a (.inRegion ops (i::rest)::kk)::cs) w):aa P S Ψ (b.at a (.inRegion ops (i::rest)::kk)) cs w:=by
 subst abg;exact aa.enter ho (by simp[Region.wanted,hw]) hk hop vL OG hx h
theorem aa.move' {P:ζ}{F:θ→Bool}{S:Sd}{Ψ:dn}{b:Ω}{a:Act}{cs:List Ω}{w:Φ}{ops:Array Oper}{i:Nat}{rest:List Nat}{o:Oper}{kk:List Item}(hC:lp P F S)(ho:ops[i]?=some o)(hw:o.guard=none)(hk:b.kind≠.early){t d:Tmp}(hop:o.op=.move (.tmp t))(hd:o.dst=some d){a':Act}(ha:a.put (some d) (a.eval (.tmp t))=a')
 (h:aa P S Ψ (b.at a' (.inRegion ops rest::kk)) cs w):aa P S Ψ (b.at a (.inRegion ops (i::rest)::kk)) cs w:=by
 subst ha;refine aa.JU hC (by rw[hop];rfl) ho (by simp[Region.wanted,hw]) hk λτ dd=>⟨a.eval (.tmp t),w.re τ dd,?_,?_⟩
 ·simp[execOp,hop]
 ·rw[hd];exact h.re rfl
theorem aa.UI {Ψ:dn}{cs:List Ω}{w:Φ}{b:Ω}{a:Act}{ops:Array Oper}{i:Nat}{rest:List Nat}{kk:List Item}{s:List UInt8}(hlen:s.length≤1000){d:Tmp}(hd:(ops[i]?).bind (·.dst)=some d){a':Λ→Act}(ha:∀v,a.put (some d) v=a' v)(h:∀v w',Below w.heap.size w w'→w'.ownsRow w.heap.size 131 7 v (aw (s.length+1) s 0).length ((aw (s.length+1) s 0).flatMap iR)→aa prog Sz Ψ (b.at (a' v) (.inRegion ops rest::kk)) cs w'):aa prog Sz Ψ (Ω.enter prog 43 #[.string ⟨⟨s⟩⟩] .normal) (b.at a (.inRegion ops (i::rest)::kk)::cs) w:=
 aa.YI hlen λv w' h1 h2=>by rw[hd,ha];exact h v w' h1 h2
theorem Dm {w:Φ}{b:Nat}{y0 y1 y2:Λ}{e:η}(h:w.heap[b]?=some (.cells #[y0,y1,y2] e))(x0 x1 x2:Λ):(((w.setCell ⟨b,0,none⟩ x0).setCell ⟨b,1,none⟩ x1).setCell ⟨b,2,none⟩ x2).heap[b]?=some (.cells #[x0,x1,x2] e):=by
 have h1:=eE h 0 x0;have h2:=eE h1 1 x1;have h3:=eE h2 2 x2;simpa using h3
theorem wR {w:Φ}{b c:Nat}(h:c≠b)(x0 x1 x2:Λ):(((w.setCell ⟨b,0,none⟩ x0).setCell ⟨b,1,none⟩ x1).setCell ⟨b,2,none⟩ x2).heap[c]?=w.heap[c]?:=
 (zax _ _ _ _ h).trans ((zax _ _ _ _ h).trans (zax _ _ _ _ h))
theorem BM (w:Φ)(b:Nat)(x0 x1 x2:Λ):(((w.setCell ⟨b,0,none⟩ x0).setCell ⟨b,1,none⟩ x1).setCell ⟨b,2,none⟩ x2).heap.size=w.heap.size:=by simp
theorem Qg {w w3:Φ}(hb:aq w w3){y0 y1 y2:Λ}{e:η}(_h:w3.heap[w.heap.size]?=some (.cells #[y0,y1,y2] e))(x0 x1 x2:Λ):aq w (((w3.setCell ⟨w.heap.size,0,none⟩ x0).setCell ⟨w.heap.size,1,none⟩ x1).setCell ⟨w.heap.size,2,none⟩ x2):=
 ⟨by rw[BM];exact hb.1,λr hr=>(wR (by omega) _ _ _).trans (hb.2 r hr)⟩
theorem Qh {w w3:Φ}(hb:aq w w3){y0 y1 y2:Λ}{e:η}(h:w3.heap[w.heap.size]?=some (.cells #[y0,y1,y2] e))(x0 x1 x2:Λ)(o:Obj):aq w ((((w3.setCell ⟨w.heap.size,0,none⟩ x0).setCell ⟨w.heap.size,1,none⟩ x1).setCell ⟨w.heap.size,2,none⟩ x2).alloc o)∧((((w3.setCell ⟨w.heap.size,0,none⟩ x0).setCell ⟨w.heap.size,1,none⟩ x1).setCell ⟨w.heap.size,2,none⟩ x2).alloc o).heap[w.heap.size]?=some (.cells #[x0,x1,x2] e)∧((((w3.setCell ⟨w.heap.size,0,none⟩ x0).setCell ⟨w.heap.size,1,none⟩ x1).setCell ⟨w.heap.size,2,none⟩ x2).alloc o).heap[w3.heap.size]?=some o:=by
 have h1:=Qg hb h x0 x1 x2;have h2:=Dm h x0 x1 x2;have h3:=BM w3 w.heap.size x0 x1 x2;generalize ((w3.setCell ⟨w.heap.size,0,none⟩ x0).setCell ⟨w.heap.size,1,none⟩ x1).setCell ⟨w.heap.size,2,none⟩ x2=w5 at *;refine⟨h1.trans (aq.of ((zad _ _).alloc (zac _) _)),(zaT _ _ _ (zaj.1 h2).1).trans h2,?_⟩;rw[←h3];exact zav w5 o
theorem b9.keep {w w':Φ}{lo Fp:Nat}{nv:Λ}{bN:List Λ}{nodes:List eO}(h:b9 w lo nv bN nodes)(hl:Fp≤lo)(hw:∀(b:Nat) c,w.heap[b]?=some (.cells c 45)∨w.heap[b]?=some (.cells c 3)→w'.heap[b]?=w.heap[b]?):b9 w' Fp nv bN nodes:=by
 refine⟨⟨h.1.1,h.1.2.imp id ?_⟩,h.2.1,λj x sv hx rM=>?_⟩
 ·rintro ⟨b,cp,cur,q1,q2,q3,q4⟩;exact⟨b,cp,cur,q1,by omega,(hw b _ (.inl q3)).trans q3,q4⟩
 ·rcases h.2.2 j x sv hx rM with q|⟨b,q1,q2,q3⟩
  ·exact .inl q
  ·exact .inr ⟨b,q1,by omega,(hw b _ (.inr q3)).trans q3⟩
theorem b9.adO {w:Φ}{lo:Nat}{nv:Λ}{bN:List Λ}{nodes:List eO}(h:b9 w lo nv bN nodes){b:Nat}{y0 y1 y2:Λ}(hb:w.heap[b]?=some (.cells #[y0,y1,y2] 60))(x0 x1 x2:Λ):b9 (((w.setCell ⟨b,0,none⟩ x0).setCell ⟨b,1,none⟩ x1).setCell ⟨b,2,none⟩ x2) 0 nv bN nodes:=
 Ren.b9.keep h (zaq _) λc cc hc=>wR (λe=>by
  rw[e,hb]at hc;rcases hc with hc|hc<;>simp at hc) _ _ _
theorem IW {s:List UInt8}{dp:Nat}(qz:dp≤30)(h:400<s.length):cS s dp=some ([],0,2):=by
 unfold cS;rw[zaa (by omega),zab h]
theorem vp {s:List UInt8}{dp:Nat}(qz:dp≤30)(h:¬400<s.length):cS s dp=match ay (aw (s.length+1) s 0) dp 2000 ⟨0,false,[]⟩ ⟨0,0,[]⟩with
 |.out=>none
 |.fail e a=>some ([],a,e)
 |.ok d s'=>(ie d 100000 d ⟨[],[]⟩).map λg=>if 150<g.2.nodes.length then([],0,2)else(g.2.nodes,(((aw (s.length+1) s 0)[s'.k-1]?).map (·.gw)).getD 0,0):=by
 unfold cS;rw[zaa (by omega),zaa h,zbn];cases ay (aw (s.length+1) s 0) dp 2000 ⟨0,false,[]⟩ ⟨0,0,[]⟩<;>rfl
def Y3 (f:Func)(i:Nat):Oper:=(o8 f)[i]!
theorem abh:(o8 f25)[0]?=some (Y3 f25 0):=by kernel_rfl
theorem abi:(o8 f25)[1]?=some (Y3 f25 1):=by kernel_rfl
theorem abj:(Y3 f25 0).op=.move (.tmp 0):=by kernel_rfl
theorem abk:(Y3 f25 1).op=.call { callee:= .value (.func 43),args:=#[.tmp 17],argTypes:=#[9] }:=by kernel_rfl
theorem abl:(Y3 f25 0).guard=none:=by kernel_rfl
theorem abm:(Y3 f25 1).guard=none:=by kernel_rfl
theorem abn:(Y3 f25 0).dst=some 17:=by kernel_rfl
theorem abo:((o8 f25)[1]?).bind (·.dst)=some 18:=by kernel_rfl
theorem adP:([2,3,4,5,6,7,8,9,10].all λi=>((o8 f25)[i]?).all λo=>fo prog Fz Sz o.op)=true:=by kernel_rfl
theorem adQ:(prog.funcs[43]?).any (λfn=>fn.body.isSome)=true:=by kernel_rfl
theorem adR:(prog.funcs[43]?).any (λfn=>fn.name != "runtime.NumGoroutine")=true:=by kernel_rfl
theorem adS:f25.results=#[.cell 4 60,.tmp 5]:=by kernel_rfl
theorem sU {W:Φ}{R:Nat}{x0 x1 x2 fv:Λ}{tmps:Array Λ}(h4:tmps.getD 4 Θ=.pointer (some ⟨R,0,none⟩))(h5:tmps.getD 5 Θ=fv)(h:W.heap[R]?=some (.cells #[x0,x1,x2] 60)):(results f25 tmps).run prog W=.ok (.tuple #[.agg #[x0,x1,x2],fv]) W:=by
 rw[results_cell_tmp adS,h4,h5];obtain⟨z0,z1,z2⟩:=fG h;have h1:(loadVar 60 ⟨R,0,none⟩).run prog W=.ok (.agg #[x0,x1,x2]) W:=by
  go_simp
 simp[asAddr,h1]
section
variable {Ψ:dn}{cs:List Ω}{w:Φ}{b:Ω}{a:Act}{ops:Array Oper}{i:Nat}{rest:List Nat}{kk:List Item}
theorem aa.read {s:List UInt8}{dp:Nat}(qz:dp≤30)(dh:s.length≤400→mA s dp)(h:∀v w',FT s dp w v w'→aa prog Sz Ψ (b.at (a.put ((ops[i]?).bind (·.dst)) v) (.inRegion ops rest::kk)) cs w'):aa prog Sz Ψ (Ω.enter prog 25 #[.string ⟨⟨s⟩⟩,Γ Δ dp] .normal) (b.at a (.inRegion ops (i::rest)::kk)::cs) w:=by
 have HH:Hid _:=h;have SY:Hid _:=dh;clear h dh;rw[Y0];refine aa.seq ?_;refine aa.code dS adN rfl ⟨_,Qf⟩ rfl λτ d=>?_;have hw:(w.re τ d).heap=w.heap:=rfl;generalize w.re τ d=w1 at *;generalize eF:([.code (.seq (c8b f25) (.seq (.region 3 (o8 f25) false) (UG f25)))]:List Item)=kq;dsimp only[c8a,c8,Ren.cj,f25,Ξ];go_wp2_with fail;subst eF;show aa _ _ _ _ _ _;have iB:Hid (aq w (w1.alloc Kw)):=⟨by rw[←hw];simp,λr hr=>by rw[←hw]at hr ⊢;exact zaT _ _ _ hr⟩;have hR2:(w1.alloc Kw).heap[w.heap.size]?=some Kw:=by rw[←hw];exact zav w1 _
 generalize hw2:w1.alloc Kw=w2 at *;clear hw2 hw;refine aa.seq ?_;by_cases cV:400<s.length
 ·refine aa.code dS abe rfl ⟨_,Qf⟩ rfl λτ d=>?_;have hw:(w2.re τ d).heap=w2.heap:=rfl;generalize w2.re τ d=w3 at *;have UJ:w3.heap[w.heap.size]?=some Kw:=by rw[hw];exact hR2
  obtain⟨z0,z1,z2⟩:=fG UJ;obtain⟨f0,f1,f2⟩:=Dk UJ;have e2:w.heap.size<w3.heap.size:=(zaj.1 UJ).1;have e1:¬w.heap.size=w3.heap.size:=by omega
  have HW:Hid _:=hw;have P3:Hid _:=UJ;clear hw UJ hR2;have hlI:(400:Int)<(s.length:Int):=by omega
  generalize eF:([.code (.seq (.region 3 (o8 f25) false) (UG f25))]:List Item)=kq;dsimp only[c8b,c8,Ren.cj,Ren.bM,f25,Ξ];go_wp2_with fail;show ∀todo,aa _ _ _ _ _ _;intro todo;have hb3:aq w w3:=⟨by rw[HW.out];exact iB.out.1,λr hr=>by rw[HW.out];exact iB.out.2 r hr⟩;obtain⟨q1,q2,q3⟩:=Qh hb3 P3.out .nilIface (.slice none 0 0) (Γ Δ 0) (.cells #[Γ Δ 2,Γ Δ 0] 65);refine aa.yD dS rfl rfl Qf (sU rfl rfl q2) ?_;exact HH.out _ _ ⟨q1,.inl ⟨w3.heap.size,2,0,rfl,q3,IW qz cV⟩⟩
 ·refine aa.code dS abe rfl ⟨_,Qf⟩ rfl λτ d=>?_;have hw:(w2.re τ d).heap=w2.heap:=rfl;generalize w2.re τ d=w3 at *;have hlI:¬((400:Int)<(s.length:Int)):=by omega
  generalize eF:([.code (.seq (.region 3 (o8 f25) false) (UG f25))]:List Item)=kq;dsimp only[c8b,c8,Ren.cj,Ren.bM,f25,Ξ];go_wp2_with fail;subst eF;show aa _ _ _ _ _ _;have iT:Hid (aq w w3):=⟨by rw[hw];exact iB.out.1,λr hr=>by rw[hw];exact iB.out.2 r hr⟩;have UJ:w3.heap[w.heap.size]?=some Kw:=by rw[hw];exact hR2
  clear hw iB hR2 hlI;refine aa.seq ?_;refine aa.region ?_;rw[len8,show List.range 11=[0,1,2,3,4,5,6,7,8,9,10] from rfl];refine aa.move' dS abh abl (by decide) abj abn (a':=⟨#[.string ⟨⟨s⟩⟩,Γ Δ dp,Θ,Θ,.pointer (some ⟨w.heap.size,0,none⟩),.pointer none,Θ,Θ,Θ,Θ,.string ⟨⟨s⟩⟩,Γ Δ s.length,.bool false,Θ,Θ,Θ,Θ,.string ⟨⟨s⟩⟩,Θ,Θ,Θ,Θ,Θ,Θ,Θ,Θ,Θ,Θ,Θ,Θ,Θ,Θ,Θ,Θ,Θ,Θ,Θ,Θ,Θ,Θ],[]⟩) (by simp[Act.eval,Act.put]) ?_;refine aa.lY (f:=43) (xs:=#[.tmp 17]) (ats:=#[9]) (args:=#[.string ⟨⟨s⟩⟩]) abi abm (by decide) abk adQ adR (by simp[gD]) (by simp[Act.eval]) ?_;refine aa.UI (by omega) abo (a':=λv=>⟨#[.string ⟨⟨s⟩⟩,Γ Δ dp,Θ,Θ,.pointer (some ⟨w.heap.size,0,none⟩),.pointer none,Θ,Θ,Θ,Θ,.string ⟨⟨s⟩⟩,Γ Δ s.length,.bool false,Θ,Θ,Θ,Θ,.string ⟨⟨s⟩⟩,v,Θ,Θ,Θ,Θ,Θ,Θ,Θ,Θ,Θ,Θ,Θ,Θ,Θ,Θ,Θ,Θ,Θ,Θ,Θ,Θ,Θ],[]⟩) (λv=>by simp[Act.put]) λv w4 hb4 hrow=>?_;have hlen:=pO (s.length+1) s 0;obtain⟨YZ,hT⟩:=lF (s.length+1) s 0 (zaq _) (by omega);obtain⟨g,cap,rfl⟩:∃g cap,v=.slice (some ⟨g,0,none⟩) (aw (s.length+1) s 0).length cap:=by
   rcases hrow.2 with⟨_,h0⟩|⟨g,cap,cur,e,_⟩
   ·exact absurd (zcf h0) YZ
   ·exact⟨g,cap,e⟩
  refine aa.ops dS rfl ⟨_,Qf⟩ rfl adP 2 ((o8 f25).toList.drop 2) (by rw[zau,zbL,len8];rfl) (λj=>by rw[zbM,zbz]) λlq d'=>?_;have qJ:Hid (aq w w4):=iT.out.trans ⟨hb4.size,hb4.block⟩;have hR4:w4.heap[w.heap.size]?=some Kw:=(hb4.block _ (zaj.1 UJ).1).trans UJ;have hw:(w4.re lq d').heap=w4.heap:=rfl;have ku:Hid ((w4.re lq d').ownsRow 0 131 7 (.slice (some ⟨g,0,none⟩) (aw (s.length+1) s 0).length cap) (aw (s.length+1) s 0).length ((aw (s.length+1) s 0).flatMap iR)):=bC (w:=w4) hrow (zaq _) λ_ _ _=>rfl;generalize w4.re lq d'=w5 at *;have Y5:=(fuel (aw (s.length+1) s 0) dp hT 2000).datum ⟨0,false,[]⟩ ⟨0,0,[]⟩ (zbT.2 YZ) (by show 2*((aw (s.length+1) s 0).length - 0)+2≤2000;omega);have HC:Hid _:=FR (aw (s.length+1) s 0) dp g cap (λh=>(SY.out (by omega)).2.1 h g cap) (λh=>(SY.out (by omega)).2.2 h g cap) w5 qz hT YZ (by omega) ku.out;have HLO:Hid (w.heap.size<w5.heap.size):=by show _<_;rw[hw];exact(zaj.1 hR4).1
  clear hrow hb4 iT UJ ku hT YZ;have vn:Hid _:=hw;clear hw;generalize eF:([.code (UG f25)]:List Item)=kq;dsimp only[o8,c8c,c8,Ren.bz,Ren.cj,Ren.bM,f25,Ξ];simp only[zbC,zbu];go_wp2_with fail;refine zai HC.out ?_;clear HC;rintro e w6 ⟨nX,gC⟩;have vS:Hid (aq w w6):=qJ.out.trans (aq.trans ⟨by rw[vn.out];exact zac _,λr _=>by rw[vn.out]⟩ (aq.of nX));have hR6:w6.heap[w.heap.size]?=some Kw:=(nX.block _ (by rw[vn.out];exact(zaj.1 hR4).1)).trans (by rw[vn.out];exact hR4);have YN:Hid _:=hR6;clear nX qJ vn hR4;cases eK:ay (aw (s.length+1) s 0) dp 2000 ⟨0,false,[]⟩ ⟨0,0,[]⟩with
  |out=>rw[eK]at Y5;exact Y5.elim
  |fail er at_=>
   rw[eK]at gC;obtain⟨fb,rfl,Qi⟩:=gC;have HF:Hid _:=Qi;have SZ:Hid (cS s dp=some ([],at_,er)):=by show _=_;rw[vp qz cV,eK]
   clear Qi Y5 eK hR6;unfold aC;go_wp2_with fail;subst eF;show aa _ _ _ _ _ _;refine aa.code dS abf rfl ⟨_,Qf⟩ rfl λτ d=>?_;have hw:(w6.re τ d).heap=w6.heap:=rfl;generalize w6.re τ d=w7 at *;have Y6:w7.heap[w.heap.size]?=some Kw:=by rw[hw];exact YN.out
   obtain⟨z0,z1,z2⟩:=fG Y6;obtain⟨f0,f1,f2⟩:=Dk Y6;have HW:Hid _:=hw;have Us:Hid _:=Y6;clear hw Y6;dsimp only[UG,c8c,c8,Ren.cj,Ren.bM,f25,Ξ];go_wp2_with fail;show ∀todo,aa _ _ _ _ _ _;intro todo;have DT:aq w w7:=⟨by rw[HW.out];exact vS.out.1,λr hr=>by rw[HW.out];exact vS.out.2 r hr⟩;have q1:=Qg DT Us.out .nilIface (.slice none 0 0) (Γ Δ 0);have q2:=Dm Us.out .nilIface (.slice none 0 0) (Γ Δ 0);have q3:dQ (((w7.setCell ⟨w.heap.size,0,none⟩ .nilIface).setCell ⟨w.heap.size,1,none⟩ (.slice none 0 0)).setCell ⟨w.heap.size,2,none⟩ (Γ Δ 0)) fb er at_:=by
    have hf:w6.heap[fb]?=_:=HF.out;refine(wR (λe=>?_) _ _ _).trans (by rw[HW.out];exact hf);rw[e,YN.out]at hf;simp at hf
   refine aa.yD dS rfl rfl Qf (sU rfl rfl q2) ?_;exact HH.out _ _ ⟨q1,.inl ⟨fb,er,at_,rfl,q3,SZ.out⟩⟩
  |ok d0 s'=>
   rw[eK]at gC;obtain⟨v,E',t,ht,rfl,⟨ty,y,rfl⟩,cK,yK,-⟩:=gC;obtain⟨hgd,k0,g0,cO,SH⟩:=(SY.out (by omega)).1 d0 s' eK;have SZ:Hid (cS s dp=if 150<g0.nodes.length then some ([],0,2)else some (g0.nodes,t.gw,0)):=by
    show _=_;rw[vp qz cV,eK];simp only[cO,zbp,ht,zbg];split<;>rfl
   have HD:Hid _:=cK;have HI:Hid _:=yK;have HGB:Hid _:=hgd;have HNM:Hid _:=cO;have NL:Hid _:=eK;have afx:w.heap.size<w5.heap.size:=HLO.out;clear cK yK hgd cO Y5 eK hR6 ht HLO;go_wp2_with fail;subst eF;show aa _ _ _ _ _ _;refine aa.code dS abf rfl ⟨_,Qf⟩ rfl λτ d=>?_;have hw:(w6.re τ d).heap=w6.heap:=rfl;generalize w6.re τ d=w7 at *;have HD7:Hid (ct w5.heap.size s'.fresh s'.ak w7 E' d0 (.iface ty y)):=ct.keep (w:=w6) (w':=w7) (zac _) (zac _) (λ_ h=>h) (λb _ _=>by rw[hw]) ⟨λ_ _=>rfl,λ_ _=>rfl⟩ d0 _ HD.out;have HGC:Hid _:=FQ w7 d0 (.iface ty y) (ct.keep (w:=w6) (w':=w7) (zac _) (zac _) (λ_ h=>h) (λb _ _=>by rw[hw]) ⟨λ_ _=>rfl,λ_ _=>rfl⟩ d0 _ HD.out) HGB.out HI.out 100000 k0 g0 HNM.out SH;have yQ:Hid (aq w w7):=⟨by rw[hw];exact vS.out.1,λr hr=>by rw[hw];exact vS.out.2 r hr⟩;have Us:Hid (w7.heap[w.heap.size]?=some Kw):=by show _=_;rw[hw];exact YN.out
   clear hw HD HNM vS YN;dsimp only[UG,c8c,c8,Ren.cj,Ren.bM,f25,Ξ];go_wp2_with fail;refine zai HGC.out ?_;clear HGC;rintro e w8 ⟨nv,bN,rfl,uC,hb8⟩;obtain⟨na,nc,rfl⟩:=bD uC.1;have hR8:w8.heap[w.heap.size]?=some Kw:=(hb8.block _ (zaj.1 Us.out).1).trans Us.out;have S0:Hid (aq w w8):=yQ.out.trans (aq.of hb8);have HN8:Hid _:=uC;have HD8:Hid (ct w5.heap.size s'.fresh s'.ak w8 E' d0 (.iface ty y)):=ct.keep (w:=w7) (w':=w8) (zac _) (zac _) (λ_ h=>h) (λb _ h=>hb8.block b h) ⟨λ_ _=>rfl,λ_ _=>rfl⟩ d0 _ HD7.out;have HR8:Hid _:=hR8;obtain⟨z0,z1,z2⟩:=fG hR8;obtain⟨f0,f1,f2⟩:=Dk hR8;have e2:w.heap.size<w8.heap.size:=(zaj.1 hR8).1;have e1:¬w.heap.size=w8.heap.size:=by omega
   clear hb8 uC hR8 yQ Us;by_cases Xp:150<g0.nodes.length
   ·have hmI:(150:Int)<(g0.nodes.length:Int):=by omega
    go_wp2_with fail;show ∀todo,aa _ _ _ _ _ _;intro todo;obtain⟨q1,q2,q3⟩:=Qh S0.out HR8.out .nilIface (.slice none 0 0) (Γ Δ 0) (.cells #[Γ Δ 2,Γ Δ 0] 65);refine aa.yD dS rfl rfl Qf (sU rfl rfl q2) ?_;exact HH.out _ _ ⟨q1,.inl ⟨w8.heap.size,2,0,rfl,q3,by rw[SZ.out,zab Xp]⟩⟩
   ·have hmI:¬((150:Int)<(g0.nodes.length:Int)):=by omega
    go_wp2_with fail;show ∀todo,aa _ _ _ _ _ _;intro todo;have q1:=Qg S0.out HR8.out (.iface ty y) (.slice na g0.nodes.length nc) (Γ Δ t.gw);have q2:=Dm HR8.out (.iface ty y) (.slice na g0.nodes.length nc) (Γ Δ t.gw);have q3:=b9.adO HN8.out HR8.out (.iface ty y) (.slice na g0.nodes.length nc) (Γ Δ t.gw);refine aa.yD dS rfl rfl Qf (sU rfl rfl q2) ?_;exact HH.out _ _ ⟨q1,.inr ⟨ty,y,.slice na g0.nodes.length nc,bN,g0.nodes,t.gw,rfl,q3,by rw[SZ.out,zaa Xp],_,_,_,_,_,_,NL.out,ct.keep (w:=w8) (zac _) (zac _) (λ_ h=>h) (λb h _=>wR (by omega) _ _ _) ⟨λ_ _=>rfl,λ_ _=>rfl⟩ d0 _ HD8.out,HI.out,HGB.out⟩⟩
end
def c5 (f:Func):Code:=f.body.getD .skip
def c5a (f:Func):Code:=Ren.cj (c5 f)
def c5b (f:Func):Code:=Ren.cj (Ren.bM (c5 f))
def c5c (f:Func):Code:=Ren.bM (Ren.bM (c5 f))
def o5 (f:Func):Array Oper:=Ren.bz (Ren.cj (c5c f))
def S1 (f:Func):Code:=Ren.bM (c5c f)
theorem S2:prog.funcs[18]?=some f18:=by kernel_rfl
theorem abp:f18.body=some (.seq (c5a f18) (.seq (c5b f18) (.seq (.region 3 (o5 f18) false) (S1 f18)))):=by kernel_rfl
theorem nt5:f18.ntmps=35:=by kernel_rfl
theorem t35 (x y:Λ):(#[x,y]++Array.replicate (35-#[x,y].size) Θ:Array Λ)=#[x,y,Θ,Θ,Θ,Θ,Θ,Θ,Θ,Θ,Θ,Θ,Θ,Θ,Θ,Θ,Θ,Θ,Θ,Θ,Θ,Θ,Θ,Θ,Θ,Θ,Θ,Θ,Θ,Θ,Θ,Θ,Θ,Θ,Θ]:=by
 generalize Θ=u;simp[Array.replicate,List.replicate]
theorem Y7 (x y:Λ):Ω.enter prog 18 #[x,y] .normal=(base 18).at ⟨#[x,y,Θ,Θ,Θ,Θ,Θ,Θ,Θ,Θ,Θ,Θ,Θ,Θ,Θ,Θ,Θ,Θ,Θ,Θ,Θ,Θ,Θ,Θ,Θ,Θ,Θ,Θ,Θ,Θ,Θ,Θ,Θ,Θ,Θ],[]⟩ [.code (.seq (c5a f18) (.seq (c5b f18) (.seq (.region 3 (o5 f18) false) (S1 f18))))]:=by
 rw[enter_at _ S2 abp,nt5,t35]
theorem adT:bB prog Fz Sz (c5a f18)=true:=by kernel_rfl
theorem abq:bB prog Fz Sz (c5b f18)=true:=by kernel_rfl
theorem abr:bB prog Fz Sz (S1 f18)=true:=by kernel_rfl
theorem abt:(o5 f18).size=9:=by kernel_rfl
def Qj (f:Func)(i:Nat):Oper:=(o5 f)[i]!
theorem abu:(o5 f18)[0]?=some (Qj f18 0):=by kernel_rfl
theorem abv:(o5 f18)[1]?=some (Qj f18 1):=by kernel_rfl
theorem abw:(o5 f18)[2]?=some (Qj f18 2):=by kernel_rfl
theorem abx:(Qj f18 0).op=.move (.tmp 0):=by kernel_rfl
theorem aby:(Qj f18 1).op=.move (.tmp 1):=by kernel_rfl
theorem abz:(Qj f18 2).op=.call { callee:= .value (.func 25),args:=#[.tmp 16,.tmp 17],argTypes:=#[9,3] }:=by kernel_rfl
theorem abA:(Qj f18 0).guard=none:=by kernel_rfl
theorem abB:(Qj f18 1).guard=none:=by kernel_rfl
theorem abC:(Qj f18 2).guard=none:=by kernel_rfl
theorem abD:(Qj f18 0).dst=some 16:=by kernel_rfl
theorem abE:(Qj f18 1).dst=some 17:=by kernel_rfl
theorem abF:((o5 f18)[2]?).bind (·.dst)=some 18:=by kernel_rfl
theorem adU:([3,4,5,6,7,8].all λi=>((o5 f18)[i]?).all λo=>fo prog Fz Sz o.op)=true:=by kernel_rfl
theorem bd8:(prog.funcs[25]?).any (λfn=>fn.body.isSome)=true:=by kernel_rfl
theorem nm8:(prog.funcs[25]?).any (λfn=>fn.name != "runtime.NumGoroutine")=true:=by kernel_rfl
theorem Y8:f18.results=#[.tmp 4,.tmp 5,.tmp 6]:=by kernel_rfl
def sV (s:List UInt8)(dep:Int)(w:Φ)(v:Λ)(w':Φ):Prop:=
 aq w w'∧∃nodes at_ e nv bN,cS s dep=some (nodes,at_,e)∧v=.tuple #[nv,Γ Δ (at_:Nat),Γ Δ e]∧b9 w' 0 nv bN nodes
theorem aa.abG {Ψ:dn}{cs:List Ω}{w:Φ}{b:Ω}{a:Act}{ops:Array Oper}{i:Nat}{rest:List Nat}{kk:List Item}{s:List UInt8}{dp:Nat}(qz:dp≤30)(dh:s.length≤400→mA s dp){d:Tmp}(hd:(ops[i]?).bind (·.dst)=some d){a':Λ→Act}(ha:∀v,a.put (some d) v=a' v)(h:∀v w',FT s dp w v w'→aa prog Sz Ψ (b.at (a' v) (.inRegion ops rest::kk)) cs w'):aa prog Sz Ψ (Ω.enter prog 25 #[.string ⟨⟨s⟩⟩,Γ Δ dp] .normal) (b.at a (.inRegion ops (i::rest)::kk)::cs) w:=
 aa.read qz dh λv w' h1=>by rw[hd,ha];exact h v w' h1
theorem b9.nil (w:Φ):b9 w 0 (.slice none 0 0) [] []:=⟨zck _ _ _ _,rfl,λj x sv h=>by simp at h⟩
theorem aq.heap {w w' w'':Φ}(h:aq w w')(e:w''.heap=w'.heap):aq w w'':=⟨by rw[e];exact h.1,λr hr=>by rw[e];exact h.2 r hr⟩
theorem b9.heap {w w':Φ}{lo:Nat}{nv:Λ}{bN:List Λ}{nodes:List eO}(h:b9 w lo nv bN nodes)(e:w'.heap=w.heap):b9 w' lo nv bN nodes:=Ren.b9.keep h (zac _) λb c _=>by rw[e]
def qL (P:ζ)(S:Sd)(Ψ:dn)(cs:List Ω)(v:Λ)(w:Φ):Prop:=∀(b0:Ω) (a0:Act) (fn:Func) (todo:List Item),b0.kind=.normal→a0.defers=[]→P.funcs[b0.fn]?=some fn→(results fn a0.tmps).run P w=.ok v w→aa P S Ψ (gA b0 a0 todo) cs w
theorem qL.of {P:ζ}{F:θ→Bool}{S:Sd}{Ψ:dn}{cs:List Ω}{v:Λ}{w:Φ}{b:Ω}{a:Act}{ops:Array Oper}{i:Nat}{rest:List Nat}{kk:List Item}(hC:lp P F S)(h:aa P S Ψ (b.at (a.put ((ops[i]?).bind (·.dst)) v) (.inRegion ops rest::kk)) cs w):qL P S Ψ (b.at a (.inRegion ops (i::rest)::kk)::cs) v w:=λ_ _ _ _ hn hd hf hr=>aa.yD hC hn hd hf hr h
theorem aa.yR {P:ζ}{S:Sd}{Ψ:dn}{cs:List Ω}{v:Λ}{w:Φ}{b:Ω}{a:Act}{fn:Func}{todo:List Item}(hn:b.kind=.normal)(hd:a.defers=[])(hf:P.funcs[b.fn]?=some fn)(hr:(results fn a.tmps).run P w=.ok v w)(h:qL P S Ψ cs v w):aa P S Ψ (gA b a todo) cs w:=h b a fn todo hn hd hf hr
section
variable {Ψ:dn}{cs:List Ω}{w:Φ}{b:Ω}{a:Act}{ops:Array Oper}{i:Nat}{rest:List Nat}{kk:List Item}
theorem aa.adV {s:List UInt8}{dep:Int}(dh:∀dp:Nat,dep=dp→dp≤30→s.length≤400→mA s dp)(h:∀v w',sV s dep w v w'→qL prog Sz Ψ cs v w'):aa prog Sz Ψ (Ω.enter prog 18 #[.string ⟨⟨s⟩⟩,Γ Δ dep] .normal) cs w:=by
 have mixed:prog.follows Departure.mixedOrders=true:=by kernel_rfl
 have HH:Hid _:=h;have SY:Hid _:=dh;clear h dh;rw[Y7];refine aa.seq ?_;refine aa.code dS adT rfl ⟨_,S2⟩ rfl λτ d=>?_;have jb:Hid (aq w (w.re τ d)):=⟨zac _,λ_ _=>rfl⟩;generalize w.re τ d=w1 at *;generalize eF:([.code (.seq (c5b f18) (.seq (.region 3 (o5 f18) false) (S1 f18)))]:List Item)=kq;dsimp only[c5a,c5,Ren.cj,f18,Ξ];go_wp2_with fail;subst eF;show aa _ _ _ _ _ _;refine aa.seq ?_;by_cases AU:dep<0∨30<dep
 ·refine aa.code dS abq rfl ⟨_,S2⟩ rfl λτ d=>?_;have iB:Hid (aq w (w1.re τ d)):=aq.heap jb.out rfl;generalize w1.re τ d=w2 at *;generalize eF:([.code (.seq (.region 3 (o5 f18) false) (S1 f18))]:List Item)=kq;dsimp only[c5b,c5,Ren.cj,Ren.bM,f18,Ξ];have SZ:Hid (cS s dep=some ([],0,1)):=by show _=_;unfold cS;rw[zab AU]
  have fin:∀(tm:Array Λ) (todo:List Item),tm.getD 4 Θ=.slice none 0 0→tm.getD 5 Θ=Γ Δ 0→tm.getD 6 Θ=Γ Δ 1→aa prog Sz Ψ (gA (base 18) ⟨tm,[]⟩ todo) cs w2:=λtm todo h4 h5 h6=>by
   refine aa.yR rfl rfl S2 ((results_tmp3 Y8 _ _ _).trans (by rw[h4,h5,h6])) ?_;exact HH.out _ _ ⟨iB.out,[],0,1,_,[],SZ.out,rfl,Ren.b9.nil _⟩
  have Uz:Hid _:=fin;clear fin;by_cases adW:dep<0
  ·go_wp2_with fail;show ∀todo,aa _ _ _ _ _ _;exact λtodo=>Uz.out _ todo rfl rfl rfl
  ·have h30:30<dep:=AU.resolve_left adW;go_wp2_with fail;show ∀todo,aa _ _ _ _ _ _;exact λtodo=>Uz.out _ todo rfl rfl rfl
 ·obtain⟨dp,rfl⟩:∃dp:Nat,dep=dp:=⟨dep.toNat,by omega⟩;have qz:dp≤30:=by omega
  refine aa.code dS abq rfl ⟨_,S2⟩ rfl λτ d=>?_;have iB:Hid (aq w (w1.re τ d)):=aq.heap jb.out rfl;generalize w1.re τ d=w2 at *;generalize eF:([.code (.seq (.region 3 (o5 f18) false) (S1 f18))]:List Item)=kq;dsimp only[c5b,c5,Ren.cj,Ren.bM,f18,Ξ];have hn:¬((dp:Int)<0):=by omega
  have wJ:¬((30:Int)<(dp:Int)):=by omega
  go_wp2_with fail;subst eF;show aa _ _ _ _ _ _;clear jb hn wJ AU;refine aa.seq ?_;refine aa.region ?_;rw[abt,show List.range 9=[0,1,2,3,4,5,6,7,8] from rfl];refine aa.move' dS abu abA (by decide) abx abD (a':=⟨#[.string ⟨⟨s⟩⟩,Γ Δ dp,Θ,Θ,.slice none 0 0,Γ Δ 0,Γ Δ 0,Θ,Θ,Γ Δ dp,.bool false,.bool false,Γ Δ dp,.bool false,.bool false,Θ,.string ⟨⟨s⟩⟩,Θ,Θ,Θ,Θ,Θ,Θ,Θ,Θ,Θ,Θ,Θ,Θ,Θ,Θ,Θ,Θ,Θ,Θ],[]⟩) (by simp[Act.eval,Act.put]) ?_;refine aa.move' dS abv abB (by decide) aby abE (a':=⟨#[.string ⟨⟨s⟩⟩,Γ Δ dp,Θ,Θ,.slice none 0 0,Γ Δ 0,Γ Δ 0,Θ,Θ,Γ Δ dp,.bool false,.bool false,Γ Δ dp,.bool false,.bool false,Θ,.string ⟨⟨s⟩⟩,Γ Δ dp,Θ,Θ,Θ,Θ,Θ,Θ,Θ,Θ,Θ,Θ,Θ,Θ,Θ,Θ,Θ,Θ,Θ],[]⟩) (by simp[Act.eval,Act.put]) ?_;refine aa.lY (f:=25) (xs:=#[.tmp 16,.tmp 17]) (ats:=#[9,3]) (args:=#[.string ⟨⟨s⟩⟩,Γ Δ dp]) abw abC (by decide) abz bd8 nm8 (by simp[gD]) (by simp[Act.eval]) ?_;refine aa.abG qz (SY.out dp rfl qz) abF (a':=λv=>⟨#[.string ⟨⟨s⟩⟩,Γ Δ dp,Θ,Θ,.slice none 0 0,Γ Δ 0,Γ Δ 0,Θ,Θ,Γ Δ dp,.bool false,.bool false,Γ Δ dp,.bool false,.bool false,Θ,.string ⟨⟨s⟩⟩,Γ Δ dp,v,Θ,Θ,Θ,Θ,Θ,Θ,Θ,Θ,Θ,Θ,Θ,Θ,Θ,Θ,Θ,Θ],[]⟩) (λv=>by simp[Act.put]) λv w4 gC=>?_;clear SY;refine aa.ops dS rfl ⟨_,S2⟩ rfl adU 3 ((o5 f18).toList.drop 3) (by rw[zau,zbL,abt];rfl) (λj=>by rw[zbM,zbz]) λlq d'=>?_;have hw:(w4.re lq d').heap=w4.heap:=rfl;generalize w4.re lq d'=w5 at *;have rN:Hid (aq w w5):=aq.heap (iB.out.trans gC.1) hw;have vn:Hid _:=hw;clear hw iB;obtain⟨-,⟨fb,e,at_,rfl,hf,hrn⟩|⟨ty,y,nv,bN,nodes,gw,rfl,uC,hrn,-⟩⟩:=gC
  ·have HF:Hid (dQ w5 fb e at_):=by show w5.heap[fb]?=_;rw[vn.out];exact hf
   have SZ:Hid _:=hrn;clear hf hrn vn;generalize eF:([.code (S1 f18)]:List Item)=kq;dsimp only[o5,c5c,c5,Ren.bz,Ren.cj,Ren.bM,f18,Ξ];simp only[zbC,zbu];unfold aC;go_wp2_with fail;subst eF;show aa _ _ _ _ _ _;have vS:Hid (aq w (w5.alloc Kw)):=rN.out.trans (aq.of ((zad _ _).alloc (zac _) _));have HF6:Hid (dQ (w5.alloc Kw) fb e at_):=dQ.alloc HF.out _;generalize w5.alloc Kw=w6 at *;refine aa.code dS abr rfl ⟨_,S2⟩ rfl λτ d=>?_;have yQ:Hid (aq w (w6.re τ d)):=aq.heap vS.out rfl;have HF7:Hid (dQ (w6.re τ d) fb e at_):=HF6.out;generalize w6.re τ d=w7 at *;obtain⟨y0,y1⟩:w7.cell? ⟨fb,0,none⟩=some (Γ Δ e)∧w7.cell? ⟨fb,1,none⟩=some (Γ Δ at_):=by
    have hf:w7.heap[fb]?=_:=HF7.out;constructor<;>simp[Φ.cell?,hf]
   clear vS HF6 HF rN;dsimp only[S1,c5c,c5,Ren.cj,Ren.bM,f18,Ξ];go_wp2_with fail;go_region;go_wp2_with fail;show ∀todo,aa _ _ _ _ _ _;intro todo;refine aa.yR rfl rfl S2 (results_tmp3 Y8 _ _ _) ?_;exact HH.out _ _ ⟨aq.heap yQ.out rfl,[],at_,e,_,[],SZ.out,rfl,Ren.b9.nil _⟩
  ·have HN:Hid (b9 w5 0 nv bN nodes):=Ren.b9.heap uC vn.out;have SZ:Hid _:=hrn;clear uC hrn vn;generalize eF:([.code (S1 f18)]:List Item)=kq;dsimp only[o5,c5c,c5,Ren.bz,Ren.cj,Ren.bM,f18,Ξ];simp only[zbC,zbu];obtain⟨na,nc,rfl⟩:=bD HN.out.1;go_wp2_with fail;subst eF;show aa _ _ _ _ _ _;have vS:Hid (aq w (w5.alloc (.cells #[.iface ty y,.slice na nodes.length nc,Γ Δ gw] 60))):=rN.out.trans (aq.of ((zad _ _).alloc (zac _) _));have HN6:Hid (b9 (w5.alloc (.cells #[.iface ty y,.slice na nodes.length nc,Γ Δ gw] 60)) 0 (.slice na nodes.length nc) bN nodes):=Ren.b9.keep HN.out (zac _) λb c hb=>zaT _ _ _ (hb.elim (λq=>(zaj.1 q).1) λq=>(zaj.1 q).1);have hR6:(w5.alloc (.cells #[.iface ty y,.slice na nodes.length nc,Γ Δ gw] 60)).heap[w5.heap.size]?=some (.cells #[.iface ty y,.slice na nodes.length nc,Γ Δ gw] 60):=zav w5 _;generalize w5.alloc (.cells #[.iface ty y,.slice na nodes.length nc,Γ Δ gw] 60)=w6 at *;refine aa.code dS abr rfl ⟨_,S2⟩ rfl λτ d=>?_;have yQ:Hid (aq w (w6.re τ d)):=aq.heap vS.out rfl;have HN7:Hid (b9 (w6.re τ d) 0 (.slice na nodes.length nc) bN nodes):=Ren.b9.heap HN6.out rfl;have Y6:(w6.re τ d).heap[w5.heap.size]?=some (.cells #[.iface ty y,.slice na nodes.length nc,Γ Δ gw] 60):=hR6;generalize w6.re τ d=w7 at *;obtain⟨z0,z1,z2⟩:=fG Y6;clear vS HN6 HN rN hR6 Y6;dsimp only[S1,c5c,c5,Ren.cj,Ren.bM,f18,Ξ];go_wp2_with fail;go_region;go_wp2_with fail;show ∀todo,aa _ _ _ _ _ _;intro todo;refine aa.yR rfl rfl S2 (results_tmp3 Y8 _ _ _) ?_;exact HH.out _ _ ⟨aq.heap yQ.out rfl,nodes,gw,0,_,bN,SZ.out,rfl,Ren.b9.heap HN7.out rfl⟩
theorem aa.top {s:List UInt8}{dep:Int}(dh:∀dp:Nat,dep=dp→dp≤30→s.length≤400→mA s dp)(h:∀v w',sV s dep w v w'→aa prog Sz Ψ (b.at (a.put ((ops[i]?).bind (·.dst)) v) (.inRegion ops rest::kk)) cs w'):aa prog Sz Ψ (Ω.enter prog 18 #[.string ⟨⟨s⟩⟩,Γ Δ dep] .normal) (b.at a (.inRegion ops (i::rest)::kk)::cs) w:=
 aa.adV dh λv w' hp=>qL.of dS (h v w' hp)
end
end Go.Ren
