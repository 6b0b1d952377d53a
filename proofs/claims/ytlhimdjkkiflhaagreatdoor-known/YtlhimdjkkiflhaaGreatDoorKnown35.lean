import Derived.Test.YtlhimdjkkiflhaaGreatDoorKnown34
set_option maxHeartbeats 8000000
set_option maxRecDepth 100000
namespace Go.Ren
open Go.Proofs.Tryz
open Go Go.Conc Go.ConcX Go.RowKit Go.Proofs Go.Loop Go.Proofs.YtlhimdjkkiflhaaGreatDoor
def c11 (f:Func):Code:=f.body.getD .skip
def Ss (f:Func):Code:=Ren.aC (c11 f)
def LZ (f:Func):Array Oper:=Ren.cC (Ren.aC (Ren.aL (c11 f)))
def Ex (f:Func):Code:=Ren.aL (Ren.aL (c11 f))
theorem yK:prog.funcs[11]?=some f11:=by kernel_rfl
theorem V1:f11.body=some (.seq (Ss f11) (.seq (.region 1 (LZ f11) false) (Ex f11))):=by kernel_rfl
theorem adK:f11.ntmps=42:=by kernel_rfl
theorem t42 (x:Value):(#[x]++Array.replicate (42-#[x].size) undef:Array Value)=#[x,undef,undef,undef,undef,undef,undef,undef,undef,undef,undef,undef,undef,undef,undef,undef,undef,undef,undef,undef,undef,undef,undef,undef,undef,undef,undef,undef,undef,undef,undef,undef,undef,undef,undef,undef,undef,undef,undef,undef,undef,undef]:=by
 generalize undef=u;simp[Array.replicate,List.replicate]
theorem Su (x:Value):Frame.enter prog 11 #[x] .normal=(base 11).at ⟨#[x,undef,undef,undef,undef,undef,undef,undef,undef,undef,undef,undef,undef,undef,undef,undef,undef,undef,undef,undef,undef,undef,undef,undef,undef,undef,undef,undef,undef,undef,undef,undef,undef,undef,undef,undef,undef,undef,undef,undef,undef,undef],[]⟩ [.code (.seq (Ss f11) (.seq (.region 1 (LZ f11) false) (Ex f11)))]:=by
 rw[enter_at _ yK V1,adK,t42]
theorem aas:aG prog Fz Sz (Ss f11)=true:=by kernel_rfl
theorem TX:aG prog Fz Sz (Ex f11)=true:=by kernel_rfl
theorem TY:(LZ f11).size=8:=by kernel_rfl
def GZ (f:Func)(i:Nat):Oper:=(LZ f)[i]!
theorem V2:(LZ f11)[0]?=some (GZ f11 0):=by kernel_rfl
theorem V3:(LZ f11)[1]?=some (GZ f11 1):=by kernel_rfl
theorem V4:(GZ f11 0).op=.move (.tmp 0):=by kernel_rfl
theorem V5:(GZ f11 1).op=.call { callee:= .value (.func 25),args:=#[.tmp 9,.const (.int .i64 30)],argTypes:=#[9,3] }:=by kernel_rfl
theorem V6:(GZ f11 0).guard=none:=by kernel_rfl
theorem V7:(GZ f11 1).guard=none:=by kernel_rfl
theorem V8:(GZ f11 0).dst=some 9:=by kernel_rfl
theorem V9:((LZ f11)[1]?).bind (·.dst)=some 10:=by kernel_rfl
theorem aat:([2,3,4,5,6,7].all λi=>((LZ f11)[i]?).all λo=>fw prog Fz Sz o.op)=true:=by kernel_rfl
theorem Ey:f11.results=#[.tmp 2,.tmp 3]:=by kernel_rfl
theorem ba.below {lo K:Nat}{L:List Int}{w w':World}{E:Env}{d:Dt}{v:Value}(h:ba lo K L w E d v)(hb:Below w.heap.size w w'):ba lo K L w' E d v:=
 ba.keep (w:=w) (w':=w') (zaa _) (zaa _) (λ_ h=>h) (λb _ h=>hb.block b h) ⟨λ_ _=>rfl,λ_ _=>rfl⟩ d v h
theorem ba.heap {lo K:Nat}{L:List Int}{w w':World}{E:Env}{d:Dt}{v:Value}(h:ba lo K L w E d v)(e:w'.heap=w.heap):ba lo K L w' E d v:=
 ba.keep (w:=w) (w':=w') (zaa _) (zaa _) (λ_ h=>h) (λb _ _=>by rw[e]) ⟨λ_ _=>rfl,λ_ _=>rfl⟩ d v h
theorem Lm {s:List UInt8}{r:List UInt8×Int}(h:l8 s=some r):lX s 30:=λd s' et=>by
 obtain⟨k,g,h1,h2,-,h4,-⟩:=Bz h et;have:=(fQ h4).2.1;exact⟨h2,k,g,h1,by omega⟩
theorem Ln {s:List UInt8}{r:List UInt8×Int}(hl:s.length≤400)(h:l8 s=some r){a:Nat}{e:Int}(hr:ji s (30:Nat)=some ([],a,e)):r=([],e):=by
 rw[kT (zaa _) (by omega)]at hr;cases et:aV (aU (s.length+1) s 0) 30 2000 ⟨0,false,[]⟩ ⟨0,0,[]⟩with
 |out=>rw[et]at hr;cases hr
 |fail e' a'=>
  rw[et]at hr;cases hr;unfold l8 at h;rw[et]at h;cases h;rfl
 |ok d s'=>
  obtain⟨k,g,h1,-,-,h4,-⟩:=Bz h et;obtain⟨f1,f2,-⟩:=fQ h4;rw[et]at hr;simp only[h1,zaH,if_neg (show ¬150<g.nodes.length by omega)]at hr;simp only[zam,zab]at hr;exact absurd hr.1 f1
theorem Lp {s:List UInt8}{r:List UInt8×Int}(hl:s.length≤400)(h:l8 s=some r){d:Dt}{s':gW}(et:aV (aU (s.length+1) s 0) 30 2000 ⟨0,false,[]⟩ ⟨0,0,[]⟩=.ok d s'){nodes:List ng}{cA:Nat}(hr:ji s (30:Nat)=some (nodes,cA,0)):bn d d=true∧lq d=true∧GY nodes=true∧di (nodes.map iX)=true∧cA≤s.length∧Ew s d cA nodes=some r:=by
 obtain⟨k,g,h1,h2,h3,h4,h5,h6,h7⟩:=Bz h et;obtain⟨f1,f2,-⟩:=fQ h4;rw[kT (zaa _) (by omega),et]at hr;simp only[h1,zaH,if_neg (show ¬150<g.nodes.length by omega)]at hr;simp only[zam,zab,and_true]at hr;obtain⟨rfl,rfl⟩:=hr;exact⟨h2,h3,h4,h5,h6,h7⟩
section
variable {Ψ:cI}{cs:List Frame}{w:World}{b:Frame}{a:Act}{ops:Array Oper}{i:Nat}{rest:List Nat}{kk:List Item}
theorem aa.reckon {s:List UInt8}{r:List UInt8×Int}(hl:s.length≤400)(I0:l8 s=some r)(hp:Pow w)(h:∀w',aj w w'→aa prog Sz Ψ (b.at (a.put ((ops[i]?).bind (·.dst)) (.tuple #[.string ⟨⟨r.1⟩⟩,.int .i64 r.2])) (.inRegion ops rest::kk)) cs w'):aa prog Sz Ψ (Frame.enter prog 11 #[.string ⟨⟨s⟩⟩] .normal) (b.at a (.inRegion ops (i::rest)::kk)::cs) w:=by
 have mixed:prog.follows Departure.mixedOrders=true:=by kernel_rfl
 have HH:Hid _:=h;have HP:Hid (Pow w):=hp;have R1:Hid _:=I0;clear h hp I0;rw[Su];refine aa.seq ?_;refine aa.code bZ aas rfl ⟨_,yK⟩ rfl λτ d=>?_;have gP:Hid (aj w (w.re τ d)):=⟨zaa _,λ_ _=>rfl⟩;generalize w.re τ d=w1 at *;generalize cP:([.code (.seq (.region 1 (LZ f11) false) (Ex f11))]:List Item)=kq;dsimp only[Ss,c11,Ren.aC,f11,Option.getD];go_wp2_with fail;subst cP;show aa _ _ _ _ _ _;refine aa.seq ?_;refine aa.region ?_;rw[TY,show List.range 8=[0,1,2,3,4,5,6,7] from rfl];refine aa.move' bZ V2 V6 (by decide) V4 V8 (a':=⟨#[.string ⟨⟨s⟩⟩,undef,.string ⟨#[]⟩,.int .i64 0,undef,undef,undef,undef,undef,.string ⟨⟨s⟩⟩,undef,undef,undef,undef,undef,undef,undef,undef,undef,undef,undef,undef,undef,undef,undef,undef,undef,undef,undef,undef,undef,undef,undef,undef,undef,undef,undef,undef,undef,undef,undef,undef],[]⟩) (by simp[Act.eval,Act.put]) ?_;refine aa.n4 (f:=25) (xs:=#[.tmp 9,.const (.int .i64 30)]) (ats:=#[9,3]) (args:=#[.string ⟨⟨s⟩⟩,.int .i64 (30:Nat)]) V3 V7 (by decide) V5 bd8 nm8 (by simp[fV,gZ]) (by simp[Act.eval]) ?_;refine aa.TA (zaa _) (Lm R1.out) V9 (a':=λv=>⟨#[.string ⟨⟨s⟩⟩,undef,.string ⟨#[]⟩,.int .i64 0,undef,undef,undef,undef,undef,.string ⟨⟨s⟩⟩,v,undef,undef,undef,undef,undef,undef,undef,undef,undef,undef,undef,undef,undef,undef,undef,undef,undef,undef,undef,undef,undef,undef,undef,undef,undef,undef,undef,undef,undef,undef,undef],[]⟩) (λv=>by simp[Act.put]) λv w4 iK=>?_;refine aa.ops bZ rfl ⟨_,yK⟩ rfl aat 2 ((LZ f11).toList.drop 2) (by rw[zaj,zbl,TY];rfl) (λj=>by rw[zaU,zaN]) λpz d'=>?_;have hw:(w4.re pz d').heap=w4.heap:=rfl;generalize w4.re pz d'=w5 at *;have n7:Hid (aj w w5):=aj.heap (gP.out.trans iK.1) hw;have pI:Hid _:=hw;clear hw gP;obtain⟨-,⟨fb,e,at_,rfl,hf,Ot⟩|⟨ty,y,nv,bu,nodes,cA,rfl,mD,Ot,nX⟩⟩:=iK
 ·have HF:Hid (cy w5 fb e at_):=by show w5.heap[fb]?=_;rw[pI.out];exact hf
  have hr:=Ln hl R1.out Ot;subst hr;clear hf Ot pI;generalize cP:([.code (Ex f11)]:List Item)=kq;dsimp only[LZ,c11,Ren.cC,Ren.aC,Ren.aL,f11,Option.getD];simp only[zaG,zaA];unfold au;go_wp2_with fail;subst cP;show aa _ _ _ _ _ _;have lp:Hid (aj w (w5.alloc Dl)):=n7.out.trans (aj.of ((Below.refl _ _).alloc (zaa _) _));have Z5:Hid (cy (w5.alloc Dl) fb e at_):=cy.alloc HF.out _;generalize w5.alloc Dl=w6 at *;refine aa.code bZ TX rfl ⟨_,yK⟩ rfl λτ d=>?_;have pK:Hid (aj w (w6.re τ d)):=aj.heap lp.out rfl;have HF7:Hid (cy (w6.re τ d) fb e at_):=Z5.out;generalize w6.re τ d=w7 at *;have y0:w7.cell? ⟨fb,0,none⟩=some (.int .i64 e):=by
   have hf:w7.heap[fb]?=_:=HF7.out;simp[World.cell?,hf]
  clear lp Z5 HF n7;dsimp only[Ex,c11,Ren.aC,Ren.aL,f11,Option.getD];go_wp2_with fail;go_region;go_wp2_with fail;show ∀todo,aa _ _ _ _ _ _;intro todo;refine aa.jz bZ rfl rfl yK (results_tmp2 Ey _ _ _) ?_;exact HH.out _ (aj.heap pK.out rfl)
 ·have HN:Hid (bC w5 0 nv bu nodes):=Ren.bC.heap mD pI.out;obtain⟨lo,K,L,E,d0,s',et,bW,lV,-⟩:=nX;obtain⟨bY,xN,BA,O3,hto,TZ⟩:=Lp hl R1.out et Ot;have HD:Hid (ba lo K L w5 E d0 (.iface ty y)):=ba.heap bW pI.out;have Xy:Hid _:=lV;have LV:Hid _:=bY;have HPR:Hid _:=xN;have HT:Hid _:=TZ;obtain⟨b1,yL,rfl,hGl,hG,xO⟩:=qg HN.out (fQ BA).1 (fQ BA).2.2;have HG:Hid _:=hG;have HBR:Hid _:=xO;have nj:di (dJ nodes bu)=true:=by rw[←um,xO];exact O3
  clear mD Ot pI bW lV bY xN BA O3 TZ et R1 HN hG;generalize dJ nodes bu=G at *;obtain⟨Rt,tG,-,hs1,OG⟩:=jo G nj;have TK:Hid (∀x (hx:x<G.length),ei G[x].subs G.length=true):=hs1;have XB:Hid (∀x,(ax G x).length≤20):=OG;have yH:Hid ((eH (ax G) G.length).Ok G.length):=Ok.meet (jl G hs1) _ _ _ (kr _) (by omega);have HCY:Hid (mH (nodes.map iX)=mH G):=by show _=_;rw[←HBR.out,zI]
  clear hs1 OG nj xO hGl HBR;generalize cP:([.code (Ex f11)]:List Item)=kq;dsimp only[LZ,c11,Ren.cC,Ren.aC,Ren.aL,f11,Option.getD];simp only[zaG,zaA];go_wp2_with fail;subst cP;show aa _ _ _ _ _ _;have BM:Below w5.heap.size w5 (w5.alloc (.cells #[.iface ty y,.slice (some ⟨b1,0,none⟩) G.length yL,.int .i64 cA] 60)):=(Below.refl _ _).alloc (zaa _) _;have lp:Hid (aj w (w5.alloc (.cells #[.iface ty y,.slice (some ⟨b1,0,none⟩) G.length yL,.int .i64 cA] 60))):=n7.out.trans (aj.of BM);have HD6:Hid (ba lo K L (w5.alloc (.cells #[.iface ty y,.slice (some ⟨b1,0,none⟩) G.length yL,.int .i64 cA] 60)) E d0 (.iface ty y)):=ba.below HD.out BM;have XG:Hid (aR (w5.alloc (.cells #[.iface ty y,.slice (some ⟨b1,0,none⟩) G.length yL,.int .i64 cA] 60)) b1 0 G):=aR.below HG.out BM;have RV:(w5.alloc (.cells #[.iface ty y,.slice (some ⟨b1,0,none⟩) G.length yL,.int .i64 cA] 60)).heap[w5.heap.size]?=some (.cells #[.iface ty y,.slice (some ⟨b1,0,none⟩) G.length yL,.int .i64 cA] 60):=heap_alloc_new w5 _;clear BM n7 HD HG;generalize (w5.alloc (.cells #[.iface ty y,.slice (some ⟨b1,0,none⟩) G.length yL,.int .i64 cA] 60))=w6 at *;refine aa.code bZ TX rfl ⟨_,yK⟩ rfl λτ d=>?_;have pK:Hid (aj w (w6.re τ d)):=aj.heap lp.out rfl;have HD7:Hid (ba lo K L (w6.re τ d) E d0 (.iface ty y)):=ba.heap HD6.out rfl;have Ri:Hid (aR (w6.re τ d) b1 0 G):=aR.IW XG.out rfl;have P0:(w6.re τ d).heap[w5.heap.size]?=some (.cells #[.iface ty y,.slice (some ⟨b1,0,none⟩) G.length yL,.int .i64 cA] 60):=RV;generalize w6.re τ d=w7 at *;obtain⟨z0,z1,z2⟩:=eE P0;clear lp HD6 XG RV P0;have HNo:Hid _:=Ev s cA w7 (by omega) hto;dsimp only[Ex,c11,Ren.aC,Ren.aL,f11,Option.getD];go_wp2_with fail;refine Calls.mono HNo.out ?_;rintro e w8 ⟨rfl,rfl⟩;clear HNo hto hl;by_cases hno:oz s cA=false
  ·rw[hno];have hr:r=([],3):=by
    have:=HT.out;unfold Ew at this;rw[if_pos hno]at this;exact(Option.some.inj this).symm
   subst hr;clear hno HT;go_wp2_with fail;show ∀todo,aa _ _ _ _ _ _;intro todo;refine aa.jz bZ rfl rfl yK (results_tmp2 Ey _ _ _) ?_;exact HH.out _ pK.out
  ·have aau:oz s cA=true:=by simpa using hno
   rw[aau];have IP:Hid _:=HT.out;unfold Ew at IP;rw[if_neg hno,HCY.out]at IP;clear hno aau HT HCY;go_wp2_with fail;refine(kV G b1 0 yL _ Ri.out tG Rt TK.out XB.out).mono ?_;rintro e w9 ⟨bm,bw,rfl,-,Bn,Wa⟩;have ES:Hid _:=Bn;have Rj:Hid (aj w w9):=pK.out.trans (aj.of Wa);have HD9:Hid (ba lo K L w9 E d0 (.iface ty y)):=ba.below HD7.out Wa;have y0:=bP Wa z0;clear Bn Wa z0 z1 z2 pK HD7 Ri TK XB;go_wp2_with fail;refine(zJ _ bw G.length yH.out.lw tG _ ⟨_,_,_,rfl⟩ _ ES.out).mono ?_;rw[IU G yH.out];rintro e XH ⟨rfl,G0⟩;have O4:Hid (aj w XH):=Rj.out.trans (aj.of G0);have Wb:Hid (ba lo K L XH E d0 (.iface ty y)):=ba.below HD9.out G0;have x0:=bP G0 y0;clear y0 Rj HD9 ES G0;cases Sa:mH G with
   |true=>
    have hr:r=([],9):=by
     have:=IP.out;rw[if_pos Sa]at this;exact(Option.some.inj this).symm
    subst hr;clear IP Sa;go_wp2_with fail;show ∀todo,aa _ _ _ _ _ _;intro todo;refine aa.jz bZ rfl rfl yK (results_tmp2 Ey _ _ _) ?_;exact HH.out _ O4.out
   |false=>
    have A5:Hid _:=IP.out;rw[if_neg (by rw[Sa];decide)]at A5;cases hq:rY d0 1000 d0 with
    |none=>have:=A5.out;rw[hq]at this;cases this
    |some q=>
     rw[hq]at A5;have HC:Hid _:=Bx XH (.iface ty y) Wb.out LV.out Xy.out HPR.out 1000 q hq;clear IP Sa;go_wp2_with fail;refine Calls.mono HC.out ?_;rintro e Qa ⟨ho,Ez⟩;have Lr:Hid (aj w Qa):=O4.out.trans (aj.of Ez);cases q with
     |inl er=>
      have hne:(er != 0)=true:=by simpa using Bu _ _ _ hq
      have hr:r=([],er):=(Option.some.inj A5.out).symm;subst hr;unfold r7 at ho;subst ho;clear Ez HC A5 hq x0;go_wp2_with fail;show ∀todo,aa _ _ _ _ _ _;intro todo;refine aa.jz bZ rfl rfl yK (results_tmp2 Ey _ _ _) ?_;exact HH.out _ Lr.out
     |inr x=>
      obtain⟨v',rfl,Ed,hxh⟩:=ho;obtain⟨tx,yx,rfl⟩:=bF Ed;cases hn:lR d0 100000 x ⟨[],[]⟩with
      |none=>have:=A5.out;simp only[hn]at this;cases this
      |some g=>
       obtain⟨k,g⟩:=g;have XI:=A5.out;simp only[hn]at XI;by_cases BA:GY g.nodes=true
       ·rw[if_pos BA]at XI;have hr:=Option.some.inj XI;obtain⟨f1,f2,f3⟩:=fQ BA;have HGF:Hid _:=GX Qa d0 (.iface ty y) (ba.below Wb.out Ez) LV.out x (.iface tx yx) (ba.below Ed Ez) (GI LV.out HPR.out 1000 d0 (sub_self _) x hq).2 Xy.out 100000 k g hn (by omega);have HFT:Hid _:=BA;clear Ez HC A5 hq x0 Ed hn XI BA f1 f2 f3 Wb;go_wp2_with fail;refine Calls.mono HGF.out ?_;rintro e XJ ⟨nv2,KE,rfl,LL,O5⟩;have Ls:Hid (aj w XJ):=Lr.out.trans (aj.of O5);obtain⟨b2,adL,rfl,hl2,Uz,O6⟩:=qg LL (fQ HFT.out).1 (fQ HFT.out).2.2;have IB:(dJ g.nodes KE).length≤maxLen:=by
         have:=(fQ HFT.out).2.1;unfold maxLen;omega
        have hwr:cz (dJ g.nodes KE) 0 403=r:=by rw[←od,O6];exact hr
        have HW:Hid _:=jM (dJ g.nodes KE) b2 0 adL 0 403 (zaa _) XJ IB Uz (Pow.DU HP.out Ls.out);rw[hwr]at HW;generalize dJ g.nodes KE=G2 at *;clear HGF LL O5 Uz O6 hwr hr IB hl2 HFT Lr;go_wp2_with fail;refine Calls.mono HW.out ?_;rintro e Lt ⟨rfl,O7⟩;have Sv:Hid (aj w Lt):=Ls.out.trans (aj.of O7);clear HW O7 Ls;go_wp2_with fail;show ∀todo,aa _ _ _ _ _ _;intro todo;refine aa.jz bZ rfl rfl yK (results_tmp2 Ey _ _ _) ?_;exact HH.out _ Sv.out
       ·rw[if_neg BA]at XI;cases XI
end
end Go.Ren
namespace Go.Ren
open Go Go.Conc
section
variable {P:Program}{F:FuncId→Bool}{S:Sd}{Post:Value→World→Prop}{W:World}
def xP (P:Program)(W:World)(lo n0:Nat)(r0:Rn)(Post:Value→World→Prop):cI:=
 ⟨W,lo,n0,r0,λm t=>∃gs g W' sl q Shun,m=crowd gs W' sl∧gs[0]?=some g∧Leavers P t gs q∧Past Shun W'.heap.size t∧∀d,AtEnd P Shun W'.heap.size Post g (W'.at d)⟩
theorem aa.last {lo n0:Nat}{r0:Rn}{b:Frame}{a:Act}{todo:List Item}{fn:Func}{v:Value}{w:World}(hn:b.kind=.normal)(hd:a.defers=[])(hf:P.funcs[b.fn]?=some fn)(hi:P.inits.idxOf? b.fn=none)
 (hr:∀(ρ:Rn) (W:World),(results fn (a.rn ρ).tmps).run P W=.ok v W)(he:∀(ρ:Rn) (W:World),(results fn (a.rn ρ).tmps).events P W #[]=#[])(hP:∀W' ρ,Ur (xP P W lo n0 r0 Post) W'→iH P S ρ w W'→QK n0 r0 w ρ→Post v W'):aa P S (xP P W lo n0 r0 Post) (fR b a todo) [] w:=by
 intro ρ W' gs sl t q Shun hS hc hcs h0 hL hPa hN hO hT uX;refine Reach.here ⟨gs,_,W',sl,q,Shun,rfl,h0,hL,hPa,λd=>⟨rfl,v,#[],?_,by simp,hP _ ρ ⟨hO.tape,hO.os,hO.output,hO.size,hO.block⟩ ⟨⟨hS.wr.live,hS.wr.ok,hS.wr.dead,hS.wr.closed,hS.wr.next,hS.wr.low,hS.wr.big⟩,hS.inj,hS.kH,hS.f,hS.oX⟩ uX⟩⟩;have h1:=hr ρ (W'.at d);have h2:=he ρ (W'.at d);simp[bV,fR,Frame.at,G,stepG,unwind,doReturn,hd,hn,hf,hi,GStep.after,seen]at h1 h2 ⊢;unfold Act.rn at h1 h2;simp[h1,h2]
theorem zW {m m1:Machine}{t t1:Trace}{N:Nat}(h:runNT P N m t=(.next m1,t1))(K:Nat):runNT P (N+K) m t=runNT P K m1 t1:=by
 induction N generalizing m t with
 |zero=>
  simp only[runNT,zab,Stepped.next.injEq]at h;obtain⟨rfl,rfl⟩:=h;rw[Nat.zero_add]
 |succ N ih=>
  rw[show N+1+K=(N+K)+1 by omega];simp only[runNT]at h ⊢;cases hs:stepT P m with
  |mk e ops=>
   rw[hs]at h;cases e with
   |next m2=>exact ih h
   |_=>simp at h
theorem Sw {ρ r0:Rn}{w w0 W':World}(Sx:iH P S r0 w0 W)(hO:Ur (xP P W S.d w0.heap.size r0 Post) W')(hS:iH P S ρ w W')(uX:QK w0.heap.size r0 w ρ)(hB:∀r,r<w0.heap.size→w.heap[r]?=w0.heap[r]?){b:Nat}(hb:b<W.heap.size):W'.heap[b]?=W.heap[b]?:=by
 by_cases hm:(xP P W S.d w0.heap.size r0 Post).mine b
 ·obtain⟨r,h1,h2,rfl⟩:=hm;have PR:S.d≤r:=h1;have iZ:r<w0.heap.size:=h2;have ho:w0.heap[r]?=some w0.heap[r]:=zaq iZ;have e1:=Sx.wr.live r _ PR ho;have e2:=hS.wr.live r _ PR ((hB r iZ).trans ho);rw[uX.same r iZ]at e2;show W'.heap[r0 r]?=W.heap[r0 r]?
  rw[e1,e2]
  congr 1
  exact sB (σ:=sg S S.d w0.heap.size) (λx hx=>uX.same x (bH.1 hx).2) (λx _=>by rw[hS.f,Sx.f]) (Sx.wr.closed r _ PR ho)
 ·exact hO.block b hb hm
theorem G1 {f:FuncId}{args:Array Value}{w0:World}{r0:Rn}(Sx:iH P S r0 w0 W)(ha:∀v∈args,rv (sg S S.d w0.heap.size) v=v)(h:aa P S (xP P W S.d w0.heap.size r0 Post) (Frame.enter P f args .normal) [] w0):∃N last o w' t',runNT P (N+1) (solo (G (Frame.enter P f (args.map (rv r0)) .normal) []) W) #[]=(.ended o w',t')∧runN P N (solo (G (Frame.enter P f (args.map (rv r0)) .normal) []) W)=.next last∧step P last=.ended o w'∧Go.Conc.Good P Post last o w' t':=by
 have e1:bV r0 (Frame.enter P f args .normal)=Frame.enter P f (args.map (rv r0)) .normal:=by
  rw[←gL]
 have fe:fY P S w0.heap.size (Frame.enter P f args .normal):=Cg ha;have Wc:=h r0 W #[G (Frame.enter P f (args.map (rv r0)) .normal) []] none #[] (λ_=>0) (λ_=>False) Sx fe (λf hf=>by cases hf) (by rw[e1];rfl) (leavers_one P _) (past_nil.mono (zah _)) ⟨λx ⟨r,_,h2,e⟩=>by rw[e];exact Sx.low h2,λ_ hx=>hx.elim,λ_ _ hx=>hx,λ_ hx=>hx.elim⟩ ⟨rfl,rfl,rfl,zaa _,λ_ _ _=>rfl⟩ (λx ⟨r,h1,h2,e⟩=> .inr ⟨r,h1,h2,e⟩) ⟨zaa _,λ_ _=>rfl⟩;obtain⟨N0,m,t,hrun,gs,g,W',sl,q,Shun,rfl,h0,hL,hPa,hE⟩:=Wc;obtain⟨N,last,o,w',t',r1,r2,r3,r4⟩:=beside_ends (P:=P) (Post:=Post) (Shun:=Shun) (B:=W'.heap.size) (D:=λ_ _ _=>False) (sl:=sl) (n:=0) (λ_ _ _ hx=>hx.elim) h0 hL hPa (λw₁ hw=>by obtain⟨d,rfl⟩:=hw;exact hE d);refine⟨N0+N,last,o,w',t',?_,?_,r3,r4⟩
 ·rw[show N0+N+1=N0+(N+1) by omega];exact(zW hrun (N+1)).trans r1
 ·have:=congrArg Prod.fst (zW hrun N);rw[runNT_fst,runNT_fst]at this;exact this.trans r2
def T1 (P:Program)(S:Sd)(W:World):World:={ W with heap:=(Array.range P.globals.size).map λr=>if r<S.d then ia else(W.heap[r]?).getD ia }
theorem O8 (W:World):(T1 P S W).heap.size=P.globals.size:=by simp[T1]
theorem BB (W:World){r:Nat}(h:r<P.globals.size):(T1 P S W).heap[r]?=some (if r<S.d then ia else(W.heap[r]?).getD ia):=by
 simp only[T1,zal];rw[zaq (by simpa using h)];simp
theorem sf (hb:P.globals.size≤W.heap.size){r:Nat}(h1:S.d≤r)(h2:r<P.globals.size):(T1 P S W).heap[r]?=W.heap[r]?:=by
 rw[BB W h2,if_neg (by omega),zaq (by omega:r<W.heap.size)];rfl
theorem Sy (hd:S.d≤P.globals.size)(hg:S.g≤P.globals.size)(hb:P.globals.size≤W.heap.size)(hl:∀r o,S.d≤r→r<P.globals.size→W.heap[r]?=some o→lr o∧∀ρ:Rn,ro ρ o=o):iH P S (dD jA P.globals.size W.heap.size) (T1 P S W) W:=by
 have hs:=O8 (P:=P) (S:=S) W;refine⟨⟨λr o i6 ho=>?_,λr o ho=>?_,λr hr=>?_,λr o i6 ho=>?_,λr hr=>by rw[hs]at hr ⊢;exact dM hr,λr h1 h2=>?_,⟨by omega,by omega,zah _,by omega,hd,λg h1 h2=>aT (by omega),λg h1=> .inr (aT (by omega))⟩⟩,λa b e=>?_,λr=>?_,λ_=>rfl,hb⟩
 ·have hlt:=fG ho;rw[hs]at hlt;rw[sf hb i6 hlt]at ho;rw[aT hlt,(hl r o i6 hlt ho).2];exact ho
 ·have hlt:=fG ho;rw[hs]at hlt;rcases zag r S.d with h|h
  ·rw[BB W hlt,if_pos h]at ho;cases ho;trivial
  ·rw[sf hb h hlt]at ho;exact(hl r o h hlt ho).1
 ·rw[BB W (by omega),if_pos hr]
 ·have hlt:=fG ho;rw[hs]at hlt;rw[sf hb i6 hlt]at ho;exact(hl r o i6 hlt ho).2 _
 ·rw[hs]at h2;rw[aT h2];show r<_;omega
 ·rcases zag a P.globals.size with ha|ha<;>rcases zag b P.globals.size with hb'|hb'
  ·rw[aT ha,aT hb']at e;exact e
  ·rw[aT ha,dM hb']at e;have:jA.b a=a:=rfl;omega
  ·rw[dM ha,aT hb']at e;have:jA.b b=b:=rfl;omega
  ·rw[dM ha,dM hb']at e;omega
 ·rcases zag r P.globals.size with ha|ha
  ·rw[aT ha];exact Iff.rfl
  ·rw[dM ha];constructor<;>intro<;>omega
end
end Go.Ren
namespace Go.Loop
def xQ (T:List Tok)(dp:Nat):Bool:=
 match aV T dp 2000 ⟨0,false,[]⟩ ⟨0,0,[]⟩with
 |.ok d _=>bn d d&&(match lR d 100000 d ⟨[],[]⟩with
  |some g=>decide (g.2.nodes.length≤999999)
  |none=>false)
 |_=>true
theorem G3 {T:List Tok}{dp:Nat}(h:xQ T dp=true)(d:Dt)(s':gW)(hr:aV T dp 2000 ⟨0,false,[]⟩ ⟨0,0,[]⟩=.ok d s'):bn d d=true∧∃k g,lR d 100000 d ⟨[],[]⟩=some (k,g)∧g.nodes.length≤999999:=by
 unfold xQ at h;rw[hr]at h;simp only[zae]at h;refine⟨h.1,?_⟩;have h2:=h.2;cases hn:lR d 100000 d ⟨[],[]⟩with
 |none=>rw[hn]at h2;cases h2
 |some g=>
  rw[hn]at h2;exact⟨g.1,g.2,rfl,of_decide_eq_true h2⟩
set_option maxRecDepth 1000000
end Go.Loop
namespace Go.Proofs.YtlhimdjkkiflhaaGreatDoor
open Go.Proofs.Tryz
open Go.RowKit Go.Loop
def mW (c n:Int):Int:=if c<0 then(-(c+1)).tmod n else c.tmod n
theorem O9 {c n:Int}:0≤mW c n:=by
 unfold mW;split
 ·exact Int.tmod_nonneg _ (by omega)
 ·exact Int.tmod_nonneg _ (by omega)
theorem Pa {c n:Int}(h:0<n):mW c n<n:=by
 unfold mW;split
 ·exact Int.tmod_lt_of_pos _ h
 ·exact Int.tmod_lt_of_pos _ h
theorem Pb (c n:Int)(w:World)(h1: -9223372036854775808≤c)(h2:c≤9223372036854775807)(hn:0<n)(LL:n≤1000000):Calls prog 17 #[.int .i64 c,.int .i64 n] w λe w'=>e=.returned (.int .i64 (mW c n))∧w'=w:=by
 have hz:¬n=0:=by omega
 by_cases hc:c<0
 ·have hp:mW c n=-((c+1).tmod n):=by unfold mW;rw[if_pos hc,Int.neg_tmod]
  go_enter func17,ntmps17
  go_wp2
  all_goals
   go_ret;exact⟨fC hp.symm,rfl⟩
 ·have hp:mW c n=c.tmod n:=by unfold mW;rw[if_neg hc]
  go_enter func17,ntmps17
  go_wp2
  all_goals
   go_ret;exact⟨fC (by first|exact hp.symm|exact(Int.tmod_eq_emod_of_nonneg (by omega)).symm),rfl⟩
end Go.Proofs.YtlhimdjkkiflhaaGreatDoor
namespace Go.Proofs.YtlhimdjkkiflhaaGreatDoor
open Go.RowKit Go.Loop
set_option maxRecDepth 1000000
def I1:List ng:=[⟨1,[],0,0,[1,2]⟩,⟨4,[97],0,0,[]⟩,⟨6,[],1,0,[]⟩]
def T2:Nat→List UInt8
 |0=>[40,97]
 |1=>[40,46,32,97,41]
 |2=>[35,48,61,35,48,35]
 |3=>[49,47,48]
 |_=>[40,97,32,35,59,98,41]
def knE:Nat→Int
 |0=>4
 |1=>3
 |2=>5
 |3=>3
 |_=>0
def Wd:Nat→Nat
 |0=>2
 |1=>1
 |2=>3
 |3=>0
 |_=>7
def I2:Option (List ng×Nat×Int)→Option (Nat×Nat×Int):=λo=>o.map λr=>(r.1.length,r.2.1,r.2.2)
theorem Pc:ji [40,97,32,46,32,35,116,41,32,120] 5=some (I1,8,0):=by decide +kernel
theorem Pd:I2 (ji [35,48,61,40,97,32,46,32,35,48,35,41] 1)=some (0,3,6):=by decide +kernel
theorem Pe:I2 (ji [40,35,48,61,34,116,34,32,35,48,35,32,35,49,61,53,32,35,49,35,41] 9)=some (8,21,0):=by decide +kernel
theorem Pf:((List.range 5).all λk=>decide ((ji (T2 k) 5).map (·.2)=some (Wd k,knE k)))=true:=by decide +kernel
theorem Pg:xQ (aU 11 [40,97,32,46,32,35,116,41,32,120] 0) 5=true:=by decide +kernel
theorem Ph:xQ (aU 13 [35,48,61,40,97,32,46,32,35,48,35,41] 0) 1=true:=by decide +kernel
theorem Pj:xQ (aU 22 [40,35,48,61,34,116,34,32,35,48,35,32,35,49,61,53,32,35,49,35,41] 0) 9=true:=by decide +kernel
theorem Pk:((List.range 5).all λk=>xQ (aU ((T2 k).length + 1) (T2 k) 0) 5)=true:=by decide +kernel
theorem We {w:World}{nv:Value}{bu:List Value}(h:bC w 0 nv bu I1):∃b cap,nv=.slice (some ⟨b,0,none⟩) 3 cap∧w.cell? ⟨b,0,none⟩=some (.int .i64 1)∧w.cell? ⟨b,5,none⟩=some (.int .i64 4)∧w.cell? ⟨b,10,none⟩=some (.int .i64 6)∧w.cell? ⟨b,12,none⟩=some (.int .i64 1):=by
 have hm:(0:Nat)≤maxLen∧(1:Nat)≤maxLen∧(2:Nat)≤maxLen:=by unfold maxLen;omega
 obtain⟨b,cap,rfl,hl,hG,xO⟩:=qg h (by simp[I1]) (λx hx=>by
  simp only[I1,zao,zbg,or_false]at hx;rcases hx with rfl|rfl|rfl
  ·exact⟨zah _,hm.2.2⟩
  ·exact⟨hm.2.1,zah _⟩
  ·exact⟨zah _,zah _⟩)
 have hl3:(dJ I1 bu).length=3:=hl;have h0:=hG 0 (by omega);have h1:=hG 1 (by omega);have h2:=hG 2 (by omega);have e0:iD (dJ I1 bu)[0]=iX ⟨1,[],0,0,[1,2]⟩:=by
  have:=congrArg (λl=>l[0]?) xO;simp only[zbj]at this;rw[zaf (by omega:0<(dJ I1 bu).length)]at this;exact Option.some.inj this
 have e1:iD (dJ I1 bu)[1]=iX ⟨4,[97],0,0,[]⟩:=by
  have:=congrArg (λl=>l[1]?) xO;simp only[zbj]at this;rw[zaf (by omega:1<(dJ I1 bu).length)]at this;exact Option.some.inj this
 have e2:iD (dJ I1 bu)[2]=iX ⟨6,[],1,0,[]⟩:=by
  have:=congrArg (λl=>l[2]?) xO;simp only[zbj]at this;rw[zaf (by omega:2<(dJ I1 bu).length)]at this;exact Option.some.inj this
 generalize (dJ I1 bu)[0]=x0 at h0 e0;generalize (dJ I1 bu)[1]=x1 at h1 e1;generalize (dJ I1 bu)[2]=x2 at h2 e2;obtain⟨k0,t0,n0,d0,s0,a0,c0⟩:=x0;obtain⟨k1,t1,n1,d1,s1,a1,c1⟩:=x1;obtain⟨k2,t2,n2,d2,s2,a2,c2⟩:=x2;simp only[iD,iX,zan,zaO,Nd.mk.injEq,and_true]at e0 e1 e2;obtain⟨rfl,-⟩:=e0;obtain⟨rfl,-⟩:=e1;obtain⟨rfl,-,rfl,-⟩:=e2;exact⟨b,cap,by rw[hl3],by simpa using h0.kind,by simpa using h1.kind,by simpa using h2.kind,by simpa using h2.n⟩
def Wh:Nat→List UInt8
 |0=>[40,43,32,49,47,50,32,40,42,32,50,32,51,41,41]
 |1=>[40,113,117,111,116,101,32,40,97,32,46,32,98,41,41]
 |2=>[40,47,32,49,32,40,45,32,50,32,50,41,41]
 |_=>[40,43,32,49,32,97,41]
def knW:Nat→List UInt8
 |0=>[49,51,47,50]
 |1=>[40,97,32,46,32,98,41]
 |_=>[]
def knF:Nat→Int
 |0=>0
 |1=>0
 |2=>11
 |_=>10
theorem I3:∀k,k<4→l8 (Wh k)=some (knW k,knF k)∧(Wh k).length≤400
 |0,_=>⟨aao,by decide⟩
 |1,_=>⟨aap,by decide⟩
 |2,_=>⟨aaq,by decide⟩
 |3,_=>⟨aar,by decide⟩
 |k+4,h=>by omega
def l9 (p q:Nat):List Nd:=[⟨1,[],0,0,[1,2],some ⟨p,0,none⟩,2⟩,⟨3,[116],0,0,[],none,0⟩,⟨1,[],0,0,[1,3],some ⟨q,0,none⟩,2⟩,⟨0,[],0,0,[],none,0⟩]
def twS:List UInt8:=[40,34,116,34,32,34,116,34,41]
def twL:List UInt8:=[40,35,48,61,34,116,34,32,35,48,35,41]
theorem BC (p q:Nat):(l9 p q).map iD=(l9 0 0).map iD:=rfl
theorem Lu (p q:Nat):cz (l9 p q) 0 403=(twS,0):=(og _ _ (BC p q) 0 403).trans (by decide +kernel)
theorem Lv (p q:Nat):cz (l9 p q) 1 403=(twS,0):=(og _ _ (BC p q) 1 403).trans (by decide +kernel)
theorem Lx (p q:Nat):cz (l9 p q) 2 403=(twL,0):=(og _ _ (BC p q) 2 403).trans (by decide +kernel)
def tP (p q:Nat):Obj:= .cells #[.int .i64 1,.string ⟨#[]⟩,.int .i64 0,.int .i64 0,.slice (some ⟨p,0,none⟩) 2 2,.int .i64 3,.string ⟨#[116]⟩,.int .i64 0,.int .i64 0,.slice none 0 0,.int .i64 1,.string ⟨#[]⟩,.int .i64 0,.int .i64 0,.slice (some ⟨q,0,none⟩) 2 2,.int .i64 0,.string ⟨#[]⟩,.int .i64 0,.int .i64 0,.slice none 0 0] 45
theorem Pm {w:World}{p q g:Nat}(h1:w.heap[p]?=some (.cells #[.int .i64 1,.int .i64 2] 3))(h2:w.heap[q]?=some (.cells #[.int .i64 1,.int .i64 3] 3))(h3:w.heap[g]?=some (tP p q)):aR w g 0 (l9 p q):=by
 have hm:(0:Nat)≤maxLen∧(1:Nat)≤maxLen∧(2:Nat)≤maxLen:=by unfold maxLen;omega
 intro i hi;have hq:i=0∨i=1∨i=2∨i=3:=by
  have:i<4:=hi;omega
 rcases hq with rfl|rfl|rfl|rfl
 ·refine⟨by simp[World.cell?,h3,tP,l9],by simp[World.cell?,h3,tP,l9],by simp[World.cell?,h3,tP,l9],by simp[World.cell?,h3,tP,l9],by simp[World.cell?,h3,tP,l9],.inr ⟨p,0,rfl,λj hj=>?_⟩,hm.1,hm.2.2⟩;have:j=0∨j=1:=by
   have:j<2:=hj;omega
  rcases this with rfl|rfl<;>simp[World.cell?,h1,l9]
 ·exact⟨by simp[World.cell?,h3,tP,l9],by simp[World.cell?,h3,tP,l9],by simp[World.cell?,h3,tP,l9],by simp[World.cell?,h3,tP,l9],by simp[World.cell?,h3,tP,l9],.inl rfl,hm.2.1,hm.1⟩
 ·refine⟨by simp[World.cell?,h3,tP,l9],by simp[World.cell?,h3,tP,l9],by simp[World.cell?,h3,tP,l9],by simp[World.cell?,h3,tP,l9],by simp[World.cell?,h3,tP,l9],.inr ⟨q,0,rfl,λj hj=>?_⟩,hm.1,hm.2.2⟩;have:j=0∨j=1:=by
   have:j<2:=hj;omega
  rcases this with rfl|rfl<;>simp[World.cell?,h2,l9]
 ·exact⟨by simp[World.cell?,h3,tP,l9],by simp[World.cell?,h3,tP,l9],by simp[World.cell?,h3,tP,l9],by simp[World.cell?,h3,tP,l9],by simp[World.cell?,h3,tP,l9],.inl rfl,hm.1,hm.1⟩
end Go.Proofs.YtlhimdjkkiflhaaGreatDoor
namespace Go.Ren
open Go.Proofs.Tryz
open Go Go.Conc Go.ConcX Go.RowKit Go.Proofs Go.Loop Go.Proofs.YtlhimdjkkiflhaaGreatDoor
def ni:Code→Code
 |.block _ c=>c
 |c=>c
def dL:Code→Code
 |.cond _ x _=>x
 |c=>c
def dB:Code→Code
 |.cond _ _ y=>y
 |c=>c
def eL:Code→Code
 |.loop c=>c
 |c=>c
def ck (f:Func):Code:=f.body.getD .skip
def ck0 (f:Func):Code:=Ren.aC (ck f)
def oA (f:Func):Code:=Ren.aC (Ren.aL (ck f))
def kX (f:Func):Code:=Ren.aL (Ren.aL (ck f))
def Rl (f:Func):Code:=Ren.aC (oA f)
def zX (f:Func):Code:=ni (Ren.aL (oA f))
def XK (f:Func):Code:=Ren.aC (zX f)
def kA (f:Func):Code:=dL (Ren.aL (zX f))
def kE (f:Func):Code:=dB (Ren.aL (zX f))
def T3 (f:Func):Code:=Ren.aC (kE f)
def kB (f:Func):Code:=dL (Ren.aL (kE f))
theorem nk:prog.funcs[5]?=some Tryz.f5:=by kernel_rfl
theorem aav:Tryz.f5.body=some (.seq (ck0 Tryz.f5) (.seq (.seq (Rl Tryz.f5) (.block 0 (.seq (XK Tryz.f5) (.cond (.tmp 34) (kA Tryz.f5) (.seq (T3 Tryz.f5) (.cond (.tmp 105) (kB Tryz.f5) .skip)))))) (kX Tryz.f5))):=by kernel_rfl
theorem ntk:Tryz.f5.ntmps=215:=by kernel_rfl
def fE (x:Value):Act:=⟨#[x,undef,undef,undef,undef,undef,undef,undef,undef,undef,undef,undef,undef,undef,undef,undef,undef,undef,undef,undef,undef,undef,undef,undef,undef,undef,undef,undef,undef,undef,undef,undef,undef,undef,undef,undef,undef,undef,undef,undef,undef,undef,undef,undef,undef,undef,undef,undef,undef,undef,undef,undef,undef,undef,undef,undef,undef,undef,undef,undef,undef,undef,undef,undef,undef,undef,undef,undef,undef,undef,undef,undef,undef,undef,undef,undef,undef,undef,undef,undef,undef,undef,undef,undef,undef,undef,undef,undef,undef,undef,undef,undef,undef,undef,undef,undef,undef,undef,undef,undef,undef,undef,undef,undef,undef,undef,undef,undef,undef,undef,undef,undef,undef,undef,undef,undef,undef,undef,undef,undef,undef,undef,undef,undef,undef,undef,undef,undef,undef,undef,undef,undef,undef,undef,undef,undef,undef,undef,undef,undef,undef,undef,undef,undef,undef,undef,undef,undef,undef,undef,undef,undef,undef,undef,undef,undef,undef,undef,undef,undef,undef,undef,undef,undef,undef,undef,undef,undef,undef,undef,undef,undef,undef,undef,undef,undef,undef,undef,undef,undef,undef,undef,undef,undef,undef,undef,undef,undef,undef,undef,undef,undef,undef,undef,undef,undef,undef,undef,undef,undef,undef,undef,undef,undef,undef,undef,undef,undef,undef,undef,undef,undef,undef,undef,undef],[]⟩
def fK (c p:Int)(b:Bool)(x:Value):Act:=⟨#[.int .i64 c,undef,.bool false,undef,undef,undef,undef,undef,undef,undef,undef,undef,undef,undef,undef,undef,undef,undef,undef,undef,undef,undef,undef,undef,undef,undef,undef,undef,undef,undef,undef,undef,.int .i64 c,.int .i64 p,.bool b,.bool b,undef,undef,undef,undef,undef,undef,undef,undef,undef,undef,undef,undef,undef,undef,undef,undef,undef,undef,undef,undef,undef,undef,undef,undef,undef,undef,undef,undef,undef,undef,undef,undef,undef,undef,undef,undef,undef,undef,undef,undef,undef,undef,undef,undef,undef,undef,undef,undef,undef,undef,undef,undef,undef,undef,undef,undef,undef,undef,undef,undef,undef,undef,undef,undef,undef,undef,undef,undef,undef,x,x,undef,undef,undef,undef,undef,undef,undef,undef,undef,undef,undef,undef,undef,undef,undef,undef,undef,undef,undef,undef,undef,undef,undef,undef,undef,undef,undef,undef,undef,undef,undef,undef,undef,undef,undef,undef,undef,undef,undef,undef,undef,undef,undef,undef,undef,undef,undef,undef,undef,undef,undef,undef,undef,undef,undef,undef,undef,undef,undef,undef,undef,undef,undef,undef,undef,undef,undef,undef,undef,undef,undef,undef,undef,undef,undef,undef,undef,undef,undef,undef,undef,undef,undef,undef,undef,undef,undef,undef,undef,undef,undef,undef,undef,undef,undef,undef,undef,undef,undef,undef,undef,undef,undef,undef,undef,undef,undef,undef],[]⟩
theorem t215 (x:Value):(⟨#[x]++Array.replicate (215-#[x].size) undef,[]⟩:Act)=fE x:=by
 unfold fE;generalize undef=u
 kernel_rfl
theorem Wi (x:Value):Frame.enter prog 5 #[x] .normal=(base 5).at (fE x) [.code (.seq (ck0 Tryz.f5) (.seq (.seq (Rl Tryz.f5) (.block 0 (.seq (XK Tryz.f5) (.cond (.tmp 34) (kA Tryz.f5) (.seq (T3 Tryz.f5) (.cond (.tmp 105) (kB Tryz.f5) .skip)))))) (kX Tryz.f5)))]:=by
 rw[enter_at _ nk aav,ntk,t215]
theorem adM:aG prog Fz Sz (ck0 Tryz.f5)=true:=by kernel_rfl
theorem adN:aG prog Fz Sz (Rl Tryz.f5)=true:=by kernel_rfl
theorem adO:aG prog Fz Sz (XK Tryz.f5)=true:=by kernel_rfl
theorem aaw:aG prog Fz Sz (T3 Tryz.f5)=true:=by kernel_rfl
theorem adP:Tryz.f5.results=#[.tmp 2]:=by kernel_rfl
theorem aax:prog.inits.idxOf? 5=none:=by kernel_rfl
theorem I4:(prog.funcs[18]?).any (λfn=>fn.body.isSome)=true:=by kernel_rfl
theorem I5:(prog.funcs[18]?).any (λfn=>fn.name != "runtime.NumGoroutine")=true:=by kernel_rfl
theorem aay:(prog.funcs[11]?).any (λfn=>fn.body.isSome)=true:=by kernel_rfl
theorem aaz:(prog.funcs[11]?).any (λfn=>fn.name != "runtime.NumGoroutine")=true:=by kernel_rfl
theorem aa.SB {Ψ:cI}{cs:List Frame}{w:World}{b:Frame}{a:Act}{ops:Array Oper}{i:Nat}{rest:List Nat}{kk:List Item}{s:List UInt8}{dep:Int}(bY:∀dp:Nat,dep=dp→dp≤30→lX s dp){d:Tmp}(hd:(ops[i]?).bind (·.dst)=some d)(h:∀v w',IE s dep w v w'→aa prog Sz Ψ (b.at (a.put (some d) v) (.inRegion ops rest::kk)) cs w'):aa prog Sz Ψ (Frame.enter prog 18 #[.string ⟨⟨s⟩⟩,.int .i64 dep] .normal) (b.at a (.inRegion ops (i::rest)::kk)::cs) w:=
 aa.top bY λv w' h1=>by rw[hd];exact h v w' h1
section
variable {Ψ:cI}{w:World}
theorem aa.known0 {c:Int}(n1: -9223372036854775808≤c)(n2:c≤9223372036854775807)
 (h0:∀w',aj w w'→aa prog Sz Ψ ((base 5).at (fK c 0 true undef) [.code (kA Tryz.f5),.inBlock 0,.code (kX Tryz.f5)]) [] w')
 (h1:∀w',aj w w'→aa prog Sz Ψ ((base 5).at (fK c 1 false (.bool true)) [.code (kB Tryz.f5),.inBlock 0,.code (kX Tryz.f5)]) [] w')
 (h2:∀w',aj w w'→aa prog Sz Ψ ((base 5).at (fK c 2 false (.bool false)) [.code (kX Tryz.f5)]) [] w'):
 aa prog Sz Ψ (Frame.enter prog 5 #[.int .i64 c] .normal) [] w:=by
 have mixed:prog.follows Departure.mixedOrders=true:=by kernel_rfl
 have H0:Hid _:=h0;have H1:Hid _:=h1;have H2:Hid _:=h2;have hq:mW c 3=0∨mW c 3=1∨mW c 3=2:=by have:=O9 (c:=c) (n:=3);have:=Pa (c:=c) (n:=3) (by omega);omega
 have HPK:Hid _:=λw=>Pb c 3 w n1 n2 (by omega) (by omega);clear h0 h1 h2;rw[Wi];unfold fE;refine aa.seq ?_;refine aa.code bZ adM rfl ⟨_,nk⟩ rfl λτ d=>?_;have gP:Hid (aj w (w.re τ d)):=⟨zaa _,λ_ _=>rfl⟩;generalize w.re τ d=w1 at *;generalize cP:([.code (.seq (.seq (Rl Tryz.f5) (.block 0 (.seq (XK Tryz.f5) (.cond (.tmp 34) (kA Tryz.f5) (.seq (T3 Tryz.f5) (.cond (.tmp 105) (kB Tryz.f5) .skip)))))) (kX Tryz.f5))]:List Item)=kq;dsimp only[ck0,ck,Ren.aC,Tryz.f5,Option.getD];go_wp2_with fail;subst cP;show aa _ _ _ _ _ _;refine aa.seq (aa.seq ?_);refine aa.code bZ adN rfl ⟨_,nk⟩ rfl λτ d=>?_;have gN:Hid (aj w (w1.re τ d)):=aj.heap gP.out rfl;generalize w1.re τ d=w2 at *;generalize cP:([.code (.block 0 (.seq (XK Tryz.f5) (.cond (.tmp 34) (kA Tryz.f5) (.seq (T3 Tryz.f5) (.cond (.tmp 105) (kB Tryz.f5) .skip))))),.code (kX Tryz.f5)]:List Item)=kq;dsimp only[Rl,oA,ck,Ren.aC,Ren.aL,Tryz.f5,Option.getD];go_wp2_with fail;refine Calls.mono (HPK.out _) ?_;rintro e w3 ⟨rfl,rfl⟩;clear gP HPK;go_wp2_with fail;subst cP;show aa _ _ _ _ _ _;refine aa.block (aa.seq ?_);refine aa.code bZ adO rfl ⟨_,nk⟩ rfl λτ d=>?_;have gQ:Hid (aj w (w3.re τ d)):=aj.heap gN.out rfl;generalize w3.re τ d=w4 at *;clear gN;generalize cP:([.code (.cond (.tmp 34) (kA Tryz.f5) (.seq (T3 Tryz.f5) (.cond (.tmp 105) (kB Tryz.f5) .skip))),.inBlock 0,.code (kX Tryz.f5)]:List Item)=kq;dsimp only[XK,zX,oA,ck,ni,Ren.aC,Ren.aL,Tryz.f5,Option.getD];rcases hq with hq|hq|hq
 ·rw[hq];go_wp2_with fail;subst cP;show aa _ _ _ _ _ _;refine aa.cond (t:=true) rfl ?_;exact H0.out _ gQ.out
 ·rw[hq];go_wp2_with fail;subst cP;show aa _ _ _ _ _ _;refine aa.cond (t:=false) rfl ?_;show aa _ _ _ _ _ _;refine aa.seq ?_;refine aa.code bZ aaw rfl ⟨_,nk⟩ rfl λτ d=>?_;have oT:Hid (aj w (w4.re τ d)):=aj.heap gQ.out rfl;generalize w4.re τ d=w5 at *;generalize cP:([.code (.cond (.tmp 105) (kB Tryz.f5) .skip),.inBlock 0,.code (kX Tryz.f5)]:List Item)=kq;dsimp only[T3,kE,zX,oA,ck,ni,dB,Ren.aC,Ren.aL,Tryz.f5,Option.getD];go_wp2_with fail;subst cP;show aa _ _ _ _ _ _;refine aa.cond (t:=true) rfl ?_;exact H1.out _ oT.out
 ·rw[hq];go_wp2_with fail;subst cP;show aa _ _ _ _ _ _;refine aa.cond (t:=false) rfl ?_;show aa _ _ _ _ _ _;refine aa.seq ?_;refine aa.code bZ aaw rfl ⟨_,nk⟩ rfl λτ d=>?_;have oT:Hid (aj w (w4.re τ d)):=aj.heap gQ.out rfl;generalize w4.re τ d=w5 at *;generalize cP:([.code (.cond (.tmp 105) (kB Tryz.f5) .skip),.inBlock 0,.code (kX Tryz.f5)]:List Item)=kq;dsimp only[T3,kE,zX,oA,ck,ni,dB,Ren.aC,Ren.aL,Tryz.f5,Option.getD];go_wp2_with fail;subst cP;show aa _ _ _ _ _ _;refine aa.cond (t:=false) rfl ?_;show aa _ _ _ _ _ _;refine aa.skip (aa.inBlock ?_);exact H2.out _ oT.out
end
def WY (f:Func):Code:=Ren.aL (kA f)
def kA2 (f:Func):Code:=Ren.aL (WY f)
def XL (f:Func):Code:=Ren.aL (kA2 f)
def T4 (f:Func):Array Oper:=Ren.cC (Ren.aC (kA f))
def SC (f:Func):Array Oper:=Ren.cC (Ren.aC (WY f))
def Qb (f:Func):Array Oper:=Ren.cC (Ren.aC (kA2 f))
theorem aaA:kA Tryz.f5=.seq (.region 3 (T4 Tryz.f5) false) (.seq (.region 4 (SC Tryz.f5) false) (.seq (.region 5 (Qb Tryz.f5) false) (XL Tryz.f5))):=by kernel_rfl
theorem adQ:aG prog Fz Sz (XL Tryz.f5)=true:=by kernel_rfl
theorem T5:(T4 Tryz.f5).size=8:=by kernel_rfl
def Wj (f:Func)(i:Nat):Oper:=(T4 f)[i]!
theorem adR:(T4 Tryz.f5)[0]?=some (Wj Tryz.f5 0):=by kernel_rfl
theorem Wk:(Wj Tryz.f5 0).op=.call { callee:= .value (.func 18),args:=#[.const (.string ⟨⟨[40,97,32,46,32,35,116,41,32,120]⟩⟩),.const (.int .i64 5)],argTypes:=#[9,3] }:=by kernel_rfl
theorem adS:(Wj Tryz.f5 0).guard=none:=by kernel_rfl
theorem adT:((T4 Tryz.f5)[0]?).bind (·.dst)=some 37:=by kernel_rfl
theorem adU:([1,2,3,4,5,6,7].all λi=>((T4 Tryz.f5)[i]?).all λo=>fw prog Fz Sz o.op)=true:=by kernel_rfl
theorem T6:(SC Tryz.f5).size=8:=by kernel_rfl
def Wl (f:Func)(i:Nat):Oper:=(SC f)[i]!
theorem adV:(SC Tryz.f5)[0]?=some (Wl Tryz.f5 0):=by kernel_rfl
theorem Wm:(Wl Tryz.f5 0).op=.call { callee:= .value (.func 18),args:=#[.const (.string ⟨⟨[35,48,61,40,97,32,46,32,35,48,35,41]⟩⟩),.const (.int .i64 1)],argTypes:=#[9,3] }:=by kernel_rfl
theorem adW:(Wl Tryz.f5 0).guard=none:=by kernel_rfl
theorem adX:((SC Tryz.f5)[0]?).bind (·.dst)=some 42:=by kernel_rfl
theorem adY:([1,2,3,4,5,6,7].all λi=>((SC Tryz.f5)[i]?).all λo=>fw prog Fz Sz o.op)=true:=by kernel_rfl
theorem T7:(Qb Tryz.f5).size=8:=by kernel_rfl
def Wn (f:Func)(i:Nat):Oper:=(Qb f)[i]!
theorem adZ:(Qb Tryz.f5)[0]?=some (Wn Tryz.f5 0):=by kernel_rfl
theorem Wo:(Wn Tryz.f5 0).op=.call { callee:= .value (.func 18),args:=#[.const (.string ⟨⟨[40,35,48,61,34,116,34,32,35,48,35,32,35,49,61,53,32,35,49,35,41]⟩⟩),.const (.int .i64 9)],argTypes:=#[9,3] }:=by kernel_rfl
theorem ad0:(Wn Tryz.f5 0).guard=none:=by kernel_rfl
theorem ad1:((Qb Tryz.f5)[0]?).bind (·.dst)=some 47:=by kernel_rfl
theorem ad2:([1,2,3,4,5,6,7].all λi=>((Qb Tryz.f5)[i]?).all λo=>fw prog Fz Sz o.op)=true:=by kernel_rfl
def uP (w:World)(b1:Nat):Prop:=w.cell? ⟨b1,0,none⟩=some (.int .i64 1)∧w.cell? ⟨b1,5,none⟩=some (.int .i64 4)∧w.cell? ⟨b1,10,none⟩=some (.int .i64 6)∧w.cell? ⟨b1,12,none⟩=some (.int .i64 1)
theorem aj.cell {w w':World}(h:aj w w'){a:Addr}{v:Value}(hc:w.cell? a=some v):w'.cell? a=some v:=by
 rw[←hc];unfold World.cell?
 rw[h.2 a.block (YtlhimdjkkiflhaaGreatDoor.jJ hc)]
theorem uP.on {w w':World}{b1:Nat}(h:uP w b1)(hb:aj w w'):uP w' b1:=⟨aj.cell hb h.1,aj.cell hb h.2.1,aj.cell hb h.2.2.1,aj.cell hb h.2.2.2⟩
theorem I6 {s:List UInt8}{d:Nat}(h:xQ (aU (s.length+1) s 0) d=true){dp:Nat}(e:(d:Int)=dp):lX s dp:=by
 obtain rfl:d=dp:=by omega
 exact λd s' hr=>G3 h d s' hr
section
variable {Ψ:cI}{w w1:World}
theorem aa.Wp {c:Int}(hb1:aj w w1)(h:∀w' a todo,a.defers=[]→a.tmps.getD 2 undef=.bool true→aj w w'→aa prog Sz Ψ (fR (base 5) a todo) [] w'):aa prog Sz Ψ ((base 5).at (fK c 0 true undef) [.code (kA Tryz.f5),.inBlock 0,.code (kX Tryz.f5)]) [] w1:=by
 have mixed:prog.follows Departure.mixedOrders=true:=by kernel_rfl
 have HH:Hid _:=h;have gP:Hid (aj w w1):=hb1;clear h hb1;rw[aaA];unfold fK;refine aa.seq ?_;refine aa.region ?_;rw[T5,show List.range 8=[0,1,2,3,4,5,6,7] from rfl];refine aa.n4 (f:=18) (xs:=#[.const (.string ⟨⟨[40,97,32,46,32,35,116,41,32,120]⟩⟩),.const (.int .i64 5)]) (ats:=#[9,3]) (args:=#[.string ⟨⟨[40,97,32,46,32,35,116,41,32,120]⟩⟩,.int .i64 5]) adR adS (by decide) Wk I4 I5 (by simp[fV,gZ]) (by simp[Act.eval]) ?_;refine aa.SB (λdp hd wj=>I6 (d:=5) Pg (by omega)) adT λv w2 iK=>?_;obtain⟨hb,nodes,at_,e,nv3,bu,hr,rfl,hn⟩:=iK;rw[Pc]at hr;simp only[zam,zab]at hr;obtain⟨rfl,rfl,rfl⟩:=hr;obtain⟨b1,yL,rfl,m0,m1,m2,m3⟩:=We hn;have HM2:Hid (uP w2 b1):=⟨m0,m1,m2,m3⟩;clear hn m0 m1 m2 m3;have gN:Hid (aj w w2):=gP.out.trans hb;clear gP hb;refine aa.ops bZ rfl ⟨_,nk⟩ rfl adU 1 ((T4 Tryz.f5).toList.drop 1) (by rw[zaj,zbl,T5];rfl) (λj=>by rw[zaU,zaN]) λpz d'=>?_;have gQ:Hid (aj w (w2.re pz d')):=aj.heap gN.out rfl;have HM3:Hid (uP (w2.re pz d') b1):=HM2.out;clear gN HM2;generalize w2.re pz d'=w3 at *;generalize cP:([.code (.seq (.region 4 (SC Tryz.f5) false) (.seq (.region 5 (Qb Tryz.f5) false) (XL Tryz.f5))),.inBlock 0,.code (kX Tryz.f5)]:List Item)=kq;dsimp only[T4,kA,kE,zX,oA,ck,ni,dL,dB,Ren.cC,Ren.aC,Ren.aL,Tryz.f5,Option.getD];simp only[zaG,zaA];go_wp2_with fail;subst cP;show aa _ _ _ _ _ _;refine aa.seq ?_;refine aa.region ?_;rw[T6,show List.range 8=[0,1,2,3,4,5,6,7] from rfl];refine aa.n4 (f:=18) (xs:=#[.const (.string ⟨⟨[35,48,61,40,97,32,46,32,35,48,35,41]⟩⟩),.const (.int .i64 1)]) (ats:=#[9,3]) (args:=#[.string ⟨⟨[35,48,61,40,97,32,46,32,35,48,35,41]⟩⟩,.int .i64 1]) adV adW (by decide) Wm I4 I5 (by simp[fV,gZ]) (by simp[Act.eval]) ?_;refine aa.SB (λdp hd wj=>I6 (d:=1) Ph (by omega)) adX λv w4 iK=>?_;obtain⟨hb,nodes,at_,e,nv4,bu,hr,rfl,hn⟩:=iK;have hq:=Pd;rw[hr]at hq;simp only[I2,zaH,zam,zab]at hq;obtain⟨-,rfl,rfl⟩:=hq;obtain⟨a2,c2,rfl⟩:=bh hn.1;generalize hnl:nodes.length=l2 at *;have HM4:Hid (uP w4 b1):=uP.on HM3.out hb;clear hn hr HM3 hnl;have oT:Hid (aj w w4):=gQ.out.trans hb;clear gQ hb;refine aa.ops bZ rfl ⟨_,nk⟩ rfl adY 1 ((SC Tryz.f5).toList.drop 1) (by rw[zaj,zbl,T6];rfl) (λj=>by rw[zaU,zaN]) λpz d'=>?_;have n7:Hid (aj w (w4.re pz d')):=aj.heap oT.out rfl;have HM5:Hid (uP (w4.re pz d') b1):=HM4.out;clear oT HM4;generalize w4.re pz d'=w5 at *;generalize cP:([.code (.seq (.region 5 (Qb Tryz.f5) false) (XL Tryz.f5)),.inBlock 0,.code (kX Tryz.f5)]:List Item)=kq;dsimp only[SC,WY,kA,kE,zX,oA,ck,ni,dL,dB,Ren.cC,Ren.aC,Ren.aL,Tryz.f5,Option.getD];simp only[zaG,zaA];go_wp2_with fail;subst cP;show aa _ _ _ _ _ _;refine aa.seq ?_;refine aa.region ?_;rw[T7,show List.range 8=[0,1,2,3,4,5,6,7] from rfl];refine aa.n4 (f:=18) (xs:=#[.const (.string ⟨⟨[40,35,48,61,34,116,34,32,35,48,35,32,35,49,61,53,32,35,49,35,41]⟩⟩),.const (.int .i64 9)]) (ats:=#[9,3]) (args:=#[.string ⟨⟨[40,35,48,61,34,116,34,32,35,48,35,32,35,49,61,53,32,35,49,35,41]⟩⟩,.int .i64 9]) adZ ad0 (by decide) Wo I4 I5 (by simp[fV,gZ]) (by simp[Act.eval]) ?_;refine aa.SB (λdp hd wj=>I6 (d:=9) Pj (by omega)) ad1 λv w6 iK=>?_;obtain⟨hb,nodes,at_,e,nv5,bu,hr,rfl,hn⟩:=iK;have hq:=Pe;rw[hr]at hq;simp only[I2,zaH,zam,zab]at hq;obtain⟨hl8,rfl,rfl⟩:=hq;obtain⟨a3,c3,rfl⟩:=bh hn.1;rw[hl8];have HM6:Hid (uP w6 b1):=uP.on HM5.out hb;clear hn hr HM5 hl8;have lp:Hid (aj w w6):=n7.out.trans hb;clear n7 hb;refine aa.ops bZ rfl ⟨_,nk⟩ rfl ad2 1 ((Qb Tryz.f5).toList.drop 1) (by rw[zaj,zbl,T7];rfl) (λj=>by rw[zaU,zaN]) λpz d'=>?_;have pK:Hid (aj w (w6.re pz d')):=aj.heap lp.out rfl;have HM7:Hid (uP (w6.re pz d') b1):=HM6.out;clear lp HM6;generalize w6.re pz d'=w7 at *;generalize cP:([.code (XL Tryz.f5),.inBlock 0,.code (kX Tryz.f5)]:List Item)=kq;dsimp only[Qb,kA2,WY,kA,kE,zX,oA,ck,ni,dL,dB,Ren.cC,Ren.aC,Ren.aL,Tryz.f5,Option.getD];simp only[zaG,zaA];go_wp2_with fail;subst cP;show aa _ _ _ _ _ _;refine aa.code bZ adQ rfl ⟨_,nk⟩ rfl λτ d=>?_;have Oo:Hid (aj w (w7.re τ d)):=aj.heap pK.out rfl;have HM8:Hid (uP (w7.re τ d) b1):=HM7.out;clear pK HM7;generalize w7.re τ d=w8 at *;obtain⟨m0,m1,m2,m3⟩:=HM8.out;dsimp only[XL,kA2,WY,kA,kE,zX,oA,ck,ni,dL,dB,Ren.aC,Ren.aL,Tryz.f5,Option.getD];go_wp2_with fail;show ∀todo,aa _ _ _ _ _ _;intro todo;exact HH.out _ _ _ rfl rfl Oo.out
end
end Go.Ren
