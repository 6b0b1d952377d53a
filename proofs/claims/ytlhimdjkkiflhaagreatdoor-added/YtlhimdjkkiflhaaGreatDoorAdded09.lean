import Derived.StillTailTactics
import Derived.Deep.LoopGhost
import Derived.Test.YtlhimdjkkiflhaaGreatDoorAdded08
set_option maxHeartbeats 8000000
set_option maxRecDepth 100000
open Go.Value renaming int→Γ
open Go.IntKind renaming i64→Δ
open Go renaming undef→Θ,World→Λ,Value→Ξ,Frame→η,Calls→θ,execOp→ξ,Program→υ,TypeId→φ,FuncId→ω,Operand→ϋ,typeInfo→ό,maxLen→ώ,zeroValue→ϐ,Goroutine→ϑ
open Go.Departure renaming mixedOrders→Φ
open Go.Instr renaming typeAssert→Ω,findNow→χ,loadAt→ϊ
open Go.RowKit renaming Below→ζ
open Array renaming replicate→ι
open Int renaming gcd→π
open Go.Region renaming wanted→ψ
open List renaming range→ύ
namespace Go.Proofs.YtlhimdjkkiflhaaGreatDoor
open Go.RowKit Go.Loop
def Aq:List UInt8:=[35,48,61,40,97,32,46,32,35,48,35,41]
theorem Ie:cK (gi.map bF) 2 403=(Aq,0):=by decide +kernel
theorem OV {w:Λ}{nv:Ξ}{bC:List Ξ}(h:bJ w 0 nv bC gi):∃b cap sb so sc G,nv=.slice (some ⟨b,0,none⟩) 2 cap∧w.cell? ⟨b,0,none⟩=some (Γ Δ 1)∧w.cell? ⟨b,4,none⟩=some (.slice (some ⟨sb,so,none⟩) 2 sc)∧w.cell? ⟨b,5,none⟩=some (Γ Δ 4)∧w.cell? ⟨sb,so,none⟩=some (Γ Δ 1)∧w.cell? ⟨sb,so+1,none⟩=some (Γ Δ 0)∧bh w b 0 G∧G.length=2∧cK G 2 403=(Aq,0):=by
 have hm:(1:Nat)≤ώ∧(2:Nat)≤ώ:=by unfold ώ;omega
 obtain⟨b,cap,rfl,hl,hG,Ar⟩:=sH h (by simp[gi]) (λx hx=>by
  simp only[gi,zav,zbz,or_false]at hx;rcases hx with rfl|rfl
  ·exact⟨zaw _,hm.2⟩
  ·exact⟨hm.1,zaw _⟩)
 have hl2:(eE gi bC).length=2:=hl;have hwp:=(Ia _ _ (Ar.trans (by simp[gi,bF,jr]:gi.map bF=(gi.map bF).map jr)) 2 403).trans Ie;have h0:=hG 0 (by omega);have h1:=hG 1 (by omega);have e0:jr (eE gi bC)[0]=bF ⟨1,[],0,0,[1,0]⟩:=by
  have:=zal (λl=>l[0]?) Ar;simp only[zbG]at this;rw[zaq (by omega:0<(eE gi bC).length)]at this;exact zaF this
 have e1:jr (eE gi bC)[1]=bF ⟨4,[97],0,0,[]⟩:=by
  have:=zal (λl=>l[1]?) Ar;simp only[zbG]at this;rw[zaq (by omega:1<(eE gi bC).length)]at this;exact zaF this
 generalize (eE gi bC)[0]=x0 at h0 e0;generalize (eE gi bC)[1]=x1 at h1 e1;obtain⟨k0,t0,n0,d0,s0,a0,c0⟩:=x0;obtain⟨k1,t1,n1,d1,s1,a1,c1⟩:=x1;simp only[jr,bF,zaD,zbu,Nd.mk.injEq,zaA]at e0 e1;obtain⟨rfl,rfl,rfl,rfl,rfl⟩:=e0;obtain⟨rfl,rfl,rfl,rfl,rfl⟩:=e1;rcases h0.ints with hx|⟨sb,so,rfl,hc⟩
 ·cases hx
 ·have q0:=hc 0 (by simp);have q1:=hc 1 (by simp);exact⟨b,cap,sb,so,c0,eE gi bC,by rw[hl2],by simpa using h0.kind,by simpa using h0.subs,by simpa using h1.kind,by simpa using q0,by simpa using q1,hG,hl2,hwp⟩
end Go.Proofs.YtlhimdjkkiflhaaGreatDoor
namespace Go.Ren
open Go.Proofs.Tryz
open Go Go.Conc Go.ConcX Go.RowKit Go.Proofs Go.Loop Go.Proofs.YtlhimdjkkiflhaaGreatDoor
def c20 (f:Func):Code:=f.body.getD .skip
def Xg (f:Func):Code:=Ren.bD (c20 f)
def Vg (f:Func):Array Oper:=Ren.fh (Ren.bD (Ren.aZ (c20 f)))
def OW (f:Func):Code:=Ren.aZ (Ren.aZ (c20 f))
theorem SM:prog.funcs[20]?=some f20:=by kernel_rfl
theorem aaz:f20.body=some (.seq (Xg f20) (.seq (.region 1 (Vg f20) false) (OW f20))):=by kernel_rfl
theorem aeT:f20.ntmps=73:=by kernel_rfl
theorem t73:(#[]++ι (73-(#[]:Array Ξ).size) Θ:Array Ξ)=#[Θ,Θ,Θ,Θ,Θ,Θ,Θ,Θ,Θ,Θ,Θ,Θ,Θ,Θ,Θ,Θ,Θ,Θ,Θ,Θ,Θ,Θ,Θ,Θ,Θ,Θ,Θ,Θ,Θ,Θ,Θ,Θ,Θ,Θ,Θ,Θ,Θ,Θ,Θ,Θ,Θ,Θ,Θ,Θ,Θ,Θ,Θ,Θ,Θ,Θ,Θ,Θ,Θ,Θ,Θ,Θ,Θ,Θ,Θ,Θ,Θ,Θ,Θ,Θ,Θ,Θ,Θ,Θ,Θ,Θ,Θ,Θ,Θ]:=by
 generalize Θ=u;simp[ι,List.replicate]
theorem Xh:η.enter prog 20 #[] .normal=(base 20).at ⟨#[Θ,Θ,Θ,Θ,Θ,Θ,Θ,Θ,Θ,Θ,Θ,Θ,Θ,Θ,Θ,Θ,Θ,Θ,Θ,Θ,Θ,Θ,Θ,Θ,Θ,Θ,Θ,Θ,Θ,Θ,Θ,Θ,Θ,Θ,Θ,Θ,Θ,Θ,Θ,Θ,Θ,Θ,Θ,Θ,Θ,Θ,Θ,Θ,Θ,Θ,Θ,Θ,Θ,Θ,Θ,Θ,Θ,Θ,Θ,Θ,Θ,Θ,Θ,Θ,Θ,Θ,Θ,Θ,Θ,Θ,Θ,Θ,Θ],[]⟩ [.code (.seq (Xg f20) (.seq (.region 1 (Vg f20) false) (OW f20)))]:=by
 rw[enter_at _ SM aaz,aeT,t73]
theorem acO:bp prog Fz Sz (Xg f20)=true:=by kernel_rfl
theorem acP:bp prog Fz Sz (OW f20)=true:=by kernel_rfl
theorem YG:(Vg f20).size=8:=by kernel_rfl
def aaA (f:Func)(i:Nat):Oper:=(Vg f)[i]!
theorem aaB:(Vg f20)[0]?=some (aaA f20 0):=by kernel_rfl
theorem aaC:(aaA f20 0).op=.call { callee:= .value (.func 18),args:=#[.const (.string ⟨⟨[35,55,61,40,97,32,46,32,35,55,35,41,32,98]⟩⟩),.const (Γ Δ 5)],argTypes:=#[9,3] }:=by kernel_rfl
theorem aaD:(aaA f20 0).guard=none:=by kernel_rfl
theorem aaE:((Vg f20)[0]?).bind (·.dst)=some 7:=by kernel_rfl
theorem acQ:([1,2,3,4,5,6,7].all λi=>((Vg f20)[i]?).all λo=>gw prog Fz Sz o.op)=true:=by kernel_rfl
theorem aeU:(prog.funcs[18]?).any (λfn=>fn.body.isSome)=true:=by kernel_rfl
theorem aeV:(prog.funcs[18]?).any (λfn=>fn.name != "runtime.NumGoroutine")=true:=by kernel_rfl
theorem acR:f20.results=#[.tmp 0]:=by kernel_rfl
theorem Ig:∀t∈aG (qw.length+1) qw 0,t.kind≠5∧t.kind≠4:=by decide +kernel
theorem ae.aeW {Ψ:aV}{cs:List η}{w:Λ}{b:η}{a:Act}{ops:Array Oper}{i:Nat}{rest:List Nat}{kk:List Item}{s:List UInt8}{dep:Int}(bV:∀dp:Nat,dep=dp→dp≤30→nJ s dp){d:Tmp}(hd:(ops[i]?).bind (·.dst)=some d){a':Ξ→Act}(ha:∀v,a.put (some d) v=a' v)(h:∀v w',EC s dep w v w'→ae prog Sz Ψ (b.at (a' v) (.inRegion ops rest::kk)) cs w'):ae prog Sz Ψ (η.enter prog 18 #[.string ⟨⟨s⟩⟩,Γ Δ dep] .normal) (b.at a (.inRegion ops (i::rest)::kk)::cs) w:=
 ae.top bV λv w' h1=>by rw[hd,ha];exact h v w' h1
section
variable {Ψ:aV}{cs:List η}{w:Λ}{b:η}{a:Act}{ops:Array Oper}{i:Nat}{rest:List Nat}{kk:List Item}
theorem ae.aaF (hp:Pow w)(h:∀w',ak w w'→mj prog Sz Ψ cs (.bool true) w'):ae prog Sz Ψ (η.enter prog 20 #[] .normal) cs w:=by
 have mixed:prog.follows Φ=true:=by kernel_rfl
 have HH:Hid _:=h;have HP:Hid (Pow w):=hp;clear h hp;rw[Xh];refine ae.seq ?_;refine ae.code cj acO rfl ⟨_,SM⟩ rfl λτ d=>?_;have je:Hid (ak w (w.re τ d)):=⟨zab _,λ_ _=>rfl⟩;generalize w.re τ d=w1 at *;generalize en:([.code (.seq (.region 1 (Vg f20) false) (OW f20))]:List Item)=kq;dsimp only[Xg,c20,Ren.bD,f20,Option.getD];go_wp2_with fail;subst en;show ae _ _ _ _ _ _;refine ae.seq ?_;refine ae.region ?_;rw[YG,show ύ 8=[0,1,2,3,4,5,6,7] from rfl];refine ae.EA (f:=18) (xs:=#[.const (.string ⟨⟨[35,55,61,40,97,32,46,32,35,55,35,41,32,98]⟩⟩),.const (Γ Δ 5)]) (ats:=#[9,3]) (args:=#[.string ⟨⟨qw⟩⟩,Γ Δ 5]) aaB aaD (by decide) aaC aeU aeV (by simp[gG,lu]) (by simp[Act.eval,qw]) ?_;refine ae.aeW (λdp hd Cg=>by
  obtain rfl:dp=5:=by omega
  exact⟨λd s' hr=>KV KW d s' hr,Ey Ig⟩) aaE (a':=λv=>⟨#[.bool false,Θ,Θ,Θ,Θ,Θ,Θ,v,Θ,Θ,Θ,Θ,Θ,Θ,Θ,Θ,Θ,Θ,Θ,Θ,Θ,Θ,Θ,Θ,Θ,Θ,Θ,Θ,Θ,Θ,Θ,Θ,Θ,Θ,Θ,Θ,Θ,Θ,Θ,Θ,Θ,Θ,Θ,Θ,Θ,Θ,Θ,Θ,Θ,Θ,Θ,Θ,Θ,Θ,Θ,Θ,Θ,Θ,Θ,Θ,Θ,Θ,Θ,Θ,Θ,Θ,Θ,Θ,Θ,Θ,Θ,Θ,Θ],[]⟩) (λv=>by simp[Act.put]) λv w2 mi=>?_
 obtain⟨hb2,nodes,at_,e,nv,bC,hr,rfl,hn⟩:=mi;rw[show lG qw 5=some (gi,12,0) from KX]at hr;simp only[zaG,zag]at hr;obtain⟨rfl,rfl,rfl⟩:=hr;obtain⟨bb,cap,sb,so,sc,G,rfl,m0,m4,m5,s0,s1,hG,hGl,hwr⟩:=OV hn;clear hn;have iu:Hid (ak w w2):=je.out.trans hb2;clear je hb2;refine ae.ops cj rfl ⟨_,SM⟩ rfl acQ 1 ((Vg f20).toList.drop 1) (by rw[zax,zbM,YG];rfl) (λj=>by rw[zbs,zbq]) λn9 d'=>?_;have jl:Hid (ak w (w2.re n9 d')):=ak.heap iu.out rfl;have HG3:Hid (bh (w2.re n9 d') bb 0 G):=bh.SK hG rfl;have HM3:Hid ((w2.re n9 d').cell? ⟨bb,0,none⟩=some (Γ Δ 1)∧(w2.re n9 d').cell? ⟨bb,4,none⟩=some (.slice (some ⟨sb,so,none⟩) 2 sc)∧(w2.re n9 d').cell? ⟨bb,5,none⟩=some (Γ Δ 4)∧(w2.re n9 d').cell? ⟨sb,so,none⟩=some (Γ Δ 1)∧(w2.re n9 d').cell? ⟨sb,so+1,none⟩=some (Γ Δ 0)):=⟨m0,m4,m5,s0,s1⟩;clear m0 m4 m5 s0 s1 hG iu;generalize w2.re n9 d'=w3 at *;generalize en:([.code (OW f20)]:List Item)=kq;dsimp only[Vg,c20,Ren.fh,Ren.bD,Ren.aZ,f20,Option.getD];simp only[zbh,zba];go_wp2_with fail;subst en;show ae _ _ _ _ _ _;refine ae.code cj acP rfl ⟨_,SM⟩ rfl λτ d=>?_;have oB:Hid (ak w (w3.re τ d)):=ak.heap jl.out rfl;have HG4:Hid (bh (w3.re τ d) bb 0 G):=bh.SK HG3.out rfl;have HM4:Hid ((w3.re τ d).cell? ⟨bb,0,none⟩=some (Γ Δ 1)∧(w3.re τ d).cell? ⟨bb,4,none⟩=some (.slice (some ⟨sb,so,none⟩) 2 sc)∧(w3.re τ d).cell? ⟨bb,5,none⟩=some (Γ Δ 4)∧(w3.re τ d).cell? ⟨sb,so,none⟩=some (Γ Δ 1)∧(w3.re τ d).cell? ⟨sb,so+1,none⟩=some (Γ Δ 0)):=HM3.out;clear jl HG3 HM3;generalize w3.re τ d=w4 at *;obtain⟨m0,m4,m5,s0,s1⟩:=HM4.out;have HW:Hid _:=uo G bb 0 cap 2 403 (zab _) w4 (by rw[hGl];unfold ώ;omega) HG4.out (Pow.Ic HP.out oB.out);rw[hGl,hwr]at HW;clear HG4 hGl hwr;dsimp only[OW,c20,Ren.bD,Ren.aZ,f20,Option.getD];go_wp2_with fail;refine zae HW.out ?_;rintro e w5 ⟨rfl,mF⟩;have sU:Hid (ak w w5):=oB.out.trans (ak.of mF);have n4:=bE mF m4;have r0:=bE mF s0;have r1:=bE mF s1;clear mF m0 m4 m5 s0 s1 HM4 HW oB;unfold Aq;go_wp2_with fail;show ∀todo,ae _ _ _ _ _ _;intro todo;refine ae.oH rfl rfl SM (results_tmp acR _ _ _) ?_;exact HH.out _ (ak.heap sU.out rfl)
end
end Go.Ren
namespace Go.Ren
open Go Go.Conc
section
variable {P:υ}{F:ω→Bool}{S:Sd}{Ψ:aV}{σ:List (Nat×Ξ)}{b:η}{a:Act}{w:Λ}{ops:Array Oper}{i:Nat}{rest:List Nat}{kk:List Item}
theorem mj.ofJ (hC:jM P F S){n:Nat}{r0:Rn}{v:Ξ}(dY:rI P S n a){d:Tmp}(Zn:(ops[i]?).bind (·.dst)=some d)(xO:eA σ (.tmp d)=true)(wP:∀x,r0.f x=x)(ha1:Ψ.an≤n)(ha2:∀r,r<Ψ.an→r0 r=Ψ.ar r)
 (h:aI P S Ψ b σ (a.put (some d) v) (.inRegion ops rest::kk) w):mj P S (Ψ.under (b.at (dX σ (a.rn r0)) (.inRegion ops (i::rest)::kk)) n r0) [] v w:=
 λ_ _ _ _ hn hd hf hr=>ae.Zm hC hn hd hf hr dY Zn xO wP ha1 ha2 h
end
theorem Au:∀(σ:List (Nat×Ξ)) (a:Act),dX σ a=⟨JW σ a.tmps,a.defers⟩
 |[],_=>rfl
 |p::σ,a=>Au σ (a.put (some p.1) p.2)
section
variable {P:υ}{F:ω→Bool}{S:Sd}{Ψ:aV}{σ:List (Nat×Ξ)}{w:Λ}{b:η}{a:Act}{k:List Item}
def Vh (P:υ)(S:Sd)(Ψ:aV)(fr:Act→η)(a:Act)(w:Λ):Prop:=
 ∀(ρ:Rn) (W:Λ) (gs:Array ϑ) (sl:Option (Nat×Nat)) (t:Trace) (q:Nat→Nat) (Shun:Loc→Prop),gH P S ρ w W→rI P S w.heap.size a→
  gs[0]?=some (G (fr (a.rn ρ)) Ψ.bot)→Leavers P t gs q→Past Shun W.heap.size t→NS Shun Ψ.ro (Touch S.d ρ w) W→DN Ψ W→(∀x,Touch S.d ρ w x→Ψ.base.heap.size≤x∨Ψ.mine x)→uY Ψ.n0 Ψ.r0 w ρ→uY Ψ.an Ψ.ar w ρ→Reach P (crowd gs W sl) t Ψ.at_
def MN (P:υ)(S:Sd)(Ψ:aV)(b:η)(σ:List (Nat×Ξ))(a:Act)(k:List Item)(w:Λ):Prop:=Vh P S Ψ (λA=>dQ b (dX σ A) k) a w
theorem Vh.re {fr:Act→η}{w':Λ}(h:Vh P S Ψ fr a w)(e:w'.heap=w.heap):Vh P S Ψ fr a w':=by
 intro ρ W gs sl t q Shun hS hc h0 hL hP hN hO hT mA kD;have FR:gH P S ρ w W:=hS.abk e.symm;have ht:Touch S.d ρ w'=Touch S.d ρ w:=by unfold Touch;rw[e]
 rw[e]at hc;rw[ht]at hN hT;exact h ρ W gs sl t q Shun FR hc h0 hL hP hN hO hT ⟨by have:=mA.size;rwa[e]at this,mA.same⟩ ⟨by have:=kD.size;rwa[e]at this,kD.same⟩
theorem aI.re {w':Λ}(h:aI P S Ψ b σ a k w)(e:w'.heap=w.heap):aI P S Ψ b σ a k w':=Vh.re (fr:=λA=>b.at (dX σ A) k) h e
theorem MN.re {w':Λ}(h:MN P S Ψ b σ a k w)(e:w'.heap=w.heap):MN P S Ψ b σ a k w':=Vh.re (fr:=λA=>dQ b (dX σ A) k) h e
def YH (P:υ)(S:Sd)(Good:(Act→η)→Act→Λ→Prop)(bot:List η)(n0:Nat)(r0:Rn)(own:Nat→Prop)(g:ϑ)(W:Λ):Prop:=
 ∃fr a w ρ,Good fr a w∧gH P S ρ w W∧(∀x,Touch S.d ρ w x→own x)∧g=G (fr (a.rn ρ)) bot∧rI P S w.heap.size a∧uY n0 r0 w ρ
theorem af.fo {W:Λ}{ρ:Rn}{main:Bool}{ro own:Nat→Prop}{Good:(Act→η)→Act→Λ→Prop}{bot:List η}{n0:Nat}{r0:Rn}{fr:Act→η}(hG:Good fr a w)(hS:gH P S ρ w W)(hown:∀x,Touch S.d ρ w x→own x)(hc:rI P S w.heap.size a)(h0:uY n0 r0 w ρ):af P main ro (YH P S Good bot n0 r0) own (G (fr (a.rn ρ)) bot) W:=by
 refine .stop λaC hr=>⟨fr,a,w,cN ρ w.heap.size aC.heap.size,hG,hS.grow hr.size λx hx=>hr.block x (.inl (hown x hx)),λx hx=>hown x (by rwa[cC]at hx),?_,hc,⟨h0.size,λr hr=>by rw[aJ (zaL hr h0.size)];exact h0.same r hr⟩⟩;rw[pT hc (ρ:=ρ) (ρ':=cN ρ w.heap.size aC.heap.size) (λr hlt=>(aJ hlt).symm) (λ_=>rfl)]
theorem Vh.walk {fr:Act→η}(h:∀ρ W,gH P S ρ w W→rI P S w.heap.size a→pn Ψ.ro (Touch S.d ρ w) W→DN Ψ W→af P true Ψ.ro (YH P S (Vh P S Ψ) Ψ.bot w.heap.size ρ) (Touch S.d ρ w) (G (fr (a.rn ρ)) Ψ.bot) W):Vh P S Ψ fr a w:=by
 intro ρ W gs sl t q Shun hS hc h0 hL hP hN hO hT mA kD;refine(iI (h ρ W hS hc ⟨λb hb=>hb.elim (hN.UU b) (hN.Jl b),λb hb ht=>(hT b ht).elim (λh1=>by have:=(Ψ.nh b hb).1;omega) λ⟨r,h1,h2,e⟩=>(Ψ.nh b hb).2 r h1 h2 e⟩ hO) W (bI.refl _ _ _) gs sl t q h0 hL hP hN).bind ?_;rintro m t' ⟨gs',own',a',w',sl',q',rfl,_,xM,hst,JQ,JO,Qo,_,ru,hK⟩;obtain⟨fr2,a2,w2,za,hG,rX,hown,rfl,hc2,vB⟩:=hst w' (bI.refl _ _ _);have hsz:=hO.size;exact hG za w' gs' sl' t' q' Shun rX hc2 xM JQ JO (Qo.sub hown)
  ⟨hK.tape.trans hO.tape,hK.os.trans hO.os,hK.output.trans hO.output,zah hsz hK.size,λb hb hm=>(hK.block b (by omega) λht=>(hT b ht).elim (λh=>by omega) hm).trans (hO.block b hb hm)⟩
  (λx hx=>(ru x (hown x hx)).elim (hT x) λe=> .inl (by omega)) ⟨zah mA.size vB.size,λr hr=>(vB.same r (zaL hr mA.size)).trans (mA.same r hr)⟩ ⟨zah kD.size vB.size,λr hr=>(vB.same r (zaL hr kD.size)).trans (kD.same r hr)⟩
def EL (P:υ)(S:Sd)(Ψ:aV)(b:η)(σ:List (Nat×Ξ))(k:List Item)(f:η)(ab:List η)(w:Λ):Prop:=
 ab=[]∧((LX f []∧aI P S Ψ b σ ⟨f.tmps,f.defers⟩ k w)∨(f.mode=.returning∧∀todo,MN P S Ψ b σ ⟨f.tmps,f.defers⟩ todo w))
theorem aI.item (hC:jM P F S){x:Item}(cg:aB P F S x=true)(hj:eP σ x=true)(hk:b.kind=.normal)(hfn:∃f,P.funcs[b.fn]?=some f)(hd:a.defers=[])
 (h:∀τ,(∃a' w',aI P S Ψ b σ a' k w'∧Steps P (Go.lone (b.at a [x,mM]) [c0 P] (w.re τ 0)) (Go.lone (b.at a' [mM]) [c0 P] w'))∨∃a' w' todo,(∀todo,MN P S Ψ b σ a' todo w')∧Steps P (Go.lone (b.at a [x,mM]) [c0 P] (w.re τ 0)) (Go.lone { b.at a' todo with mode:= .returning } [c0 P] w')):aI P S Ψ b σ a (x::k) w:=
 Vh.walk (fr:=λA=>b.at (dX σ A) (x::k)) λρ W hS hc _ _=>by
  have hI:PI P F S (b.at a [x,mM]) [] w:=⟨⟨hd,.inl rfl,hk,rfl,by show[x,mM].all _=true;simp only[zat,List.all_nil,cg,zbL,zbJ];rfl,hfn⟩,by simp,hc,by simp,hS.self⟩;have hT:∀τ:Tp,∃n f a1 w',mZ P n (b.at a [x,mM]) [] (w.re τ 0) f a1 w'∧EL P S Ψ b σ k f a1 w':=λτ=>by
   rcases h τ with⟨a',w',hK,n,hn⟩|⟨a',w',todo,hK,n,hn⟩
   ·obtain⟨m,hm⟩:=jO hC n _ [] (w.re τ 0) _ w' (hI.re τ 0) hn (λch e=>by cases e);exact⟨m,_,[],w',hm,rfl,.inl ⟨⟨rfl,rfl⟩,hK⟩⟩
   ·obtain⟨m,hm⟩:=jO hC n _ [] (w.re τ 0) _ w' (hI.re τ 0) hn (λch e=>by cases e);exact⟨m,_,[],w',hm,rfl,.inr ⟨rfl,hK⟩⟩
  have JJ:=pM (Q:=EL P S Ψ b σ k) hC (λf a1 w τ d _ hx=>⟨hx.1,hx.2.imp (λq=>⟨q.1,q.2.re rfl⟩) λq=>⟨q.1,λtodo=>(q.2 todo).re rfl⟩⟩) hI hT;have key:=wO (σ:=σ) (k:=k) (fn0:=b.fn) (main:=true) (ro:=Ψ.ro) (cs:=Ψ.bot) hC (λf a1 w' hx=>⟨hx.1,hx.2.imp (·.1) (·.1)⟩) JJ hI ⟨rfl,.inr ⟨[x],⟨rfl,rfl⟩,by simp[hj]⟩⟩ ρ w.heap.size ρ W hS (zab _) (λ_ _=>rfl);have e0:dw σ k (bS ρ (b.at a [x,mM]))=b.at (dX σ (a.rn ρ)) (x::k):=by rw[Au];rfl
  have key:af P true Ψ.ro (Qs P F S (EL P S Ψ b σ k) σ k b.fn Ψ.bot ρ w.heap.size) (Touch S.d ρ w) (G (b.at (dX σ (a.rn ρ)) (x::k)) Ψ.bot) W:=by rw[←e0];exact key
  refine af.bind key λown g W' hst=>?_;obtain⟨mN,w1,sP,hb1,JH,Qu,DI,hS1,rfl,rfl,hn,oa⟩:=hst;have Zl:EL P S Ψ b σ k mN [] w1:=by
   cases Qu with
   |stop hx=>exact hx
   |step nf na nw ne h1 h2=>
    exfalso;have hr:=h1 w1.tape 0;rcases hb1 with hb1|hb1
    ·obtain⟨fn0,tmps,todo,defers,mode,kind,mL⟩:=mN;obtain⟨ht,hm⟩:=hb1;simp only[zbA]at ht hm;subst ht hm;simp[aR,stuck]at hr
    ·exact FY (by rw[hb1];simp) hr
  rcases Zl.2 with⟨JZ,hK⟩|⟨F3,hK⟩
  ·have VO:dw σ k (bS sP mN)=b.at (dX σ ((⟨mN.tmps,mN.defers⟩:Act).rn sP)) k:=by
    rw[Au];obtain⟨fn0,tmps,todo,defers,mode,kind,mL⟩:=mN;obtain⟨ht,hm⟩:=JZ;have h3:kind=.normal:=DI.ok.kind;have h4:mL=none:=DI.ok.round;simp only[zbA]at ht hm JH;subst ht hm h3 h4 JH;simp[dw,η.at,hk,bS,Act.rn]
   rw[VO];exact af.fo (fr:=λA=>b.at (dX σ A) k) hK hS1 (λ_ h=>h) DI.cl ⟨hn,oa⟩
  ·have VO:dw σ k (bS sP mN)=dQ b (dX σ ((⟨mN.tmps,mN.defers⟩:Act).rn sP)) (mN.todo.dropLast++k):=by
    rw[Au];obtain⟨fn0,tmps,todo,defers,mode,kind,mL⟩:=mN;have h3:kind=.normal:=DI.ok.kind;have h4:mL=none:=DI.ok.round;simp only at F3 JH;subst F3 h3 h4 JH;simp[dw,dQ,η.at,hk,bS,Act.rn]
   rw[VO];exact af.fo (fr:=λA=>dQ b (dX σ A) (mN.todo.dropLast++k)) (hK _) hS1 (λ_ h=>h) DI.cl ⟨hn,oa⟩
def SN (P:υ)(S:Sd)(Ψ:aV)(b:η)(σ:List (Nat×Ξ))(k:List Item):Exit→Act→Λ→Prop
 |.normal,a,w=>aI P S Ψ b σ a k w
 |.ret,a,w=>∀todo,MN P S Ψ b σ a todo w
 |_,_,_=>False
theorem aI.code (hC:jM P F S){c:Code}(cg:bp P F S c=true)(hj:kF σ c=true)(hk:b.kind=.normal)(hfn:∃f,P.funcs[b.fn]?=some f)(hd:a.defers=[])
 (h:∀τ d,c.wp P (SN P S Ψ b σ k) a (w.re τ d)):aI P S Ψ b σ a (.code c::k) w:=
 aI.item hC cg hj hk hfn hd λτ=>by
  obtain⟨e,a',w',hK,mB⟩:=h τ 0 b [mM] [c0 P];cases e with
  |normal=>exact .inl ⟨a',w',hK,mB⟩
  |ret=>obtain⟨todo,hs⟩:=mB;exact .inr ⟨a',w',todo,hK,hs⟩
  |_=>exact hK.elim
theorem aI.ops (hC:jM P F S){ops:Array Oper}(hk:b.kind=.normal)(hfn:∃f,P.funcs[b.fn]?=some f)(hd:a.defers=[]){l:List Nat}(cg:(l.all λi=>(ops[i]?).all λo=>gw P F S o.op)=true)(hj:(l.all λi=>(ops[i]?).all (pS σ ops))=true)(i:Nat)(rest:List Oper)(hl:l=List.range' i rest.length)(hr:∀j,rest[j]?=ops[i+j]?)
 (h:∀τ d,wpList P ops (SN P S Ψ b σ k) rest a (w.re τ d)):aI P S Ψ b σ a (.inRegion ops l::k) w:=
 aI.item hC cg hj hk hfn hd λτ=>by
  have h0:=h τ 0;rw[←wpOps_eq_wpList rest i hr,←hl]at h0;obtain⟨e,a',w',hK,mB⟩:=wp_ops l a (w.re τ 0) h0 b [mM] [c0 P];cases e with
  |normal=>exact .inl ⟨a',w',hK,mB⟩
  |ret=>obtain⟨todo,hs⟩:=mB;exact .inr ⟨a',w',todo,hK,hs⟩
  |_=>exact hK.elim
end
theorem EM (A:Act):∀(σ τ:List (Nat×Ξ)),dX (σ++τ) A=dX τ (dX σ A):=λσ τ=>by simp[dX,List.foldl_append]
theorem Xi (A:Act)(d:Nat)(u v:Ξ):(A.put (some d) u).put (some d) v=A.put (some d) v:=by
 simp[Act.put]
theorem qx (YI PC:List (Nat×Ξ))(d:Nat)(x X:Ξ)(h:eA PC (.tmp d)=true)(A:Act):(dX (YI++(d,x)::PC) A).put (some d) X=dX (YI++(d,X)::PC) A:=by
 rw[EM,EM];show(dX PC ((dX YI A).put (some d) x)).put (some d) X=dX PC ((dX YI A).put (some d) X);rw[og d X PC _ (eO h),Xi]
theorem Ih:∀(σ:List (Nat×Ξ)) (A:Act),(dX σ A).tmps.size=A.tmps.size
 |[],_=>rfl
 |p::σ,A=>by
  show(dX σ (A.put (some p.1) p.2)).tmps.size=_;rw[Ih σ];simp[Act.put]
theorem iW (YI PC:List (Nat×Ξ))(d:Nat)(X:Ξ)(h:eA PC (.tmp d)=true){A:Act}(hd:d<A.tmps.size):(dX (YI++(d,X)::PC) A).eval (.tmp d)=X:=by
 rw[EM];show(dX PC ((dX YI A).put (some d) X)).eval (.tmp d)=X;rw[tG h];have:d<(dX YI A).tmps.size:=by rw[Ih];exact hd
 simp[Act.eval,Act.put,this]
section
variable {P:υ}{F:ω→Bool}{S:Sd}{Ψ:aV}{σ Fh:List (Nat×Ξ)}{b:η}{a a':Act}{k:List Item}{w W:Λ}{ρ:Rn}
theorem kR (a:Act)(ρ:Rn):(a.rn ρ).tmps.size=a.tmps.size:=by simp[Act.rn]
theorem EN {t:Nat}{z:Int}{ik:IntKind}(hj:eA σ (.tmp t)=true)(h:a.eval (.tmp t)=.int ik z):(dX σ (a.rn ρ)).eval (.tmp t)=.int ik z:=by
 rw[tG hj];show(a.tmps.map (rv ρ)).getD t Θ=_;rw[getD_map];have h':a.tmps.getD t Θ=.int ik z:=h;rw[h'];simp[rv]
theorem aI.sig (e:∀A:Act,dX σ A=dX Fh A)(h:aI P S Ψ b Fh a k w):aI P S Ψ b σ a k w:=by
 intro ρ W gs sl t q Shun hS hc h0;rw[e]at h0;exact h ρ W gs sl t q Shun hS hc h0
section
variable {ops:Array Oper}{i:Nat}{rest:List Nat}{o:Oper}{kk:List Item}
theorem aI.MO (hC:jM P F S)(ho:ops[i]?=some o)(hw:o.guard=none)(hk:b.kind≠.early)(cg:gw P F S o.op=true)(hj:pS σ ops o=true)(v:Ξ)(hx:∀w':Λ,w'.heap=w.heap→(ξ a.eval o).run P w'=.ok (.value v) w'){d:Tmp}(hd:o.dst=some d)(ha:a.put (some d) v=a')
 (h:aI P S Ψ b σ a' (.inRegion ops rest::kk) w):aI P S Ψ b σ a (.inRegion ops (i::rest)::kk) w:=by
 subst ha;have xO:eA σ (.tmp d)=true:=by
  have:=(nj hj).2.2;rw[hd]at this;exact this
 exact aI.Jk hC cg ho (λρ=>by simp[ψ,hw]) hk (nj hj).2.1 (nj hj).1 hd xO λτ dd=>⟨v,w.re τ dd,hx _ rfl,h.re rfl⟩
theorem aI.aaG (ho:ops[i]?=some o)(hw:o.guard=none)(hk:b.kind≠.early){X:Ξ}(hrun:∀ρ W,(ξ (dX σ (a.rn ρ)).eval o).run P W=.ok (.value X) W)(gf:∀ρ W,(ξ (dX σ (a.rn ρ)).eval o).events P W #[]=#[]){d:Tmp}(hd:o.dst=some d)(hσ:∀A:Act,(dX σ A).put (some d) X=dX Fh A)
 (h:aI P S Ψ b Fh a (.inRegion ops rest::kk) w):aI P S Ψ b σ a (.inRegion ops (i::rest)::kk) w:=
 aI.raw ho (λρ=>by simp[ψ,hw]) hk hrun gf hd (aI.sig (λA=>by rw[F5];exact hσ A) h)
theorem aI.mvS (ho:ops[i]?=some o)(hw:o.guard=none)(hk:b.kind≠.early){t d:Tmp}{X:Ξ}(hop:o.op=.move (.tmp t))(hX:∀A:Act,A.tmps.size=a.tmps.size→(dX σ A).eval (.tmp t)=X)(hd:o.dst=some d)(hσ:∀A:Act,(dX σ A).put (some d) X=dX Fh A)
 (h:aI P S Ψ b Fh a (.inRegion ops rest::kk) w):aI P S Ψ b σ a (.inRegion ops (i::rest)::kk) w:=
 aI.aaG ho hw hk (λρ W=>by simp[ξ,hop,hX (a.rn ρ) (kR a ρ)]) (λρ W=>by simp[ξ,hop]) hd hσ h
theorem aI.Cv (ho:ops[i]?=some o)(hw:o.guard=none)(hk:b.kind≠.early){X:Ξ}(hX:∀ρ:Rn,rv ρ X=X)(hrun:∀ρ W,(ξ (dX σ (a.rn ρ)).eval o).run P W=.ok (.value X) W)(gf:∀ρ W,(ξ (dX σ (a.rn ρ)).eval o).events P W #[]=#[]){d:Tmp}(hd:o.dst=some d)(xO:eA σ (.tmp d)=true)(ha:a.put (some d) X=a')
 (h:aI P S Ψ b σ a' (.inRegion ops rest::kk) w):aI P S Ψ b σ a (.inRegion ops (i::rest)::kk) w:=by
 subst ha;exact aI.bare ho (λρ=>by simp[ψ,hw]) hk hX hrun gf hd xO h
def OX (S:Sd)(Ψ:aV)(w:Λ)(ad:Addr)(v:Ξ):Prop:=(Ψ.ro ad.block∧Ψ.base.cell? ad=some v)∨(S.d≤ad.block∧ad.block<S.g∧w.cell? ad=some v)
theorem aI.YJ (ho:ops[i]?=some o)(hw:o.guard=none)(hk:b.kind≠.early){e:φ}{x:ϋ}(hop:o.op=.load e x){ad:Addr}(hx:∀ρ,(dX σ (a.rn ρ)).eval x=.pointer (some ad)){v:Ξ}(hr:OX S Ψ w ad v)(hX:∀ρ:Rn,rv ρ v=v)
 (hl:∀(w:Λ),w.cell? ad=some v→(ϊ e (.pointer (some ad))).run P w=.ok v w∧∀ev∈(ϊ e (.pointer (some ad))).events P w #[],ev.loc=.cell ad∧ev.write=false){d:Tmp}(hd:o.dst=some d)(xO:eA σ (.tmp d)=true)(ha:a.put (some d) v=a')
 (h:aI P S Ψ b σ a' (.inRegion ops rest::kk) w):aI P S Ψ b σ a (.inRegion ops (i::rest)::kk) w:=by
 subst ha;rcases hr with⟨hr,hv⟩|⟨g1,g2,hv⟩
 ·exact aI.load ho (λρ=>by simp[ψ,hw]) hk hop hx hr hv hX hl hd xO h
 ·refine aI.walk λρ W hS JR _ _=>?_;have cq:ρ ad.block=ad.block:=hS.fix.g _ g1 g2;have hlt:ad.block<w.heap.size:=Λ.block_lt_of_cell? _ _ hv;have hown:Touch S.d ρ w ad.block:=⟨ad.block,g1,hlt,cq.symm⟩;have hc:W.cell? ad=some v:=by
   unfold Λ.cell? at hv ⊢;cases hh:w.heap[ad.block]? with
   |none=>rw[hh]at hv;cases hv
   |some o=>
    have:=hS.wr.live _ _ g1 hh;rw[cq]at this;rw[hh]at hv;rw[this];cases o with
    |cells c t f=>
     simp only[ro]at hv ⊢;split at hv
     ·cases hv
     ·rename_i hs;rw[zaa hs,zaE,hv,zbk,hX]
    |_=>cases hv
  have e2:(dX σ (a.rn ρ)).put (some d) v=dX σ ((a.put (some d) v).rn ρ):=by
   rw[og d v σ _ (eO xO),←pR,hX]
  refine af.step' rfl λaC hR=>?_;have hc1:aC.cell? ad=some v:=by
   rw[←hc];simp only[Λ.cell?,hR.block _ (.inl hown)]
  obtain⟨h1,h2⟩:=hl aC hc1;have hrun:(ξ (dX σ (a.rn ρ)).eval o).run P aC=.ok (.value v) aC:=by
   unfold ξ;simp[hop,hx ρ,h1]
  have gf:(ξ (dX σ (a.rn ρ)).eval o).events P aC #[]=(ϊ e (.pointer (some ad))).events P aC #[]:=by
   unfold ξ;simp[hop,hx ρ]
  refine⟨_,aC,_,stepG_value ho (by simp[ψ,hw]) hk hrun,⟨rfl,rfl,rfl,zab _,λ_ _ _=>rfl,λev he=>?_⟩,?_⟩
  ·unfold listed at he;rw[gf]at he;obtain⟨h3,h4⟩:=h2 ev (mem_seen he);unfold DK;rw[h3];exact .inl (.inl hown)
  ·rw[jx _ rfl,hd,e2];exact(af.jo h hS (λ_ h=>h) (rI.put (P:=P) JR (some d) (hX _)) (uY.refl _ _)).rely hR
theorem aI.SP (ho:ops[i]?=some o)(hw:o.guard=none)(hk:b.kind≠.early){f:ω}{xs:Array ϋ}{ats:Array φ}(hop:o.op=.call { callee:= .value (.func f),args:=xs,argTypes:=ats })
 (kV:(P.funcs[f]?).any (λfn=>fn.body.isSome)=true)(FU:(P.funcs[f]?).any (λfn=>fn.name != "runtime.NumGoroutine")=true)(hx:xs.all (gG S)=true)(hj:xs.all (eA σ)=true){args:Array Ξ}(pU:xs.map a.eval=args)
 (h:∀ρ:Rn,(∀x,ρ.f x=x)→Ψ.an≤w.heap.size→(∀r,r<Ψ.an→ρ r=Ψ.ar r)→rI P S w.heap.size a→ae P S (Ψ.under (b.at (dX σ (a.rn ρ)) (.inRegion ops (i::rest)::kk)) w.heap.size ρ) (η.enter P f args .normal) [] w):aI P S Ψ b σ a (.inRegion ops (i::rest)::kk) w:=by
 subst pU;exact aI.call ho (λρ=>by simp[ψ,hw]) hk hop kV FU hx hj h
end
end
section
variable {P:υ}{F:ω→Bool}{S:Sd}{W:Λ}{Post:Ξ→Λ→Prop}
theorem MN.last {lo n0:Nat}{r0:Rn}{ro:Nat→Prop}{nh:∀b,ro b→b<W.heap.size∧∀r,lo≤r→r<n0→b≠r0 r}{σ:List (Nat×Ξ)}{b:η}{a:Act}{k:List Item}{fn:Func}{v:Ξ}{w:Λ}(hn:b.kind=.normal)(hd:a.defers=[])(hf:P.funcs[b.fn]?=some fn)(hi:P.inits.idxOf? b.fn=none)
 (hr:∀(ρ:Rn) (W:Λ),(results fn (dX σ (a.rn ρ)).tmps).run P W=.ok v W)(he:∀(ρ:Rn) (W:Λ),(results fn (dX σ (a.rn ρ)).tmps).events P W #[]=#[])(hP:∀W' ρ,DN (zg P W lo n0 r0 Post) W'→gH P S ρ w W'→uY n0 r0 w ρ→Post v W'):MN P S (J0 P W lo n0 r0 ro nh Post) b σ a k w:=by
 intro ρ w' gs' sl' t' q' Shun rX hc xM JQ JO hN hO hT aeX _;have PG:DN (zg P W lo n0 r0 Post) w':=⟨hO.tape,hO.os,hO.output,hO.size,hO.block⟩;refine Reach.here ⟨gs',_,w',sl',q',Shun,rfl,xM,JQ,JO,λd=>⟨rfl,v,#[],?_,by simp,hP _ ρ ⟨PG.tape,PG.os,PG.output,PG.size,PG.block⟩ ⟨⟨rX.wr.live,rX.wr.ok,rX.wr.dead,rX.wr.closed,rX.wr.next,rX.wr.low,rX.wr.big⟩,rX.inj,rX.lX,rX.f,rX.ry⟩ aeX⟩⟩;have h1:=hr ρ (w'.at d);have h2:=he ρ (w'.at d);have h3:(dX σ (a.rn ρ)).defers=[]:=by rw[Au];exact hd
 show stepG P true (G (dQ b (dX σ (a.rn ρ)) k) []) (w'.at d)=_;generalize dX σ (a.rn ρ)=A at h1 h2 h3 ⊢;simp[dQ,η.at,G,stepG,unwind,doReturn,h3,hn,hf,hi,GStep.after,seen]at h1 h2 ⊢;simp[h1,h2]
end
section
variable {P:υ}{F:ω→Bool}{S:Sd}{Ψ:aV}{cs:List η}{w:Λ}
theorem ae.acS (hC:jM P F S){f:ω}{args:Array Ξ}(hF:F f=true)(hc:∀τ d,θ P f args (w.re τ d) λe w'=>∃v,e=.returned v∧∀w'',w''.heap=w'.heap→mj P S Ψ cs v w'')(ha:∀v∈args,rv (sg S S.d w.heap.size) v=v):ae P S Ψ (η.enter P f args .normal) cs w:=
 ae.walk λρ W hS dY hcs _=>by
  have hw:=hS.self;have JJ:=tz (Q:=λv w'=>∀w'',w''.heap=w'.heap→mj P S Ψ cs v w'') hC hF ha hw (by intro _ _ _ _ h;exact h) λτ=>hc τ 0;have hI:PI P F S (η.enter P f args .normal) [] w:=⟨tj hC hF args,by simp,dY,by simp,hw⟩;have key:=tA (main:=true) (ro:=Ψ.ro) (cs:=cs.map (bS ρ)++Ψ.bot) hC JJ hI ρ w.heap.size ρ W hS (zab _) (λr _=>rfl);refine af.bind key λown g W' hst=>?_;obtain⟨mN,above,w1,sP,⟨rfl,_,v,hq,hl⟩,hI',FR,rfl,rfl,hn,oa⟩:=hst;have hl':mN.mode=.returning∧mN.defers=[]∧mN.kind=.normal∧∃fn,P.funcs[mN.fn]?=some fn∧(results fn mN.tmps).run P w1=.ok v w1:=hl;obtain⟨hm,hd,hk,fn,hf,hr⟩:=hl';have eF:mN.roundOf=none:=hI'.ok.round;have VO:mN=dQ mN ⟨mN.tmps,mN.defers⟩ mN.todo:=by
   obtain⟨fn0,tmps,todo,defers,mode,kind,mL⟩:=mN;simp only at hm eF;subst hm eF;rfl
  have ecs:cs.map (bS ρ)=cs.map (bS sP):=eI (λr hr=>(oa r hr).symm) (λx=>by rw[hS.f,FR.f]) hcs;rw[ecs];have hgo:ae P S Ψ mN cs w1:=by
   rw[VO];exact hq w1 rfl mN ⟨mN.tmps,mN.defers⟩ fn mN.todo hk hd hf hr
  exact af.co hgo FR (λ_ h=>h) hI'.cl (λf hf=>gX hn (hcs f hf)) ⟨hn,oa⟩
variable {σ:List (Nat×Ξ)}{b:η}{a:Act}{ops:Array Oper}{i:Nat}{rest:List Nat}{o:Oper}{kk:List Item}
theorem aI.acT (hC:jM P F S){f:ω}(hF:F f=true)(ho:ops[i]?=some o)(hw:o.guard=none)(hk:b.kind≠.early){xs:Array ϋ}{ats:Array φ}(hop:o.op=.call { callee:= .value (.func f),args:=xs,argTypes:=ats })
 (kV:(P.funcs[f]?).any (λfn=>fn.body.isSome)=true)(FU:(P.funcs[f]?).any (λfn=>fn.name != "runtime.NumGoroutine")=true)(hx:xs.all (gG S)=true)(hj:xs.all (eA σ)=true){args:Array Ξ}(pU:xs.map a.eval=args)(hav:∀(ρ:Rn),∀v∈args,rv ρ v=v)
 {d:Tmp}(hd:o.dst=some d)(xO:eA σ (.tmp d)=true)(hc:∀τ dd,θ P f args (w.re τ dd) λe w'=>∃v,e=.returned v∧aI P S Ψ b σ (a.put (some d) v) (.inRegion ops rest::kk) w'):aI P S Ψ b σ a (.inRegion ops (i::rest)::kk) w:=
 aI.SP ho hw hk hop kV FU hx hj pU λρ h1 h2 h3 dY=>ae.acS hC hF (λτ dd=>(hc τ dd).mono λe w' ⟨v,he,h⟩=>⟨v,he,λw'' ew=>mj.ofJ hC dY (by rw[ho];exact hd) xO h1 h2 h3 (h.re ew)⟩) λv hv=>hav _ v hv
end
end Go.Ren
namespace Go.Proofs.YtlhimdjkkiflhaaGreatDoor
open Go.Proofs.Tryz
open Go.RowKit Go.Loop
def iX (c n:Int):Int:=if c<0 then(-(c+1)).tmod n else c.tmod n
theorem kj {c n:Int}:0≤iX c n:=by
 unfold iX;split
 ·exact Int.tmod_nonneg _ (by omega)
 ·exact Int.tmod_nonneg _ (by omega)
theorem qy {c n:Int}(h:0<n):iX c n<n:=by
 unfold iX;split
 ·exact Int.tmod_lt_of_pos _ h
 ·exact Int.tmod_lt_of_pos _ h
theorem qz (c n:Int)(w:Λ)(h1: -9223372036854775808≤c)(h2:c≤9223372036854775807)(hn:0<n)(PK:n≤1000000):θ prog 17 #[Γ Δ c,Γ Δ n] w λe w'=>e=.returned (Γ Δ (iX c n))∧w'=w:=by
 have hz:¬n=0:=by omega
 by_cases hc:c<0
 ·have hp:iX c n=-((c+1).tmod n):=by unfold iX;rw[zac hc,Int.neg_tmod]
  go_enter func17,ntmps17
  go_wp2
  all_goals
   go_ret;exact⟨fV hp.symm,rfl⟩
 ·have hp:iX c n=c.tmod n:=by unfold iX;rw[zaa hc]
  go_enter func17,ntmps17
  go_wp2
  all_goals
   go_ret;exact⟨fV (by first|exact hp.symm|exact(Int.tmod_eq_emod_of_nonneg (by omega)).symm),rfl⟩
end Go.Proofs.YtlhimdjkkiflhaaGreatDoor
namespace Go.Ren
open Go.Proofs.Tryz
open Go Go.Conc Go.ConcX Go.RowKit Go.Proofs Go.Loop Go.Proofs.YtlhimdjkkiflhaaGreatDoor
theorem xZ (a b:List UInt8):(ByteArray.mk (Array.mk a))++(ByteArray.mk (Array.mk b))=⟨⟨a++b⟩⟩:=by
 apply ByteArray.ext;simp
def c6 (f:Func):Code:=f.body.getD .skip
def q6 (f:Func):Nat→Code
 |0=>c6 f
 |n+1=>Ren.aZ (q6 f n)
def p6 (f:Func)(n:Nat):Code:=Ren.bD (q6 f n)
def o6 (f:Func)(n:Nat):Array Oper:=Ren.fh (p6 f n)
theorem bd6:(prog.funcs[20]?).any (λfn=>fn.body.isSome)=true:=by kernel_rfl
theorem nm6:(prog.funcs[20]?).any (λfn=>fn.name != "runtime.NumGoroutine")=true:=by kernel_rfl
theorem YK {ev:ϋ→Ξ}{o:Oper}{t:Tmp}{sa:Option Addr}{len cap:Nat}(hop:o.op=.call { callee:= .builtin .len,args:=#[.tmp t],argTypes:=#[43] })(e:ev (.tmp t)=.slice sa len cap)(W:Λ):(ξ ev o).run prog W=.ok (.value (Γ Δ (len:Nat))) W∧(ξ ev o).events prog W #[]=#[]:=by
 unfold ξ;constructor<;>simp[hop,resolve,invoke,go_sem,e]
theorem MP {ev:ϋ→Ξ}{o:Oper}{t s:Tmp}{b of len cap k:Nat}(hop:o.op=.indexAddr 43 (.tmp t) (.tmp s))(e:ev (.tmp t)=.slice (some ⟨b,of,none⟩) len cap)(e2:ev (.tmp s)=Γ Δ (k:Nat))(hlt:k<len)(W:Λ):(ξ ev o).run prog W=.ok (.value (.pointer (some ⟨b,of+k,none⟩))) W∧(ξ ev o).events prog W #[]=#[]:=by
 unfold ξ;constructor<;>simp[hop,go_sem,e,e2,underlying43,hlt]
theorem SQ (ad:Addr)(z:Int)(W:Λ)(h:W.cell? ad=some (Γ Δ z)):(ϊ 3 (.pointer (some ad))).run prog W=.ok (Γ Δ z) W∧∀ev∈(ϊ 3 (.pointer (some ad))).events prog W #[],ev.loc=.cell ad∧ev.write=false:=by
 constructor<;>simp[ϊ,go_sem,h]
theorem aI.aeY {Ψ:aV}{σ:List (Nat×Ξ)}{b:η}{a:Act}{w:Λ}{ops:Array Oper}{i:Nat}{rest:List Nat}{o:Oper}{kk:List Item}(hp:YtlhimdjkkiflhaaGreatDoor.Pow w)(ho:ops[i]?=some o)(hw:o.guard=none)(hk:b.kind≠.early)(hop:o.op=.call { callee:= .value (.func 20),args:=#[],argTypes:=#[] }){d:Tmp}(hd:(ops[i]?).bind (·.dst)=some d)(xO:eA σ (.tmp d)=true){a':Act}(ha:a.put (some d) (.bool true)=a')(h:∀w',ak w w'→aI prog Sz Ψ b σ a' (.inRegion ops rest::kk) w'):aI prog Sz Ψ b σ a (.inRegion ops (i::rest)::kk) w:=by
 subst ha;exact aI.SP (f:=20) (xs:=#[]) (ats:=#[]) (args:=#[]) ho hw hk hop bd6 nm6 (by simp) (by simp) (by simp) λρ h1 h2 h3 dY=>ae.aaF hp λw' hb=>mj.ofJ cj dY hd xO h1 h2 h3 (h w' hb)
section
variable {Ψ:aV}{w:Λ}
end
end Go.Ren
namespace Go.Loop
def KY:List Int→List Int→Dt→Option (List Int)
 |ah,L,.put n d=>if n∈L then none else KY (ah++[n]) (n::L) d
 |ah,L,.ask m=>if m∈L∧m∉ah then some L else none
 |_,L,.pair _ a b=>(KY [] L a).bind λL=>KY [] L b
 |_,L,.vec _ l=>KY [] L l
 |_,L,.cD a l=>(KY [] L a).bind λL=>KY [] L l
 |_,L,_=>some L
def ur:Bool→Dt→Bool
 |true,.gJ=>true
 |true,.cD a l=>ur false a&&ur true l
 |true,_=>false
 |false,.pair _ a b=>ur false a&&ur false b
 |false,.vec _ l=>decide (l.R2≤20)&&ur true l
 |false,.put _ d=>ur false d
 |false,.gJ=>false
 |false,.cD _ _=>false
 |false,.sym s=>decide (s.length≤1000000)
 |false,_=>true
theorem RR.gA {α β:Type}{x:RR α}{f:α→gK→RR β}{b:β}{s:gK}(h:x.bind f=.ok b s):∃a s1,x=.ok a s1∧f a s1=.ok b s:=by
 cases x with
 |out=>cases h
 |fail e a=>cases h
 |ok a s1=>exact⟨a,s1,rfl,h⟩
section
variable (T:List Tok)(dp:Nat)
end
section
variable {root:Dt}{Lf:List Int}(hr:KY [] [] root=some Lf)(hp:ur false root=true)
include hr hp
end
section
variable {root:Dt}(hp:ur false root=true)
include hp
end
section
variable {root:Dt}(hp:ur false root=true)
include hp
end
def iB (a:Nat)(w:List UInt8):Tok:={ ax 14 a (a+w.length)with text:=w }
section
variable {s:List UInt8}{a:Nat}
theorem xW {l r:List UInt8}{k:Nat}(h:s.drop a=l)(e:l.drop k=r):s.drop (a+k)=r:=by rw[←zbo,h,e]
theorem eo {l:List UInt8}{k:Nat}(h:s.drop a=l)(hs:(cF l.length true l).1=k):aL s a=jX s (a+k):=by simp only[aL,pZ,h,hs]
theorem jS {c:UInt8}{r:List UInt8}(h:c≠35):fU (c::r)=false:=by cases r<;>simp[fU,h]
theorem EO {r:List UInt8}(h:s.drop a=40::r):jX s a=ax 2 a (a+1):=by simp[jX,h]
theorem Av {r:List UInt8}(h:s.drop a=41::r):jX s a=ax 3 a (a+1):=by simp[jX,h]
theorem at_end (h:s.drop a=[]):jX s a=mE s:=by simp[jX,h]
theorem EP {w r:List UInt8}(hw:w≠[])(h:s.drop a=w++r)(hall:w.all zw=true)(hn:br bz w=w.length)(hr:br bz (w++r)=w.length)(hm:cy w=false)(hd:w≠[46]):jX s a=iB a w:=by
 cases w with
 |nil=>exact absurd rfl hw
 |cons c w=>
  have hc:bz (c.toNat:Int)=true:=by
   simp only[zat,zaj]at hall;exact hall.1
  have n40:c.toNat≠40:=λe=>by rw[e]at hc;cases hc
  have n41:c.toNat≠41:=λe=>by rw[e]at hc;cases hc
  have n39:c.toNat≠39:=λe=>by rw[e]at hc;cases hc
  have n34:c.toNat≠34:=λe=>by rw[e]at hc;cases hc
  have n35:c.toNat≠35:=λe=>by rw[e]at hc;cases hc
  unfold jX;rw[h,zaM];dsimp only;rw[zaa n40,zaa n41,zaa n39,zaa n34,zaa n35,zac hc];have hcut:fX s a (a+(c::w).length)=c::w:=by
   simp only[fX,h];rw[show a+(c::w).length - a=(c::w).length by omega];simp
  unfold l7;dsimp only;rw[h,hr,hcut,zaa hd,hm];rfl
end
theorem kY:∀(n:Nat) (b:Bool) (l:List UInt8),l.length≤n→cF n b l=cF l.length b l:=by
 intro n
 induction n using Nat.strongRecOn with
 |ind n ih=>
  intro b l hl;cases l with
  |nil=>cases n<;>simp[cF]
  |cons c r=>
   obtain⟨m,rfl⟩:∃m,n=m+1:=⟨n-1,by simp at hl;omega⟩;simp only[zar]at hl ⊢;simp only[cF];have e1:∀b (q:List UInt8),q.length≤r.length→cF m b q=cF r.length b q:=λb q hq=>by
    rw[ih m (by omega) b q (by omega)];by_cases h:r.length=m
    ·rw[h,ih m (by omega) b q (by omega)]
    ·rw[ih r.length (by omega) b q hq]
   by_cases h2:fU (c::r)=true
   ·have hp:=Cw 0 (c::r) h2;rw[e1 b r (zab _),e1 b (r.drop (fT r)) (by simp),e1 _ ((c::r).drop (bX 0 (c::r)).1) (by simp;omega)]
   ·rw[e1 b r (zab _),e1 b (r.drop (fT r)) (by simp),zaa h2,zaa h2]
def Goes (s:List UInt8)(a:Nat)(ts:List Tok)(b:Nat):Prop:=∀n,aG (n+ts.length) s a=ts++aG n s b
theorem Goes.nil {s:List UInt8}{a:Nat}:Goes s a [] a:=λ_n=>rfl
theorem Goes.cons {s:List UInt8}{a b c:Nat}{t:Tok}{ts:List Tok}(h:aL s a=t)(hl:t.lastB=false)(hb:t.ic=c)(hg:Goes s c ts b):Goes s a (t::ts) b:=λn=>by
 show aG (n+ts.length+1) s a=_;rw[aG,h,hl];simp only[zaT,if_false,hb,hg n,zaM]
theorem Goes.trans {s:List UInt8}{a b c:Nat}{ts us:List Tok}(h:Goes s a ts b)(h2:Goes s b us c):Goes s a (ts++us) c:=λn=>by
 have:=h (n+us.length);rw[zbg,show n+(ts.length+us.length)=n+us.length+ts.length by omega,this,h2 n,zcf]
section
variable {T:List Tok}{dp:Nat}
theorem yc {n:Nat}{p:Pl}{s:gK}{t:Tok}(h:T[s.k]?=some t)(h0:t.kind≠0)(h1:t.kind≠1)(h6:t.kind≠6):bg T dp (n+1) p s=.ok t { s with k:=s.k+1 }:=by
 rw[bg,h];simp[h0,h1,h6]
theorem sI {n:Nat}{p:Pl}{s:gK}{t:Tok}{data:List Dt}(h:T[s.k]?=some t)(ht:t.kind=3):cr T dp (n+2) data p s=.ok (aS data .nil s.fresh).1 ⟨s.k+1,(aS data .nil s.fresh).2,s.aT⟩:=by
 rw[cr,yc h (by omega) (by omega) (by omega)];simp[RR.bind,ht]
theorem ix {n:Nat}{p:Pl}{s s2:gK}{t:Tok}{data:List Dt}{d:Dt}(h:T[s.k]?=some t)(h0:t.kind≠0)(h1:t.kind≠1)(h6:t.kind≠6)(h3:t.kind≠3)(h7:t.kind≠7)(hf:cE T dp (n+1) t p { s with k:=s.k+1 }=.ok d s2):cr T dp (n+2) data p s=cr T dp (n+1) (data++[d]) p s2:=by
 rw[cr,yc h h0 h1 h6];simp only[RR.bind];rw[zaa h3,zaa (λx=>h7 x.1),hf]
theorem Aw {n:Nat}{p:Pl}{s:gK}{a:Nat}{w:List UInt8}:cE T dp (n+1) (iB a w) p s=.ok (.sym w) s:=by
 rw[cE];simp[iB,ax,zQ]
theorem wh {n:Nat}{p:Pl}{s:gK}{a b:Nat}(hd:p.depth≠dp):cE T dp (n+1) (ax 2 a b) p s=cr T dp n [] ⟨p.depth+1,p.passed,[]⟩ s:=by
 rw[cE];simp[ax,hd]
end
def C3:Dt→Bool
 |.pair _ a b=>C3 a&&C3 b
 |.vec _ l=>C3 l
 |.cD a l=>C3 a&&C3 l
 |.put _ _=>false
 |.ask _=>false
 |_=>true
section
variable {T:List Tok}
end
theorem Az {t:List UInt8}{a n:Nat}{e:Tok}(h:aL t a=e)(hl:e.lastB=true):aG (n+1) t a=[e]:=by rw[aG,h,zac hl]
section
variable (P Q:List Tok)(e:Tok)(dp:Nat)
end
theorem AB (root:Dt)(f:Nat):∀d:Dt,C3 d=true→bN root (f+1) d=d
 |.nil,_|.sym _,_|.num _ _,_|.cU _,_|.sQ _,_|.txt _ _,_|.pair _ _ _,_|.vec _ _,_|.gJ,_|.cD _ _,_=>rfl
 |.put _ _,h=>by cases h
 |.ask _,h=>by cases h
end Go.Loop
namespace Go.Ren
open Go Go.Conc Go.ConcX Go.RowKit Go.Proofs Go.Loop Go.Proofs.YtlhimdjkkiflhaaGreatDoor
def Ii:Code→Code
 |.block _ c=>c
 |c=>c
def sJ:Code→Code
 |.loop c=>c
 |c=>c
section
variable {Ψ:aV}{w:Λ}
end
end Go.Ren
namespace Go.Ren
open Go.Proofs.Tryz
open Go Go.Conc Go.ConcX Go.RowKit Go.Proofs Go.Loop Go.Proofs.YtlhimdjkkiflhaaGreatDoor
theorem oL {o:Oper}{a:Act}{x y:ϋ}{p q:List UInt8}(hop:o.op=.binOp .add 9 x y 9)(hx:a.eval x=.string ⟨⟨p⟩⟩)(hy:a.eval y=.string ⟨⟨q⟩⟩)(hl:p.length+q.length≤1000000)(w:Λ):(ξ a.eval o).run prog w=.ok (.value (.string ⟨⟨p++q⟩⟩)) w:=by
 unfold ξ;rw[hop];dsimp only;rw[hx,hy];simp[binOp,xZ,go_sem];omega
section
variable {Ψ:aV}{w w4:Λ}{X x22 x33 x35:Ξ}
end
end Go.Ren
namespace Go.Loop
open Go.Proofs.Tryz
def py (n d:Int):Option (Int×Int):=
 if n.tdiv (π n d)< -1000000∨1000000<n.tdiv (π n d)∨1000000<d/(π n d)then none else some (n.tdiv (π n d),d/(π n d))
def uu (a b:Int×Int):Option (Int×Int):=py (a.1*b.2+b.1*a.2) (a.2*b.2)
def wj (a b:Int×Int):Option (Int×Int):=uu a (-b.1,b.2)
def qC (a b:Int×Int):Option (Int×Int):=py (a.1*b.1) (a.2*b.2)
def Xj (a b:Int×Int):Option (Int×Int):=if a.2*b.1<0 then py (-(a.1*b.2)) (-(a.2*b.1))else py (a.1*b.2) (a.2*b.1)
def oM (a b:Int×Int):Bool:=decide (a.1*b.2<b.1*a.2)
def qB (a:Int×Int):Prop:=-1000000≤a.1∧a.1≤1000000∧1≤a.2∧a.2≤1000000
theorem aaH {a b A B:Int}(h1: -A≤a)(h2:a≤A)(h3: -B≤b)(h4:b≤B): -(A*B)≤a*b∧a*b≤A*B:=by
 have hA:0≤A:=by omega
 have hB:0≤B:=by omega
 have e:(a*b).natAbs=a.natAbs*b.natAbs:=Int.natAbs_mul a b;have h:a.natAbs*b.natAbs≤A.natAbs*B.natAbs:=Nat.mul_le_mul (by omega) (by omega);have e2:(A*B).natAbs=A.natAbs*B.natAbs:=Int.natAbs_mul A B;have hAB:0≤A*B:=Int.mul_nonneg hA hB;omega
theorem qE {a b:Int}(h1: -1000000≤a)(h2:a≤1000000)(h3: -1000000≤b)(h4:b≤1000000): -1000000000000≤a*b∧a*b≤1000000000000:=by
 have:=aaH (A:=1000000) (B:=1000000) h1 h2 h3 h4;omega
theorem uv {n d:Int}(hd:1≤d){r:Int×Int}(h:py n d=some r):qB r:=by
 unfold py at h;split at h
 ·cases h
 ·rename_i hn;cases h;have hg:(0:Int)<(π n d:Int):=by
   have:0<π n d:=zct _ (by omega);omega
  have aeZ:((π n d:Nat):Int)∣d:=Int.gcd_dvd_right ..;obtain⟨q,hq⟩:=aeZ;have jy:1≤d/(π n d:Int):=by
   rw[Int.le_ediv_iff_mul_le hg];have:=Int.le_of_dvd (by omega) (Int.gcd_dvd_right (a:=n) (b:=d));omega
  refine⟨by omega,by omega,jy,by omega⟩
end Go.Loop
namespace Go.Proofs.YtlhimdjkkiflhaaGreatDoor
open Go.Proofs.Tryz
open Go.RowKit Go.Loop
def qV (a:Int×Int):Ξ:= .agg #[Γ Δ a.1,Γ Δ a.2]
def oN:Option (Int×Int)→Ξ
 |some r=> .tuple #[qV r,.bool true]
 |none=> .tuple #[.agg #[Γ Δ 0,Γ Δ 0],.bool false]
theorem iY (a b:Int)(w:Λ)(h1: -1000000≤a)(h2:a≤1000000)(h3: -1000000≤b)(h4:b≤1000000):θ prog 228 #[Γ Δ a,Γ Δ b] w λe w'=>e=.returned (Γ Δ (a*b))∧w'=w:=by
 have hm:=qE h1 h2 h3 h4;go_enter func228,ntmps228
 go_wp2
 go_ret;refine⟨fV ?_,rfl⟩;first|rfl|(unfold wrap64;omega)|simp
theorem ye (n d:Int)(w:Λ)(h1: -4000000000000≤n)(h2:n≤4000000000000)(h3:1≤d)(h4:d≤4000000000000):θ prog 244 #[Γ Δ n,Γ Δ d] w λe w'=>e=.returned (oN (py n d))∧ζ w.heap.size w w':=by
 have hg:1≤((π n d:Nat):Int):=by
  have:0<π n d:=zct _ (by omega);omega
 obtain⟨a1,a2⟩:=Mm n _ (by omega) (by omega) hg;obtain⟨b1,b2⟩:=Rp d _ h3 (by omega) hg;have HL:Hid _:=λw=>zD n d w (by omega) (by omega) h3 (by omega);have HF:Hid (py n d=if n.tdiv (π n d)< -1000000∨1000000<n.tdiv (π n d)∨1000000<d/(π n d)then none else some (n.tdiv (π n d),d/(π n d))):=rfl;generalize n.tdiv (π n d)=x at *;generalize d/((π n d:Nat):Int)=y at *;generalize py n d=r at *;clear hg;by_cases c1:x< -1000000
 ·have e:r=none:=by rw[HF.out,zac (.inl c1)]
  subst e;go_enter func244,ntmps244;go_wp2_with (go_at_call 188;refine(HL.out _).mono ?_;rintro e w' ⟨rfl,m,rfl⟩);refine zak (by simp[results,results244,go_sem];rfl) rfl ?_;exact⟨rfl,by(repeat (first|with_reducible refine zan ?_ (by simp) _|with_reducible refine zaS ?_ _|with_reducible refine zaC ?_ (by simp) _));with_reducible exact zad _ _⟩
 ·by_cases c2:1000000<x
  ·have e:r=none:=by rw[HF.out,zac (.inr (.inl c2))]
   subst e;go_enter func244,ntmps244;go_wp2_with (go_at_call 188;refine(HL.out _).mono ?_;rintro e w' ⟨rfl,m,rfl⟩);refine zak (by simp[results,results244,go_sem];rfl) rfl ?_;exact⟨rfl,by(repeat (first|with_reducible refine zan ?_ (by simp) _|with_reducible refine zaS ?_ _|with_reducible refine zaC ?_ (by simp) _));with_reducible exact zad _ _⟩
  ·by_cases c3:1000000<y
   ·have e:r=none:=by rw[HF.out,zac (.inr (.inr c3))]
    subst e;go_enter func244,ntmps244;go_wp2_with (go_at_call 188;refine(HL.out _).mono ?_;rintro e w' ⟨rfl,m,rfl⟩);refine zak (by simp[results,results244,go_sem];rfl) rfl ?_;exact⟨rfl,by(repeat (first|with_reducible refine zan ?_ (by simp) _|with_reducible refine zaS ?_ _|with_reducible refine zaC ?_ (by simp) _));with_reducible exact zad _ _⟩
   ·have e:r=some (x,y):=by rw[HF.out,zaa (by omega)]
    subst e;go_enter func244,ntmps244;go_wp2_with (go_at_call 188;refine(HL.out _).mono ?_;rintro e w' ⟨rfl,m,rfl⟩);refine zak (by simp[results,results244,go_sem];rfl) rfl ?_;exact⟨rfl,by(repeat (first|with_reducible refine zan ?_ (by simp) _|with_reducible refine zaS ?_ _|with_reducible refine zaC ?_ (by simp) _));with_reducible exact zad _ _⟩
end Go.Proofs.YtlhimdjkkiflhaaGreatDoor
namespace Go.Loop
open Go
section
variable {P:υ}{md:Region.Mode}{ops:Array Oper}{w:Λ}
def C4 (md:Region.Mode)(ops:Array Oper)(n:Nat):Bool:=(ύ ops.size).all λt=>decide (t≤n)||(ύ t).any λj=>decide (n≤j)&&Region.waitsFor md ops t j
theorem KZ {n:Nat}{listed:Array Bool}(hs:Region.sinkB md ops n=true)(inv:HeadInv md ops n listed)(hn:n<ops.size):∀(d i:Nat),n=i+1+d→listed.getD i true=false→∃on,ops[n]?=some on∧∃e∈on.after,Region.binds md e=true∧listed.getD e.on false=false:=by
 intro d
 induction d using Nat.strongRecOn with
 |ind d ih=>
  intro i hd YL;obtain⟨j,hj,Vf⟩:=zcl.1 (zaI.1 hs i (zbW.2 (by omega)));simp only[zaj,zaQ]at Vf;have hjn:=zbW.1 hj;obtain⟨oj,hoj,e,he,hb,vB⟩:=Region.waitsFor_spec Vf.2;have hu:listed.getD e.on false=false:=by rw[vB];exact getD_both YL
  by_cases hjt:j=n
  ·subst hjt;exact⟨oj,hoj,e,he,hb,hu⟩
  ·have hjf:listed.getD j false=false:=by
    cases hl:listed.getD j false with
    |false=>rfl
    |true=>
     have:=inv.closed j oj hoj hl e he hb;rw[hu]at this;cases this
   exact ih (n-j-1) (by omega) j (by omega) (getD_in (by rw[inv.size];omega) hjf)
theorem wk {n i:Nat}{listed:Array Bool}(hs:Region.sinkB md ops n=true)(hc:C4 md ops n=true)(hn:n<ops.size)(inv:HeadInv md ops n listed)(hi:i<n)(YL:listed.getD i true=false)(t:Nat)(ht:t∈Region.ready md ops listed):t<n:=by
 rcases zay t n with h|h
 ·exact h
 ·exfalso;obtain⟨_,ot,hot,hall⟩:=mem_ready.1 ht;have htl:t<ops.size:=(zaf.1 hot).1;by_cases e:t=n
  ·subst e;obtain⟨on,h1,x,h2,h3,h4⟩:=KZ hs inv hn (t-i-1) i (by omega) YL;obtain rfl:=zaF (h1.symm.trans hot);have:=hall x h2 h3;rw[h4]at this;cases this
  ·have h1:=zaI.1 hc t (zbW.2 htl);simp only[Bool.or_eq_true,zaQ]at h1;rcases h1 with h1|h1
   ·omega
   ·obtain⟨j,hj,Vf⟩:=zcl.1 h1;simp only[zaj,zaQ]at Vf;obtain⟨o',L3,x,hx,hb,vB⟩:=Region.waitsFor_spec Vf.2;obtain rfl:=zaF (L3.symm.trans hot);have:=hall x hx hb;have hjt:=zbW.1 hj;rw[vB,getD_both (inv.tail j Vf.1 (by omega))]at this;cases this
theorem AD {n i:Nat}{oi:Oper}{v:Ξ}{L:Array Bool→Act→Prop}(hi:ops[i]?=some oi)(BD:∀(j:Nat) (o:Oper) cs b,ops[j]?=some o→o.op≠.select cs b)(hs:Region.sinkB md ops n=true)(hc:C4 md ops n=true)(hn:n<ops.size)(Mw:i<n)
 (hdone:∀listed a,L listed a→∀j∈Region.ready md ops listed,n≤j):∀(f:Nat) (listed:Array Bool) (a:Act),HeadInv md ops n listed→
   (∀j oj,ops[j]?=some oj→j≠i→listed.getD j true=false→(∀e∈oj.after,Region.binds md e=true→e.on≠i)→oi.apart ops oj=true)→
   i∈Region.ready md ops listed→YieldsAt P ops w oi v a→wpAnyL P md ops w n L f (listed.setIfInBounds i true) (a.put oi.dst v)→wpAnyL P md ops w n L (f+1) listed a
 |f,listed,a,inv,YM,hr,hy,H=>by
  have YL:=(mem_ready.1 hr).1;refine⟨λh=>(by rw[h]at hr;cases hr),λj hj=>⟨wk hs hc hn inv Mw YL j hj,?_⟩⟩;by_cases xo:j=i
  ·subst xo;exact hy.stOp hi H
  ·have hjr:=ready_mono hj xo;cases f with
   |zero=>
    have h1:=hdone _ _ H j hjr;have h2:=wk hs hc hn inv Mw YL j hj;omega
   |succ f=>
    have h1:=(H.2 j hjr).2;obtain⟨acU,oj,hoj,hall⟩:=mem_ready.1 hj;have ae0:∀e∈oj.after,Region.binds md e=true→e.on≠i:=λe he hb heq=>by
     have:=hall e he hb;rw[heq,getD_both YL]at this;cases this
    have h2:=stOp_put hoj (YM j oj hoj xo acU ae0) (λcs b=>BD i oi cs b hi) (λcs b=>BD j oj cs b hoj) hy h1;refine stOp_mono (λa' h3=>AD hi BD hs hc hn Mw hdone f (listed.setIfInBounds j true) a' (inv.set hj (wk hs hc hn inv Mw YL j hj)) (λk ok hk hki hku hno=>YM k ok hk hki ?_ hno) (ready_mono hr (Ne.symm xo)) h3.1 ?_) h2
    ·by_cases hjk:j=k
     ·subst hjk;exact acU
     ·rw[getD_set_ne true hjk]at hku;exact hku
    ·rw[Array.setIfInBounds_comm _ _ xo];exact h3.2
def lexB (md:Region.Mode)(ops:Array Oper)(n:Nat):Nat→Nat→Array Bool→Bool
 |0,_,listed=>(Region.ready md ops listed).all λj=>decide (n≤j)
 |f+1,k,listed=>(Region.ready md ops listed).contains k&&Region.free md ops listed k&&lexB md ops n f (k+1) (listed.setIfInBounds k true)
def uw:Nat→Nat→Array Bool→Array Bool
 |0,_,listed=>listed
 |f+1,k,listed=>uw f (k+1) (listed.setIfInBounds k true)
theorem Ij {n:Nat}{Lq:Act→Prop}(BD:Region.noSelect ops=true)(hs:Region.sinkB md ops n=true)(hc:C4 md ops n=true)(hn:n<ops.size):∀(l:List Oper) (k:Nat) (listed:Array Bool) (a:Act),(∀j,j<l.length→l[j]?=ops[k+j]?)→k+l.length=n→HeadInv md ops n listed→lexB md ops n l.length k listed=true→wpStill P ops w Lq l a→wpAnyL P md ops w n (λlisted' a'=>(listed'=uw l.length k listed∧∀j∈Region.ready md ops listed',n≤j)∧Lq a') l.length listed a
 |[],k,listed,a,_,_,_,hB,h=>by
  refine⟨⟨rfl,λj hj=>?_⟩,h⟩;simpa using zaI.1 hB j hj
 |o::l,k,listed,a,hl,hk,inv,hB,h=>by
  have h0:ops[k]?=some o:=by simpa using(hl 0 (by simp)).symm
  simp only[zar,lexB,zaj]at hB;obtain⟨⟨hr,hf⟩,QH⟩:=hB;simp only[zar]at hk;have pN:k∈Region.ready md ops listed:=by simpa using hr
  have hst:stOp P ops w k (wpStill P ops w Lq l) a:=by unfold stOp;simp only[h0];exact h
  obtain⟨v,hy,hK⟩:=yieldsAt_of_stOp h0 hst;exact AD h0 (Region.noSelect_spec BD) hs hc hn (by omega) (λlisted' a' hL=>hL.1.2) l.length listed a inv (Region.free_spec h0 hf) pN hy
   (Ij BD hs hc hn l (k+1) _ _ (λj hj=>by have:=hl (j+1) (by simp;omega);simpa[Nat.add_assoc,Nat.add_comm 1 j]using this) (by omega) (inv.set pN (by omega)) QH hK)
theorem Ik {Q:Exit→Act→Λ→Prop}{n k g:Nat}{l:List Oper}{listed:Array Bool}{a:Act}{Lq:Act→Prop}(BD:Region.noSelect ops=true)(hs:Region.sinkB md ops n=true)(hc:C4 md ops n=true)(hn:n<ops.size)(hl:∀j,j<l.length→l[j]?=ops[k+j]?)(hk:k+l.length=n)(inv:HeadInv md ops n listed)(hB:lexB md ops n l.length k listed=true)
 (h:wpStill P ops w Lq l a)(hL:∀a',Lq a'→wpAny P md ops Q g (uw l.length k listed) a' w):wpAny P md ops Q (l.length+g) listed a w:=
 wpAny_of_head (λlisted' a' h'=>by rw[h'.1.1];exact hL a' h'.2) _ _ _ (Ij BD hs hc hn l k listed a hl hk inv hB h)
def Xk (md:Region.Mode)(ops:Array Oper)(n:Nat)(listed:Array Bool):Bool:=
 decide (listed.size=ops.size)&&((ύ ops.size).all λj=>!(listed.getD j false)||(match ops[j]? with|some oj=>oj.after.all λe=>!(Region.binds md e)||listed.getD e.on false|none=>true))&&((ύ ops.size).all λt=>decide (t<n)||!(listed.getD t true))
theorem inv_of {n:Nat}{listed:Array Bool}(h:Xk md ops n listed=true):HeadInv md ops n listed:=by
 simp only[Xk,zaj,zaQ]at h;obtain⟨⟨h1,h2⟩,h3⟩:=h;refine⟨h1,λj oj hj hl e he hb=>?_,λt ht ht'=>?_⟩
 ·have:=zaI.1 h2 j (zbW.2 (zaf.1 hj).1);rw[hl,hj]at this;simp only[Bool.not_true,Bool.false_or]at this;have:=Array.all_eq_true'.1 this e he;rw[hb]at this;simpa using this
 ·have:=zaI.1 h3 t (zbW.2 ht');simp only[Bool.or_eq_true,zaQ]at this;rcases this with h|h
  ·omega
  ·simpa using h
def YN (ops:Array Oper)(n m:Nat):Bool:=
 Region.noSelect ops&&(Region.sinkB .any ops n&&(C4 .any ops n&&(decide (n<m)&&(decide (m<ops.size)&&(Xk .any ops n (ι ops.size false)&&(lexB .any ops n n 0 (ι ops.size false)&&(decide (Region.ready .any ops (uw n 0 (ι ops.size false))=[n])&&
 (Region.sinkB .any ops m&&(C4 .any ops m&&(Xk .any ops m ((uw n 0 (ι ops.size false)).setIfInBounds n true)&&(lexB .any ops m (m-n-1) (n+1) ((uw n 0 (ι ops.size false)).setIfInBounds n true)&&
 Region.seqB .any ops (ops.size-m) m (uw (m-n-1) (n+1) ((uw n 0 (ι ops.size false)).setIfInBounds n true)))))))))))))
theorem km {id:Nat}{Q:Exit→Act→Λ→Prop}{a:Act}{l:List Oper}(n m:Nat)(hm:P.follows .mixedOrders=true)(hB:YN l.toArray n m=true)
 (h:wpStill P l.toArray w.drew (λa1=>wpOp P l.toArray Q n (λa2 w2=>wpStill P l.toArray w2 (λa3=>wpList P l.toArray Q (l.drop m) a3 w2) ((l.drop (n+1)).take (m-n-1)) a2) a1 w.drew) (l.take n) a):(Code.region id l.toArray true).wp P Q a w:=by
 simp only[YN,zaj,zaQ]at hB;obtain⟨b0,b1,b2,b3,b4,b5,b6,b7,b8,b9,b10,b11,b12⟩:=hB;have hsz:l.toArray.size=l.length:=by simp
 have l1:(l.take n).length=n:=by simp;omega
 have l2:((l.drop (n+1)).take (m-n-1)).length=m-n-1:=by simp;omega
 have l3:(l.drop m).length=l.toArray.size-m:=by simp
 refine wp_region_any hm ?_;have h2:∀a2 w2,wpStill P l.toArray w2 (λa3=>wpList P l.toArray Q (l.drop m) a3 w2) ((l.drop (n+1)).take (m-n-1)) a2→wpAny P .any l.toArray Q ((m-n-1)+(l.toArray.size-m)) ((uw n 0 (ι l.toArray.size false)).setIfInBounds n true) a2 w2:=λa2 w2 hw=>by
  have:=Ik (md:= .any) (Q:=Q) (g:=l.toArray.size-m) (k:=n+1) (n:=m) b0 b8 b9 b4 (l:=(l.drop (n+1)).take (m-n-1)) (λj hj=>by
   rw[l2]at hj;simp[hj,List.getElem?_drop]) (by rw[l2];omega) (inv_of b10) (by rw[l2];exact b11) hw (λa' ha=>by
   rw[l2,←l3];exact wpAny_of_seq (md:= .any) (Q':=Q) (l.drop m) m _ a' w2 (λj=>by simp[List.getElem?_drop]) (by rw[l3];exact b12) ha)
  rwa[l2]at this
 have h1:=Ik (md:= .any) (Q:=Q) (g:=1+((m-n-1)+(l.toArray.size-m))) (k:=0) (n:=n) (w:=w.drew) b0 b1 b2 (by omega) (l:=l.take n) (λj hj=>by
  rw[l1]at hj;simp[hj]) (by rw[l1];omega) (inv_of b5) (by rw[l1];exact b6) h (λa' ha=>by
  rw[l1,Nat.add_comm 1];refine⟨λh0=>(by rw[b7]at h0;cases h0),λi hi=>?_⟩;rw[b7]at hi;obtain rfl:i=n:=by simpa using hi
  exact wpOp_mono (λa2 w2 hw=>h2 a2 w2 hw) ha)
 rw[l1,show n+(1+((m-n-1)+(l.toArray.size-m)))=l.toArray.size by omega]at h1;exact h1
end
end Go.Loop
namespace Go.Proofs.YtlhimdjkkiflhaaGreatDoor
open Go.Proofs.Tryz
open Go.RowKit Go.Loop
theorem lO (w:Λ)(a b c:Obj):(((w.alloc a).alloc b).alloc c).drew.heap[w.heap.size+1+1]?=some c:=by
 show(((w.heap.push a).push b).push c)[w.heap.size+1+1]?=some c;have e:w.heap.size+1+1=((w.heap.push a).push b).size:=by simp
 rw[e,zcz]
theorem qF (w:Λ)(a b c:Obj):ζ w.heap.size w (((w.alloc a).alloc b).alloc c).drew:=((((zad _ w).alloc (zab _) a).alloc (by simp) b).alloc (by simp;omega) c).drew
theorem dT (w:Λ)(a b c:Obj):(((w.alloc a).alloc b).alloc c).drew.heap.size=w.heap.size+1+1+1:=by
 show(((w.heap.push a).push b).push c).size=_;simp
theorem eZ (n:Nat):n≤n+1+1:=by omega
theorem bt {w w0:Λ}{b:Nat}{t:φ}(h:w.heap[b]?=w0.heap[b]?)(h0:w0.heap[b]?=some (.cells #[Γ Δ 0,Γ Δ 0] t)):w.cell? ⟨b,0,none⟩=some (Γ Δ 0)∧w.cell? ⟨b,1,none⟩=some (Γ Δ 0)∧w.frozen? ⟨b,0,none⟩=false∧w.frozen? ⟨b,1,none⟩=false:=by
 rw[h0]at h;simp[Λ.cell?,Λ.frozen?,h]
theorem Il (a b:Int×Int)(w:Λ)(ha:qB a)(hb:qB b):θ prog 229 #[qV a,qV b] w λe w'=>e=.returned (oN (uu a b))∧ζ w.heap.size w w':=by
 obtain⟨a1,a2⟩:=a;obtain⟨b1,b2⟩:=b;obtain⟨p1,p2,p3,p4⟩:=ha;obtain⟨q1,q2,q3,q4⟩:=hb;simp only at p1 p2 p3 p4 q1 q2 q3 q4;have m1:=qE p1 p2 (show -1000000≤b2 by omega) q4;have m2:=qE q1 q2 (show -1000000≤a2 by omega) p4;have m3:=qE (show -1000000≤a2 by omega) p4 (show -1000000≤b2 by omega) q4;have m4:1≤a2*b2:=by
  have:=Int.mul_le_mul p3 q3 (by omega) (by omega);omega
 have W1:Hid _:=λw=>iY a1 b2 w p1 p2 (by omega) q4;have W2:Hid _:=λw=>iY b1 a2 w q1 q2 (by omega) p4;have W3:Hid _:=λw=>iY a2 b2 w (by omega) p4 (by omega) q4;have HF:Hid _:=λw=>ye (a1*b2+b1*a2) (a2*b2) w (by omega) (by omega) m4 (by omega);unfold uu qV;dsimp only;generalize a1*b2=x at *;generalize b1*a2=y at *;generalize a2*b2=z at *;have hw:IntKind.i64.wrap (x+y)=x+y:=Go.IntWalk.i64_in _ ⟨by omega,by omega⟩;have mixed:prog.follows Φ=true:=by kernel_rfl
 generalize py (x+y) z=r at *;cases r with
 |none=>
  simp only[oN]at HF ⊢;go_enter func229,ntmps229;go_wp2_with fail;refine km 16 19 mixed (by kernel_rfl) ?_;simp only[zcu,List.take_zero,zbh,zba];repeat first
   |still_step
   |still_call (W1.out _)
   |still_call (W2.out _)
   |still_call (W3.out _)
  refine wpStill_nil ?_;unfold wpOp;go_simp;refine .inl ?_;refine(HF.out _).mono ?_;rintro e w' ⟨rfl,hb⟩;obtain⟨c0,c1,f0,f1⟩:=bt (w:=w') (b:=w.heap.size+1+1) (hb.block (w.heap.size+1+1) (by rw[dT];omega)) (lO _ _ _ _);have HB:Hid (ζ w.heap.size w w'):=(qF w _ _ _).trans (hb.mono (by rw[dT];omega));have hsz:Hid (w.heap.size+1+1<w'.heap.size):=by have:=hb.size;rw[dT]at this;show w.heap.size+1+1<w'.heap.size;omega
  clear hb;show wpStill _ _ _ _ _ _;repeat still_step
  refine wpStill_nil ?_;go_wp2_with fail;refine zak (by simp[results,results229,go_sem,c0,c1];rfl) rfl ?_;exact⟨rfl,(HB.out.setCell (eZ _) _).setCell (eZ _) _⟩
 |some r=>
  obtain⟨rn,rd⟩:=r;simp only[oN,qV]at HF ⊢;go_enter func229,ntmps229;go_wp2_with fail;refine km 16 19 mixed (by kernel_rfl) ?_;simp only[zcu,List.take_zero,zbh,zba];repeat first
   |still_step
   |still_call (W1.out _)
   |still_call (W2.out _)
   |still_call (W3.out _)
  refine wpStill_nil ?_;unfold wpOp;go_simp;refine .inl ?_;refine(HF.out _).mono ?_;rintro e w' ⟨rfl,hb⟩;obtain⟨c0,c1,f0,f1⟩:=bt (w:=w') (b:=w.heap.size+1+1) (hb.block (w.heap.size+1+1) (by rw[dT];omega)) (lO _ _ _ _);have HB:Hid (ζ w.heap.size w w'):=(qF w _ _ _).trans (hb.mono (by rw[dT];omega));have hsz:Hid (w.heap.size+1+1<w'.heap.size):=by have:=hb.size;rw[dT]at this;show w.heap.size+1+1<w'.heap.size;omega
  clear hb;show wpStill _ _ _ _ _ _;repeat still_step
  refine wpStill_nil ?_;go_wp2_with fail;refine zak (by simp[results,results229,go_sem,c0,c1];rfl) rfl ?_;exact⟨rfl,(HB.out.setCell (eZ _) _).setCell (eZ _) _⟩
theorem OY (a b:Int×Int)(w:Λ)(ha:qB a)(hb:qB b):θ prog 231 #[qV a,qV b] w λe w'=>e=.returned (oN (qC a b))∧ζ w.heap.size w w':=by
 obtain⟨a1,a2⟩:=a;obtain⟨b1,b2⟩:=b;obtain⟨p1,p2,p3,p4⟩:=ha;obtain⟨q1,q2,q3,q4⟩:=hb;simp only at p1 p2 p3 p4 q1 q2 q3 q4;have m1:=qE p1 p2 q1 q2;have m3:=qE (show -1000000≤a2 by omega) p4 (show -1000000≤b2 by omega) q4;have m4:1≤a2*b2:=by
  have:=Int.mul_le_mul p3 q3 (by omega) (by omega);omega
 have W1:Hid _:=λw=>iY a1 b1 w p1 p2 q1 q2;have W3:Hid _:=λw=>iY a2 b2 w (by omega) p4 (by omega) q4;have HF:Hid _:=λw=>ye (a1*b1) (a2*b2) w (by omega) (by omega) m4 (by omega);unfold qC qV;dsimp only;generalize a1*b1=x at *;generalize a2*b2=z at *;have mixed:prog.follows Φ=true:=by kernel_rfl
 generalize py x z=r at *;obtain⟨u1,u2,t,hv⟩:∃u1 u2 t,oN r=.tuple #[.agg #[Γ Δ u1,Γ Δ u2],.bool t]:=by
  cases r with
  |none=>exact⟨0,0,false,rfl⟩
  |some q=>exact⟨q.1,q.2,true,rfl⟩
 rw[hv]at HF ⊢;clear hv;go_enter func231,ntmps231;go_wp2_with fail;refine km 10 13 mixed (by kernel_rfl) ?_;simp only[zcu,List.take_zero,zbh,zba];repeat first
  |still_step
  |still_call (W1.out _)
  |still_call (W3.out _)
 refine wpStill_nil ?_;unfold wpOp;go_simp;refine .inl ?_;refine(HF.out _).mono ?_;rintro e w' ⟨rfl,hb⟩;obtain⟨c0,c1,f0,f1⟩:=bt (w:=w') (b:=w.heap.size+1+1) (hb.block (w.heap.size+1+1) (by rw[dT];omega)) (lO _ _ _ _);have HB:Hid (ζ w.heap.size w w'):=(qF w _ _ _).trans (hb.mono (by rw[dT];omega));have hsz:Hid (w.heap.size+1+1<w'.heap.size):=by have:=hb.size;rw[dT]at this;show w.heap.size+1+1<w'.heap.size;omega
 clear hb;show wpStill _ _ _ _ _ _;repeat still_step
 refine wpStill_nil ?_;go_wp2_with fail;refine zak (by simp[results,results231,go_sem,c0,c1];rfl) rfl ?_;exact⟨rfl,(HB.out.setCell (eZ _) _).setCell (eZ _) _⟩
theorem OZ (a b:Int×Int)(w:Λ)(ha:qB a)(hb:qB b):θ prog 203 #[qV a,qV b] w λe w'=>e=.returned (.bool (oM a b))∧ζ w.heap.size w w':=by
 obtain⟨a1,a2⟩:=a;obtain⟨b1,b2⟩:=b;obtain⟨p1,p2,p3,p4⟩:=ha;obtain⟨q1,q2,q3,q4⟩:=hb;simp only at p1 p2 p3 p4 q1 q2 q3 q4;have W1:Hid _:=λw=>iY a1 b2 w p1 p2 (by omega) q4;have W2:Hid _:=λw=>iY b1 a2 w q1 q2 (by omega) p4;unfold oM qV;dsimp only;generalize a1*b2=x at *;generalize b1*a2=y at *;have mixed:prog.follows Φ=true:=by kernel_rfl
 go_enter func203,ntmps203;go_wp2_with fail
 go_quiet (first
  |(go_at_call 228;refine θ.quiet_of_same (W1.out _))
  |(go_at_call 228;refine θ.quiet_of_same (W2.out _)))
 go_wp2_with fail;go_ret;exact⟨rfl,zaS (((zad _ w).alloc (zab _) _).alloc (by simp) _) _⟩
theorem acV (w:Λ)(a b c:Obj):(((w.alloc a).alloc b).alloc c).heap[w.heap.size+1+1]?=some c:=lO w a b c
theorem ER (w:Λ)(a b c:Obj):ζ w.heap.size w (((w.alloc a).alloc b).alloc c):=(((zad _ w).alloc (zab _) a).alloc (by simp) b).alloc (by simp;omega) c
theorem MQ (w:Λ)(a b c:Obj):(((w.alloc a).alloc b).alloc c).heap.size=w.heap.size+1+1+1:=dT w a b c
theorem YO (w:Λ)(a b c:Obj)(n:Nat):((((w.alloc a).alloc b).alloc c).drewN n).heap[w.heap.size+1+1]?=some c:=lO w a b c
theorem C5 (w:Λ)(a b c:Obj)(n:Nat):((((w.alloc a).alloc b).alloc c).drewN n).heap.size=w.heap.size+1+1+1:=dT w a b c
theorem O0 (a b:Int×Int)(w:Λ)(ha:qB a)(hb:qB b):θ prog 230 #[qV a,qV b] w λe w'=>e=.returned (oN (wj a b))∧ζ w.heap.size w w':=by
 have hb':qB (-b.1,b.2):=by obtain⟨h1,h2,h3,h4⟩:=hb;exact⟨by show -1000000≤-b.1;omega,by show -b.1≤1000000;omega,h3,h4⟩
 have HP:Hid _:=λw=>Il a (-b.1,b.2) w ha hb';obtain⟨a1,a2⟩:=a;obtain⟨b1,b2⟩:=b;obtain⟨q1,q2,q3,q4⟩:=hb;simp only at q1 q2 q3 q4;unfold wj;dsimp only at HP ⊢;generalize uu (a1,a2) (-b1,b2)=r at *;obtain⟨u1,u2,t,hv⟩:∃u1 u2 t,oN r=.tuple #[.agg #[Γ Δ u1,Γ Δ u2],.bool t]:=by
  cases r with
  |none=>exact⟨0,0,false,rfl⟩
  |some q=>exact⟨q.1,q.2,true,rfl⟩
 rw[hv]at HP ⊢;clear hv;simp only[qV]at HP ⊢;have mixed:prog.follows Φ=true:=by kernel_rfl
 go_enter func230,ntmps230;go_wp2_with fail;refine(HP.out _).mono ?_;rintro e w' ⟨rfl,hb⟩;obtain⟨c0,c1,f0,f1⟩:=bt (w:=w') (b:=w.heap.size+1+1) (hb.block (w.heap.size+1+1) (by rw[MQ];omega)) (acV _ _ _ _);have HB:Hid (ζ w.heap.size w w'):=(ER w _ _ _).trans (hb.mono (by rw[MQ];omega));have hsz:Hid (w.heap.size+1+1<w'.heap.size):=by have:=hb.size;rw[MQ]at this;show w.heap.size+1+1<w'.heap.size;omega
 clear hb;go_wp2_with fail;refine zak (by simp[results,results230,go_sem,c0,c1];rfl) rfl ?_;exact⟨rfl,(HB.out.setCell (eZ _) _).setCell (eZ _) _⟩
theorem aaI (a b:Int×Int)(w:Λ)(ha:qB a)(hb:qB b)(hz:b.1≠0):θ prog 232 #[qV a,qV b] w λe w'=>e=.returned (oN (Xj a b))∧ζ w.heap.size w w':=by
 obtain⟨a1,a2⟩:=a;obtain⟨b1,b2⟩:=b;obtain⟨p1,p2,p3,p4⟩:=ha;obtain⟨q1,q2,q3,q4⟩:=hb;simp only at p1 p2 p3 p4 q1 q2 q3 q4 hz;have m1:=qE p1 p2 (show -1000000≤b2 by omega) q4;have m3:=qE (show -1000000≤a2 by omega) p4 q1 q2;have m4:a2*b1≠0:=Int.mul_ne_zero (by omega) hz;have W1:Hid _:=λw=>iY a1 b2 w p1 p2 (by omega) q4;have W2:Hid _:=λw=>iY a2 b1 w (by omega) p4 q1 q2;unfold Xj qV;dsimp only;generalize a1*b2=x at *;generalize a2*b1=z at *;have mixed:prog.follows Φ=true:=by kernel_rfl
 by_cases OC:z<0
 ·rw[zac OC];have HF:Hid _:=λw=>ye (-x) (-z) w (by omega) (by omega) (by omega) (by omega);generalize py (-x) (-z)=r at *;obtain⟨u1,u2,t,hv⟩:∃u1 u2 t,oN r=.tuple #[.agg #[Γ Δ u1,Γ Δ u2],.bool t]:=by
   cases r with
   |none=>exact⟨0,0,false,rfl⟩
   |some q=>exact⟨q.1,q.2,true,rfl⟩
  rw[hv]at HF ⊢;clear hv;go_enter func232,ntmps232;go_wp2_with fail
  go_quiet (first
   |(go_at_call 228;refine θ.quiet_of_same (W1.out _))
   |(go_at_call 228;refine θ.quiet_of_same (W2.out _)))
  go_wp2_with fail;refine(HF.out _).mono ?_;rintro e w' ⟨rfl,hb⟩;obtain⟨c0,c1,f0,f1⟩:=bt (w:=w') (b:=w.heap.size+1+1) (hb.block (w.heap.size+1+1) (by rw[C5];omega)) (YO _ _ _ _ _);have HB:Hid (ζ w.heap.size w w'):=(zaS (ER w _ _ _) _).trans (hb.mono (by rw[C5];omega));have hsz:Hid (w.heap.size+1+1<w'.heap.size):=by have:=hb.size;rw[C5]at this;show w.heap.size+1+1<w'.heap.size;omega
  clear hb;go_wp2_with fail;refine zak (by simp[results,results232,go_sem,c0,c1];rfl) rfl ?_;exact⟨rfl,(HB.out.setCell (eZ _) _).setCell (eZ _) _⟩
 ·rw[zaa OC];have HF:Hid _:=λw=>ye x z w (by omega) (by omega) (by omega) (by omega);generalize py x z=r at *;obtain⟨u1,u2,t,hv⟩:∃u1 u2 t,oN r=.tuple #[.agg #[Γ Δ u1,Γ Δ u2],.bool t]:=by
   cases r with
   |none=>exact⟨0,0,false,rfl⟩
   |some q=>exact⟨q.1,q.2,true,rfl⟩
  rw[hv]at HF ⊢;clear hv;go_enter func232,ntmps232;go_wp2_with fail
  go_quiet (first
   |(go_at_call 228;refine θ.quiet_of_same (W1.out _))
   |(go_at_call 228;refine θ.quiet_of_same (W2.out _)))
  go_wp2_with fail;refine(HF.out _).mono ?_;rintro e w' ⟨rfl,hb⟩;obtain⟨c0,c1,f0,f1⟩:=bt (w:=w') (b:=w.heap.size+1+1) (hb.block (w.heap.size+1+1) (by rw[C5];omega)) (YO _ _ _ _ _);have HB:Hid (ζ w.heap.size w w'):=(zaS (ER w _ _ _) _).trans (hb.mono (by rw[C5];omega));have hsz:Hid (w.heap.size+1+1<w'.heap.size):=by have:=hb.size;rw[C5]at this;show w.heap.size+1+1<w'.heap.size;omega
  clear hb;go_wp2_with fail;refine zak (by simp[results,results232,go_sem,c0,c1];rfl) rfl ?_;exact⟨rfl,(HB.out.setCell (eZ _) _).setCell (eZ _) _⟩
end Go.Proofs.YtlhimdjkkiflhaaGreatDoor
namespace Go.Loop
open Go.Proofs.Tryz
def cS (h:List UInt8)(a b:Int×Int):Int ⊕ (Int×Int):=
 if h=[43]then(match uu a b with|some r=> .inr r|none=> .inl 7)
 else if h=[45]then(match wj a b with|some r=> .inr r|none=> .inl 7)
 else if h=[42]then(match qC a b with|some r=> .inr r|none=> .inl 7)
 else if b.1=0 then .inl 11
 else(match Xj a b with|some r=> .inr r|none=> .inl 7)
def oO (h:List UInt8):Int×Int:=if h=[42]∨h=[47]then(1,1)else(0,1)
def bY:List UInt8:=[113,117,111,116,101]
def pB:List UInt8:=[105,102]
def fj (h:List UInt8)(n:Nat):Bool:=
 if h=[43]∨h=[42]then true else if h=[45]∨h=[47]then decide (1≤n)else if h=bY then decide (n=1)else if h=[61]∨h=[60]then decide (n=2)else if h=pB then decide (n=3)else false
end Go.Loop
namespace Go.Proofs.YtlhimdjkkiflhaaGreatDoor
open Go.Proofs.Tryz
open Go.RowKit Go.Loop
def iZ:Int ⊕ (Int×Int)→Ξ
 |.inr r=> .tuple #[qV r,Γ Δ 0]
 |.inl e=> .tuple #[.agg #[Γ Δ 0,Γ Δ 0],Γ Δ e]
set_option linter.unusedSimpArgs false in
theorem Xl (h:List UInt8)(n:Nat)(w:Λ)(hn:n≤1000000):θ prog 176 #[.string ⟨⟨h⟩⟩,Γ Δ n] w λe w'=>e=.returned (.bool (fj h n))∧w'=w:=by
 by_cases e0:h=[43]
 ·subst e0;go_enter func176,ntmps176;go_wp2_with fail;all_goals
   go_ret;exact⟨ay (by first|(simp[fj,bY,pB];done)|(simp[fj,bY,pB];omega)|(rw[zaP];simp[fj,bY,pB];omega)),rfl⟩
 have f0:(h==[43])=false:=by simpa using e0
 by_cases e1:h=[42]
 ·subst e1;clear f0;go_enter func176,ntmps176;go_wp2_with fail;all_goals
   go_ret;exact⟨ay (by first|(simp[fj,bY,pB];done)|(simp[fj,bY,pB];omega)|(rw[zaP];simp[fj,bY,pB];omega)),rfl⟩
 have f1:(h==[42])=false:=by simpa using e1
 by_cases e2:h=[45]
 ·subst e2;clear f0 f1;go_enter func176,ntmps176;go_wp2_with fail;all_goals
   go_ret;exact⟨ay (by first|(simp[fj,bY,pB];done)|(simp[fj,bY,pB];omega)|(rw[zaP];simp[fj,bY,pB];omega)),rfl⟩
 have f2:(h==[45])=false:=by simpa using e2
 by_cases e3:h=[47]
 ·subst e3;clear f0 f1 f2;go_enter func176,ntmps176;go_wp2_with fail;all_goals
   go_ret;exact⟨ay (by first|(simp[fj,bY,pB];done)|(simp[fj,bY,pB];omega)|(rw[zaP];simp[fj,bY,pB];omega)),rfl⟩
 have f3:(h==[47])=false:=by simpa using e3
 by_cases e4:h=bY
 ·subst e4;clear f0 f1 f2 f3;go_enter func176,ntmps176;go_wp2_with fail;all_goals
   go_ret;exact⟨ay (by first|(simp[fj,bY,pB];done)|(simp[fj,bY,pB];omega)|(rw[zaP];simp[fj,bY,pB];omega)),rfl⟩
 have f4:(h==bY)=false:=by simpa using e4
 by_cases e5:h=[61]
 ·subst e5;clear f0 f1 f2 f3 f4;go_enter func176,ntmps176;go_wp2_with fail;all_goals
   go_ret;exact⟨ay (by first|(simp[fj,bY,pB];done)|(simp[fj,bY,pB];omega)|(rw[zaP];simp[fj,bY,pB];omega)),rfl⟩
 have f5:(h==[61])=false:=by simpa using e5
 by_cases e6:h=[60]
 ·subst e6;clear f0 f1 f2 f3 f4 f5;go_enter func176,ntmps176;go_wp2_with fail;all_goals
   go_ret;exact⟨ay (by first|(simp[fj,bY,pB];done)|(simp[fj,bY,pB];omega)|(rw[zaP];simp[fj,bY,pB];omega)),rfl⟩
 have f6:(h==[60])=false:=by simpa using e6
 by_cases e7:h=pB
 ·subst e7;clear f0 f1 f2 f3 f4 f5 f6;go_enter func176,ntmps176;go_wp2_with fail;all_goals
   go_ret;exact⟨ay (by first|(simp[fj,bY,pB];done)|(simp[fj,bY,pB];omega)|(rw[zaP];simp[fj,bY,pB];omega)),rfl⟩
 have f7:(h==pB)=false:=by simpa using e7
 simp only[bY,pB]at f4 f7;go_enter func176,ntmps176;go_wp2_with fail;all_goals
  go_ret;exact⟨ay (by simp[fj,e0,e1,e2,e3,e4,e5,e6,e7]),rfl⟩
theorem O1 (h:List UInt8)(w:Λ):θ prog 204 #[.string ⟨⟨h⟩⟩] w λe w'=>e=.returned (qV (oO h))∧ζ w.heap.size w w':=by
 by_cases e0:h=[42]
 ·subst e0;go_enter func204,ntmps204;go_wp2_with fail;refine zak (by simp[results,results204,go_sem];rfl) rfl ?_;exact⟨rfl,(zad _ w).alloc (zab _) _⟩
 have f0:(h==[42])=false:=by simpa using e0
 by_cases e1:h=[47]
 ·subst e1;clear f0;go_enter func204,ntmps204;go_wp2_with fail;refine zak (by simp[results,results204,go_sem];rfl) rfl ?_;exact⟨rfl,(zad _ w).alloc (zab _) _⟩
 have f1:(h==[47])=false:=by simpa using e1
 have e:oO h=(0,1):=by simp[oO,e0,e1]
 rw[e];go_enter func204,ntmps204;go_wp2_with fail;refine zak (by simp[results,results204,go_sem];rfl) rfl ?_;exact⟨rfl,(zad _ w).alloc (zab _) _⟩
theorem qH (w:Λ)(a b c d:Obj):((((w.alloc a).alloc b).alloc c).alloc d).heap[w.heap.size+1+1]?=some c:=by
 show((((w.heap.push a).push b).push c).push d)[w.heap.size+1+1]?=some c;rw[Array.getElem?_push_lt (by simp)];have e:w.heap.size+1+1=((w.heap.push a).push b).size:=by simp
 have:=zcz (xs:=(w.heap.push a).push b) (x:=c);rw[←e,zaH (by simp)]at this;exact this
theorem qI (w:Λ)(a b c d:Obj):((((w.alloc a).alloc b).alloc c).alloc d).heap[w.heap.size+1+1+1]?=some d:=by
 show((((w.heap.push a).push b).push c).push d)[w.heap.size+1+1+1]?=some d;have e:w.heap.size+1+1+1=(((w.heap.push a).push b).push c).size:=by simp
 rw[e,zcz]
theorem fW (w:Λ)(a b c d:Obj):((((w.alloc a).alloc b).alloc c).alloc d).heap.size=w.heap.size+1+1+1+1:=by
 show((((w.heap.push a).push b).push c).push d).size=_;simp
theorem oP (w:Λ)(a b c d:Obj):ζ w.heap.size w ((((w.alloc a).alloc b).alloc c).alloc d):=(ER w a b c).alloc (by rw[MQ];omega) d
theorem ko (n:Nat):n≤n+1+1+1:=by omega
theorem O2 (a b:Int×Int)(w:Λ)(ha:qB a)(hb:qB b):θ prog 205 #[.string ⟨⟨[43]⟩⟩,qV a,qV b] w λe w'=>e=.returned (iZ (cS [43] a b))∧ζ w.heap.size w w':=by
 have HP:Hid _:=λw=>Il a b w ha hb;have es:cS [43] a b=(match uu a b with|some r=> .inr r|none=> .inl 7):=rfl;rw[es];clear es;generalize uu a b=r at *;obtain⟨a1,a2⟩:=a;obtain⟨b1,b2⟩:=b;have mixed:prog.follows Φ=true:=by kernel_rfl
 cases r with
 |none=>
  simp only[qV,oN,iZ]at HP ⊢;go_enter func205,ntmps205;go_wp2_with fail;refine(HP.out _).mono ?_;rintro e w' ⟨rfl,hb⟩;obtain⟨c0,c1,f0,f1⟩:=bt (w:=w') (b:=w.heap.size+1+1) (hb.block (w.heap.size+1+1) (by rw[fW];omega)) (qH _ _ _ _ _);obtain⟨d0,d1,g0,g1⟩:=bt (w:=w') (b:=w.heap.size+1+1+1) (hb.block (w.heap.size+1+1+1) (by rw[fW];omega)) (qI _ _ _ _ _);have HB:Hid (ζ w.heap.size w w'):=(oP w _ _ _ _).trans (hb.mono (by rw[fW];omega));clear hb;go_wp2_with fail;refine zak (by simp[results,results205,go_sem,c0,c1];rfl) rfl ?_;refine⟨rfl,?_⟩
  (repeat (first|with_reducible refine zan ?_ (eZ _) _|with_reducible refine zan ?_ (ko _) _));exact HB.out
 |some r=>
  obtain⟨rn,rd⟩:=r;simp only[qV,oN,iZ]at HP ⊢;go_enter func205,ntmps205;go_wp2_with fail;refine(HP.out _).mono ?_;rintro e w' ⟨rfl,hb⟩;obtain⟨c0,c1,f0,f1⟩:=bt (w:=w') (b:=w.heap.size+1+1) (hb.block (w.heap.size+1+1) (by rw[fW];omega)) (qH _ _ _ _ _);obtain⟨d0,d1,g0,g1⟩:=bt (w:=w') (b:=w.heap.size+1+1+1) (hb.block (w.heap.size+1+1+1) (by rw[fW];omega)) (qI _ _ _ _ _);have HB:Hid (ζ w.heap.size w w'):=(oP w _ _ _ _).trans (hb.mono (by rw[fW];omega));clear hb;go_wp2_with fail;refine zak (by simp[results,results205,go_sem,c0,c1];rfl) rfl ?_;refine⟨rfl,?_⟩
  (repeat (first|with_reducible refine zan ?_ (eZ _) _|with_reducible refine zan ?_ (ko _) _));exact HB.out
theorem K0 (a b:Int×Int)(w:Λ)(ha:qB a)(hb:qB b):θ prog 205 #[.string ⟨⟨[45]⟩⟩,qV a,qV b] w λe w'=>e=.returned (iZ (cS [45] a b))∧ζ w.heap.size w w':=by
 have HP:Hid _:=λw=>O0 a b w ha hb;have es:cS [45] a b=(match wj a b with|some r=> .inr r|none=> .inl 7):=rfl;rw[es];clear es;generalize wj a b=r at *;obtain⟨a1,a2⟩:=a;obtain⟨b1,b2⟩:=b;have mixed:prog.follows Φ=true:=by kernel_rfl
 cases r with
 |none=>
  simp only[qV,oN,iZ]at HP ⊢;go_enter func205,ntmps205;go_wp2_with fail;refine(HP.out _).mono ?_;rintro e w' ⟨rfl,hb⟩;obtain⟨c0,c1,f0,f1⟩:=bt (w:=w') (b:=w.heap.size+1+1) (hb.block (w.heap.size+1+1) (by rw[fW];omega)) (qH _ _ _ _ _);obtain⟨d0,d1,g0,g1⟩:=bt (w:=w') (b:=w.heap.size+1+1+1) (hb.block (w.heap.size+1+1+1) (by rw[fW];omega)) (qI _ _ _ _ _);have HB:Hid (ζ w.heap.size w w'):=(oP w _ _ _ _).trans (hb.mono (by rw[fW];omega));clear hb;go_wp2_with fail;refine zak (by simp[results,results205,go_sem,c0,c1];rfl) rfl ?_;refine⟨rfl,?_⟩
  (repeat (first|with_reducible refine zan ?_ (eZ _) _|with_reducible refine zan ?_ (ko _) _));exact HB.out
 |some r=>
  obtain⟨rn,rd⟩:=r;simp only[qV,oN,iZ]at HP ⊢;go_enter func205,ntmps205;go_wp2_with fail;refine(HP.out _).mono ?_;rintro e w' ⟨rfl,hb⟩;obtain⟨c0,c1,f0,f1⟩:=bt (w:=w') (b:=w.heap.size+1+1) (hb.block (w.heap.size+1+1) (by rw[fW];omega)) (qH _ _ _ _ _);obtain⟨d0,d1,g0,g1⟩:=bt (w:=w') (b:=w.heap.size+1+1+1) (hb.block (w.heap.size+1+1+1) (by rw[fW];omega)) (qI _ _ _ _ _);have HB:Hid (ζ w.heap.size w w'):=(oP w _ _ _ _).trans (hb.mono (by rw[fW];omega));clear hb;go_wp2_with fail;refine zak (by simp[results,results205,go_sem,c0,c1];rfl) rfl ?_;refine⟨rfl,?_⟩
  (repeat (first|with_reducible refine zan ?_ (eZ _) _|with_reducible refine zan ?_ (ko _) _));exact HB.out
theorem K1 (a b:Int×Int)(w:Λ)(ha:qB a)(hb:qB b):θ prog 205 #[.string ⟨⟨[42]⟩⟩,qV a,qV b] w λe w'=>e=.returned (iZ (cS [42] a b))∧ζ w.heap.size w w':=by
 have HP:Hid _:=λw=>OY a b w ha hb;have es:cS [42] a b=(match qC a b with|some r=> .inr r|none=> .inl 7):=rfl;rw[es];clear es;generalize qC a b=r at *;obtain⟨a1,a2⟩:=a;obtain⟨b1,b2⟩:=b;have mixed:prog.follows Φ=true:=by kernel_rfl
 cases r with
 |none=>
  simp only[qV,oN,iZ]at HP ⊢;go_enter func205,ntmps205;go_wp2_with fail;refine(HP.out _).mono ?_;rintro e w' ⟨rfl,hb⟩;obtain⟨c0,c1,f0,f1⟩:=bt (w:=w') (b:=w.heap.size+1+1) (hb.block (w.heap.size+1+1) (by rw[fW];omega)) (qH _ _ _ _ _);obtain⟨d0,d1,g0,g1⟩:=bt (w:=w') (b:=w.heap.size+1+1+1) (hb.block (w.heap.size+1+1+1) (by rw[fW];omega)) (qI _ _ _ _ _);have HB:Hid (ζ w.heap.size w w'):=(oP w _ _ _ _).trans (hb.mono (by rw[fW];omega));clear hb;go_wp2_with fail;refine zak (by simp[results,results205,go_sem,c0,c1];rfl) rfl ?_;refine⟨rfl,?_⟩
  (repeat (first|with_reducible refine zan ?_ (eZ _) _|with_reducible refine zan ?_ (ko _) _));exact HB.out
 |some r=>
  obtain⟨rn,rd⟩:=r;simp only[qV,oN,iZ]at HP ⊢;go_enter func205,ntmps205;go_wp2_with fail;refine(HP.out _).mono ?_;rintro e w' ⟨rfl,hb⟩;obtain⟨c0,c1,f0,f1⟩:=bt (w:=w') (b:=w.heap.size+1+1) (hb.block (w.heap.size+1+1) (by rw[fW];omega)) (qH _ _ _ _ _);obtain⟨d0,d1,g0,g1⟩:=bt (w:=w') (b:=w.heap.size+1+1+1) (hb.block (w.heap.size+1+1+1) (by rw[fW];omega)) (qI _ _ _ _ _);have HB:Hid (ζ w.heap.size w w'):=(oP w _ _ _ _).trans (hb.mono (by rw[fW];omega));clear hb;go_wp2_with fail;refine zak (by simp[results,results205,go_sem,c0,c1];rfl) rfl ?_;refine⟨rfl,?_⟩
  (repeat (first|with_reducible refine zan ?_ (eZ _) _|with_reducible refine zan ?_ (ko _) _));exact HB.out
theorem Xm (h:List UInt8)(e0:h≠[43])(e1:h≠[45])(e2:h≠[42])(a b:Int×Int)(w:Λ)(ha:qB a)(hb:qB b)(hz:b.1≠0):θ prog 205 #[.string ⟨⟨h⟩⟩,qV a,qV b] w λe w'=>e=.returned (iZ (cS h a b))∧ζ w.heap.size w w':=by
 have HP:Hid _:=λw=>aaI a b w ha hb hz;have es:cS h a b=(match Xj a b with|some r=> .inr r|none=> .inl 7):=by simp only[cS,zaa e0,zaa e1,zaa e2,zaa hz]<;>cases Xj a b<;>rfl
 rw[es];clear es;generalize Xj a b=r at *;obtain⟨a1,a2⟩:=a;obtain⟨b1,b2⟩:=b;have f0:(h==[43])=false:=by simpa using e0
 have f1:(h==[45])=false:=by simpa using e1
 have f2:(h==[42])=false:=by simpa using e2
 have fz:(b1==0)=false:=by simpa using hz
 have mixed:prog.follows Φ=true:=by kernel_rfl
 cases r with
 |none=>
  simp only[qV,oN,iZ]at HP ⊢;go_enter func205,ntmps205;go_wp2_with fail;refine(HP.out _).mono ?_;rintro e w' ⟨rfl,hb⟩;obtain⟨c0,c1,k0,k1⟩:=bt (w:=w') (b:=w.heap.size+1+1) (hb.block (w.heap.size+1+1) (by rw[fW];omega)) (qH _ _ _ _ _);obtain⟨d0,d1,g0,g1⟩:=bt (w:=w') (b:=w.heap.size+1+1+1) (hb.block (w.heap.size+1+1+1) (by rw[fW];omega)) (qI _ _ _ _ _);have HB:Hid (ζ w.heap.size w w'):=(oP w _ _ _ _).trans (hb.mono (by rw[fW];omega));clear hb;go_wp2_with fail;refine zak (by simp[results,results205,go_sem,c0,c1];rfl) rfl ?_;refine⟨rfl,?_⟩
  (repeat (first|with_reducible refine zan ?_ (eZ _) _|with_reducible refine zan ?_ (ko _) _));exact HB.out
 |some r=>
  obtain⟨rn,rd⟩:=r;simp only[qV,oN,iZ]at HP ⊢;go_enter func205,ntmps205;go_wp2_with fail;refine(HP.out _).mono ?_;rintro e w' ⟨rfl,hb⟩;obtain⟨c0,c1,k0,k1⟩:=bt (w:=w') (b:=w.heap.size+1+1) (hb.block (w.heap.size+1+1) (by rw[fW];omega)) (qH _ _ _ _ _);obtain⟨d0,d1,g0,g1⟩:=bt (w:=w') (b:=w.heap.size+1+1+1) (hb.block (w.heap.size+1+1+1) (by rw[fW];omega)) (qI _ _ _ _ _);have HB:Hid (ζ w.heap.size w w'):=(oP w _ _ _ _).trans (hb.mono (by rw[fW];omega));clear hb;go_wp2_with fail;refine zak (by simp[results,results205,go_sem,c0,c1];rfl) rfl ?_;refine⟨rfl,?_⟩
  (repeat (first|with_reducible refine zan ?_ (eZ _) _|with_reducible refine zan ?_ (ko _) _));exact HB.out
theorem O3 (h:List UInt8)(e0:h≠[43])(e1:h≠[45])(e2:h≠[42])(a b:Int×Int)(w:Λ)(hz:b.1=0):θ prog 205 #[.string ⟨⟨h⟩⟩,qV a,qV b] w λe w'=>e=.returned (iZ (cS h a b))∧ζ w.heap.size w w':=by
 have es:cS h a b=.inl 11:=by simp only[cS,zaa e0,zaa e1,zaa e2,zac hz]
 rw[es];clear es;obtain⟨a1,a2⟩:=a;obtain⟨b1,b2⟩:=b;simp only at hz;subst hz;have f0:(h==[43])=false:=by simpa using e0
 have f1:(h==[45])=false:=by simpa using e1
 have f2:(h==[42])=false:=by simpa using e2
 have mixed:prog.follows Φ=true:=by kernel_rfl
 simp only[qV,iZ];go_enter func205,ntmps205;go_wp2_with fail;refine zak (by simp[results,results205,go_sem];rfl) rfl ?_;exact⟨rfl,oP w _ _ _ _⟩
theorem Im (h:List UInt8)(a b:Int×Int)(w:Λ)(ha:qB a)(hb:qB b):θ prog 205 #[.string ⟨⟨h⟩⟩,qV a,qV b] w λe w'=>e=.returned (iZ (cS h a b))∧ζ w.heap.size w w':=by
 by_cases e0:h=[43]
 ·subst e0;exact O2 a b w ha hb
 by_cases e1:h=[45]
 ·subst e1;exact K0 a b w ha hb
 by_cases e2:h=[42]
 ·subst e2;exact K1 a b w ha hb
 by_cases hz:b.1=0
 ·exact O3 h e0 e1 e2 a b w hz
 ·exact Xm h e0 e1 e2 a b w ha hb hz
theorem AE {h:List UInt8}{a b r:Int×Int}(ha:qB a)(hb:qB b)(e:cS h a b=.inr r):qB r:=by
 obtain⟨a1,a2⟩:=a;obtain⟨b1,b2⟩:=b;obtain⟨p1,p2,p3,p4⟩:=ha;obtain⟨q1,q2,q3,q4⟩:=hb;simp only at p1 p2 p3 p4 q1 q2 q3 q4;have m4:1≤a2*b2:=by
  have:=Int.mul_le_mul p3 q3 (by omega) (by omega);omega
 have fin:∀x:Option (Int×Int),(match x with|some r=>(.inr r:Int ⊕ (Int×Int))|none=> .inl 7)=.inr r→x=some r:=λx h=>by
  cases x with
  |none=>cases h
  |some y=>cases h;rfl
 unfold cS at e;split at e
 ·exact uv m4 (fin _ e)
 ·split at e
  ·exact uv m4 (fin _ e)
  ·split at e
   ·exact uv m4 (fin _ e)
   ·split at e
    ·cases e
    ·rename_i hz;have hz':b1≠0:=hz;have hne:a2*b1≠0:=Int.mul_ne_zero (by omega) hz';have hq:=fin _ e;unfold Xj at hq;dsimp only at hq;split at hq
     ·exact uv (by omega) hq
     ·exact uv (by omega) hq
end Go.Proofs.YtlhimdjkkiflhaaGreatDoor
namespace Go.Loop
open Go.Proofs.Tryz
def fc (h:List UInt8):Int×Int→List (Int×Int)→Int ⊕ (Int×Int)
 |made,[]=> .inr made
 |made,n::r=>match cS h made n with|.inl e=> .inl e|.inr x=>fc h x r
def dU (h:List UInt8):List (Int×Int)→Int ⊕ (Int×Int)
 |a::b::r=>fc h a (b::r)
 |l=>fc h (oO h) l
end Go.Loop
namespace Go.Proofs.YtlhimdjkkiflhaaGreatDoor
open Go.Proofs.Tryz
open Go.RowKit Go.Loop
def fe (l:List (Int×Int)):List Ξ:=l.flatMap λq=>[Γ Δ q.1,Γ Δ q.2]
def K2:Int ⊕ (Int×Int)→Ξ
 |.inr r=> .tuple #[.iface 153 (.agg #[Γ Δ r.1,Γ Δ r.2]),Γ Δ 0]
 |.inl e=> .tuple #[.nilIface,Γ Δ e]
theorem nN {w w':Λ}{b o:Nat}{v:Ξ}(h:ζ w.heap.size w w')(hc:w.cell? ⟨b,o,none⟩=some v):w'.cell? ⟨b,o,none⟩=some v:=by
 rw[←hc];unfold Λ.cell?
 rw[h.block b (Λ.block_lt_of_cell? _ _ hc)]
theorem Io (w:Λ)(a:Obj):(w.alloc a).drew.heap[w.heap.size]?=some a:=by
 show(w.heap.push a)[w.heap.size]?=some a;rw[zcz]
def Jt (w:Λ)(m:Nat)(q:Int×Int):Prop:=w.heap[m]?=some (.cells #[Γ Δ q.1,Γ Δ q.2] 255)
theorem Jt.cells {w:Λ}{m:Nat}{q:Int×Int}(h:Jt w m q):w.cell? ⟨m,0,none⟩=some (Γ Δ q.1)∧w.cell? ⟨m,1,none⟩=some (Γ Δ q.2)∧w.frozen? ⟨m,0,none⟩=false∧w.frozen? ⟨m,1,none⟩=false∧m<w.heap.size:=by
 unfold Jt at h;refine⟨by simp[Λ.cell?,h],by simp[Λ.cell?,h],by simp[Λ.frozen?,h],by simp[Λ.frozen?,h],(zaf.1 h).1⟩
theorem Jt.below {w w':Λ}{m:Nat}{q:Int×Int}(h:Jt w m q)(hb:ζ w.heap.size w w'):Jt w' m q:=(hb.block m (zaf.1 h).1).trans h
theorem Jt.store {w:Λ}{m:Nat}{q r:Int×Int}(h:Jt w m q):Jt ((w.setCell ⟨m,0,none⟩ (Γ Δ r.1)).setCell ⟨m,1,none⟩ (Γ Δ r.2)) m r:=by
 unfold Jt at *;simp[Λ.setCell,Array.getElem?_modify,h]
theorem wo {h:List UInt8}{a b:Int×Int}{e:Int}(hs:cS h a b=.inl e):e=7∨e=11:=by
 unfold cS at hs;repeat' split at hs
 all_goals first|(cases hs;done)|(cases hs;exact .inl rfl)|(cases hs;exact .inr rfl)
theorem O4 (h:List UInt8)(l:List (Int×Int))(b o cap:Nat)(w:Λ)(hl:l.length≤1000)(afZ:l.length≤cap)(hq:∀q∈l,qB q)(hc:∀i,(hi:i<l.length)→w.cell? ⟨b,o+i*2,none⟩=some (Γ Δ l[i].1)∧w.cell? ⟨b,o+i*2+1,none⟩=some (Γ Δ l[i].2)):θ prog 180 #[.string ⟨⟨h⟩⟩,.slice (some ⟨b,o,none⟩) l.length cap] w λe w'=>e=.returned (K2 (dU h l))∧ζ w.heap.size w w':=by
 have mixed:prog.follows Φ=true:=by kernel_rfl
 have HS:Hid _:=λw=>O1 h w;have HC:Hid _:=hc;have HQ:Hid _:=hq;clear hc hq;obtain⟨s1,s2,hs⟩:∃s1 s2,oO h=(s1,s2):=⟨_,_,rfl⟩;rw[hs]at HS;simp only[qV]at HS;by_cases h1:1<l.length
 ·go_enter func180,ntmps180;go_wp2_with (go_at_call 204;refine(HS.out _).mono ?_;rintro e w' ⟨rfl,hb⟩;have HB:Hid _:=hb;clear hb);have r0:w'.cell? ⟨b,o,none⟩=some (Γ Δ l[0].1):=nN HB.out (by have:=(HC.out 0 (by omega)).1;simpa using this);have r1:w'.cell? ⟨b,o+1,none⟩=some (Γ Δ l[0].2):=nN HB.out (by have:=(HC.out 0 (by omega)).2;simpa using this);have C1:b<w'.heap.size:=Λ.block_lt_of_cell? _ _ r0;have hc1:¬cap=1:=by omega
  go_region;go_wp2_with fail;rw[show decide (1<(l.length:Int))=true by simp;omega];have HG:Hid (fc h l[0] ((l.drop 1).drop 0)=dU h l):=by
   cases l with
   |nil=>simp at h1
   |cons a r=>
    cases r with
    |nil=>simp at h1
    |cons c r=>rfl
  have HA:Hid (qB l[0]):=HQ.out _ (zbd _);have HM:Hid (Jt (w'.alloc (.cells #[Γ Δ l[0].1,Γ Δ l[0].2] 255)).drew w'.heap.size l[0]):=Io w' _;have HB0:Hid (ζ w.heap.size w (w'.alloc (.cells #[Γ Δ l[0].1,Γ Δ l[0].2] 255)).drew):=(HB.out.alloc HB.out.size _).drew;go_loopw [23] (λi wr=>∃(k:Nat) (acc:Int×Int),k≤l.length-1∧i=Γ Δ k∧Hid (fc h acc ((l.drop 1).drop k)=dU h l)∧Hid (qB acc)∧Hid (Jt wr w'.heap.size acc)∧Hid (ζ w.heap.size w wr)) (λi _=>l.length-1-(intOf i).toNat)
  case atStart=>exact⟨0,l[0],zaw _,rfl,HG.out,HA.out,HM.out,HB0.out⟩
  case round=>
   obtain⟨k,acc,hk,rfl,hF,hA,hM,rz⟩:=hrel;obtain⟨c0,c1,f0,f1,SR⟩:=hM.out.cells;by_cases hlt:k<l.length-1
   ·obtain⟨x,hx⟩:∃x,x=l[k+1]'(by omega):=⟨_,rfl⟩;have hc:=HC.out (k+1) (by omega);have r0:wr.cell? ⟨b,o+2+k*2,none⟩=some (Γ Δ x.1):=nN rz.out (by rw[hx];have:=hc.1;rwa[show o+(k+1)*2=o+2+k*2 by omega]at this);have r1:wr.cell? ⟨b,o+2+k*2+1,none⟩=some (Γ Δ x.2):=nN rz.out (by rw[hx];have:=hc.2;rwa[show o+(k+1)*2+1=o+2+k*2+1 by omega]at this);have hxq:qB x:=by rw[hx];exact HQ.out _ (zbd _)
    have xf:(l.drop 1).drop k=x::(l.drop 1).drop (k+1):=by
     rw[hx,zbo,zbo,zbU (by omega)]
     congr 1
     all_goals first|rfl|(congr 1;omega)
    have SS:Hid _:=λw=>Im h acc x w hA.out hxq;have HFo:Hid _:=hF.out;rw[xf]at HFo;have SU:Hid ((match cS h acc x with|.inl e=> .inl e|.inr y=>fc h y ((l.drop 1).drop (k+1)))=dU h l):=HFo.out;have kV:Hid (∀y,cS h acc x=.inr y→qB y):=λy hy=>AE hA.out hxq hy;have ux:Hid (∀e,cS h acc x=.inl e→e=7∨e=11):=λe he=>wo he;clear HFo hF xf hx hxq hc;obtain⟨a1,a2⟩:=acc;obtain⟨x1,x2⟩:=x;simp only[qV]at SS c0 c1 r0 r1;generalize cS h (a1,a2) (x1,x2)=sr at *;cases sr with
    |inl er=>
     have he:=ux.out er rfl;have hne:(er != 0)=true:=by rcases he with rfl|rfl<;>rfl
     simp only[iZ]at SS;go_wp2_with fail;refine(SS.out _).mono ?_;rintro e w1 ⟨rfl,hb1⟩;have je:Hid (ζ w.heap.size w w1):=(rz.out.alloc (by have:=rz.out.size;omega) _).trans (hb1.mono (by simp;have:=rz.out.size;omega));clear hb1;go_wp2_with fail;have ht:dU h l=.inl er:=SU.out.symm;rw[ht];go_ret2;exact⟨rfl,je.out.alloc je.out.size _⟩
    |inr y=>
     obtain⟨y1,y2⟩:=y;simp only[iZ,qV]at SS;go_wp2_with fail;refine(SS.out _).mono ?_;rintro e w1 ⟨rfl,hb1⟩;have je:Hid (ζ w.heap.size w w1):=(rz.out.alloc (by have:=rz.out.size;omega) _).trans (hb1.mono (by simp;have:=rz.out.size;omega));have Jp:Hid (Jt w1 w'.heap.size (a1,a2)):=(hM.out.below ((zad _ wr).alloc (zab _) _)).below hb1;clear hb1;obtain⟨n0,n1,p0,p1,Xn⟩:=Jp.out.cells;simp only at n0 n1;go_wp2_with fail;go_roundw
     case rel=>
      refine⟨k+1,(y1,y2),by omega,by go_num,SU.out,kV.out _ rfl,?_,?_⟩
      ·exact(Jp.out.store (r:=(y1,y2))).below ((zad _ _).alloc (zab _) _)
      ·refine zaC ?_ (by have:=je.out.size;simp;omega) _;refine zan ?_ HB.out.size _;refine zan ?_ HB.out.size _;exact je.out
     case measure=>simp[intOf];omega
   ·have hkm:(k:Int)=((l.length-1:Nat):Int):=by omega
    have hend:dU h l=.inr acc:=by
     rw[←hF.out,List.drop_eq_nil_of_le (by simp;omega)];rfl
    rw[hend];obtain⟨a1,a2⟩:=acc;simp only at c0 c1;go_wp2_with fail;go_ret2;exact⟨by first|rfl|(rw[hend];rfl),by first|exact rz.out|exact rz.out.drew|exact zaS rz.out _⟩
 ·go_enter func180,ntmps180;go_wp2_with (go_at_call 204;refine(HS.out _).mono ?_;rintro e w' ⟨rfl,hb⟩;have HB:Hid _:=hb;clear hb);rw[show decide (1<(l.length:Int))=false by simp;omega];have HG:Hid (fc h (s1,s2) ((l.drop 0).drop 0)=dU h l):=by
   rw[←hs];cases l with
   |nil=>rfl
   |cons a r=>
    cases r with
    |nil=>rfl
    |cons c r=>simp at h1
  have HA:Hid (qB (s1,s2)):=by
   rw[←hs];show qB (oO h);unfold oO qB;split<;>simp
  have HM:Hid (Jt (w'.alloc (.cells #[Γ Δ s1,Γ Δ s2] 255)) w'.heap.size (s1,s2)):=Io w' _;have HB0:Hid (ζ w.heap.size w (w'.alloc (.cells #[Γ Δ s1,Γ Δ s2] 255))):=HB.out.alloc HB.out.size _;go_loopw [23] (λi wr=>∃(k:Nat) (acc:Int×Int),k≤l.length∧i=Γ Δ k∧Hid (fc h acc ((l.drop 0).drop k)=dU h l)∧Hid (qB acc)∧Hid (Jt wr w'.heap.size acc)∧Hid (ζ w.heap.size w wr)) (λi _=>l.length-(intOf i).toNat)
  case atStart=>exact⟨0,(s1,s2),zaw _,rfl,HG.out,HA.out,HM.out,HB0.out⟩
  case round=>
   obtain⟨k,acc,hk,rfl,hF,hA,hM,rz⟩:=hrel;obtain⟨c0,c1,f0,f1,SR⟩:=hM.out.cells;by_cases hlt:k<l.length
   ·obtain⟨x,hx⟩:∃x,x=l[k+0]'(by omega):=⟨_,rfl⟩;have hc:=HC.out (k+0) (by omega);have r0:wr.cell? ⟨b,o+k*2,none⟩=some (Γ Δ x.1):=nN rz.out (by rw[hx];have:=hc.1;rwa[show o+(k+0)*2=o+k*2 by omega]at this);have r1:wr.cell? ⟨b,o+k*2+1,none⟩=some (Γ Δ x.2):=nN rz.out (by rw[hx];have:=hc.2;rwa[show o+(k+0)*2+1=o+k*2+1 by omega]at this);have hxq:qB x:=by rw[hx];exact HQ.out _ (zbd _)
    have xf:(l.drop 0).drop k=x::(l.drop 0).drop (k+1):=by
     rw[hx,zbo,zbo,zbU (by omega)]
     congr 1
     all_goals first|rfl|(congr 1;omega)
    have SS:Hid _:=λw=>Im h acc x w hA.out hxq;have HFo:Hid _:=hF.out;rw[xf]at HFo;have SU:Hid ((match cS h acc x with|.inl e=> .inl e|.inr y=>fc h y ((l.drop 0).drop (k+1)))=dU h l):=HFo.out;have kV:Hid (∀y,cS h acc x=.inr y→qB y):=λy hy=>AE hA.out hxq hy;have ux:Hid (∀e,cS h acc x=.inl e→e=7∨e=11):=λe he=>wo he;clear HFo hF xf hx hxq hc;obtain⟨a1,a2⟩:=acc;obtain⟨x1,x2⟩:=x;simp only[qV]at SS c0 c1 r0 r1;generalize cS h (a1,a2) (x1,x2)=sr at *;cases sr with
    |inl er=>
     have he:=ux.out er rfl;have hne:(er != 0)=true:=by rcases he with rfl|rfl<;>rfl
     simp only[iZ]at SS;go_wp2_with fail;refine(SS.out _).mono ?_;rintro e w1 ⟨rfl,hb1⟩;have je:Hid (ζ w.heap.size w w1):=(rz.out.alloc (by have:=rz.out.size;omega) _).trans (hb1.mono (by simp;have:=rz.out.size;omega));clear hb1;go_wp2_with fail;have ht:dU h l=.inl er:=SU.out.symm;rw[ht];go_ret2;exact⟨rfl,je.out.alloc je.out.size _⟩
    |inr y=>
     obtain⟨y1,y2⟩:=y;simp only[iZ,qV]at SS;go_wp2_with fail;refine(SS.out _).mono ?_;rintro e w1 ⟨rfl,hb1⟩;have je:Hid (ζ w.heap.size w w1):=(rz.out.alloc (by have:=rz.out.size;omega) _).trans (hb1.mono (by simp;have:=rz.out.size;omega));have Jp:Hid (Jt w1 w'.heap.size (a1,a2)):=(hM.out.below ((zad _ wr).alloc (zab _) _)).below hb1;clear hb1;obtain⟨n0,n1,p0,p1,Xn⟩:=Jp.out.cells;simp only at n0 n1;go_wp2_with fail;go_roundw
     case rel=>
      refine⟨k+1,(y1,y2),by omega,by go_num,SU.out,kV.out _ rfl,?_,?_⟩
      ·exact(Jp.out.store (r:=(y1,y2))).below ((zad _ _).alloc (zab _) _)
      ·refine zaC ?_ (by have:=je.out.size;simp;omega) _;refine zan ?_ HB.out.size _;refine zan ?_ HB.out.size _;exact je.out
     case measure=>simp[intOf];omega
   ·have hkm:(k:Int)=((l.length:Nat):Int):=by omega
    have hend:dU h l=.inr acc:=by
     rw[←hF.out,List.drop_eq_nil_of_le (by simp;omega)];rfl
    rw[hend];obtain⟨a1,a2⟩:=acc;simp only at c0 c1;go_wp2_with fail;go_ret2;exact⟨by first|rfl|(rw[hend];rfl),by first|exact rz.out|exact rz.out.drew|exact zaS rz.out _⟩
end Go.Proofs.YtlhimdjkkiflhaaGreatDoor
namespace Go.Loop
open Go.Proofs.Tryz
def et (h:List UInt8)(a b:Int×Int):Bool:=if h=[60]then oM a b else decide (a=b)
end Go.Loop
namespace Go.Proofs.YtlhimdjkkiflhaaGreatDoor
open Go.Proofs.Tryz
open Go.RowKit Go.Loop
def SV (b:Bool):Ξ:= .iface 155 (.agg #[Γ Δ (if b then 1 else 0)])
theorem ES (h:List UInt8)(a b:Int×Int)(w:Λ)(ha:qB a)(hb:qB b):θ prog 179 #[.string ⟨⟨h⟩⟩,qV a,qV b] w λe w'=>e=.returned (SV (et h a b))∧ζ w.heap.size w w':=by
 have mixed:prog.follows Φ=true:=by kernel_rfl
 have HL:Hid _:=λw=>OZ a b w ha hb;obtain⟨a1,a2⟩:=a;obtain⟨b1,b2⟩:=b;by_cases c1:a1=b1
 ·subst c1;by_cases c2:a2=b2
  ·subst c2;by_cases e0:h=[60]
   ·subst e0;have ec:et [60] (a1,a2) (a1,a2)=oM (a1,a2) (a1,a2):=rfl;rw[ec];clear ec;simp only[qV]at HL ⊢;generalize oM (a1,a2) (a1,a2)=r at *;cases r;all_goals
     go_enter func179,ntmps179;go_wp2_with (go_at_call 203;refine(HL.out _).mono ?_;rintro e w' ⟨rfl,hb⟩;have HB:Hid _:=hb;clear hb);go_ret;exact⟨rfl,(((zad _ w).alloc (zab _) _).alloc (by simp) _).trans (HB.out.mono (by simp;omega))⟩
   ·have f0:(h==[60])=false:=by simpa using e0
    have ec:et h (a1,a2) (a1,a2)=true:=by simp[et,e0]
    rw[ec];clear HL ec;simp only[qV];go_enter func179,ntmps179;go_wp2_with fail;go_ret;exact⟨rfl,((zad _ w).alloc (zab _) _).alloc (by simp) _⟩
  ·have n2:(a2==b2)=false:=by simpa using c2
   by_cases e0:h=[60]
   ·subst e0;have ec:et [60] (a1,a2) (a1,b2)=oM (a1,a2) (a1,b2):=rfl;rw[ec];clear ec;simp only[qV]at HL ⊢;generalize oM (a1,a2) (a1,b2)=r at *;cases r;all_goals
     go_enter func179,ntmps179;go_wp2_with (go_at_call 203;refine(HL.out _).mono ?_;rintro e w' ⟨rfl,hb⟩;have HB:Hid _:=hb;clear hb);go_ret;exact⟨rfl,(((zad _ w).alloc (zab _) _).alloc (by simp) _).trans (HB.out.mono (by simp;omega))⟩
   ·have f0:(h==[60])=false:=by simpa using e0
    have ec:et h (a1,a2) (a1,b2)=false:=by simp[et,e0,c2]
    rw[ec];clear HL ec;simp only[qV];go_enter func179,ntmps179;go_wp2_with fail;go_ret;exact⟨rfl,((zad _ w).alloc (zab _) _).alloc (by simp) _⟩
 ·have n1:(a1==b1)=false:=by simpa using c1
  by_cases e0:h=[60]
  ·subst e0;have ec:et [60] (a1,a2) (b1,b2)=oM (a1,a2) (b1,b2):=rfl;rw[ec];clear ec;simp only[qV]at HL ⊢;generalize oM (a1,a2) (b1,b2)=r at *;cases r;all_goals
    go_enter func179,ntmps179;go_wp2_with (go_at_call 203;refine(HL.out _).mono ?_;rintro e w' ⟨rfl,hb⟩;have HB:Hid _:=hb;clear hb);go_ret;exact⟨rfl,(((zad _ w).alloc (zab _) _).alloc (by simp) _).trans (HB.out.mono (by simp;omega))⟩
  ·have f0:(h==[60])=false:=by simpa using e0
   have ec:et h (a1,a2) (b1,b2)=false:=by simp[et,e0,c1]
   rw[ec];clear HL ec;simp only[qV];go_enter func179,ntmps179;go_wp2_with fail;go_ret;exact⟨rfl,((zad _ w).alloc (zab _) _).alloc (by simp) _⟩
end Go.Proofs.YtlhimdjkkiflhaaGreatDoor
namespace Go.Loop
def mo (root:Dt):Nat→Dt→Option (Option (List Dt))
 |0,_=>none
 |n+1,d=>match bN root 200000 d with
  |.pair _ a b=>(mo root n b).map λo=>o.map (a::·)
  |.nil=>some (some [])
  |_=>some none
def qJ (root a b:Dt):Option (Option (List UInt8×List Dt)):=
 match bN root 200000 a with
 |.sym h=>(mo root 900 b).map λo=>o.map λl=>(h,l)
 |_=>some none
def mK (f:Dt→Option (Int ⊕ Dt)):List Dt→List Dt→Option (Int ⊕ List Dt)
 |acc,[]=>some (.inr acc)
 |acc,d::l=>match f d with
  |none=>none
  |some (.inl e)=>some (.inl e)
  |some (.inr x)=>mK f (acc++[x]) l
def rB:List (Int×Int)→List Dt→Option (List (Int×Int))
 |acc,[]=>some acc
 |acc,.num n d::r=>rB (acc++[(n,d)]) r
 |_,_::_=>none
def dV (f:Dt→Option (Int ⊕ Dt))(held:List Dt):Option (Int ⊕ List (Int×Int)):=
 match mK f [] held with
 |none=>none
 |some (.inl e)=>some (.inl e)
 |some (.inr l)=>some (match rB [] l with|none=> .inl 10|some q=> .inr q)
def nO (h:List UInt8)(l:List (Int×Int)):Int ⊕ Dt:=
 if h=[61]∨h=[60]then .inr (.cU (if et h (l.getD 0 (0,1)) (l.getD 1 (0,1))then 1 else 0))
 else match dU h l with|.inl e=> .inl e|.inr q=> .inr (.num q.1 q.2)
def mq (f:Dt→Option (Int ⊕ Dt))(c x y:Dt):Option (Int ⊕ Dt):=
 match f c with
 |none=>none
 |some (.inl e)=>some (.inl e)
 |some (.inr r)=>if r=.cU 0 then f y else f x
def lQ (root:Dt)(f:Dt→Option (Int ⊕ Dt))(a b:Dt):Option (Int ⊕ Dt):=
 match qJ root a b with
 |none=>none
 |some none=>some (.inl 10)
 |some (some (h,held))=>
  if fj h held.length=false then some (.inl 10)
  else if h=bY then some (.inr (bN root 200000 (held.getD 0 .nil)))
  else if h=pB then mq f (held.getD 0 .nil) (held.getD 1 .nil) (held.getD 2 .nil)
  else match dV f held with
   |none=>none
   |some (.inl e)=>some (.inl e)
   |some (.inr q)=>some (nO h q)
def gL (root:Dt)(f:Dt→Option (Int ⊕ Dt))(d:Dt):Option (Int ⊕ Dt):=
 match bN root 200000 d with
 |.pair _ a b=>lQ root f a b
 |.num a b=>some (.inr (.num a b))
 |.cU a=>some (.inr (.cU a))
 |.sQ a=>some (.inr (.sQ a))
 |.txt i s=>some (.inr (.txt i s))
 |_=>some (.inl 10)
def nP (root:Dt):Nat→Dt→Option (Int ⊕ Dt)
 |0,_=>none
 |n+1,d=>gL root (λx=>nP root n x) d
set_option maxRecDepth 1000000
def aH:Dt→List Dt
 |.pair i a b=> .pair i a b::(aH a++aH b)
 |.vec i l=> .vec i l::aH l
 |.cD a l=> .cD a l::(aH a++aH l)
 |.put n d=> .put n d::aH d
 |d=>[d]
theorem sub_self (d:Dt):d∈aH d:=by cases d<;>simp[aH]
theorem dz {d e:Dt}(h:d∈aH e):∀{r:Dt},e∈aH r→d∈aH r
 |.pair i a b,hr=>by
  simp only[aH,zav,zbm]at hr ⊢;rcases hr with rfl|hr|hr
  ·simpa[aH]using h
  ·exact .inr (.inl (dz h hr))
  ·exact .inr (.inr (dz h hr))
 |.cD a b,hr=>by
  simp only[aH,zav,zbm]at hr ⊢;rcases hr with rfl|hr|hr
  ·simpa[aH]using h
  ·exact .inr (.inl (dz h hr))
  ·exact .inr (.inr (dz h hr))
 |.vec i l,hr=>by
  simp only[aH,zav]at hr ⊢;rcases hr with rfl|hr
  ·simpa[aH]using h
  ·exact .inr (dz h hr)
 |.put i l,hr=>by
  simp only[aH,zav]at hr ⊢;rcases hr with rfl|hr
  ·simpa[aH]using h
  ·exact .inr (dz h hr)
 |.nil,hr=>by simp[aH]at hr;subst hr;exact h
 |.sym _,hr=>by simp[aH]at hr;subst hr;exact h
 |.num _ _,hr=>by simp[aH]at hr;subst hr;exact h
 |.cU _,hr=>by simp[aH]at hr;subst hr;exact h
 |.sQ _,hr=>by simp[aH]at hr;subst hr;exact h
 |.txt _ _,hr=>by simp[aH]at hr;subst hr;exact h
 |.gJ,hr=>by simp[aH]at hr;subst hr;exact h
 |.ask _,hr=>by simp[aH]at hr;subst hr;exact h
theorem oQ {m:Int}:∀{r d:Dt},bP m r=some d→d∈aH r
 |.put n x,d,hl=>by
  unfold bP at hl;simp only[aH,zav];split at hl
  ·cases hl;exact .inr (sub_self _)
  ·exact .inr (oQ hl)
 |.pair _ a b,d,hl=>by
  unfold bP at hl;simp only[aH,zav,zbm];cases hq:bP m a with
  |some x=>rw[hq]at hl;cases hl;exact .inr (.inl (oQ hq))
  |none=>rw[hq]at hl;exact .inr (.inr (oQ hl))
 |.vec _ l,d,hl=>by
  unfold bP at hl;simp only[aH,zav];exact .inr (oQ hl)
 |.cD a l,d,hl=>by
  unfold bP at hl;simp only[aH,zav,zbm];cases hq:bP m a with
  |some x=>rw[hq]at hl;cases hl;exact .inr (.inl (oQ hq))
  |none=>rw[hq]at hl;exact .inr (.inr (oQ hl))
 |.nil,d,hl=>by simp[bP]at hl
 |.sym _,d,hl=>by simp[bP]at hl
 |.num _ _,d,hl=>by simp[bP]at hl
 |.cU _,d,hl=>by simp[bP]at hl
 |.sQ _,d,hl=>by simp[bP]at hl
 |.txt _ _,d,hl=>by simp[bP]at hl
 |.gJ,d,hl=>by simp[bP]at hl
 |.ask _,d,hl=>by simp[bP]at hl
theorem gC {root d:Dt}:∀{r:Dt},aW root r=true→d∈aH r→aW root d=true
 |.pair i a b,h,hr=>by
  have h':=h;simp only[aW,zaj]at h';simp only[aH,zav,zbm]at hr;rcases hr with rfl|hr|hr
  ·exact h
  ·exact gC h'.1 hr
  ·exact gC h'.2 hr
 |.cD a b,h,hr=>by
  have h':=h;simp only[aW,zaj]at h';simp only[aH,zav,zbm]at hr;rcases hr with rfl|hr|hr
  ·exact h
  ·exact gC h'.1 hr
  ·exact gC h'.2 hr
 |.vec i l,h,hr=>by
  have h':=h;simp only[aW,zaj]at h';simp only[aH,zav]at hr;rcases hr with rfl|hr
  ·exact h
  ·exact gC h'.2 hr
 |.put i l,h,hr=>by
  have h':=h;simp only[aW,zaj]at h';simp only[aH,zav]at hr;rcases hr with rfl|hr
  ·exact h
  ·exact gC h'.2 hr
 |.nil,h,hr=>by simp[aH]at hr;subst hr;exact h
 |.sym _,h,hr=>by simp[aH]at hr;subst hr;exact h
 |.num _ _,h,hr=>by simp[aH]at hr;subst hr;exact h
 |.cU _,h,hr=>by simp[aH]at hr;subst hr;exact h
 |.sQ _,h,hr=>by simp[aH]at hr;subst hr;exact h
 |.txt _ _,h,hr=>by simp[aH]at hr;subst hr;exact h
 |.gJ,h,hr=>by simp[aH]at hr;subst hr;exact h
 |.ask _,h,hr=>by simp[aH]at hr;subst hr;exact h
theorem jI {root:Dt}(hr:aW root root=true):∀(f:Nat) (d:Dt),d∈aH root→bN root f d∈aH root
 |0,d,h=>h
 |f+1,.put n x,h=>jI hr f x (dz (by simp[aH,sub_self]) h)
 |f+1,.ask m,h=>by
  have hg:=gC hr h;simp only[aW,zaj]at hg;obtain⟨d1,Fo⟩:=zcy.1 hg.1;show bN root f ((bP m root).getD .nil)∈aH root;rw[Fo];exact jI hr f d1 (oQ Fo)
 |f+1,.nil,h=>h
 |f+1,.sym _,h=>h
 |f+1,.num _ _,h=>h
 |f+1,.cU _,h=>h
 |f+1,.sQ _,h=>h
 |f+1,.txt _ _,h=>h
 |f+1,.pair _ _ _,h=>h
 |f+1,.vec _ _,h=>h
 |f+1,.gJ,h=>h
 |f+1,.cD _ _,h=>h
def ja (root:Dt):Bool:=(aH root).all λd=>match d with
 |.pair i a b=>(aH root).all λe=>match e with
  |.pair j a' b'=>i != j||(decide (a=a')&&decide (b=b'))
  |_=>true
 |.num n d=>decide (-1000000≤n∧n≤1000000∧1≤d∧d≤1000000)
 |_=>true
theorem O5 {root:Dt}(h:ja root=true){i:Nat}{a b a' b':Dt}(h1: .pair i a b∈aH root)(h2: .pair i a' b'∈aH root):a=a'∧b=b':=by
 have h3:=zaI.1 h _ h1;have h4:=zaI.1 h3 _ h2;simpa using h4
theorem Ip {root:Dt}(hr:aW root root=true):∀(n:Nat) (d:Dt) (l:List Dt),d∈aH root→mo root n d=some (some l)→l.length<n∧∀x∈l,x∈aH root
 |0,d,l,_,h=>by simp[mo]at h
 |n+1,d,l,hd,h=>by
  have hm:=jI hr 200000 d hd;unfold mo at h;split at h
  ·rename_i i a b e;rw[e]at hm;obtain⟨o,ho,h'⟩:=zaz.1 h;obtain⟨r,rfl,rfl⟩:=zaz.1 h';have ih:=Ip hr n b r (dz (by simp[aH,sub_self]) hm) ho;refine⟨by simp;omega,λx hx=>?_⟩;rcases zav.1 hx with rfl|hx
   ·exact dz (by simp[aH,sub_self]) hm
   ·exact ih.2 x hx
  ·cases h;simp
  ·cases h
end Go.Loop
namespace Go.Proofs.YtlhimdjkkiflhaaGreatDoor
open Go.Proofs.Tryz
open Go.RowKit Go.Loop
theorem lg:eW prog 150=true:=by kernel_rfl
theorem uy:(prog.info? 150).bind (·.zero)=some (.pointer none):=by kernel_rfl
theorem Iq:eW prog 272=true:=by kernel_rfl
theorem Xo:(prog.info? 272).bind (·.zero)=some (.agg #[]):=by kernel_rfl
theorem Ir:eW prog 168=true:=by kernel_rfl
theorem Xp:(prog.info? 168).bind (·.zero)=some (.agg #[.string ⟨#[]⟩]):=by kernel_rfl
def sK:Dt→φ
 |.nil=>272
 |.sym _=>168
 |.num _ _=>153
 |.cU _=>155
 |.sQ _=>157
 |.txt _ _=>158
 |.pair _ _ _=>150
 |.vec _ _=>163
 |_=>0
section
variable {lo K:Nat}{L:List Int}{w0:Λ}{E:Env}
theorem jb {d:Dt}{v:Ξ}(hh:d.hd=true)(h:bf lo K L w0 E d v):∃y,v=.iface (sK d) y:=by
 cases d<;>first|(simp[Dt.hd]at hh;done)|(unfold bf at h;first|exact⟨_,h⟩|exact⟨_,h.2.2.1⟩)
theorem bO:∀{d:Dt} {v:Ξ},bf lo K L w0 E d v→∃t y,v=.iface t y
 |.put n x,v,h=>by unfold bf at h;exact bO h.2.2.2
 |.ask n,v,h=>by unfold bf at h;exact⟨_,_,h.2⟩
 |.gJ,v,h=>by unfold bf at h;exact h.elim
 |.cD _ _,v,h=>by unfold bf at h;exact h.elim
 |.nil,v,h=>⟨_,_,(jb rfl h).choose_spec⟩
 |.sym _,v,h=>⟨_,_,(jb rfl h).choose_spec⟩
 |.num _ _,v,h=>⟨_,_,(jb rfl h).choose_spec⟩
 |.cU _,v,h=>⟨_,_,(jb rfl h).choose_spec⟩
 |.sQ _,v,h=>⟨_,_,(jb rfl h).choose_spec⟩
 |.txt _ _,v,h=>⟨_,_,(jb rfl h).choose_spec⟩
 |.pair _ _ _,v,h=>⟨_,_,(jb rfl h).choose_spec⟩
 |.vec _ _,v,h=>⟨_,_,(jb rfl h).choose_spec⟩
end
structure Xq (w0:Λ) (lo K:Nat) (L:List Int) (E:Env) (root:Dt):Prop where
 dat:∃rv,bf lo K L w0 E root rv
 good:aW root root=true
 inj:∀i j,i<K→j<K→E.α i=E.α j→i=j
 pairs:ja root=true
section
variable {lo K:Nat}{L:List Int}{w0:Λ}{E:Env}{root:Dt}
theorem Xq.meant (hG:Xq w0 lo K L E root){w:Λ}(dP:ζ w0.heap.size w0 w){d:Dt}{v:Ξ}(hd:bf lo K L w0 E d v)(hs:d∈aH root):θ prog 78 #[v] w (λe w'=>∃v',e=.returned v'∧w'=w∧bf lo K L w0 E (bN root 200000 d) v')∧(bN root 200000 d).hd=true∧bN root 200000 d∈aH root:=by
 obtain⟨rv,nE⟩:=hG.dat
 have hg:=gC hG.good hs;exact⟨CQ dP nE (fO hG.good) 200000 d v hd (fO hg) (Ac hd hg),Ac hd hg,jI hG.good 200000 d hs⟩
def wu (lo K:Nat)(L:List Int)(w0:Λ)(E:Env)(ds:List Dt)(vs:List Ξ):Prop:=ds.length=vs.length∧∀(j:Nat) d x,ds[j]?=some d→vs[j]?=some x→bf lo K L w0 E d x
theorem wu.snoc {ds:List Dt}{vs:List Ξ}(h:wu lo K L w0 E ds vs){d:Dt}{v:Ξ}(hd:bf lo K L w0 E d v):wu lo K L w0 E (ds++[d]) (vs++[v]):=by
 refine⟨by simp[h.1],λj d' x h1 h2=>?_⟩;have hl:=h.1;rcases zay j ds.length with hj|hj
 ·rw[zbF hj]at h1;rw[zbF (by omega)]at h2;exact h.2 j d' x h1 h2
 ·have e0:j=ds.length:=by
   have:=(zbV.1 h1).1;simp at this;omega
  subst e0;rw[zbw (zab _)]at h1;rw[zbw (by omega)]at h2;simp at h1;simp[hl]at h2;subst h1 h2;exact hd
def O6 (base lo K:Nat)(L:List Int)(w0:Λ)(E:Env):Option (List UInt8×List Dt)→Ending→Λ→Prop
 |none,e,_=>e=.returned (.tuple #[.string ⟨#[]⟩,.slice none 0 0,.bool false])
 |some (h,held),e,w'=>∃sl vs,e=.returned (.tuple #[.string ⟨⟨h⟩⟩,sl,.bool true])∧w'.ownsRow base 58 1 sl vs.length vs∧wu lo K L w0 E held vs
theorem O7 (hG:Xq w0 lo K L E root)(w:Λ)(dP:ζ w0.heap.size w0 w)(i:Nat)(a b:Dt)(hs: .pair i a b∈aH root)(va vb:Ξ)(hblk:w0.heap[E.α i]?=some (.cells #[va,vb] 161))(Ox:bf lo K L w0 E a va)(U7:bf lo K L w0 E b vb)(r:Option (List UInt8×List Dt))(hr:qJ root a b=some r):θ prog 175 #[aq (E.α i)] w λe w'=>O6 w.heap.size lo K L w0 E r e w'∧ζ w.heap.size w w':=by
 have mixed:prog.follows Φ=true:=by kernel_rfl
 have C1:=(dP.block _ (zaf.1 hblk).1).trans hblk;have c0:w.cell? ⟨E.α i,0,none⟩=some va:=by simp[Λ.cell?,C1]
 have c1:w.cell? ⟨E.α i,1,none⟩=some vb:=by simp[Λ.cell?,C1]
 have Mw:E.α i<w.heap.size:=(zaf.1 C1).1;have hne:¬E.α i=w.heap.size:=by omega
 obtain⟨hm,CR,SR⟩:=hG.meant dP Ox (dz (by simp[aH,sub_self]) hs);have HM:Hid _:=hm;have HG:Hid _:=hG;have HL:Hid _:=dP;have HDB:Hid (b∈aH root∧bf lo K L w0 E b vb):=⟨dz (by simp[aH,sub_self]) hs,U7⟩;clear hm hG dP U7 hs hblk C1 Ox;unfold qJ at hr;by_cases O8:∃h,bN root 200000 a=.sym h
 ·obtain⟨h,hsy⟩:=O8;rw[hsy]at hr HM;obtain⟨o,ho,rfl⟩:=zaz.1 hr;have HO:Hid _:=ho;clear hsy hr ho;unfold aq;go_enter func175,ntmps175;go_wp2_with fail;refine zae HM.out ?_;rintro e w1 ⟨v,rfl,rfl,hv⟩;unfold bf at hv;subst hv;have Fp:(Ω (.iface 168 (.agg #[.string ⟨⟨h⟩⟩])) 58 168 true).run prog w1=_:=bA w1 Ir;go_wp2_with fail;go_loopg [7,8] 900 (λm sv rv wr=>∃(d:Dt) (ds:List Dt) (vs:List Ξ),ds.length+m≤900∧Hid (d∈aH root∧bf lo K L w0 E d rv)∧Hid ((mo root m d).map (λo=>o.map (ds++·))=some o)∧Hid (ζ w1.heap.size w1 wr)∧Hid (wr.heap[w1.heap.size]?=some (.cells #[.string ⟨⟨h⟩⟩] 168))∧Hid (wr.ownsRow (w1.heap.size+1) 58 1 sv vs.length vs)∧Hid (wu lo K L w0 E ds vs))
  case atStart=>
   refine⟨b,[],[],by simp,HDB,?_,(zad _ w1).alloc (zab _) _,zas w1 _,zbO _ _ _ _,⟨rfl,λj d x h1 h2=>by simp at h1⟩⟩;show _=_;rw[HO.out];cases o<;>simp
  case round=>
   obtain⟨d,ds,vs,hlen,HD,HE,HB,HS,HW,HR⟩:=hrel;obtain⟨gm,rfl⟩:∃gm,gk=gm+1:=by
    cases gk with
    |zero=>have:=HE.out;simp[mo]at this
    |succ gm=>exact⟨gm,rfl⟩
   obtain⟨hm,acW,Xn⟩:=HG.out.meant (HL.out.trans (HB.out.mono HL.out.size)) HD.out.2 HD.out.1;have Jp:Hid _:=hm;have HHD:Hid _:=acW;have HMS:Hid _:=Xn;have O9:=HR.out.1;have U3:Hid _:=HE.out;simp only[mo]at U3;have acX:Hid (ζ w0.heap.size w0 wr):=HL.out.trans (HB.out.mono HL.out.size);clear hm HE acW Xn HM;obtain⟨a1,k1,rfl⟩:=bq HW.out;have g0:wr.cell? ⟨w1.heap.size,0,none⟩=some (.string ⟨⟨h⟩⟩):=by have:=HS.out;simp[Λ.cell?,this]
   generalize PQ:bN root 200000 d=mt at Jp HHD HMS U3;by_cases qK:∃j x y,mt=.pair j x y
   ·obtain⟨j,x,y,rfl⟩:=qK;go_wp2_with fail;refine zae Jp.out ?_;rintro e w2 ⟨v,rfl,rfl,hv⟩;unfold bf at hv;obtain⟨hj1,Vf,rfl,vx,vy,hcell,Iu,hdy⟩:=hv;have HDX:Hid _:=Iu;have HDY:Hid _:=hdy;have HCE:Hid _:=hcell;have hcw:=(acX.out.block _ (zaf.1 hcell).1).trans hcell;have d0:w2.cell? ⟨E.α j,0,none⟩=some vx:=by simp[Λ.cell?,hcw]
    have d1:w2.cell? ⟨E.α j,1,none⟩=some vy:=by simp[Λ.cell?,hcw]
    have tC:E.α j<w2.heap.size:=(zaf.1 hcw).1;have ae1:E.α j<w0.heap.size:=(zaf.1 hcell).1;have hjn:¬E.α j=w2.heap.size:=by omega
    have Fp:(Ω (.iface 150 (.pointer (some ⟨E.α j,0,none⟩))) 58 150 true).run prog w2=_:=bA w2 lg;obtain⟨tx,yx,rfl⟩:=bO Iu;obtain⟨i0,hi,hz0,hz1,hz2⟩:=info_parts rb;have G6:∀k,(Ξ.slice a1 vs.length k1).ownBlock=some k→w1.heap.size+1≤k∧k<w2.heap.size:=zcx HW.out;have RN:w0.heap.size≤w1.heap.size:=HL.out.size;have Zz:w1.heap.size+1≤w2.heap.size:=by have:=(zaf.1 HS.out).1;omega
    clear Iu hdy hcell Jp PQ;unfold aq at *;go_wp2_with (at_builtin;refine fH rfl _ _ 162 rfl (w1.heap.size+1) 58 i0 .nilIface 16 underlying162 hi hz0 hz1 hz2 (by decide) rfl _ vs.length vs rfl (zcw HW.out _) ⟨w2.heap.size,0,none⟩ 1 1 [.iface tx yx] rfl (by decide) rfl ?c1 ?c2 ?c3 ?c4 ?_)
    case c1=>
     intro j u hj
     match j,hj with
     |0,hj=>simp at hj;subst hj;simp[Addr.add]
    case c2=>intro u hu;simp at hu;subst hu;rfl
    case c3=>omega
    case c4=>simp;omega
    intro v' w6 hown' hgrow nB;have nV:Hid (ζ w1.heap.size w1 w6):=(HB.out.alloc HB.out.size _).grown hgrow (by simp;omega) λk hk=>by have:=G6 k hk;omega
    have sA:Hid (ζ (w1.heap.size+1) (w2.alloc (.cells #[.iface tx yx] 58)) w6):=(zad _ _).grown hgrow (by simp;omega) λk hk=>by have:=G6 k hk;omega
    have acY:=((HL.out.trans (nV.out.mono HL.out.size)).block _ ae1).trans HCE.out;have d6:w6.cell? ⟨E.α j,1,none⟩=some vy:=by simp[Λ.cell?,acY]
    have HS6:Hid (w6.heap[w1.heap.size]?=some (.cells #[.string ⟨⟨h⟩⟩] 168)):=(sA.out.block _ (by omega)).trans ((zaK _ _ _ (by omega)).trans HS.out);have HW6:Hid (w6.ownsRow (w1.heap.size+1) 58 1 v' (vs++[Ξ.iface tx yx]).length (vs++[Ξ.iface tx yx])):=by show Λ.ownsRow _ _ _ _ _ _ _;rw[zbg];exact hown'
    have Kw:Hid _:=HR.out.snoc HDX.out;clear hown' hgrow nB acY hcw d0 d1 Fp;obtain⟨a6,c6,rfl⟩:=bq HW6.out;go_wp2_with fail;go_roundg gm
    case measure=>omega
    case rel=>
     refine⟨y,ds++[x],vs++[Ξ.iface tx yx],by simp;omega,⟨dz (by simp[aH,sub_self]) HMS.out,HDY.out⟩,?_,nV.out,HS6.out,HW6.out,Kw.out⟩;show _=_;rw[←U3.out];cases mo root gm y with
     |none=>rfl
     |some q=>cases q<;>simp
   ·by_cases hnil:mt=.nil
    ·subst hnil;have ho:o=some ds:=by have:=U3.out;simpa using this.symm
     subst ho;go_wp2_with fail;refine zae Jp.out ?_;rintro e w2 ⟨v,rfl,rfl,hv⟩;unfold bf at hv;subst hv;have Fp:(Ω (.iface 272 (.agg #[])) 58 150 true).run prog w2=_:=ai w2 lg uy (by decide);have htb:(Ω (.iface 272 (.agg #[])) 58 272 true).run prog w2=_:=bA w2 Iq;have Zz:w1.heap.size<w2.heap.size:=(zaf.1 HS.out).1;have hnz:¬w1.heap.size=w2.heap.size:=by omega
     clear PQ Jp qK;go_wp2_with fail;refine zak (by simp[results,results175,go_sem];rfl) rfl ?_;exact⟨⟨_,vs,rfl,aX (zcw HW.out _) (by omega) (λ_ _ _=>rfl),HR.out⟩,HB.out.alloc HB.out.size _⟩
    ·have ho:o=none:=by
      have:=U3.out;cases mt<;>first|exact absurd rfl hnil|exact absurd ⟨_,_,_,rfl⟩ qK|(simpa using this.symm)
     subst ho;have oo:sK mt≠150:=by cases mt<;>first|exact absurd ⟨_,_,_,rfl⟩ qK|(simp[sK])
     have Wb:sK mt≠272:=by cases mt<;>first|exact absurd rfl hnil|(simp[sK])
     go_wp2_with fail;refine zae Jp.out ?_;rintro e w2 ⟨v,rfl,rfl,hv⟩;obtain⟨yv,rfl⟩:=jb HHD.out hv;have Fp:(Ω (.iface (sK mt) yv) 58 150 true).run prog w2=_:=ai w2 lg uy oo;have htb:(Ω (.iface (sK mt) yv) 58 272 true).run prog w2=_:=ai w2 Iq Xo Wb;clear PQ Jp qK hnil hv oo Wb;go_wp2_with fail;refine zak (by simp[results,results175,go_sem];rfl) rfl ?_;exact⟨rfl,HB.out⟩
 ·have ho:r=none:=by
   generalize bN root 200000 a=mt at *;cases mt<;>first|exact absurd ⟨_,rfl⟩ O8|(simpa using hr.symm)
  subst ho;have oo:sK (bN root 200000 a)≠168:=by
   generalize bN root 200000 a=mt at *;cases mt<;>first|exact absurd ⟨_,rfl⟩ O8|(simp[sK])
  have HHD:Hid _:=CR;clear hr O8 CR SR;generalize bN root 200000 a=mt at *;unfold aq;go_enter func175,ntmps175;go_wp2_with fail;refine zae HM.out ?_;rintro e w1 ⟨v,rfl,rfl,hv⟩;obtain⟨yv,rfl⟩:=jb HHD.out hv;have Fp:(Ω (.iface (sK mt) yv) 58 168 true).run prog w1=_:=ai w1 Ir Xp oo;clear HM hv oo;go_wp2_with fail;refine zak (by simp[results,results175,go_sem];rfl) rfl ?_;exact⟨rfl,(zad _ w1).alloc (zab _) _⟩
end
theorem ET:prog.underlying 94=some (.map 150 58):=by kernel_rfl
section
variable {P:υ}
theorem sL (w:Λ){tp te:φ}{j:TypeInfo}(a:Addr)(hp:P.underlying tp=some (.pointer te))(hte:P.info? te=some j):(Op.equal tp (.pointer (some a)) (.pointer (some a))).run P w=.ok true w:=by
 have h:∀d:Nat,(Op.equalIn (d+1) tp (.pointer (some a)) (.pointer (some a))).run P w=.ok true w:=λd=>by
  simp[Op.equalIn,run_underlying hp,sizeOf,ό,hte,run_sameAddr_same]
 exact h 9999
theorem rC (w:Λ){tp te:φ}{j:TypeInfo}{a b:Addr}{ca cb:Array Ξ}{ta tb:φ}(hp:P.underlying tp=some (.pointer te))(hte:P.info? te=some j)(hsz:j.size≠0)(hne:a≠b)(ha:w.heap[a.block]?=some (.cells ca ta (0,0)))(hb:w.heap[b.block]?=some (.cells cb tb (0,0))):(Op.equal tp (.pointer (some a)) (.pointer (some b))).run P w=.ok false w:=by
 have h:∀d:Nat,(Op.equalIn (d+1) tp (.pointer (some a)) (.pointer (some b))).run P w=.ok false w:=λd=>by
  simp[Op.equalIn,run_underlying hp,sizeOf,ό,hte,hsz,run_sameAddr_other w hne ha hb]
 exact h 9999
end
theorem nQ:prog.underlying 150=some (.pointer 161):=xU .pair
theorem acZ {w:Λ}{b b':Nat}(x:lZ w .pair b)(y:lZ w .pair b'):(Op.equal 150 (aq b) (aq b')).run prog w=.ok (decide (b=b')) w:=by
 have LI:(prog.info? 161).any (λi=>i.size != 0)=true:=Mt .pair;cases xw:prog.info? 161 with
 |none=>rw[xw]at LI;cases LI
 |some j=>
  rw[xw]at LI;have hsz:j.size≠0:=by simpa using LI
  unfold aq;by_cases e:b=b'
  ·subst e;rw[sL w _ nQ xw];simp
  ·obtain⟨c,hc⟩:=x;obtain⟨c',hc'⟩:=y;rw[rC w nQ xw hsz (λq=>e (by cases q;rfl)) hc hc'];simp[e]
theorem EU {w:Λ}{E:Env}{i:Nat}:∀(es:List MapEntry) (l:List (Nat×Ξ)) (n:Nat),es.map (λe=>(e.key,e.val))=l.map (λp=>(aq (E.α p.1),p.2))→lZ w .pair (E.α i)→(∀p∈l,lZ w .pair (E.α p.1))→(∀p∈l,E.α i=E.α p.1→i=p.1)→∃j,(Instr.findAsking 150 (aq (E.α i)) es n).run prog w=.ok ((l.lookup i).map λv=>(j,v)) w∧n≤j∧∀v,l.lookup i=some v→(es[j-n]?).map (·.key)=some (aq (E.α i))
 |[],[],n,_,_,_,_=>⟨n,by simp[Instr.findAsking],zab _,λv h=>by simp at h⟩
 |[],_::_,_,h,_,_,_=>by simp at h
 |_::_,[],_,h,_,_,_=>by simp at h
 |e::es,(m,v)::l,n,h,hi,hl,kD=>by
  simp only[zaD,zcj,zag]at h;obtain⟨⟨h1,h2⟩,h3⟩:=h;unfold Instr.findAsking;rw[h1];have heq:=acZ hi (hl _ zam);by_cases hn:i=m
  ·subst hn;exact⟨n,by simp[heq,h2],zab _,λ_ _=>by simp[h1]⟩
  ·have hne:E.α i≠E.α m:=λe=>hn (kD _ zam e);obtain⟨j,hj,hle,hk⟩:=EU es l (n+1) h3 hi (λp hp=>hl p (zap _ hp)) (λp hp=>kD p (zap _ hp));have hb:(i==m)=false:=by simpa using hn
   refine⟨j,by simp[heq,hne,hj,List.lookup_cons,hb],by omega,λv hv=>?_⟩;rw[show j-n=(j-(n+1))+1 by omega,List.getElem?_cons_succ];exact hk v (by simpa[List.lookup_cons,hb]using hv)
def Xr (E:Env)(kn:List (Nat×Ξ)):List (Ξ×Ξ):=kn.map λp=>(aq (E.α p.1),p.2)
section
variable {w:Λ}{M:Nat}{E:Env}{kn:List (Nat×Ξ)}
theorem AG (b:Bool)(c:Nat)(w:Λ):(Instr.checkKey b 10000 150 (aq c)).run prog w=.ok () w:=by
 unfold Instr.checkKey aq;simp[run_underlying nQ]
theorem K3 (h:j0 w M (Xr E kn))(i:Nat)(hi:lZ w .pair (E.α i))(hl:∀p∈kn,lZ w .pair (E.α p.1))(kD:∀p∈kn,E.α i=E.α p.1→i=p.1):(Instr.lookup 94 (.map (some M)) (aq (E.α i)) true).run prog w=.ok (.tuple #[(kn.lookup i).getD .nilIface,.bool (kn.lookup i).isSome]) w:=by
 obtain⟨es,clock,h1,h2⟩:=h;have hg:(getObj M).run prog w=.ok (.map es clock) w:=by simp[getObj,Sem.run,h1]
 obtain⟨j,hj,-,-⟩:=EU (w:=w) (E:=E) (i:=i) es.toList kn 0 h2 hi hl kD;obtain⟨i0,UT,hz0,hz1,hz2⟩:=info_parts rb;unfold Instr.lookup Instr.findKey;simp only[zaV,zaO ET,zaW,hg,zbb,AG,zaO nQ];cases hes:es.toList with
 |nil=>
  rw[hes]at h2;have hm:kn=[]:=by
   have:=zal List.length h2;unfold Xr at this;simp at this;exact zce this.symm
  subst hm;simp[χ,ϐ,ό,UT,hz0]
 |cons e es'=>
  rw[hes]at hj;have hs:χ (.pointer 161) (aq (E.α i)) (e::es') 0=none:=by simp[χ,Instr.sameNow]
  simp only[hs,hj];cases hq:kn.lookup i with
  |none=>simp[ϐ,ό,UT,hz0]
  |some v=>simp
theorem Pa (h:j0 w M (Xr E kn))(i:Nat)(v:Ξ)(hi:lZ w .pair (E.α i))(hl:∀p∈kn,lZ w .pair (E.α p.1))(kD:∀p∈kn,E.α i=E.α p.1→i=p.1):∃o wx,(Instr.mapUpdate 94 (.map (some M)) (aq (E.α i)) v).run prog w=.ok () { w with heap:=w.heap.setIfInBounds M o }∧j0 { w with heap:=w.heap.setIfInBounds M o } M (Xr E wx)∧∀p∈wx,p∈kn∨p=(i,v):=by
 obtain⟨es,clock,h1,h2⟩:=h;have hlt:M<w.heap.size:=(zaf.1 h1).1;have hg:(getObj M).run prog w=.ok (.map es clock) w:=by simp[getObj,Sem.run,h1]
 obtain⟨j,hj,-,hkey⟩:=EU (w:=w) (E:=E) (i:=i) es.toList kn 0 h2 hi hl kD;have B8:(Instr.findKey 150 (aq (E.α i)) es.toList).run prog w=.ok ((kn.lookup i).map λv=>(j,v)) w:=by
  unfold Instr.findKey;simp only[zaV,zaO nQ,zaW];cases hes:es.toList with
  |nil=>
   rw[hes]at h2;have hm:kn=[]:=by
    have:=zal List.length h2;unfold Xr at this;simp at this;exact zce this.symm
   subst hm;simp[χ]
  |cons e es'=>
   rw[hes]at hj;have hs:χ (.pointer 161) (aq (E.α i)) (e::es') 0=none:=by simp[χ,Instr.sameNow]
   simp only[hs,hj]
 cases hq:kn.lookup i with
 |none=>
  rw[hq]at B8;refine⟨.map (es.push { key:=aq (E.α i),val:=v,born:=clock }) (clock+1),kn++[(i,v)],?_,⟨es.push { key:=aq (E.α i),val:=v,born:=clock },clock+1,?_,?_⟩,?_⟩
  ·unfold Instr.mapUpdate;simp only[zaV,zaO ET,zaW,hg,AG,B8,Option.map_none];simp[setObj,Sem.run,h1]
  ·show(w.heap.setIfInBounds M _)[M]?=_;rw[zbv hlt]
  ·rw[Array.toList_push,zck,h2];simp[Xr]
  ·intro p hp;simpa using hp
 |some v0=>
  rw[hq]at B8;have hk:=hkey v0 hq;rw[Nat.sub_zero,zbq]at hk;have hst:(Instr.keyThatStays (((es[j]?).map (·.key)).getD (aq (E.α i))) (aq (E.α i))).run prog w=.ok (aq (E.α i)) w:=by
   rw[hk];simp[Instr.keyThatStays,Instr.sameBits,aq]
  refine⟨.map (es.modify j λe=>{ e with key:=aq (E.α i),val:=v }) clock,kn.modify j λ_=>(i,v),?_,⟨es.modify j λe=>{ e with key:=aq (E.α i),val:=v },clock,?_,?_⟩,?_⟩
  ·unfold Instr.mapUpdate;simp only[zaV,zaO ET,zaW,hg,AG,B8,zbk,hst];simp[setObj,Sem.run,h1]
  ·show(w.heap.setIfInBounds M _)[M]?=_;rw[zbv hlt]
  ·apply List.ext_getElem?
   intro q;have h3:=zal (λl=>l[q]?) h2;simp only[Xr,zbG,zbq,zcp,List.getElem?_modify]at h3 ⊢;by_cases e:j=q
   ·subst e;simp only[if_true];cases ha:es[j]? with
    |none=>rw[ha]at h3;cases hb:kn[j]? with
           |none=>rfl
           |some z=>rw[hb]at h3;cases h3
    |some y=>rw[ha]at h3;cases hb:kn[j]? with
             |none=>rw[hb]at h3;cases h3
             |some z=>rfl
   ·simp only[zaa e];rw[h3];cases kn[q]?<;>rfl
  ·intro p hp;obtain⟨q,hq⟩:=List.mem_iff_getElem?.1 hp;rw[List.getElem?_modify]at hq;cases hz:kn[q]? with
   |none=>rw[hz]at hq;cases hq
   |some z=>
    rw[hz]at hq;by_cases e:j=q
    ·simp[e]at hq;exact .inr hq.symm
    ·simp[e]at hq;exact .inl (hq▸zcC hz)
end
structure fS (w0:Λ) (lo K:Nat) (L:List Int) (E:Env) (root:Dt) (R M:Nat) (w:Λ) (kn:List (Nat×Ξ)):Prop where
 low:ζ w0.heap.size w0 w
 r:w0.heap.size≤R
 m:w0.heap.size≤M
 ne:R≠M
 blk:w.heap[R]?=some (.cells #[.map (some M)] 96)
 mp:j0 w M (Xr E kn)
 ok:∀p∈kn,∃a b x n,.pair p.1 a b∈aH root∧nP root n (.pair p.1 a b)=some (.inr x)∧bf lo K L w0 E x p.2∧x.hd=true∧p.1<K∧lZ w0 .pair (E.α p.1)
section
variable {lo K:Nat}{L:List Int}{w0:Λ}{E:Env}{root:Dt}{R M:Nat}
theorem fS.lt {w:Λ}{kn:List (Nat×Ξ)}(h:fS w0 lo K L E root R M w kn):R<w.heap.size∧M<w.heap.size:=by
 obtain⟨es,c,h1,-⟩:=h.mp;exact⟨(zaf.1 h.blk).1,(zaf.1 h1).1⟩
theorem fS.below {w w':Λ}{kn:List (Nat×Ξ)}(h:fS w0 lo K L E root R M w kn)(hb:ζ w.heap.size w w'):fS w0 lo K L E root R M w' kn:=by
 obtain⟨es,c,h1,h2⟩:=h.mp;exact⟨h.low.trans (hb.mono h.low.size),h.r,h.m,h.ne,(hb.block _ h.lt.1).trans h.blk,⟨es,c,(hb.block _ h.lt.2).trans h1,h2⟩,h.ok⟩
theorem fS.set {w:Λ}{kn:List (Nat×Ξ)}(h:fS w0 lo K L E root R M w kn){a:Addr}(v:Ξ)(h0:w0.heap.size≤a.block)(hr:a.block≠R)(hm:a.block≠M):fS w0 lo K L E root R M (w.setCell a v) kn:=by
 obtain⟨es,c,h1,h2⟩:=h.mp;exact⟨h.low.setCell h0 v,h.r,h.m,h.ne,(zau w a v R (λe=>hr e.symm)).trans h.blk,⟨es,c,(zau w a v M (λe=>hm e.symm)).trans h1,h2⟩,h.ok⟩
def uz (lo K:Nat)(L:List Int)(w0:Λ)(E:Env):Int ⊕ Dt→Ending→Prop
 |.inl er,e=>e=.returned (.tuple #[.nilIface,Γ Δ er])
 |.inr x,e=>∃v,e=.returned (.tuple #[v,Γ Δ 0])∧bf lo K L w0 E x v∧x.hd=true
def wy (w0:Λ)(lo K:Nat)(L:List Int)(E:Env)(root:Dt)(R M:Nat)(w:Λ)(r:Int ⊕ Dt)(e:Ending)(w':Λ):Prop:=
 uz lo K L w0 E r e∧Kp M M w w'∧∃wx,fS w0 lo K L E root R M w' wx
def SX (w0:Λ)(lo K:Nat)(L:List Int)(E:Env)(root:Dt)(R M:Nat)(f:Dt→Option (Int ⊕ Dt)):Prop:=∀d v w kn r,bf lo K L w0 E d v→d∈aH root→fS w0 lo K L E root R M w kn→f d=some r→θ prog 47 #[aq R,v] w λe w'=>wy w0 lo K L E root R M w r e w'
end
end Go.Proofs.YtlhimdjkkiflhaaGreatDoor
namespace Go.Loop
open Go.Proofs.YtlhimdjkkiflhaaGreatDoor
section
variable {root:Dt}{f g:Dt→Option (Int ⊕ Dt)}
theorem C6 (h:∀d r,f d=some r→g d=some r):∀(l acc:List Dt) (r:Int ⊕ List Dt),mK f acc l=some r→mK g acc l=some r
 |[],acc,r,e=>e
 |d::l,acc,r,e=>by
  unfold mK at e ⊢;cases hf:f d with
  |none=>rw[hf]at e;cases e
  |some s=>
   rw[hf]at e;rw[h d s hf];cases s with
   |inl x=>exact e
   |inr x=>exact C6 h l _ r e
theorem BV (h:∀d r,f d=some r→g d=some r){held:List Dt}{r:Int ⊕ List (Int×Int)}(e:dV f held=some r):dV g held=some r:=by
 unfold dV at e ⊢;cases hq:mK f [] held with
 |none=>rw[hq]at e;cases e
 |some s=>rw[hq]at e;rw[C6 h _ _ _ hq];exact e
theorem EW (h:∀d r,f d=some r→g d=some r){c x y:Dt}{r:Int ⊕ Dt}(e:mq f c x y=some r):mq g c x y=some r:=by
 unfold mq at e ⊢;cases hq:f c with
 |none=>rw[hq]at e;cases e
 |some s=>
  rw[hq]at e;rw[h _ _ hq];cases s with
  |inl _=>exact e
  |inr z=>
   simp only at e ⊢;by_cases hz:z=.cU 0
   ·rw[zac hz]at e ⊢;exact h _ _ e
   ·rw[zaa hz]at e ⊢;exact h _ _ e
theorem K4 (h:∀d r,f d=some r→g d=some r){a b:Dt}{r:Int ⊕ Dt}(e:lQ root f a b=some r):lQ root g a b=some r:=by
 unfold lQ at e ⊢;cases hq:qJ root a b with
 |none=>rw[hq]at e;cases e
 |some s=>
  rw[hq]at e;cases s with
  |none=>exact e
  |some p=>
   obtain⟨hd,held⟩:=p;simp only at e ⊢;by_cases h1:fj hd held.length=false
   ·rw[zac h1]at e ⊢;exact e
   ·rw[zaa h1]at e ⊢;by_cases h2:hd=bY
    ·rw[zac h2]at e ⊢;exact e
    ·rw[zaa h2]at e ⊢;by_cases h3:hd=pB
     ·rw[zac h3]at e ⊢;exact EW h e
     ·rw[zaa h3]at e ⊢;cases hn:dV f held with
      |none=>rw[hn]at e;cases e
      |some s=>rw[hn]at e;rw[BV h hn];exact e
theorem Iw (h:∀d r,f d=some r→g d=some r)(d:Dt)(r:Int ⊕ Dt)(e:gL root f d=some r):gL root g d=some r:=by
 unfold gL at e ⊢;generalize bN root 200000 d=m at e ⊢;cases m<;>first|exact e|exact K4 h e
theorem Ix:∀(n:Nat) (d:Dt) (r:Int ⊕ Dt),nP root n d=some r→nP root (n+1) d=some r
 |0,d,r,e=>by simp[nP]at e
 |n+1,d,r,e=>Iw (f:=λx=>nP root n x) (Ix n) d r e
theorem MR {n m:Nat}(h:n≤m){d:Dt}{r:Int ⊕ Dt}(e:nP root n d=some r):nP root m d=some r:=by
 induction h with
 |refl=>exact e
 |step _ ih=>exact Ix _ _ _ ih
theorem SY {n m:Nat}{d:Dt}{r s:Int ⊕ Dt}(h1:nP root n d=some r)(h2:nP root m d=some s):r=s:=by
 have a:=MR (Nat.le_max_left n m) h1;have b:=MR (Nat.le_max_right n m) h2;rw[a]at b;exact zaF b
theorem Iy (hf:∀d e,f d=some (.inl e)→e≠0):∀(l acc:List Dt) (e:Int),mK f acc l=some (.inl e)→e≠0
 |[],acc,e,h=>by simp[mK]at h
 |d::l,acc,e,h=>by
  unfold mK at h;cases hq:f d with
  |none=>rw[hq]at h;cases h
  |some s=>
   rw[hq]at h;cases s with
   |inl x=>cases h;exact hf d e hq
   |inr x=>exact Iy hf l _ e h
theorem uA (hf:∀d e,f d=some (.inl e)→e≠0){held:List Dt}{e:Int}(h:dV f held=some (.inl e)):e≠0:=by
 unfold dV at h;cases hq:mK f [] held with
 |none=>rw[hq]at h;cases h
 |some s=>
  rw[hq]at h;cases s with
  |inl x=>cases h;exact Iy hf _ _ _ hq
  |inr x=>
   simp only at h;cases hn:rB [] x with
   |none=>rw[hn]at h;cases h;decide
   |some q=>rw[hn]at h;cases h
theorem C7 {h:List UInt8}{e:Int}:∀(l:List (Int×Int)) (m:Int×Int),fc h m l=.inl e→e≠0
 |[],m,hh=>by simp[fc]at hh
 |n::r,m,hh=>by
  unfold fc at hh;cases hs:cS h m n with
  |inl x=>rw[hs]at hh;cases hh;rcases wo hs with rfl|rfl<;>decide
  |inr x=>rw[hs]at hh;exact C7 r x hh
theorem K5 {h:List UInt8}{e:Int}{l:List (Int×Int)}(hh:dU h l=.inl e):e≠0:=by
 unfold dU at hh;split at hh<;>exact C7 _ _ hh
theorem Pb {h:List UInt8}{e:Int}{l:List (Int×Int)}(hh:nO h l=.inl e):e≠0:=by
 unfold nO at hh;split at hh
 ·cases hh
 ·cases hq:dU h l with
  |inl x=>rw[hq]at hh;cases hh;exact K5 hq
  |inr x=>rw[hq]at hh;cases hh
theorem Pc (hf:∀d e,f d=some (.inl e)→e≠0){a b:Dt}{e:Int}(h:lQ root f a b=some (.inl e)):e≠0:=by
 unfold lQ at h;split at h
 ·cases h
 ·cases h;decide
 ·split at h
  ·cases h;decide
  ·split at h
   ·cases h
   ·split at h
    ·unfold mq at h;split at h
     ·cases h
     ·rename_i hq;cases h;exact hf _ _ hq
     ·split at h<;>exact hf _ _ h
    ·split at h
     ·cases h
     ·rename_i hq;cases h;exact uA hf hq
     ·exact Pb (zaF h)
theorem K6 (hf:∀d e,f d=some (.inl e)→e≠0)(d:Dt)(e:Int)(h:gL root f d=some (.inl e)):e≠0:=by
 unfold gL at h;split at h
 ·exact Pc hf h
 all_goals first|(cases h;done)|(cases h;decide)
theorem EX:∀(n:Nat) (d:Dt) (e:Int),nP root n d=some (.inl e)→e≠0
 |0,d,e,h=>by simp[nP]at h
 |n+1,d,e,h=>K6 (f:=λx=>nP root n x) (EX n) d e h
theorem C8 (hr:aW root root=true){a b:Dt}{h:List UInt8}{held:List Dt}(hb:b∈aH root)(e:qJ root a b=some (some (h,held))):held.length<900∧∀x∈held,x∈aH root:=by
 unfold qJ at e;split at e
 ·obtain⟨o,ho,h'⟩:=zaz.1 e;obtain⟨r,rfl,h2⟩:=zaz.1 h';cases h2;exact Ip hr 900 b _ hb ho
 ·cases e
theorem Xs (hp:ja root=true){a b:Int}(h: .num a b∈aH root):qB (a,b):=by
 have h3:=zaI.1 hp _ h;have h4:decide (-1000000≤a∧a≤1000000∧1≤b∧b≤1000000)=true:=h3;unfold qB;exact of_decide_eq_true h4
def Vi (root x:Dt):Prop:=(∀a b,x=.num a b→qB (a,b))∧aW root x=true
theorem AH (hg:aW root root=true)(hp:ja root=true){x:Dt}(h:x∈aH root):Vi root x:=⟨λa b e=>by subst e;exact Xs hp h,gC hg h⟩
theorem AJ {h:List UInt8}{r:Int×Int}:∀(l:List (Int×Int)) (m:Int×Int),qB m→(∀q∈l,qB q)→fc h m l=.inr r→qB r
 |[],m,hm,_,e=>by simp[fc]at e;exact e▸hm
 |n::l,m,hm,hl,e=>by
  unfold fc at e;cases hs:cS h m n with
  |inl x=>rw[hs]at e;cases e
  |inr x=>
   rw[hs]at e;exact AJ l x (AE hm (hl _ zam) hs) (λq hq=>hl q (zap _ hq)) e
theorem Pd (h:List UInt8):qB (oO h):=by
 unfold oO;split<;>(unfold qB;simp)
theorem Pe {h:List UInt8}{r:Int×Int}{l:List (Int×Int)}(hl:∀q∈l,qB q)(e:dU h l=.inr r):qB r:=by
 unfold dU at e;split at e
 ·exact AJ _ _ (hl _ zam) (λq hq=>hl q (zap _ hq)) e
 ·exact AJ _ _ (Pd h) hl e
theorem Iz (hf:∀d,d∈aH root→∀x,f d=some (.inr x)→Vi root x):∀(l acc r:List Dt),(∀d∈l,d∈aH root)→(∀x∈acc,Vi root x)→mK f acc l=some (.inr r)→(∀x∈r,Vi root x)∧r.length=acc.length+l.length
 |[],acc,r,_,ha,e=>by simp[mK]at e;subst e;exact⟨ha,rfl⟩
 |d::l,acc,r,hl,ha,e=>by
  unfold mK at e;cases hq:f d with
  |none=>rw[hq]at e;cases e
  |some s=>
   rw[hq]at e;cases s with
   |inl x=>cases e
   |inr x=>
    have:=Iz hf l (acc++[x]) r (λy hy=>hl y (zap _ hy)) (λy hy=>by
     rcases zbm.1 hy with hy|hy
     ·exact ha y hy
     ·rw[zcg]at hy;subst hy;exact hf d (hl d zam) _ hq) e
    refine⟨this.1,?_⟩;rw[this.2];simp;omega
theorem IB:∀(l:List Dt) (acc q:List (Int×Int)),(∀x∈l,Vi root x)→(∀p∈acc,qB p)→rB acc l=some q→(∀p∈q,qB p)∧q.length=acc.length+l.length
 |[],acc,q,_,ha,e=>by simp[rB]at e;subst e;exact⟨ha,rfl⟩
 |d::l,acc,q,hl,ha,e=>by
  unfold rB at e;split at e
  ·cases ‹_=[]›
  ·rename_i h1;cases h1;have:=IB _ _ q (λy hy=>hl y (zap _ hy)) (λy hy=>by
    rcases zbm.1 hy with hy|hy
    ·exact ha y hy
    ·rw[zcg]at hy;subst hy;exact(hl _ zam).1 _ _ rfl) e
   refine⟨this.1,?_⟩;rw[this.2];simp;omega
  ·cases e
theorem xg (hf:∀d,d∈aH root→∀x,f d=some (.inr x)→Vi root x){held:List Dt}{q:List (Int×Int)}(hs:∀d∈held,d∈aH root)(e:dV f held=some (.inr q)):(∀p∈q,qB p)∧q.length=held.length:=by
 unfold dV at e;cases hq:mK f [] held with
 |none=>rw[hq]at e;cases e
 |some s=>
  rw[hq]at e;cases s with
  |inl x=>cases e
  |inr x=>
   simp only at e;have h1:=Iz hf held [] x hs (λ_ h=>by cases h) hq;cases hn:rB [] x with
   |none=>rw[hn]at e;cases e
   |some y=>
    rw[hn]at e;cases e;have h2:=IB x [] _ h1.1 (λ_ h=>by cases h) hn;refine⟨h2.1,?_⟩;rw[h2.2,h1.2];simp
theorem fL {l:List Dt}{k:Nat}(h:k<l.length):l.getD k .nil∈l:=by
 rw[zbX,zaq h];exact zbd h
theorem C9 {n:Nat}(h:fj bY n=true):n=1:=by simpa[fj,bY]using h
theorem SZ {n:Nat}(h:fj pB n=true):n=3:=by simpa[fj,bY,pB]using h
theorem aaJ {n:Nat}{h:List UInt8}(e:h=[61]∨h=[60])(hc:fj h n=true):n=2:=by
 rcases e with rfl|rfl<;>simpa[fj,bY,pB]using hc
theorem Pf (hg:aW root root=true)(hp:ja root=true)(hf:∀d,d∈aH root→∀x,f d=some (.inr x)→Vi root x){a b x:Dt}(hb:b∈aH root)(e:lQ root f a b=some (.inr x)):Vi root x:=by
 unfold lQ at e;split at e
 ·cases e
 ·cases e
 ·rename_i h held aaK;obtain⟨-,hs⟩:=C8 hg hb aaK;split at e
  ·cases e
  ·rename_i hc;have hc':fj h held.length=true:=by simpa using hc
   split at e
   ·rename_i hq;subst hq;have h1:=C9 hc';cases e;exact AH hg hp (jI hg 200000 _ (hs _ (fL (l:=held) (k:=0) (by omega))))
   ·split at e
    ·rename_i hq;subst hq;have h1:=SZ hc';unfold mq at e;split at e
     ·cases e
     ·cases e
     ·split at e
      ·exact hf _ (hs _ (fL (by omega))) _ e
      ·exact hf _ (hs _ (fL (by omega))) _ e
    ·split at e
     ·cases e
     ·cases e
     ·rename_i q hq;have hqq:=xg hf hs hq;have e1:=zaF e;unfold nO at e1;split at e1
      ·cases e1;exact⟨λn d hn=>(by cases hn),rfl⟩
      ·split at e1
       ·cases e1
       ·rename_i p ht;cases e1;exact⟨λn d hn=>(by cases hn;exact Pe hqq.1 ht),rfl⟩
theorem K7 (hg:aW root root=true)(hp:ja root=true):∀(n:Nat) (d:Dt),d∈aH root→∀x,nP root n d=some (.inr x)→Vi root x
 |0,d,_,x,e=>by simp[nP]at e
 |n+1,d,hd,x,e=>by
  have hm:=jI hg 200000 d hd;unfold nP gL at e;generalize bN root 200000 d=m at e hm;cases m with
  |pair i a b=>exact Pf hg hp (λd hd x=>K7 hg hp n d hd x) (dz (by simp[aH,sub_self]) hm) e
  |num a b=>cases e;exact AH hg hp hm
  |cU _=>cases e;exact AH hg hp hm
  |sQ _=>cases e;exact AH hg hp hm
  |txt _ _=>cases e;exact AH hg hp hm
  |nil=>cases e
  |sym _=>cases e
  |vec _ _=>cases e
  |gJ=>cases e
  |cD _ _=>cases e
  |put _ _=>cases e
  |ask _=>cases e
end
end Go.Loop
namespace Go.Proofs.YtlhimdjkkiflhaaGreatDoor
open Go.Proofs.Tryz
open Go.RowKit Go.Loop
theorem AK {β:Type}{i:Nat}{v:β}:∀{l:List (Nat×β)},l.lookup i=some v→(i,v)∈l
 |[],h=>by simp at h
 |(j,u)::l,h=>by
  rw[zcm]at h;by_cases e:i=j
  ·subst e;simp at h;subst h;exact zam
  ·have hb:(i==j)=false:=by simpa using e
   rw[hb]at h;exact zap _ (AK h)
section
variable {lo K:Nat}{L:List Int}{w0:Λ}{E:Env}{root:Dt}{R M:Nat}
theorem fS.hat {w:Λ}{kn:List (Nat×Ξ)}(h:fS w0 lo K L E root R M w kn){b:Nat}(x:lZ w0 .pair b):lZ w .pair b:=by
 obtain⟨c,hc⟩:=x;exact⟨c,(h.low.block _ (zaf.1 hc).1).trans hc⟩
theorem fS.facts {w:Λ}{kn:List (Nat×Ξ)}(h:fS w0 lo K L E root R M w kn)(hG:Xq w0 lo K L E root){i:Nat}(hK:i<K):(∀p∈kn,lZ w .pair (E.α p.1))∧∀p∈kn,E.α i=E.α p.1→i=p.1:=by
 refine⟨λp hp=>?_,λp hp e=>?_⟩
 ·obtain⟨_,_,_,_,_,_,_,_,_,h4⟩:=h.ok p hp;exact h.hat h4
 ·obtain⟨_,_,_,_,_,_,_,_,h3,_⟩:=h.ok p hp;exact hG.inj _ _ hK h3 e
theorem fS.put {w:Λ}{kn wx:List (Nat×Ξ)}{o:Obj}{i:Nat}{v:Ξ}{a b x:Dt}{n:Nat}(h:fS w0 lo K L E root R M w kn)(hmp:j0 { w with heap:=w.heap.setIfInBounds M o } M (Xr E wx))(sf:∀p∈wx,p∈kn∨p=(i,v))(cg: .pair i a b∈aH root∧nP root n (.pair i a b)=some (.inr x)∧bf lo K L w0 E x v∧x.hd=true∧i<K∧lZ w0 .pair (E.α i)):fS w0 lo K L E root R M { w with heap:=w.heap.setIfInBounds M o } wx:=by
 have hm:=h.m;refine⟨⟨h.low.os,h.low.tape,h.low.output,by simpa using h.low.size,λb hb=>(zaB (by omega)).trans (h.low.block b hb)⟩,h.r,h.m,h.ne,(zaB (λe=>h.ne e.symm)).trans h.blk,hmp,λp hp=>(sf p hp).elim (h.ok p) λe=>?_⟩;subst e;exact⟨a,b,x,n,cg⟩
theorem Pg (hG:Xq w0 lo K L E root)(n:Nat)(w:Λ)(kn:List (Nat×Ξ))(hA:fS w0 lo K L E root R M w kn)(i:Nat)(a b:Dt)(hs: .pair i a b∈aH root)(hK:i<K)(hat:lZ w0 .pair (E.α i))(r:Int ⊕ Dt)(hr:lQ root (λx=>nP root n x) a b=some r)(hl:θ prog 129 #[aq R,aq (E.α i)] w λe w'=>wy w0 lo K L E root R M w r e w'):θ prog 79 #[aq R,aq (E.α i)] w λe w'=>wy w0 lo K L E root R M w r e w':=by
 have SG:nP root (n+1) (.pair i a b)=some r:=by
  show gL root (λx=>nP root n x) (.pair i a b)=some r;unfold gL;rw[gB rfl];exact hr
 have c0:w.cell? ⟨R,0,none⟩=some (.map (some M)):=by have:=hA.blk;simp[Λ.cell?,this]
 have hlk:=K3 hA.mp i (hA.hat hat) (hA.facts hG hK).1 (hA.facts hG hK).2;cases hq:kn.lookup i with
 |some v0=>
  obtain⟨a',b',x,m,h1,h2,h3,h4,-,-⟩:=hA.ok (i,v0) (AK hq);obtain⟨rfl,rfl⟩:=O5 hG.pairs hs h1;have hrx:r=.inr x:=SY SG h2;subst hrx;rw[hq,zbl,Option.isSome_some]at hlk;obtain⟨t5,y5,rfl⟩:=bO h3;have HV:Hid _:=h3;have HA:Hid _:=hA;clear h3 hA hG hs hat hr hl SG h2 h1 hq;unfold aq at *;go_enter func79,ntmps79;go_wp2_with fail;go_ret2;exact⟨⟨_,rfl,HV.out,h4⟩,Kp.refl _ _ _,kn,HA.out⟩
 |none=>
  rw[hq,zbB,zcB]at hlk;have HG:Hid _:=hG;have HL:Hid _:=hl;have HS:Hid (.pair i a b∈aH root∧lZ w0 .pair (E.α i)):=⟨hs,hat⟩;have WY:Hid _:=SG;clear hG hl hs hat hr hA hq SG;unfold aq at *;go_enter func79,ntmps79;go_wp2_with fail;refine zae HL.out ?_;rintro e w1 ⟨ho,wR,S0,se⟩;clear HL hlk c0;cases r with
  |inl er=>
   have hne:(er != 0)=true:=by simpa using EX _ _ _ WY.out
   have HZ:Hid (Kp M M w w1∧∃wx,fS w0 lo K L E root R M w1 wx):=⟨wR,S0,se⟩;unfold uz at ho;subst ho;clear wR se;go_wp2_with fail;go_ret2;exact⟨rfl,HZ.out⟩
  |inr x=>
   obtain⟨v,rfl,hv,hh⟩:=ho;obtain⟨t5,y5,rfl⟩:=bO hv;have c1:w1.cell? ⟨R,0,none⟩=some (.map (some M)):=by have:=se.blk;simp[Λ.cell?,this]
   obtain⟨o,wx,hput,hmp,sf⟩:=Pa se.mp i (.iface t5 y5) (se.hat HS.out.2) (se.facts HG.out hK).1 (se.facts HG.out hK).2;have HZ:Hid (Kp M M w { w1 with heap:=w1.heap.setIfInBounds M o }∧fS w0 lo K L E root R M { w1 with heap:=w1.heap.setIfInBounds M o } wx):=⟨wR.trans ⟨rfl,rfl,rfl,by simp,λb hb h1 _=>zaB (λe=>h1 e.symm)⟩,se.put hmp sf ⟨HS.out.1,WY.out,hv,hh,hK,HS.out.2⟩⟩;have HV:Hid _:=hv;clear wR se hv hmp sf;unfold aq at hput;go_wp2_with fail;go_ret2;exact⟨⟨_,rfl,HV.out,hh⟩,HZ.out.1,wx,HZ.out.2⟩
end
theorem uB:eW prog 153=true:=by kernel_rfl
theorem EY:(prog.info? 153).bind (·.zero)=some (.agg #[Γ Δ 0,Γ Δ 0]):=by kernel_rfl
theorem AL:eW prog 155=true:=by kernel_rfl
theorem Da:(prog.info? 155).bind (·.zero)=some (.agg #[Γ Δ 0]):=by kernel_rfl
theorem Db:eW prog 157=true:=by kernel_rfl
theorem IC:(prog.info? 157).bind (·.zero)=some (.agg #[Γ Δ 0]):=by kernel_rfl
theorem Dc:eW prog 158=true:=by kernel_rfl
theorem ID:(prog.info? 158).bind (·.zero)=some (.pointer none):=by kernel_rfl
theorem lR (w:Λ)(t u:φ)(y z:Ξ)(hp:eW prog u=true)(hz:(prog.info? u).bind (·.zero)=some z):(Ω (.iface t y) 58 u true).run prog w=.ok (if t=u then .tuple #[y,.bool true]else .tuple #[z,.bool false]) w:=by
 by_cases h:t=u
 ·subst h;rw[zac rfl];exact bA w hp
 ·rw[zaa h];exact ai w hp hz h
section
variable {lo K:Nat}{L:List Int}{w0:Λ}{E:Env}{root:Dt}{R M:Nat}
def K8:Dt→Bool
 |.num _ _=>true
 |.cU _=>true
 |.sQ _=>true
 |.txt _ _=>true
 |_=>false
theorem IE (hG:Xq w0 lo K L E root)(n:Nat)(YP:∀w kn i a b r,fS w0 lo K L E root R M w kn→ .pair i a b∈aH root→(∃v,bf lo K L w0 E (.pair i a b) v)→lQ root (λx=>nP root n x) a b=some r→θ prog 79 #[aq R,aq (E.α i)] w λe w'=>wy w0 lo K L E root R M w r e w'):SX w0 lo K L E root R M (λx=>nP root (n+1) x):=by
 intro d v w kn r hd hs hA hr;obtain⟨hm,CR,SR⟩:=hG.meant hA.low hd hs;obtain⟨t,y,rfl⟩:=bO hd;have hr1:gL root (λx=>nP root n x) d=some r:=hr;unfold gL at hr1;generalize bN root 200000 d=mt at hm CR SR hr1;have HM:Hid _:=hm;have HA:Hid _:=hA;have HO:Hid _:=YP;have HS:Hid _:=SR;clear hm hG hA hr hd hs YP SR;by_cases qK:∃i a b,mt=.pair i a b
 ·obtain⟨i,a,b,rfl⟩:=qK;have hr2:lQ root (λx=>nP root n x) a b=some r:=hr1;clear hr1;unfold aq;go_enter func47,ntmps47;go_wp2_with fail;refine zae HM.out ?_;rintro e w1 ⟨v,rfl,rfl,hv⟩;have hva:=hv;unfold bf at hva;obtain⟨-,-,rfl,-⟩:=hva;have HC:Hid _:=HO.out w1 kn i a b r HA.out HS.out ⟨_,hv⟩ hr2;have Fp:(Ω (.iface 150 (aq (E.α i))) 58 150 true).run prog w1=_:=bA w1 lg;clear hv HM HO HS hr2 CR;unfold aq at *;go_wp2_with fail;refine zae HC.out ?_;rintro e w2 ⟨ho,hk2,K9,xQ⟩;have HZ:Hid (Kp M M w1 w2∧∃wx,fS w0 lo K L E root R M w2 wx):=⟨hk2,K9,xQ⟩;clear HC hk2 xQ HA Fp;cases r with
  |inl er=>
   have L3:=ho;unfold uz at L3;subst L3;go_wp2_with fail;go_ret2;exact⟨rfl,HZ.out⟩
  |inr q=>
   obtain⟨v,rfl,hv,hh⟩:=ho;have HV:Hid _:=hv;obtain⟨t5,y5,rfl⟩:=bO hv;clear hv;go_wp2_with fail;go_ret2;exact⟨⟨_,rfl,HV.out,hh⟩,HZ.out⟩
 ·by_cases hpl:K8 mt=true
  ·have px:r=.inr mt:=by cases mt<;>first|(simp[K8]at hpl;done)|(cases hr1;rfl)
   subst px;have YQ:sK mt=153∨sK mt=155∨sK mt=157∨sK mt=158:=by cases mt<;>first|(simp[K8]at hpl;done)|simp[sK]
   clear hr1 qK hpl HO HS;unfold aq;go_enter func47,ntmps47;go_wp2_with fail;refine zae HM.out ?_;rintro e w1 ⟨v,rfl,rfl,hv⟩;obtain⟨yv,rfl⟩:=jb CR hv;have HV:Hid _:=hv;clear HM hv;generalize sK mt=tt at *;have a1:=lR w1 tt _ yv _ lg uy;have a2:=lR w1 tt _ yv _ uB EY;have a3:=lR w1 tt _ yv _ AL Da;have a4:=lR w1 tt _ yv _ Db IC;have a5:=lR w1 tt _ yv _ Dc ID;rcases YQ with rfl|rfl|rfl|rfl
   all_goals
    rw[zaa (by decide)]at a1;first|rw[zac rfl]at a2|rw[zaa (by decide)]at a2
    first|rw[zac rfl]at a3|rw[zaa (by decide)]at a3
    first|rw[zac rfl]at a4|rw[zaa (by decide)]at a4
    first|rw[zac rfl]at a5|rw[zaa (by decide)]at a5
    go_wp2_with fail;go_ret2;exact⟨⟨_,rfl,HV.out,CR⟩,Kp.refl _ _ _,kn,HA.out⟩
  ·have px:r=.inl 10:=by cases mt<;>first|exact absurd rfl hpl|exact absurd ⟨_,_,_,rfl⟩ qK|(cases hr1;rfl)
   subst px;have YQ:sK mt≠150∧sK mt≠153∧sK mt≠155∧sK mt≠157∧sK mt≠158:=by cases mt<;>first|exact absurd rfl hpl|exact absurd ⟨_,_,_,rfl⟩ qK|simp[sK]
   clear hr1 qK hpl HO HS;unfold aq;go_enter func47,ntmps47;go_wp2_with fail;refine zae HM.out ?_;rintro e w1 ⟨v,rfl,rfl,hv⟩;obtain⟨yv,rfl⟩:=jb CR hv;have a1:(Ω (.iface (sK mt) yv) 58 150 true).run prog w1=_:=ai w1 lg uy YQ.1;have a2:(Ω (.iface (sK mt) yv) 58 153 true).run prog w1=_:=ai w1 uB EY YQ.2.1;have a3:(Ω (.iface (sK mt) yv) 58 155 true).run prog w1=_:=ai w1 AL Da YQ.2.2.1;have a4:(Ω (.iface (sK mt) yv) 58 157 true).run prog w1=_:=ai w1 Db IC YQ.2.2.2.1;have a5:(Ω (.iface (sK mt) yv) 58 158 true).run prog w1=_:=ai w1 Dc ID YQ.2.2.2.2;clear HM hv YQ;go_wp2_with fail;go_ret2;exact⟨rfl,Kp.refl _ _ _,kn,HA.out⟩
end
end Go.Proofs.YtlhimdjkkiflhaaGreatDoor
