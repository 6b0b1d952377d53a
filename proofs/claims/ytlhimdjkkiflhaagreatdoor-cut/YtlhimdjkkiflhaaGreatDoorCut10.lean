import Derived.Orders
import Derived.Test.YtlhimdjkkiflhaaGreatDoorCut09
set_option maxHeartbeats 8000000
set_option maxRecDepth 100000
namespace Go.Ren
open Go Go.Conc
def ew (σ:List (Nat×Value))(a:Act):Act:=σ.foldl (λa p=>a.put (some p.1) p.2) a
theorem BW (σ:List (Nat×Value))(d:Nat)(v:Value)(a:Act):ew (σ++[(d,v)]) a=(ew σ a).put (some d) v:=by simp[ew,List.foldl_append]
theorem Ai (t:Nat):∀(σ:List (Nat×Value)) (a:Act),(∀p∈σ,p.1≠t)→(ew σ a).tmps.getD t undef=a.tmps.getD t undef
 |[],_,_=>rfl
 |p::σ,a,h=>by
  show(ew σ (a.put (some p.1) p.2)).tmps.getD t undef=_;rw[Ai t σ _ λq hq=>h q (zax _ hq)];have hp:=h p zau;simp only[Act.put,zaL];rw[zan hp]
theorem put_comm (a:Act){d e:Nat}(h:d≠e)(u v:Value):(a.put (some d) u).put (some e) v=(a.put (some e) v).put (some d) u:=by
 simp only[Act.put]
 congr 1
 exact Array.setIfInBounds_comm u v h
theorem mI (d:Nat)(v:Value):∀(σ:List (Nat×Value)) (a:Act),(∀p∈σ,p.1≠d)→(ew σ a).put (some d) v=ew σ (a.put (some d) v)
 |[],_,_=>rfl
 |p::σ,a,h=>by
  show(ew σ (a.put (some p.1) p.2)).put (some d) v=ew σ ((a.put (some d) v).put (some p.1) p.2);rw[mI d v σ _ λq hq=>h q (zax _ hq),put_comm a (h p zau)]
section
variable {P:Program}{F:FuncId→Bool}{S:Sd}{Ψ:bq}{σ:List (Nat×Value)}{b:Frame}{a a':Act}{k k':List Item}{w W:World}{ρ:Rn}
def bg (P:Program)(S:Sd)(Ψ:bq)(b:Frame)(σ:List (Nat×Value))(a:Act)(k:List Item)(w:World):Prop:=
 ∀(ρ:Rn) (W:World) (gs:Array Goroutine) (sl:Option (Nat×Nat)) (t:Trace) (q:Nat→Nat) (Shun:Loc→Prop),gp P S ρ w W→pI P S w.heap.size a→
  gs[0]?=some (G (b.at (ew σ (a.rn ρ)) k) Ψ.bot)→Leavers P t gs q→Past Shun W.heap.size t→NS Shun Ψ.ro (Touch S.d ρ w) W→Ad Ψ W→(∀x,Touch S.d ρ w x→Ψ.base.heap.size≤x∨Ψ.mine x)→se Ψ.n0 Ψ.r0 w ρ→se Ψ.an Ψ.ar w ρ→Reach P (crowd gs W sl) t Ψ.at_
def Lh (P:Program)(S:Sd)(Good:List (Nat×Value)→Act→List Item→World→Prop)(b:Frame)(bot:List Frame)(n0:Nat)(r0:Rn)(own:Nat→Prop)(g:Goroutine)(W:World):Prop:=
 ∃σ a k w ρ,Good σ a k w∧gp P S ρ w W∧(∀x,Touch S.d ρ w x→own x)∧g=G (b.at (ew σ (a.rn ρ)) k) bot∧pI P S w.heap.size a∧se n0 r0 w ρ
theorem n7 {ρ ρ':Rn}{n:Nat}(hc:pI P S n a)(hb:∀r,r<n→ρ r=ρ' r)(hf:∀x,ρ.f x=ρ'.f x):a.rn ρ=a.rn ρ':=by
 unfold Act.rn;rw[dM λv hv=>agree (σ:=sg S S.d n) (λr hr=>hb r (bW.1 hr).2) (λx _=>hf x) v (hc v hv)]
theorem aj.jo {main:Bool}{ro own:Nat→Prop}{Good:List (Nat×Value)→Act→List Item→World→Prop}{bot:List Frame}{n0:Nat}{r0:Rn}(hG:Good σ a k w)(hS:gp P S ρ w W)(hown:∀x,Touch S.d ρ w x→own x)(hc:pI P S w.heap.size a)(h0:se n0 r0 w ρ):aj P main ro (Lh P S Good b bot n0 r0) own (G (b.at (ew σ (a.rn ρ)) k) bot) W:=by
 refine .stop λaF hr=>⟨σ,a,k,w,cL ρ w.heap.size aF.heap.size,hG,hS.grow hr.size λx hx=>hr.block x (.inl (hown x hx)),λx hx=>hown x (by rwa[cv]at hx),?_,hc,⟨h0.size,λr hr=>by rw[aR (zaq hr h0.size)];exact h0.same r hr⟩⟩;rw[n7 hc (ρ:=ρ) (ρ':=cL ρ w.heap.size aF.heap.size) (λr hlt=>(aR hlt).symm) (λ_=>rfl)]
theorem bg.walk (h:∀ρ W,gp P S ρ w W→pI P S w.heap.size a→nC Ψ.ro (Touch S.d ρ w) W→Ad Ψ W→aj P true Ψ.ro (Lh P S (bg P S Ψ b) b Ψ.bot w.heap.size ρ) (Touch S.d ρ w) (G (b.at (ew σ (a.rn ρ)) k) Ψ.bot) W):bg P S Ψ b σ a k w:=by
 intro ρ W gs sl t q Shun hS hc h0 hL hP hN hO hT ku ly;refine(iK (h ρ W hS hc ⟨λb hb=>hb.elim (hN.NQ b) (hN.DT b),λb hb ht=>(hT b ht).elim (λh1=>by have:=(Ψ.l6 b hb).1;omega) λ⟨r,h1,h2,e⟩=>(Ψ.l6 b hb).2 r h1 h2 e⟩ hO) W (bV.refl _ _ _) gs sl t q h0 hL hP hN).bind ?_;rintro m t' ⟨gs',own',a',w',sl',q',rfl,_,vV,hst,Eu,Es,K5,_,pz,hK⟩;obtain⟨Kf,a2,k2,w2,vW,hG,pA,hown,rfl,hc2,vX⟩:=hst w' (bV.refl _ _ _);have hsz:=hO.size;exact hG vW w' gs' sl' t' q' Shun pA hc2 vV Eu Es (K5.sub hown)
  ⟨hK.tape.trans hO.tape,hK.os.trans hO.os,hK.output.trans hO.output,zad hsz hK.size,λb hb hm=>(hK.block b (by omega) λht=>(hT b ht).elim (λh=>by omega) hm).trans (hO.block b hb hm)⟩
  (λx hx=>(pz x (hown x hx)).elim (hT x) λe=> .inl (by omega)) ⟨zad ku.size vX.size,λr hr=>(vX.same r (zaq hr ku.size)).trans (ku.same r hr)⟩ ⟨zad ly.size vX.size,λr hr=>(vX.same r (zaq hr ly.size)).trans (ly.same r hr)⟩
end
def eR (σ:List (Nat×Value)):Operand→Bool
 |.tmp t=>σ.all λp=>p.1 != t
 |_=>true
theorem eZ {σ:List (Nat×Value)}{t:Nat}(h:eR σ (.tmp t)=true):∀p∈σ,p.1≠t:=λp hp=>by
 have:=zaE.1 h p hp;simpa using this
section
variable {P:Program}{F:FuncId→Bool}{S:Sd}{Ψ:bq}{σ:List (Nat×Value)}{b:Frame}{a a':Act}{k k':List Item}{w W:World}{ρ:Rn}
theorem ri {x:Operand}(h:eR σ x=true)(a:Act):(ew σ a).eval x=a.eval x:=by
 cases x with
 |tmp t=>exact Ai t σ a (eZ h)
 |_=>rfl
theorem bg.ctl (hst:∀(a:Act) (cs:List Frame) W,stepG P true (G (b.at a k) cs) W=.go (G (b.at a k') cs) W #[])(h:bg P S Ψ b σ a k' w):bg P S Ψ b σ a k w:=
 bg.walk λ_ _ hS hc _ _=>aj.silent rfl (λaF=>hst _ _ aF) (aj.jo h hS (λ_ h=>h) hc (se.refl _ _))
theorem bg.seq {x y:Code}(h:bg P S Ψ b σ a (.code x::.code y::k) w):bg P S Ψ b σ a (.code (.seq x y)::k) w:=bg.ctl (λ_ _ _=>stepG_seq) h
theorem bg.skip (h:bg P S Ψ b σ a k w):bg P S Ψ b σ a (.code .skip::k) w:=bg.ctl (λ_ _ _=>stepG_skip) h
theorem bg.inBlock {id:Nat}(h:bg P S Ψ b σ a k w):bg P S Ψ b σ a (.inBlock id::k) w:=bg.ctl (λ_ _ _=>stepG_inBlock) h
theorem bg.block {id:Nat}{c:Code}(h:bg P S Ψ b σ a (.code c::.inBlock id::k) w):bg P S Ψ b σ a (.code (.block id c)::k) w:=bg.ctl (λ_ _ _=>stepG_block) h
theorem bg.loop {c:Code}(h:bg P S Ψ b σ a (.code c::.inLoop c::k) w):bg P S Ψ b σ a (.code (.loop c)::k) w:=bg.ctl (λ_ _ _=>stepG_loop) h
theorem bg.inLoop {c:Code}(h:bg P S Ψ b σ a (.code c::.inLoop c::k) w):bg P S Ψ b σ a (.inLoop c::k) w:=bg.ctl (λ_ _ _=>stepG_inLoop) h
theorem bg.exit {id:Nat}{k':List Item}(he:exitTo id k=some k')(h:bg P S Ψ b σ a k' w):bg P S Ψ b σ a (.code (.exit id)::k) w:=bg.ctl (λ_ _ _=>stepG_exit he) h
theorem bg.region {id:Nat}{ops:Array Oper}(h:bg P S Ψ b σ a (.inRegion ops (List.range ops.size)::k) w):bg P S Ψ b σ a (.code (.region id ops false)::k) w:=bg.ctl (λ_ _ _=>stepG_region) h
theorem bg.cond {c:Operand}{x y:Code}{t:Bool}(hj:eR σ c=true)(hc:a.eval c=.bool t)(h:bg P S Ψ b σ a (.code (if t then x else y)::k) w):bg P S Ψ b σ a (.code (.cond c x y)::k) w:=
 bg.walk λρ W hS eG _ _=>aj.silent rfl (λ_=>stepG_cond (by rw[ri hj];exact Ae hc)) (aj.jo h hS (λ_ h=>h) eG (se.refl _ _))
section
variable {ops:Array Oper}{i:Nat}{rest:List Nat}{o:Oper}{kk:List Item}
theorem bg.BP (hC:jB P F S)(cC:eN P F S o.op=true)(ho:ops[i]?=some o)(hw:∀ρ,Region.wanted o (yielded ops (ew σ (a.rn ρ)).tmps)=true)(hk:b.kind≠.early)(aaA:∀cs b,o.op≠.select cs b)(hj:o.op.operands.all (eR σ)=true){d:Tmp}(hd:o.dst=some d)(xP:eR σ (.tmp d)=true)
 (h:∀τ d',∃v w',(execOp a.eval o).run P (w.re τ d')=.ok (.value v) w'∧bg P S Ψ b σ (a.put (some d) v) (.inRegion ops rest::kk) w'):bg P S Ψ b σ a (.inRegion ops (i::rest)::kk) w:=
 bg.walk λρ W hS Ev hR _=>by
  have hx:execOp (ew σ (a.rn ρ)).eval o=execOp (fE λt=>rv ρ (a.tmps.getD t undef)) o:=execOp_congr o aaA λx hx=>by
   rw[ri (zbr.1 hj x hx),uQ]
  refine aj.BP (a:=ew σ (a.rn ρ)) (b:=b) (T:=λt=>a.tmps.getD t undef) hC cC ho (hw ρ) hk (λt=>Ev.get t) hS (λ_ h=>h) hx (by rw[←l7];exact h) (λv w' ρ' W' own' hq Gn nI hsz eG hown _ _ _=>?_) hR;have e:a.rn ρ=a.rn ρ':=n7 Ev (λr hr=>(nI r hr).symm) (λx=>(Aa hS Gn x).symm);rw[hd,e,mI d _ σ _ (eZ xP),nZ];exact aj.jo hq Gn hown (pI.put (P:=P) (λx hx=>ek (cR hsz).1 (cR hsz).2 x (Ev x hx)) (some d) eG) ⟨hsz,nI⟩
theorem bg.raw (ho:ops[i]?=some o)(hw:∀ρ,Region.wanted o (yielded ops (ew σ (a.rn ρ)).tmps)=true)(hk:b.kind≠.early){X:Value}(hrun:∀ρ W,(execOp (ew σ (a.rn ρ)).eval o).run P W=.ok (.value X) W)(gi:∀ρ W,(execOp (ew σ (a.rn ρ)).eval o).events P W #[]=#[]){d:Tmp}(hd:o.dst=some d)
 (h:bg P S Ψ b (σ++[(d,X)]) a (.inRegion ops rest::kk) w):bg P S Ψ b σ a (.inRegion ops (i::rest)::kk) w:=
 bg.walk λρ W hS Ev _ _=>by
  refine aj.step' rfl λaF hr=>⟨_,aF,_,stepG_value ho (hw ρ) hk (hrun ρ aF),⟨rfl,rfl,rfl,zaa _,λ_ _ _=>rfl,λe he=>?_⟩,?_⟩
  ·unfold listed at he;rw[gi ρ aF]at he;have:=mem_seen he;simp at this
  ·rw[jf _ rfl,hd,←BW];exact(aj.jo h hS (λ_ h=>h) Ev (se.refl _ _)).rely hr
theorem bg.bare (ho:ops[i]?=some o)(hw:∀ρ,Region.wanted o (yielded ops (ew σ (a.rn ρ)).tmps)=true)(hk:b.kind≠.early){X:Value}(hX:∀ρ,rv ρ X=X)(hrun:∀ρ W,(execOp (ew σ (a.rn ρ)).eval o).run P W=.ok (.value X) W)(gi:∀ρ W,(execOp (ew σ (a.rn ρ)).eval o).events P W #[]=#[]){d:Tmp}(hd:o.dst=some d)(xP:eR σ (.tmp d)=true)
 (h:bg P S Ψ b σ (a.put (some d) X) (.inRegion ops rest::kk) w):bg P S Ψ b σ a (.inRegion ops (i::rest)::kk) w:=
 bg.walk λρ W hS Ev _ _=>by
  refine aj.step' rfl λaF hr=>⟨_,aF,_,stepG_value ho (hw ρ) hk (hrun ρ aF),⟨rfl,rfl,rfl,zaa _,λ_ _ _=>rfl,λe he=>?_⟩,?_⟩
  ·unfold listed at he;rw[gi ρ aF]at he;have:=mem_seen he;simp at this
  ·have e:(ew σ (a.rn ρ)).put (some d) X=ew σ ((a.put (some d) X).rn ρ):=by
    rw[mI d X σ _ (eZ xP),←nZ,hX]
   rw[jf _ rfl,hd,e];exact(aj.jo h hS (λ_ h=>h) (pI.put (P:=P) Ev (some d) (hX _)) (se.refl _ _)).rely hr
theorem bg.load (ho:ops[i]?=some o)(hw:∀ρ,Region.wanted o (yielded ops (ew σ (a.rn ρ)).tmps)=true)(hk:b.kind≠.early){e:TypeId}{x:Operand}(hop:o.op=.load e x){ad:Addr}(hx:∀ρ,(ew σ (a.rn ρ)).eval x=.pointer (some ad))(hr:Ψ.ro ad.block){v:Value}(hv:Ψ.base.cell? ad=some v)(hX:∀ρ,rv ρ v=v)
 (hl:∀(w:World),w.cell? ad=some v→(Instr.loadAt e (.pointer (some ad))).run P w=.ok v w∧∀ev∈(Instr.loadAt e (.pointer (some ad))).events P w #[],ev.loc=.cell ad∧ev.write=false){d:Tmp}(hd:o.dst=some d)(xP:eR σ (.tmp d)=true)
 (h:bg P S Ψ b σ (a.put (some d) v) (.inRegion ops rest::kk) w):bg P S Ψ b σ a (.inRegion ops (i::rest)::kk) w:=
 bg.walk λρ W hS Ev _ hO=>by
  have hold:=Ψ.l6 _ hr;have hc:W.cell? ad=some v:=by
   rw[←hv];unfold World.cell?
   rw[hO.block _ hold.1 λ⟨r,h1,h2,e⟩=>hold.2 r h1 h2 e]
  refine aj.Ah ho (hw ρ) hk hd hop (hx ρ) hr hc hl ?_;have e:(ew σ (a.rn ρ)).put (some d) v=ew σ ((a.put (some d) v).rn ρ):=by
   rw[mI d v σ _ (eZ xP),←nZ,hX]
  rw[e];exact aj.jo h hS (λ_ h=>h) (pI.put (P:=P) Ev (some d) (hX _)) (se.refl _ _)
end
end
def Ip (σ:List (Nat×Value))(t:Array Value):Array Value:=σ.foldl (λt p=>t.setIfInBounds p.1 p.2) t
theorem wo:∀(σ:List (Nat×Value)) (a:Act),ew σ a=⟨Ip σ a.tmps,a.defers⟩
 |[],_=>rfl
 |p::σ,a=>wo σ (a.put (some p.1) p.2)
theorem Aj (t:Nat):∀(σ:List (Nat×Value)) (x:Array Value),(∀p∈σ,p.1≠t)→(Ip σ x)[t]?=x[t]?
 |[],_,_=>rfl
 |p::σ,x,h=>by
  show(Ip σ (x.setIfInBounds p.1 p.2))[t]?=_;rw[Aj t σ _ λq hq=>h q (zax _ hq),zan (h p zau)]
theorem Gy (d:Nat)(v:Value):∀(σ:List (Nat×Value)) (x:Array Value),(∀p∈σ,p.1≠d)→(Ip σ x).setIfInBounds d v=Ip σ (x.setIfInBounds d v)
 |[],_,_=>rfl
 |p::σ,x,h=>by
  show(Ip σ (x.setIfInBounds p.1 p.2)).setIfInBounds d v=Ip σ ((x.setIfInBounds d v).setIfInBounds p.1 p.2);rw[Gy d v σ _ λq hq=>h q (zax _ hq),Array.setIfInBounds_comm _ _ (h p zau)]
section
variable (σ:List (Nat×Value))
def OM:Option Tmp→Bool
 |some d=>eR σ (.tmp d)
 |none=>true
def fw (ops:Array Oper)(o:Oper):Bool:=
 o.op.operands.all (eR σ)&&(match o.op with|.select ..=>false|_=>true)&&OM σ o.dst&&(match o.guard with|some (j,_)=>OM σ ((ops[j]?).bind (·.dst))|none=>true)
def iw:Code→Bool
 |.skip |.ret |.exit _|.refuse _=>true
 |.region _ ops _=>ops.all (fw σ ops)
 |.seq a b=>iw a&&iw b
 |.cond c a b=>eR σ c&&iw a&&iw b
 |.block _ a|.loop a=>iw a
 |_=>false
def fP:Item→Bool
 |.code c=>iw σ c
 |.inBlock _=>true
 |.inLoop c=>iw σ c
 |.inRegion ops l=>l.all λi=>(ops[i]?).all (fw σ ops)
 |_=>false
def eD (k:List Item)(x:Frame):Frame:={ x with todo:=x.todo.dropLast++k,tmps:=Ip σ x.tmps }
def BX (k:List Item):List Frame→List Frame
 |[]=>[]
 |[x]=>[eD σ k x]
 |c::d::r=>c::BX k (d::r)
def sFJ (k:List Item)(f:Frame):List Frame→Frame
 |[]=>eD σ k f
 |_::_=>f
end
theorem en {id:Nat}{q:Item→Bool}:∀{l k':List Item},exitTo id l=some k'→l.all q=true→k'.all q=true
 |[],k',h,_=>by simp[exitTo]at h
 |.inBlock id'::l,k',h,hl=>by
  simp only[zaf,zac]at hl;simp only[exitTo]at h;split at h
  ·cases h;exact hl.2
  ·exact en h hl.2
 |.code c::l,k',h,hl=>by simp only[exitTo,zaf,zac]at h hl;exact en h hl.2
 |.inLoop c::l,k',h,hl=>by simp only[exitTo,zaf,zac]at h hl;exact en h hl.2
 |.inRegion ..::l,k',h,hl=>by simp only[exitTo,zaf,zac]at h hl;exact en h hl.2
 |.inScope c::l,k',h,hl=>by simp only[exitTo,zaf,zac]at h hl;exact en h hl.2
 |.inRangeFunc c::l,k',h,hl=>by simp only[exitTo,zaf,zac]at h hl;exact en h hl.2
 |.endRangeFunc c::l,k',h,hl=>by simp only[exitTo,zaf,zac]at h hl;exact en h hl.2
 |.beginRound::l,k',h,hl=>by simp only[exitTo,zaf,zac]at h hl;exact en h hl.2
 |.call ..::l,k',h,hl=>by simp only[exitTo,zaf,zac]at h hl;exact en h hl.2
 |.extern ..::l,k',h,hl=>by simp only[exitTo,zaf,zac]at h hl;exact en h hl.2
section
variable {P:Program}{F:FuncId→Bool}{S:Sd}{w w1:World}{es:Array Event}{σ:List (Nat×Value)}
theorem jF {ops:Array Oper}{o:Oper}(h:fw σ ops o=true):o.op.operands.all (eR σ)=true∧(∀cs b,o.op≠.select cs b)∧OM σ o.dst=true:=by
 unfold fw at h;simp only[zac]at h;refine⟨h.1.1.1,λcs b e=>?_,h.1.2⟩;have:=h.1.1.2;rw[e]at this;cases this
theorem Ak {ops:Array Oper}{o:Oper}(h:fw σ ops o=true)(t:Array Value):Region.wanted o (yielded ops (Ip σ t))=Region.wanted o (yielded ops t):=by
 unfold fw at h;simp only[zac]at h;have h4:=h.2;unfold Region.wanted;cases hg:o.guard with
 |none=>rfl
 |some p=>
  obtain⟨j,want⟩:=p;rw[hg]at h4;dsimp only at h4 ⊢
  congr 1
  unfold yielded;cases hd:(ops[j]?).bind (·.dst)with
  |none=>rfl
  |some d=>
   rw[hd]at h4;simp only[zbk];rw[Aj d σ t (eZ h4)]
theorem yU {x:Operand}(h:eR σ x=true)(fr:Frame)(k k':List Item):Frame.eval { fr with todo:=k,tmps:=Ip σ fr.tmps } x=Frame.eval { fr with todo:=k' } x:=by
 cases x with
 |tmp t=>
  simp only[Frame.eval,zaL];rw[Aj t σ _ (eZ h)]
 |_=>rfl
theorem mJ (k:List Item){x:Frame}{h:Item}{l:List Item}(hb:x.todo=h::l++[gG])(hh:aB P F S h=true)(hj:fP σ h=true)(v:Value):(eD σ k x).finish v=eD σ k (x.finish v)∧(x.finish v).fn=x.fn∧(x.finish v).mode=x.mode∧∃h',(x.finish v).todo=h'::l++[gG]∧fP σ h'=true:=by
 obtain⟨fn0,tmps,todo,defers,mode,kind,jC⟩:=x;simp only at hb;subst hb;have dl:∀(a:Item),((a::(l++[gG])).dropLast++k)=a::(l++k):=λa=>by
  rw[show a::(l++[gG])=(a::l)++[gG] from rfl,cE];rfl
 cases h with
 |inRegion ops idx=>
  cases idx with
  |nil=>exact⟨by simp only[Frame.finish,eD,zat,dl],rfl,rfl,_,rfl,hj⟩
  |cons i rest=>
   have hj':=hj;simp only[fP,zaf,zac]at hj';refine⟨?_,rfl,rfl,.inRegion ops rest,rfl,hj'.2⟩;have hd:OM σ ((ops[i]?).bind (·.dst))=true:=by
    cases ho:ops[i]? with
    |none=>rfl
    |some o=>
     have:=hj'.1;rw[ho]at this;exact(jF this).2.2
   simp only[Frame.finish,eD,zat,dl]
   revert hd
   generalize (ops[i]?).bind (·.dst)=d;intro hd;cases d with
   |none=>rfl
   |some d=>simp only[Gy d v σ tmps (eZ hd)]
 |code c=>exact⟨by simp only[Frame.finish,eD,zat,dl],rfl,rfl,_,rfl,hj⟩
 |inBlock id=>exact⟨by simp only[Frame.finish,eD,zat,dl],rfl,rfl,_,rfl,hj⟩
 |inLoop c=>exact⟨by simp only[Frame.finish,eD,zat,dl],rfl,rfl,_,rfl,hj⟩
 |_=>simp[aB]at hh
theorem oX (k:List Item){x:Frame}{h:Item}{l:List Item}(hb:uz x (h::l))(hh:aB P F S h=true)(hj:(h::l).all (fP σ)=true){f1:Frame}{a1:List Frame}(hr:(aL P x []).runT P w #[]=(.ok (f1,a1) w1,es)):(∃l1,uz f1 l1∧l1.all (fP σ)=true∧f1.fn=x.fn∧a1=[]∧(aL P (eD σ k x) []).runT P w #[]=(.ok (eD σ k f1,[]) w1,es))∨
 (f1={ x with mode:= .returning }∧a1=[]∧(aL P (eD σ k x) []).runT P w #[]=(.ok (eD σ k f1,[]) w1,es))∨
 (a1=[x]∧(aL P (eD σ k x) []).runT P w #[]=(.ok (f1,[eD σ k x]) w1,es)):=by
 obtain⟨fn0,tmps,todo,defers,mode,kind,jC⟩:=x;obtain⟨ht,hm⟩:=hb;simp only at ht hm;subst ht hm;have dl:∀(a:Item),((a::(l++[gG])).dropLast++k)=a::(l++k):=λa=>by
  rw[show a::(l++[gG])=(a::l)++[gG] from rfl,cE];rfl
 have TG:(l++[gG]).dropLast++k=l++k:=by rw[cE]
 have dl2:∀(a b:Item),((a::b::(l++[gG])).dropLast++k)=a::b::(l++k):=λa b=>by
  rw[show a::b::(l++[gG])=(a::b::l)++[gG] from rfl,cE];rfl
 simp only[zaf,zac]at hj;obtain⟨sK,vU⟩:=hj;simp only[zat,eD,dl]at hr ⊢
 match h,hh,sK,hr with
 |.code .ret,_,_,hr=>
  simp only[aL,pure,Sem.runT,zab,Result.ok.injEq]at hr;obtain⟨⟨⟨rfl,rfl⟩,rfl⟩,rfl⟩:=hr;exact .inr (.inl ⟨rfl,rfl,by simp only[aL,pure,Sem.runT,dl]⟩)
 |.code .skip,_,_,hr=>
  simp only[aL,pure,Sem.runT,zab,Result.ok.injEq]at hr;obtain⟨⟨⟨rfl,rfl⟩,rfl⟩,rfl⟩:=hr;exact .inl ⟨l,⟨rfl,rfl⟩,vU,rfl,rfl,by simp only[aL,pure,Sem.runT,TG]⟩
 |.inBlock _,_,_,hr=>
  simp only[aL,pure,Sem.runT,zab,Result.ok.injEq]at hr;obtain⟨⟨⟨rfl,rfl⟩,rfl⟩,rfl⟩:=hr;exact .inl ⟨l,⟨rfl,rfl⟩,vU,rfl,rfl,by simp only[aL,pure,Sem.runT,TG]⟩
 |.code (.seq a b),_,sK,hr=>
  simp only[aL,pure,Sem.runT,zab,Result.ok.injEq]at hr;obtain⟨⟨⟨rfl,rfl⟩,rfl⟩,rfl⟩:=hr;simp only[fP,iw,zac]at sK;exact .inl ⟨.code a::.code b::l,⟨rfl,rfl⟩,by simp only[zaf,fP,sK.1,sK.2,vU,Bool.and_self],rfl,rfl,by simp only[aL,pure,Sem.runT,dl2]⟩
 |.code (.block id a),_,sK,hr=>
  simp only[aL,pure,Sem.runT,zab,Result.ok.injEq]at hr;obtain⟨⟨⟨rfl,rfl⟩,rfl⟩,rfl⟩:=hr;simp only[fP,iw]at sK;exact .inl ⟨.code a::.inBlock id::l,⟨rfl,rfl⟩,by simp only[zaf,fP,sK,vU,Bool.and_self],rfl,rfl,by simp only[aL,pure,Sem.runT,dl2]⟩
 |.code (.loop a),_,sK,hr=>
  simp only[aL,pure,Sem.runT,zab,Result.ok.injEq]at hr;obtain⟨⟨⟨rfl,rfl⟩,rfl⟩,rfl⟩:=hr;simp only[fP,iw]at sK;exact .inl ⟨.code a::.inLoop a::l,⟨rfl,rfl⟩,by simp only[zaf,fP,sK,vU,Bool.and_self],rfl,rfl,by simp only[aL,pure,Sem.runT,dl2]⟩
 |.inLoop a,_,sK,hr=>
  simp only[aL,pure,Sem.runT,zab,Result.ok.injEq]at hr;obtain⟨⟨⟨rfl,rfl⟩,rfl⟩,rfl⟩:=hr;simp only[fP]at sK;exact .inl ⟨.code a::.inLoop a::l,⟨rfl,rfl⟩,by simp only[zaf,fP,sK,vU,Bool.and_self],rfl,rfl,by simp only[aL,pure,Sem.runT,dl2]⟩
 |.inRegion _ [],_,_,hr=>
  simp only[aL,pure,Sem.runT,zab,Result.ok.injEq]at hr;obtain⟨⟨⟨rfl,rfl⟩,rfl⟩,rfl⟩:=hr;exact .inl ⟨l,⟨rfl,rfl⟩,vU,rfl,rfl,by simp only[aL,pure,Sem.runT,TG]⟩
 |.code (.cond c a b),_,sK,hr=>
  simp only[fP,iw,zac]at sK;simp only[aL]at hr ⊢;have ev:Frame.eval ⟨fn0,Ip σ tmps,.code (.cond c a b)::(l++k),defers,.run,kind,jC⟩ c=Frame.eval ⟨fn0,tmps,.code (.cond c a b)::(l++[gG]),defers,.run,kind,jC⟩ c:=yU sK.1.1 ⟨fn0,tmps,[],defers,.run,kind,jC⟩ _ _;rw[ev];generalize Frame.eval ⟨fn0,tmps,.code (.cond c a b)::(l++[gG]),defers,.run,kind,jC⟩ c=q at hr ⊢;cases q with
  |bool t=>
   simp only[pure,Sem.runT,zab,Result.ok.injEq]at hr;obtain⟨⟨⟨rfl,rfl⟩,rfl⟩,rfl⟩:=hr;exact .inl ⟨.code (if t then a else b)::l,⟨rfl,rfl⟩,by simp only[zaf,fP,vU,zba];cases t<;>simp[sK.1.2,sK.2],rfl,rfl,by simp only[pure,Sem.runT,dl]⟩
  |_=>simp[stuck]at hr
 |.code (.exit id),_,_,hr=>
  simp only[aL]at hr ⊢;cases he:exitTo id (l++[gG])with
  |none=>rw[he]at hr;simp[stuck]at hr
  |some k'=>
   rw[he]at hr;have hall:=en (q:=fP σ) he (by rw[List.all_append,vU];rfl);obtain⟨l',rfl,h2⟩:=dh k he;rw[h2];rw[List.all_append,zac]at hall;simp only[pure,Sem.runT,zab,Result.ok.injEq]at hr;obtain⟨⟨⟨rfl,rfl⟩,rfl⟩,rfl⟩:=hr;exact .inl ⟨l',⟨rfl,rfl⟩,hall.1,rfl,rfl,by simp only[pure,Sem.runT,cE]⟩
 |.code (.region id ops draw),_,sK,hr=>
  simp only[fP,iw]at sK;have XT:∀idx:List Nat,fP σ (.inRegion ops idx)=true:=λidx=>by
   simp only[fP,zaE];intro i _;cases ho:ops[i]? with
   |none=>rfl
   |some o=>exact zbr.1 sK o (zaT ho)
  cases draw with
  |false=>
   simp only[aL,pure,Sem.runT,zab,Result.ok.injEq,zav,if_false]at hr ⊢;obtain⟨⟨⟨rfl,rfl⟩,rfl⟩,rfl⟩:=hr;exact .inl ⟨.inRegion ops (List.range ops.size)::l,⟨rfl,rfl⟩,by rw[zaf,XT,vU];rfl,rfl,rfl,by simp only[dl,and_self]⟩
  |true=>
   simp only[aL,if_true,bind,choose,Sem.bind,Sem.runT,Question.forced,zav,if_false,pure,zab,Result.ok.injEq,Question.cut]at hr ⊢;obtain⟨⟨⟨rfl,rfl⟩,rfl⟩,rfl⟩:=hr;exact .inl ⟨.inRegion ops _::l,⟨rfl,rfl⟩,by rw[zaf,XT,vU];rfl,rfl,rfl,by simp only[dl,and_self]⟩
 |.inRegion ops (i::rest),hh,sK,hr=>
  have nS:=λv=>mJ (P:=P) (F:=F) (S:=S) (σ:=σ) k (x:=⟨fn0,tmps,.inRegion ops (i::rest)::(l++[gG]),defers,.run,kind,jC⟩) (h:= .inRegion ops (i::rest)) (l:=l) rfl hh sK v;simp only[fP,zaf,zac]at sK;simp only[aL]at hr ⊢;have fin:∀v,(⟨fn0,Ip σ tmps,.inRegion ops (i::rest)::(l++k),defers,.run,kind,jC⟩:Frame).finish v=eD σ k ((⟨fn0,tmps,.inRegion ops (i::rest)::(l++[gG]),defers,.run,kind,jC⟩:Frame).finish v):=λv=>by
   have:=(nS v).1;simp only[eD,dl]at this;exact this
  have bot:∀v,uz ((⟨fn0,tmps,.inRegion ops (i::rest)::(l++[gG]),defers,.run,kind,jC⟩:Frame).finish v) (.inRegion ops rest::l):=λv=>⟨rfl,rfl⟩;have hall:(Item.inRegion ops rest::l).all (fP σ)=true:=by
   rw[zaf,vU,zba];exact sK.2
  cases ho:ops[i]? with
  |none=>
   rw[ho]at hr;simp only[Option.map_none,zbd,zav,if_false]at hr ⊢;simp only[pure,Sem.runT,zab,Result.ok.injEq]at hr;obtain⟨⟨⟨rfl,rfl⟩,rfl⟩,rfl⟩:=hr;exact .inl ⟨_,bot undef,hall,rfl,rfl,by simp only[pure,Sem.runT,fin];rfl⟩
  |some o=>
   have hjo:fw σ ops o=true:=by
    have:=sK.1;rw[ho]at this;exact this
   have ev:execOp (Frame.eval ⟨fn0,Ip σ tmps,.inRegion ops (i::rest)::(l++k),defers,.run,kind,jC⟩) o=execOp (Frame.eval ⟨fn0,tmps,.inRegion ops (i::rest)::(l++[gG]),defers,.run,kind,jC⟩) o:=
    execOp_congr o (jF hjo).2.1 λy hy=>yU (zbr.1 (jF hjo).1 y hy) ⟨fn0,tmps,[],defers,.run,kind,jC⟩ _ _
   rw[ho]at hr;simp only[zaM,zaD]at hr ⊢;rw[Ak hjo];by_cases hw:Region.wanted o (yielded ops tmps)=true
   ·rw[if_pos hw]at hr ⊢;rw[ev];generalize (execOp (Frame.eval ⟨fn0,tmps,.inRegion ops (i::rest)::(l++[gG]),defers,.run,kind,jC⟩) o)=ex at hr ⊢;rw[bE]at hr ⊢;cases hrun:ex.runT P w #[]with
    |mk r dt=>
     rw[hrun]at hr;cases r with
     |halt hh w1=>simp at hr
     |ok nx w1=>
      dsimp only at hr ⊢;cases nx with
      |value v=>
       simp only[pure,Sem.runT,zab,Result.ok.injEq]at hr;obtain⟨⟨⟨rfl,rfl⟩,rfl⟩,rfl⟩:=hr;exact .inl ⟨_,bot v,hall,rfl,rfl,by simp only[pure,Sem.runT,fin];rfl⟩
      |skip=>
       simp only[pure,Sem.runT,zab,Result.ok.injEq]at hr;obtain⟨⟨⟨rfl,rfl⟩,rfl⟩,rfl⟩:=hr;exact .inl ⟨_,bot undef,hall,rfl,rfl,by simp only[pure,Sem.runT,fin];rfl⟩
      |enter f args=>
       simp only[pure,Sem.runT,zab,Result.ok.injEq]at hr;obtain⟨⟨⟨rfl,rfl⟩,rfl⟩,rfl⟩:=hr;exact .inr (.inr ⟨rfl,rfl⟩)
      |_=>simp[stuck]at hr
   ·rw[if_neg hw]at hr ⊢;simp only[pure,Sem.runT,zab,Result.ok.injEq]at hr;obtain⟨⟨⟨rfl,rfl⟩,rfl⟩,rfl⟩:=hr;exact .inl ⟨_,bot undef,hall,rfl,rfl,by simp only[pure,Sem.runT,fin];rfl⟩
 |.code (.rangeFunc ..),hh,_,hr=>simp[aB,bh]at hh
 |.code (.scope ..),hh,_,hr=>simp[aB,bh]at hh
 |.code (.label ..),hh,_,hr=>simp[aB,bh]at hh
 |.code (.goto ..),hh,_,hr=>simp[aB,bh]at hh
 |.code (.refuse ..),hh,_,hr=>simp[aL,stuck]at hr
 |.inScope c,hh,_,hr=>simp[aB]at hh
 |.inRangeFunc c,hh,_,hr=>simp[aB]at hh
 |.endRangeFunc c,hh,_,hr=>simp[aB]at hh
 |.beginRound,hh,_,hr=>simp[aB]at hh
 |.call ..,hh,_,hr=>simp[aB]at hh
 |.extern ..,hh,_,hr=>simp[aB]at hh
end
section
variable {P:Program}{F:FuncId→Bool}{S:Sd}{w W:World}{ρ:Rn}{k:List Item}{fn0:FuncId}{Q:Frame→List Frame→World→Prop}{σ:List (Nat×Value)}
theorem tO (k:List Item)(c:Frame)(r:List Frame):∀p:List Frame,BX σ k (p++c::r)=p++BX σ k (c::r)
 |[]=>rfl
 |[x]=>rfl
 |x::y::p=>by
  have:=tO k c r (y::p);simp only[zat]at this ⊢;rw[BX,this]
def Iq (σ:List (Nat×Value))(fn0:FuncId)(f:Frame)(ab:List Frame):Prop:=
 match ab.getLast? with
 |none=>f.fn=fn0∧(f.mode=.returning∨∃l,uz f l∧l.all (fP σ)=true)
 |some x=>∃h l,uz x (h::l)∧(h::l).all (fP σ)=true∧x.fn=fn0
theorem EB {x:Frame}{h:Item}{l:List Item}(hx:jA P F S x)(hb:uz x (h::l))(k:List Item):vZ P F S (eD σ k x):=⟨hx.defers,hx.mode,hx.kind,hx.round,by
 have e:(eD σ k x).todo=h::(l++k):=by
  show x.todo.dropLast++k=_;rw[hb.todo,cE];rfl
 rw[e];simpa using oW hx hb,hx.fn⟩
theorem EC {f f1:Frame}{ab a1:List Frame}{w0 w1 W1:World}{es es':Array Event}(cC:jA P F S f)(TH:∀x∈ab,jA P F S x)(hT:Iq σ fn0 f ab)(hn:ab=[]→∃h l,uz f (h::l)∧(h::l).all (fP σ)=true)
 (hp:(aL P f ab).runT P w0 #[]=(.ok (f1,a1) w1,es))(hr:(aL P (bP ρ f) (ab.map (bP ρ))).runT P W #[]=(.ok (bP ρ f1,a1.map (bP ρ)) W1,es'))(main:Bool)(cs:List Frame):
 Iq σ fn0 f1 a1∧stepG P main (G (sFJ σ k (bP ρ f) ab) (BX σ k (ab.map (bP ρ))++cs)) W=.go (G (sFJ σ k (bP ρ f1) a1) (BX σ k (a1.map (bP ρ))++cs)) W1 (seen P f.fn es'):=by
 cases ab with
 |nil=>
  obtain⟨hf,-⟩:=hT;obtain⟨h,l,hb,hj⟩:=hn rfl;have hh:=oW cC hb;have hb':uz (bP ρ f) (h::l):=⟨hb.todo,hb.run⟩;have hH:vZ P F S (eD σ k (bP ρ f)):=EB (rh cC) hb' k;rcases oX k hb hh hj hp with⟨l1,b1,bj,b2,rfl,_⟩|⟨m1,rfl,_⟩|⟨rfl,_⟩
  ·rcases oX k hb' hh hj hr with⟨l2,c1,_,c2,_,c3⟩|⟨m1,_,m2⟩|⟨e,_⟩
   ·refine⟨⟨b2.trans hf,.inr ⟨l1,b1,bj⟩⟩,?_⟩;exact cP (main:=main) (cs:=cs) hH c3
   ·have:f1.mode=.returning:=congrArg Frame.mode m1;rw[b1.run]at this;cases this
   ·simp at e
  ·rcases oX k hb' hh hj hr with⟨l2,c1,_,c2,_,c3⟩|⟨_,_,c3⟩|⟨e,_⟩
   ·have:f1.mode=.returning:=congrArg Frame.mode m1;have c4:f1.mode=.run:=c1.run;rw[c4]at this;cases this
   ·refine⟨⟨by rw[m1];exact hf,.inl (by rw[m1])⟩,?_⟩;exact cP (main:=main) (cs:=cs) hH c3
   ·simp at e
  ·rcases oX k hb' hh hj hr with⟨l2,c1,_,c2,e,c3⟩|⟨m1,e,m2⟩|⟨e,c3⟩
   ·simp at e
   ·simp at e
   ·exact⟨⟨h,l,hb,hj,hf⟩,cP (main:=main) (cs:=cs) hH c3⟩
 |cons c r=>
  have hH:vZ P F S (bP ρ f):=Gw (rh cC);rcases oV hp with⟨p,rfl,_⟩|⟨v,rfl,rfl,_⟩
  ·rcases oV (c:=bP ρ c) (r:=r.map (bP ρ)) hr with⟨p',e,h2⟩|⟨v,_,e,_⟩
   ·have ep:p'=p.map (bP ρ):=by
     rw[zbs,zao]at e;exact(List.append_cancel_right e).symm
    subst ep;have Wt:Iq σ fn0 f1 (p++c::r):=by
     unfold Iq at hT ⊢;rw[List.getLast?_append];cases hg:(c::r).getLast? with
     |none=>simp at hg
     |some x=>rw[hg]at hT;exact hT
    refine⟨Wt,?_⟩;have e1:sFJ σ k (bP ρ f1) (p++c::r)=bP ρ f1:=by cases p<;>rfl
    rw[e1,zbs,zao,tO];exact cP (main:=main) (cs:=cs) hH (h2 _)
   ·have:=congrArg List.length e;simp at this;omega
  ·rcases oV (c:=bP ρ c) (r:=a1.map (bP ρ)) hr with⟨p',e,h2⟩|⟨v',e1,_,h2⟩
   ·have:=congrArg List.length e;simp at this;omega
   ·cases a1 with
    |nil=>
     obtain⟨h,l,hb,hj,hf⟩:=hT;have hcO:=TH c zau;have hh:=oW hcO hb;have hj':=hj;simp only[zaf,zac]at hj';obtain⟨g1,g2,g3,h',g4,g5⟩:=mJ k hb.todo hh hj'.1 v;obtain⟨q1,-,-,-,-⟩:=mJ k (x:=bP ρ c) hb.todo hh hj'.1 v';refine⟨⟨g2.trans hf,.inr ⟨h'::l,⟨g4,g3.trans hb.run⟩,by rw[zaf,g5,hj'.2];rfl⟩⟩,?_⟩;have h3:=cP (main:=main) (cs:=cs) hH (h2 (eD σ k (bP ρ c)) []);rw[q1,←e1]at h3;exact h3
    |cons d r2=>
     refine⟨?_,?_⟩
     ·unfold Iq at hT ⊢;rw[List.getLast?_cons_cons]at hT;exact hT
     ·have h3:=cP (main:=main) (cs:=cs) hH (h2 (bP ρ c) (BX σ k ((d::r2).map (bP ρ))));rw[←e1]at h3;exact h3
def Li (P:Program)(F:FuncId→Bool)(S:Sd)(Q:Frame→List Frame→World→Prop)(σ:List (Nat×Value))(k:List Item)(fn0:FuncId)(cs:List Frame)(gq:Rn)(n₀:Nat)(own:Nat→Prop)(g:Goroutine)(W:World):Prop:=
 ∃fr w ρ,(uz fr []∨fr.mode=.returning)∧fr.fn=fn0∧Ih P Q fr [] w∧PI P F S fr [] w∧gp P S ρ w W∧own=Touch S.d ρ w∧g=G (eD σ k (bP ρ fr)) cs∧n₀≤w.heap.size∧∀r,r<n₀→ρ r=gq r
theorem BZ (hC:jB P F S){main:Bool}{ro:Nat→Prop}(hQ:∀f a w,Q f a w→a=[]∧(uz f []∨f.mode=.returning)){cs:List Frame}{fr:Frame}{above:List Frame}{w:World}(hb:Ih P Q fr above w):PI P F S fr above w→Iq σ fn0 fr above→∀(gq:Rn) (n₀:Nat) (ρ:Rn) (W:World),gp P S ρ w W→n₀≤w.heap.size→(∀r,r<n₀→ρ r=gq r)→aj P main ro (Li P F S Q σ k fn0 cs gq n₀) (Touch S.d ρ w) (G (sFJ σ k (bP ρ fr) above) (BX σ k (above.map (bP ρ))++cs)) W:=by
 induction hb with
 | @stop fr above w h=>
   intro hI hT gq n₀ ρ W hS hn ku;obtain⟨rfl,wh⟩:=hQ _ _ _ h;have hfn:fr.fn=fn0:=hT.1;refine .stop λaF hr=>⟨fr,w,_,wh,hfn,.stop h,hI,hS.rely hr,cv.symm,?_,hn,λr hlt=>by rw[aR (by omega)];exact ku r hlt⟩;show G (eD σ k (bP ρ fr)) ([]++cs)=_;rw[dw (P:=P) (S:=S) (n:=w.heap.size) (fr:=fr) hI.cl (ρ:=ρ) (ρ':=cL ρ w.heap.size aF.heap.size) (λr hlt=>(aR hlt).symm) (λ_=>rfl)];rfl
 | @step fr above w nf na nw ne h1 h2 ih=>
   intro hI hT gq n₀ ρ W hS hn ku;by_cases hend:above=[]∧(uz fr []∨fr.mode=.returning)
   ·obtain⟨rfl,wh⟩:=hend;have hfn:fr.fn=fn0:=hT.1;refine .stop λaF hr=>⟨fr,w,_,wh,hfn,.step nf na nw ne h1 h2,hI,hS.rely hr,cv.symm,?_,hn,λr hlt=>by rw[aR (by omega)];exact ku r hlt⟩;show G (eD σ k (bP ρ fr)) ([]++cs)=_;rw[dw (P:=P) (S:=S) (n:=w.heap.size) (fr:=fr) hI.cl (ρ:=ρ) (ρ':=cL ρ w.heap.size aF.heap.size) (λr hlt=>(aR hlt).symm) (λ_=>rfl)];rfl
   ·refine aj.step' rfl λaF hr=>?_;have hS1:=hS.rely hr;generalize nV:cL ρ w.heap.size aF.heap.size=bO at hS1;have vR:∀r,r<w.heap.size→bO r=ρ r:=λr hlt=>by rw[←nV];exact aR hlt
    have xZ:∀x,bO.f x=ρ.f x:=λx=>by rw[←nV];rfl
    have hrun:=h1 aF.tape aF.drawn;have hW:WR P S bO (w.re aF.tape aF.drawn) aF:=⟨hS1.wr.live,hS1.wr.ok,hS1.wr.dead,hS1.wr.closed,hS1.wr.next,hS1.wr.low,hS1.wr.big⟩;have K9:=hI.re aF.tape aF.drawn;have hpl:Plain P bO:=⟨λt i v a b=>hC.zero t i v a b _,hS1.inj⟩;have vP:=vL (ρ:=bO) hC hpl hS1.fix K9.ok K9.oks (λv _=> .inl hS1.jE) (λv hv=>iv (K9.cl v hv));obtain⟨bb,W2,es',r1,⟨rfl,o1,o2⟩,r3,q1,q2,r6⟩:=dm hpl (λo=> .inl hS1.jE) _ _ _ (λn=>FF P F S (sg S S.d n)) (w.re aF.tape aF.drawn) aF #[] #[] _ _ _ vP (oQ hC K9) hW (λj _ q=>rfl) hrun;have q3:∀e∈es',lU S.d bO (nw aF.tape aF.drawn) e:=λe he=>(r6 e he).resolve_left (by simp);have XE:=(dY hC K9 hrun).1;have KT:gp P S bO (w.re aF.tape aF.drawn) aF:=⟨hW,hS1.inj,hS1.jE,hS1.f,hS1.nB⟩;have pA:gp P S bO (nw aF.tape aF.drawn) W2:=⟨q1,hS1.inj,hS1.jE,hS1.f,by have:=hS1.nB;have h3:=q2.size;have h4:=q2.fZ;omega⟩;have hgrow:Touch S.d bO (nw aF.tape aF.drawn)=Grow (Touch S.d ρ w) aF W2:=by
     rw[pW KT q2];have:Touch S.d bO (w.re aF.tape aF.drawn)=Touch S.d ρ w:=by
      rw[←nV];exact cv
     rw[this]
    have DR:bP ρ fr=bP bO fr:=dw hI.cl (λr hlt=>(vR r hlt).symm) (λx=>(xZ x).symm);have hab:above.map (bP ρ)=above.map (bP bO):=eO (λr hlt=>(vR r hlt).symm) (λx=>(xZ x).symm) hI.cls;obtain⟨uR,q4⟩:=EC (k:=k) (ρ:=bO) hI.ok hI.oks hT (λe=>by
     subst e;rcases hT.2 with hm|⟨l,hl,hj⟩
     ·exact absurd ⟨rfl,.inr hm⟩ hend
     ·cases l with
      |nil=>exact absurd ⟨rfl,.inl hl⟩ hend
      |cons h l=>exact⟨h,l,hl,hj⟩) hrun r1 main cs
    refine⟨_,W2,_,by rw[DR,hab];exact q4,⟨q2.tape,q2.os,q2.output,by have h3:=q2.size;have h4:=q2.fZ;simp only[World.re]at h3 h4;omega,λb hb Tu=>?_,λe he=>?_⟩,?_⟩
    ·refine q2.frame b hb λht=>?_;rw[hgrow]at ht;rcases ht with h|⟨h,_⟩
     ·exact Tu h
     ·omega
    ·have:=q3 e (mem_seen he);unfold lU at this;unfold yO;rw[←hgrow];cases hl:e.loc<;>simp only[hl]at this ⊢<;>first|exact .inl this|exact this
    ·rw[←hgrow];refine ih aF.tape aF.drawn XE uR gq n₀ bO W2 pA ?_ λr hlt=>(vR r (by omega)).trans (ku r hlt);have h4:=q2.fZ;simp only[World.re]at h4;omega
end
section
variable {P:Program}{F:FuncId→Bool}{S:Sd}{Ψ:bq}{σ:List (Nat×Value)}{w:World}{b:Frame}{a:Act}{k:List Item}
def NT (P:Program)(S:Sd)(Ψ:bq)(fr:Act→Frame)(a:Act)(w:World):Prop:=
 ∀(ρ:Rn) (W:World) (gs:Array Goroutine) (sl:Option (Nat×Nat)) (t:Trace) (q:Nat→Nat) (Shun:Loc→Prop),gp P S ρ w W→pI P S w.heap.size a→
  gs[0]?=some (G (fr (a.rn ρ)) Ψ.bot)→Leavers P t gs q→Past Shun W.heap.size t→NS Shun Ψ.ro (Touch S.d ρ w) W→Ad Ψ W→(∀x,Touch S.d ρ w x→Ψ.base.heap.size≤x∨Ψ.mine x)→se Ψ.n0 Ψ.r0 w ρ→se Ψ.an Ψ.ar w ρ→Reach P (crowd gs W sl) t Ψ.at_
def Ir (P:Program)(S:Sd)(Ψ:bq)(b:Frame)(σ:List (Nat×Value))(a:Act)(k:List Item)(w:World):Prop:=NT P S Ψ (λA=>eC b (ew σ A) k) a w
theorem NT.re {fr:Act→Frame}{w':World}(h:NT P S Ψ fr a w)(e:w'.heap=w.heap):NT P S Ψ fr a w':=by
 intro ρ W gs sl t q Shun hS hc h0 hL hP hN hO hT ku ly;have Gn:gp P S ρ w W:=hS.XH e.symm;have ht:Touch S.d ρ w'=Touch S.d ρ w:=by unfold Touch;rw[e]
 rw[e]at hc;rw[ht]at hN hT;exact h ρ W gs sl t q Shun Gn hc h0 hL hP hN hO hT ⟨by have:=ku.size;rwa[e]at this,ku.same⟩ ⟨by have:=ly.size;rwa[e]at this,ly.same⟩
theorem bg.re {w':World}(h:bg P S Ψ b σ a k w)(e:w'.heap=w.heap):bg P S Ψ b σ a k w':=NT.re (fr:=λA=>b.at (ew σ A) k) h e
theorem Ir.re {w':World}(h:Ir P S Ψ b σ a k w)(e:w'.heap=w.heap):Ir P S Ψ b σ a k w':=NT.re (fr:=λA=>eC b (ew σ A) k) h e
def Si (P:Program)(S:Sd)(Good:(Act→Frame)→Act→World→Prop)(bot:List Frame)(n0:Nat)(r0:Rn)(own:Nat→Prop)(g:Goroutine)(W:World):Prop:=
 ∃fr a w ρ,Good fr a w∧gp P S ρ w W∧(∀x,Touch S.d ρ w x→own x)∧g=G (fr (a.rn ρ)) bot∧pI P S w.heap.size a∧se n0 r0 w ρ
theorem aj.fo {W:World}{ρ:Rn}{main:Bool}{ro own:Nat→Prop}{Good:(Act→Frame)→Act→World→Prop}{bot:List Frame}{n0:Nat}{r0:Rn}{fr:Act→Frame}(hG:Good fr a w)(hS:gp P S ρ w W)(hown:∀x,Touch S.d ρ w x→own x)(hc:pI P S w.heap.size a)(h0:se n0 r0 w ρ):aj P main ro (Si P S Good bot n0 r0) own (G (fr (a.rn ρ)) bot) W:=by
 refine .stop λaF hr=>⟨fr,a,w,cL ρ w.heap.size aF.heap.size,hG,hS.grow hr.size λx hx=>hr.block x (.inl (hown x hx)),λx hx=>hown x (by rwa[cv]at hx),?_,hc,⟨h0.size,λr hr=>by rw[aR (zaq hr h0.size)];exact h0.same r hr⟩⟩;rw[n7 hc (ρ:=ρ) (ρ':=cL ρ w.heap.size aF.heap.size) (λr hlt=>(aR hlt).symm) (λ_=>rfl)]
theorem NT.walk {fr:Act→Frame}(h:∀ρ W,gp P S ρ w W→pI P S w.heap.size a→nC Ψ.ro (Touch S.d ρ w) W→Ad Ψ W→aj P true Ψ.ro (Si P S (NT P S Ψ) Ψ.bot w.heap.size ρ) (Touch S.d ρ w) (G (fr (a.rn ρ)) Ψ.bot) W):NT P S Ψ fr a w:=by
 intro ρ W gs sl t q Shun hS hc h0 hL hP hN hO hT ku ly;refine(iK (h ρ W hS hc ⟨λb hb=>hb.elim (hN.NQ b) (hN.DT b),λb hb ht=>(hT b ht).elim (λh1=>by have:=(Ψ.l6 b hb).1;omega) λ⟨r,h1,h2,e⟩=>(Ψ.l6 b hb).2 r h1 h2 e⟩ hO) W (bV.refl _ _ _) gs sl t q h0 hL hP hN).bind ?_;rintro m t' ⟨gs',own',a',w',sl',q',rfl,_,vV,hst,Eu,Es,K5,_,pz,hK⟩;obtain⟨fr2,a2,w2,vW,hG,pA,hown,rfl,hc2,vX⟩:=hst w' (bV.refl _ _ _);have hsz:=hO.size;exact hG vW w' gs' sl' t' q' Shun pA hc2 vV Eu Es (K5.sub hown)
  ⟨hK.tape.trans hO.tape,hK.os.trans hO.os,hK.output.trans hO.output,zad hsz hK.size,λb hb hm=>(hK.block b (by omega) λht=>(hT b ht).elim (λh=>by omega) hm).trans (hO.block b hb hm)⟩
  (λx hx=>(pz x (hown x hx)).elim (hT x) λe=> .inl (by omega)) ⟨zad ku.size vX.size,λr hr=>(vX.same r (zaq hr ku.size)).trans (ku.same r hr)⟩ ⟨zad ly.size vX.size,λr hr=>(vX.same r (zaq hr ly.size)).trans (ly.same r hr)⟩
def Al (P:Program)(S:Sd)(Ψ:bq)(b:Frame)(σ:List (Nat×Value))(k:List Item)(f:Frame)(ab:List Frame)(w:World):Prop:=
 ab=[]∧((uz f []∧bg P S Ψ b σ ⟨f.tmps,f.defers⟩ k w)∨(f.mode=.returning∧∀todo,Ir P S Ψ b σ ⟨f.tmps,f.defers⟩ todo w))
theorem bg.item (hC:jB P F S){x:Item}(cC:aB P F S x=true)(hj:fP σ x=true)(hk:b.kind=.normal)(hfn:∃f,P.funcs[b.fn]?=some f)(hd:a.defers=[])
 (h:∀τ,(∃a' w',bg P S Ψ b σ a' k w'∧Steps P (Go.lone (b.at a [x,gG]) [c0 P] (w.re τ 0)) (Go.lone (b.at a' [gG]) [c0 P] w'))∨∃a' w' todo,(∀todo,Ir P S Ψ b σ a' todo w')∧Steps P (Go.lone (b.at a [x,gG]) [c0 P] (w.re τ 0)) (Go.lone { b.at a' todo with mode:= .returning } [c0 P] w')):bg P S Ψ b σ a (x::k) w:=
 NT.walk (fr:=λA=>b.at (ew σ A) (x::k)) λρ W hS hc _ _=>by
  have hI:PI P F S (b.at a [x,gG]) [] w:=⟨⟨hd,.inl rfl,hk,rfl,by show[x,gG].all _=true;simp only[zaf,List.all_nil,cC,zaW,zba];rfl,hfn⟩,by simp,hc,by simp,hS.self⟩;have hT:∀τ:Tp,∃n f a1 w',lZ P n (b.at a [x,gG]) [] (w.re τ 0) f a1 w'∧Al P S Ψ b σ k f a1 w':=λτ=>by
   rcases h τ with⟨a',w',hK,n,hn⟩|⟨a',w',todo,hK,n,hn⟩
   ·obtain⟨m,hm⟩:=ju hC n _ [] (w.re τ 0) _ w' (hI.re τ 0) hn (λch e=>by cases e);exact⟨m,_,[],w',hm,rfl,.inl ⟨⟨rfl,rfl⟩,hK⟩⟩
   ·obtain⟨m,hm⟩:=ju hC n _ [] (w.re τ 0) _ w' (hI.re τ 0) hn (λch e=>by cases e);exact⟨m,_,[],w',hm,rfl,.inr ⟨rfl,hK⟩⟩
  have KV:=nU (Q:=Al P S Ψ b σ k) hC (λf a1 w τ d _ hx=>⟨hx.1,hx.2.imp (λq=>⟨q.1,q.2.re rfl⟩) λq=>⟨q.1,λtodo=>(q.2 todo).re rfl⟩⟩) hI hT;have key:=BZ (σ:=σ) (k:=k) (fn0:=b.fn) (main:=true) (ro:=Ψ.ro) (cs:=Ψ.bot) hC (λf a1 w' hx=>⟨hx.1,hx.2.imp (·.1) (·.1)⟩) KV hI ⟨rfl,.inr ⟨[x],⟨rfl,rfl⟩,by simp[hj]⟩⟩ ρ w.heap.size ρ W hS (zaa _) (λ_ _=>rfl);have e0:eD σ k (bP ρ (b.at a [x,gG]))=b.at (ew σ (a.rn ρ)) (x::k):=by rw[wo];rfl
  have key:aj P true Ψ.ro (Li P F S (Al P S Ψ b σ k) σ k b.fn Ψ.bot ρ w.heap.size) (Touch S.d ρ w) (G (b.at (ew σ (a.rn ρ)) (x::k)) Ψ.bot) W:=by rw[←e0];exact key
  refine aj.bind key λown g W' hst=>?_;obtain⟨uS,w1,uT,hb1,xZ,Lb,zY,hS1,rfl,rfl,hn,nI⟩:=hst;have TJ:Al P S Ψ b σ k uS [] w1:=by
   cases Lb with
   |stop hx=>exact hx
   |step nf na nw ne h1 h2=>
    exfalso;have hr:=h1 w1.tape 0;rcases hb1 with hb1|hb1
    ·obtain⟨fn0,tmps,todo,defers,mode,kind,jC⟩:=uS;obtain⟨ht,hm⟩:=hb1;simp only[List.nil_append]at ht hm;subst ht hm;simp[aL,stuck]at hr
    ·exact BU (by rw[hb1];simp) hr
  rcases TJ.2 with⟨wh,hK⟩|⟨Ld,hK⟩
  ·have TK:eD σ k (bP uT uS)=b.at (ew σ ((⟨uS.tmps,uS.defers⟩:Act).rn uT)) k:=by
    rw[wo];obtain⟨fn0,tmps,todo,defers,mode,kind,jC⟩:=uS;obtain⟨ht,hm⟩:=wh;have h3:kind=.normal:=zY.ok.kind;have h4:jC=none:=zY.ok.round;simp only[List.nil_append]at ht hm xZ;subst ht hm h3 h4 xZ;simp[eD,Frame.at,hk,bP,Act.rn]
   rw[TK];exact aj.fo (fr:=λA=>b.at (ew σ A) k) hK hS1 (λ_ h=>h) zY.cl ⟨hn,nI⟩
  ·have TK:eD σ k (bP uT uS)=eC b (ew σ ((⟨uS.tmps,uS.defers⟩:Act).rn uT)) (uS.todo.dropLast++k):=by
    rw[wo];obtain⟨fn0,tmps,todo,defers,mode,kind,jC⟩:=uS;have h3:kind=.normal:=zY.ok.kind;have h4:jC=none:=zY.ok.round;simp only at Ld xZ;subst Ld h3 h4 xZ;simp[eD,eC,Frame.at,hk,bP,Act.rn]
   rw[TK];exact aj.fo (fr:=λA=>eC b (ew σ A) (uS.todo.dropLast++k)) (hK _) hS1 (λ_ h=>h) zY.cl ⟨hn,nI⟩
def Lj (P:Program)(S:Sd)(Ψ:bq)(b:Frame)(σ:List (Nat×Value))(k:List Item):Exit→Act→World→Prop
 |.normal,a,w=>bg P S Ψ b σ a k w
 |.ret,a,w=>∀todo,Ir P S Ψ b σ a todo w
 |_,_,_=>False
theorem bg.code (hC:jB P F S){c:Code}(cC:bh P F S c=true)(hj:iw σ c=true)(hk:b.kind=.normal)(hfn:∃f,P.funcs[b.fn]?=some f)(hd:a.defers=[])
 (h:∀τ d,c.wp P (Lj P S Ψ b σ k) a (w.re τ d)):bg P S Ψ b σ a (.code c::k) w:=
 bg.item hC cC hj hk hfn hd λτ=>by
  obtain⟨e,a',w',hK,lz⟩:=h τ 0 b [gG] [c0 P];cases e with
  |normal=>exact .inl ⟨a',w',hK,lz⟩
  |ret=>obtain⟨todo,hs⟩:=lz;exact .inr ⟨a',w',todo,hK,hs⟩
  |_=>exact hK.elim
theorem bg.ops (hC:jB P F S){ops:Array Oper}(hk:b.kind=.normal)(hfn:∃f,P.funcs[b.fn]?=some f)(hd:a.defers=[]){l:List Nat}(cC:(l.all λi=>(ops[i]?).all λo=>eN P F S o.op)=true)(hj:(l.all λi=>(ops[i]?).all (fw σ ops))=true)(i:Nat)(rest:List Oper)(hl:l=List.range' i rest.length)(hr:∀j,rest[j]?=ops[i+j]?)
 (h:∀τ d,wpList P ops (Lj P S Ψ b σ k) rest a (w.re τ d)):bg P S Ψ b σ a (.inRegion ops l::k) w:=
 bg.item hC cC hj hk hfn hd λτ=>by
  have h0:=h τ 0;rw[←wpOps_eq_wpList rest i hr,←hl]at h0;obtain⟨e,a',w',hK,lz⟩:=wp_ops l a (w.re τ 0) h0 b [gG] [c0 P];cases e with
  |normal=>exact .inl ⟨a',w',hK,lz⟩
  |ret=>obtain⟨todo,hs⟩:=lz;exact .inr ⟨a',w',todo,hK,hs⟩
  |_=>exact hK.elim
end
end Go.Ren
