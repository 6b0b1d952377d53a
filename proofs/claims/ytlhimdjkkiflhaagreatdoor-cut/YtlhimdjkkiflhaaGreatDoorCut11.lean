import Derived.Test.YtlhimdjkkiflhaaGreatDoorCut10
set_option maxHeartbeats 8000000
set_option maxRecDepth 100000
namespace Go.Ren
open Go Go.Conc
def bq.under (Ψ:bq)(F:Frame)(n:Nat)(ρ:Rn):bq:={ Ψ with bot:=F::Ψ.bot,an:=n,ar:=ρ }
section
variable {P:Program}{F:FuncId→Bool}{S:Sd}{Ψ:bq}{σ:List (Nat×Value)}{b:Frame}{a:Act}{w:World}{ops:Array Oper}{i:Nat}{rest:List Nat}{o:Oper}{kk:List Item}
theorem bg.call (ho:ops[i]?=some o)(hw:∀ρ,Region.wanted o (yielded ops (ew σ (a.rn ρ)).tmps)=true)(hk:b.kind≠.early){f:FuncId}{xs:Array Operand}{ats:Array TypeId}(hop:o.op=.call { callee:= .value (.func f),args:=xs,argTypes:=ats })
 (pZ:(P.funcs[f]?).any (λfn=>fn.body.isSome)=true)(Ew:(P.funcs[f]?).any (λfn=>fn.name != "runtime.NumGoroutine")=true)(hx:xs.all (gL S)=true)(hj:xs.all (eR σ)=true)
 (h:∀ρ:Rn,(∀x,ρ.f x=x)→Ψ.an≤w.heap.size→(∀r,r<Ψ.an→ρ r=Ψ.ar r)→pI P S w.heap.size a→af P S (Ψ.under (b.at (ew σ (a.rn ρ)) (.inRegion ops (i::rest)::kk)) w.heap.size ρ) (Frame.enter P f (xs.map a.eval) .normal) [] w):bg P S Ψ b σ a (.inRegion ops (i::rest)::kk) w:=by
 intro ρ W gs sl t q Shun hS hc h0 hL hP hN hO hT ku ly;have rj:xs.map (ew σ (a.rn ρ)).eval=(xs.map a.eval).map (rv ρ):=by
  rw[←Gt hS.fix hx];exact Array.map_congr_left λx hm=>ri (zbr.1 hj x hm) _
 have hW:aj P true Ψ.ro (Et P S (af P S (Ψ.under (b.at (ew σ (a.rn ρ)) (.inRegion ops (i::rest)::kk)) w.heap.size ρ)) (b.at (ew σ (a.rn ρ)) (.inRegion ops (i::rest)::kk)::Ψ.bot) w.heap.size ρ) (Touch S.d ρ w) (G (b.at (ew σ (a.rn ρ)) (.inRegion ops (i::rest)::kk)) Ψ.bot) W:=by
  refine aj.silent rfl (λaF=>?_) (aj.co (h ρ hS.f ly.size ly.same hc) hS (λ_ h=>h) (BR (Gu (P:=P) hS.wr.big.g hc hx)) (λf hf=>by cases hf) (se.refl _ _));rw[←iu,←rj];exact tL ho (hw ρ) hk hop pZ Ew
 refine(iK hW W (bV.refl _ _ _) gs sl t q h0 hL hP hN).bind ?_;rintro m t' ⟨gs',own',a',w',sl',q',rfl,_,vV,hst,Eu,Es,K5,_,pz,hK⟩;obtain⟨fr2,cs2,w2,vW,hG,pA,hown,rfl,hc2,TD,vX⟩:=hst w' (bV.refl _ _ _);have hsz:=hO.size;exact hG vW w' gs' sl' t' q' Shun pA hc2 TD vV Eu Es (K5.sub hown)
  ⟨hK.tape.trans hO.tape,hK.os.trans hO.os,hK.output.trans hO.output,zad hsz hK.size,λb hb hm=>(hK.block b (by have:b<Ψ.base.heap.size:=hb;omega) λht=>(hT b ht).elim (λh=>by have:b<Ψ.base.heap.size:=hb;omega) hm).trans (hO.block b hb hm)⟩
  (λx hx=>(pz x (hown x hx)).elim (hT x) λe=> .inl (by show Ψ.base.heap.size≤x;omega)) ⟨zad ku.size vX.size,λr hr=>(vX.same r (zaq hr ku.size)).trans (ku.same r hr)⟩ vX
theorem af.TL (hC:jB P F S){n:Nat}{r0:Rn}{fn:Func}{todo:List Item}{v:Value}{b0:Frame}{a0:Act}(hn:b0.kind=.normal)(hd:a0.defers=[])(hf:P.funcs[b0.fn]?=some fn)(hr:(results fn a0.tmps).run P w=.ok v w)
 (eG:pI P S n a){d:Tmp}(TM:(ops[i]?).bind (·.dst)=some d)(xP:eR σ (.tmp d)=true)(tP:∀x,r0.f x=x)(ha1:Ψ.an≤n)(ha2:∀r,r<Ψ.an→r0 r=Ψ.ar r)
 (h:bg P S Ψ b σ (a.put (some d) v) (.inRegion ops rest::kk) w):af P S (Ψ.under (b.at (ew σ (a.rn r0)) (.inRegion ops (i::rest)::kk)) n r0) (eC b0 a0 todo) [] w:=by
 intro ρ W gs sl t q Shun hS hc hcs h0 hL hP hN hO hT ku ly;have ly:se n r0 w ρ:=ly;have hO:Ad Ψ W:=⟨hO.tape,hO.os,hO.output,hO.size,hO.block⟩;have hT:∀x,Touch S.d ρ w x→Ψ.base.heap.size≤x∨Ψ.mine x:=hT;have ku:se Ψ.n0 Ψ.r0 w ρ:=ku;have hN:NS Shun Ψ.ro (Touch S.d ρ w) W:=hN;have TN:se Ψ.an Ψ.ar w ρ:=⟨zad ha1 ly.size,λr hr=>(ly.same r (zaq hr ha1)).trans (ha2 r hr)⟩;have XU:pI P S w.heap.size a:=λx hx=>ek (cR ly.size).1 (cR ly.size).2 x (eG x hx);have TP:a.rn r0=a.rn ρ:=n7 eG (λr hr=>(ly.same r hr).symm) (λx=>by rw[tP,hS.f]);have hW:aj P true Ψ.ro (Lh P S (bg P S Ψ b) b Ψ.bot w.heap.size ρ) (Touch S.d ρ w) (G (bP ρ (eC b0 a0 todo)) (b.at (ew σ (a.rn r0)) (.inRegion ops (i::rest)::kk)::Ψ.bot)) W:=by
  refine aj.step' rfl λaF hr1=>?_;have hS1:=hS.rely hr1;obtain⟨hv,es,hstep,gi⟩:=wj (main:=true) (fr:=eC b0 a0 []) hC (BV hn hd ⟨fn,hf⟩ rfl) hc hS1 rfl hf hr (b.at (ew σ (a.rn r0)) (.inRegion ops (i::rest)::kk)) Ψ.bot;have nI:∀r,r<w.heap.size→cL ρ w.heap.size aF.heap.size r=ρ r:=λr hlt=>aR hlt;have e0:bP ρ (eC b0 a0 todo)=bP (cL ρ w.heap.size aF.heap.size) (eC b0 a0 todo):=dw hc (λr hlt=>(nI r hlt).symm) (λ_=>rfl);have e1:a.rn r0=a.rn (cL ρ w.heap.size aF.heap.size):=TP.trans (n7 XU (λr hr=>(nI r hr).symm) (λ_=>rfl));have nS:(b.at (ew σ (a.rn r0)) (.inRegion ops (i::rest)::kk)).finish (rv (cL ρ w.heap.size aF.heap.size) v)=b.at (ew σ ((a.put (some d) v).rn (cL ρ w.heap.size aF.heap.size))) (.inRegion ops rest::kk):=by
   rw[Frame.finish_at,TM,e1,mI d _ σ _ (eZ xP),nZ]
  rw[nS]at hstep;refine⟨_,aF,es,by rw[e0,Gs];exact yT (a:=a0.rn (cL ρ w.heap.size aF.heap.size)) [] todo hn hd hstep,⟨rfl,rfl,rfl,zaa _,λ_ _ _=>rfl,λe he=>?_⟩,?_⟩
  ·have:=l5 (ro:=Ψ.ro) (gi e he);rw[cv]at this;exact this.mono λb hb=> .inl hb
  ·rw[jf _ rfl];exact aj.jo h hS1 (λx hx=>by rwa[cv]at hx) (pI.put (P:=P) XU (some d) hv) ⟨zaa _,λr hr=>aR hr⟩
 refine(iK hW W (bV.refl _ _ _) gs sl t q h0 hL hP hN).bind ?_;rintro m t' ⟨gs',own',a',w',sl',q',rfl,_,vV,hst,Eu,Es,K5,_,pz,hK⟩;obtain⟨Kf,a2,k2,w2,vW,hG,pA,hown,rfl,hc2,vX⟩:=hst w' (bV.refl _ _ _);have hsz:=hO.size;exact hG vW w' gs' sl' t' q' Shun pA hc2 vV Eu Es (K5.sub hown)
  ⟨hK.tape.trans hO.tape,hK.os.trans hO.os,hK.output.trans hO.output,zad hsz hK.size,λb hb hm=>(hK.block b (by omega) λht=>(hT b ht).elim (λh=>by omega) hm).trans (hO.block b hb hm)⟩
  (λx hx=>(pz x (hown x hx)).elim (hT x) λe=> .inl (by omega)) ⟨zad ku.size vX.size,λr hr=>(vX.same r (zaq hr ku.size)).trans (ku.same r hr)⟩ ⟨zad TN.size vX.size,λr hr=>(vX.same r (zaq hr TN.size)).trans (TN.same r hr)⟩
end
section
variable {P:Program}{F:FuncId→Bool}{S:Sd}{Post:Value→World→Prop}{W:World}
def wq (P:Program)(W:World)(lo n0:Nat)(r0:Rn)(Post:Value→World→Prop):bq:=
 { base:=W,lo:=lo,n0:=n0,r0:=r0,at_:=λm t=>∃gs g W' sl q Shun,m=crowd gs W' sl∧gs[0]?=some g∧Leavers P t gs q∧Past Shun W'.heap.size t∧∀d,AtEnd P Shun W'.heap.size Post g (W'.at d) }
theorem yV {m m1:Machine}{t t1:Trace}{N:Nat}(h:runNT P N m t=(.next m1,t1))(K:Nat):runNT P (N+K) m t=runNT P K m1 t1:=by
 induction N generalizing m t with
 |zero=>
  simp only[runNT,zab,Stepped.next.injEq]at h;obtain⟨rfl,rfl⟩:=h;rw[Nat.zero_add]
 |succ N ih=>
  rw[show N+1+K=(N+K)+1 by omega];simp only[runNT]at h ⊢;cases hs:stepT P m with
  |mk e ops=>
   rw[hs]at h;cases e with
   |next m2=>exact ih h
   |_=>simp at h
theorem OO {ρ r0:Rn}{w w0 W':World}(OP:gp P S r0 w0 W)(hO:Ad (wq P W S.d w0.heap.size r0 Post) W')(hS:gp P S ρ w W')(ku:se w0.heap.size r0 w ρ)(hB:∀r,r<w0.heap.size→w.heap[r]?=w0.heap[r]?){b:Nat}(hb:b<W.heap.size):W'.heap[b]?=W.heap[b]?:=by
 by_cases hm:(wq P W S.d w0.heap.size r0 Post).mine b
 ·obtain⟨r,h1,h2,rfl⟩:=hm;have NU:S.d≤r:=h1;have jr:r<w0.heap.size:=h2;have ho:w0.heap[r]?=some w0.heap[r]:=zar jr;have e1:=OP.wr.live r _ NU ho;have e2:=hS.wr.live r _ NU ((hB r jr).trans ho);rw[ku.same r jr]at e2;show W'.heap[r0 r]?=W.heap[r0 r]?
  rw[e1,e2]
  congr 1
  exact sw (σ:=sg S S.d w0.heap.size) (λx hx=>ku.same x (bW.1 hx).2) (λx _=>by rw[hS.f,OP.f]) (OP.wr.closed r _ NU ho)
 ·exact hO.block b hb hm
def Ll (P:Program)(S:Sd)(W:World):World:={ W with heap:=(Array.range P.globals.size).map λr=>if r<S.d then iG else(W.heap[r]?).getD iG }
theorem wu (W:World):(Ll P S W).heap.size=P.globals.size:=by simp[Ll]
theorem Am (W:World){r:Nat}(h:r<P.globals.size):(Ll P S W).heap[r]?=some (if r<S.d then iG else(W.heap[r]?).getD iG):=by
 simp only[Ll,zal];rw[zar (by simpa using h)];simp
theorem n9 (hb:P.globals.size≤W.heap.size){r:Nat}(h1:S.d≤r)(h2:r<P.globals.size):(Ll P S W).heap[r]?=W.heap[r]?:=by
 rw[Am W h2,if_neg (by omega),zar (by omega:r<W.heap.size)];rfl
theorem OQ (hd:S.d≤P.globals.size)(hg:S.g≤P.globals.size)(hb:P.globals.size≤W.heap.size)(hl:∀r o,S.d≤r→r<P.globals.size→W.heap[r]?=some o→lO o∧∀ρ:Rn,ro ρ o=o):gp P S (cL jD P.globals.size W.heap.size) (Ll P S W) W:=by
 have hs:=wu (P:=P) (S:=S) W;refine⟨⟨λr o js ho=>?_,λr o ho=>?_,λr hr=>?_,λr o js ho=>?_,λr hr=>by rw[hs]at hr ⊢;exact eu hr,λr h1 h2=>?_,⟨by omega,by omega,zaj _,by omega,hd,λg h1 h2=>aR (by omega),λg h1=> .inr (aR (by omega))⟩⟩,λa b e=>?_,λr=>?_,λ_=>rfl,hb⟩
 ·have hlt:=gh ho;rw[hs]at hlt;rw[n9 hb js hlt]at ho;rw[aR hlt,(hl r o js hlt ho).2];exact ho
 ·have hlt:=gh ho;rw[hs]at hlt;rcases zag r S.d with h|h
  ·rw[Am W hlt,if_pos h]at ho;cases ho;trivial
  ·rw[n9 hb h hlt]at ho;exact(hl r o h hlt ho).1
 ·rw[Am W (by omega),if_pos hr]
 ·have hlt:=gh ho;rw[hs]at hlt;rw[n9 hb js hlt]at ho;exact(hl r o js hlt ho).2 _
 ·rw[hs]at h2;rw[aR h2];show r<_;omega
 ·rcases zag a P.globals.size with ha|ha<;>rcases zag b P.globals.size with hb'|hb'
  ·rw[aR ha,aR hb']at e;exact e
  ·rw[aR ha,eu hb']at e;have:jD.b a=a:=rfl;omega
  ·rw[eu ha,aR hb']at e;have:jD.b b=b:=rfl;omega
  ·rw[eu ha,eu hb']at e;omega
 ·rcases zag r P.globals.size with ha|ha
  ·rw[aR ha];exact Iff.rfl
  ·rw[eu ha];constructor<;>intro<;>omega
end
def ED (P:Program)(W:World)(lo n0:Nat)(r0:Rn)(ro:Nat→Prop)(l6:∀b,ro b→b<W.heap.size∧∀r,lo≤r→r<n0→b≠r0 r)(Post:Value→World→Prop):bq:=
 { wq P W lo n0 r0 Post with ro:=ro,l6:=l6 }
section
variable {P:Program}{F:FuncId→Bool}{S:Sd}{W:World}{Post:Value→World→Prop}
theorem B0 {f:FuncId}{args:Array Value}{w0:World}{r0:Rn}{ro:Nat→Prop}{l6:∀b,ro b→b<W.heap.size∧∀r,S.d≤r→r<w0.heap.size→b≠r0 r}{σ:List (Nat×Value)}{b:Frame}{a:Act}{k:List Item}(OP:gp P S r0 w0 W)(TQ:Frame.enter P f args .normal=b.at (ew σ (a.rn r0)) k)(ha:pI P S w0.heap.size a)(h:bg P S (ED P W S.d w0.heap.size r0 ro l6 Post) b σ a k w0):∃N last o w' t',runNT P (N+1) (solo (G (Frame.enter P f args .normal) []) W) #[]=(.ended o w',t')∧runN P N (solo (G (Frame.enter P f args .normal) []) W)=.next last∧step P last=.ended o w'∧Go.Conc.Good P Post last o w' t':=by
 have TR:=h r0 W #[G (Frame.enter P f args .normal) []] none #[] (λ_=>0) (λ_=>False) OP ha (by rw[TQ];rfl) (leavers_one P _) (past_nil.mono (zaj _)) ⟨λx ⟨r,_,h2,e⟩=>by rw[e];exact OP.low h2,λb hb=>(l6 b hb).1,λ_ _ hx=>hx,λ_ hx=>hx.elim⟩ ⟨rfl,rfl,rfl,zaa _,λ_ _ _=>rfl⟩ (λx ⟨r,h1,h2,e⟩=> .inr ⟨r,h1,h2,e⟩) ⟨zaa _,λ_ _=>rfl⟩ ⟨zaj _,λr hr=>absurd hr (Nat.not_lt_zero r)⟩;obtain⟨N0,m,t,hrun,gs,g,W',sl,q,Shun,rfl,h0,hL,hPa,hE⟩:=TR;obtain⟨N,last,o,w',t',r1,r2,r3,r4⟩:=beside_ends (P:=P) (Post:=Post) (Shun:=Shun) (B:=W'.heap.size) (D:=λ_ _ _=>False) (sl:=sl) (n:=0) (λ_ _ _ hx=>hx.elim) h0 hL hPa (λw₁ hw=>by obtain⟨d,rfl⟩:=hw;exact hE d);refine⟨N0+N,last,o,w',t',?_,?_,r3,r4⟩
 ·rw[show N0+N+1=N0+(N+1) by omega];exact(yV hrun (N+1)).trans r1
 ·have:=congrArg Prod.fst (yV hrun N);rw[runNT_fst,runNT_fst]at this;exact this.trans r2
end
theorem Ao (A:Act):∀(σ τ:List (Nat×Value)),ew (σ++τ) A=ew τ (ew σ A):=λσ τ=>by simp[ew,List.foldl_append]
theorem OS (A:Act)(d:Nat)(u v:Value):(A.put (some d) u).put (some d) v=A.put (some d) v:=by
 simp[Act.put]
theorem wx (Sj Kf:List (Nat×Value))(d:Nat)(x X:Value)(h:eR Kf (.tmp d)=true)(A:Act):(ew (Sj++(d,x)::Kf) A).put (some d) X=ew (Sj++(d,X)::Kf) A:=by
 rw[Ao,Ao];show(ew Kf ((ew Sj A).put (some d) x)).put (some d) X=ew Kf ((ew Sj A).put (some d) X);rw[mI d X Kf _ (eZ h),OS]
theorem B1:∀(σ:List (Nat×Value)) (A:Act),(ew σ A).tmps.size=A.tmps.size
 |[],_=>rfl
 |p::σ,A=>by
  show(ew σ (A.put (some p.1) p.2)).tmps.size=_;rw[B1 σ];simp[Act.put]
theorem mK (Sj Kf:List (Nat×Value))(d:Nat)(X:Value)(h:eR Kf (.tmp d)=true){A:Act}(hd:d<A.tmps.size):(ew (Sj++(d,X)::Kf) A).eval (.tmp d)=X:=by
 rw[Ao];show(ew Kf ((ew Sj A).put (some d) X)).eval (.tmp d)=X;rw[ri h];have:d<(ew Sj A).tmps.size:=by rw[B1];exact hd
 simp[Act.eval,Act.put,this]
section
variable {P:Program}{F:FuncId→Bool}{S:Sd}{Ψ:bq}{σ DO:List (Nat×Value)}{b:Frame}{a a':Act}{k:List Item}{w W:World}{ρ:Rn}
theorem oY (a:Act)(ρ:Rn):(a.rn ρ).tmps.size=a.tmps.size:=by simp[Act.rn]
theorem Lm {t:Nat}{z:Int}{ik:IntKind}(hj:eR σ (.tmp t)=true)(h:a.eval (.tmp t)=.int ik z):(ew σ (a.rn ρ)).eval (.tmp t)=.int ik z:=by
 rw[ri hj];show(a.tmps.map (rv ρ)).getD t undef=_;rw[getD_map];have h':a.tmps.getD t undef=.int ik z:=h;rw[h'];simp[rv]
theorem bg.sig (e:∀A:Act,ew σ A=ew DO A)(h:bg P S Ψ b DO a k w):bg P S Ψ b σ a k w:=by
 intro ρ W gs sl t q Shun hS hc h0;rw[e]at h0;exact h ρ W gs sl t q Shun hS hc h0
section
variable {ops:Array Oper}{i:Nat}{rest:List Nat}{o:Oper}{kk:List Item}
theorem bg.NV (hC:jB P F S)(ho:ops[i]?=some o)(hw:o.guard=none)(hk:b.kind≠.early)(cC:eN P F S o.op=true)(hj:fw σ ops o=true)(v:Value)(hx:∀w':World,w'.heap=w.heap→(execOp a.eval o).run P w'=.ok (.value v) w'){d:Tmp}(hd:o.dst=some d)(ha:a.put (some d) v=a')
 (h:bg P S Ψ b σ a' (.inRegion ops rest::kk) w):bg P S Ψ b σ a (.inRegion ops (i::rest)::kk) w:=by
 subst ha;have xP:eR σ (.tmp d)=true:=by
  have:=(jF hj).2.2;rw[hd]at this;exact this
 exact bg.BP hC cC ho (λρ=>by simp[Region.wanted,hw]) hk (jF hj).2.1 (jF hj).1 hd xP λτ dd=>⟨v,w.re τ dd,hx _ rfl,h.re rfl⟩
theorem bg.XV (ho:ops[i]?=some o)(hw:o.guard=none)(hk:b.kind≠.early){X:Value}(hrun:∀ρ W,(execOp (ew σ (a.rn ρ)).eval o).run P W=.ok (.value X) W)(gi:∀ρ W,(execOp (ew σ (a.rn ρ)).eval o).events P W #[]=#[]){d:Tmp}(hd:o.dst=some d)(hσ:∀A:Act,(ew σ A).put (some d) X=ew DO A)
 (h:bg P S Ψ b DO a (.inRegion ops rest::kk) w):bg P S Ψ b σ a (.inRegion ops (i::rest)::kk) w:=
 bg.raw ho (λρ=>by simp[Region.wanted,hw]) hk hrun gi hd (bg.sig (λA=>by rw[BW];exact hσ A) h)
theorem bg.mvS (ho:ops[i]?=some o)(hw:o.guard=none)(hk:b.kind≠.early){t d:Tmp}{X:Value}(hop:o.op=.move (.tmp t))(hX:∀A:Act,A.tmps.size=a.tmps.size→(ew σ A).eval (.tmp t)=X)(hd:o.dst=some d)(hσ:∀A:Act,(ew σ A).put (some d) X=ew DO A)
 (h:bg P S Ψ b DO a (.inRegion ops rest::kk) w):bg P S Ψ b σ a (.inRegion ops (i::rest)::kk) w:=
 bg.XV ho hw hk (λρ W=>by simp[execOp,hop,hX (a.rn ρ) (oY a ρ)]) (λρ W=>by simp[execOp,hop]) hd hσ h
theorem bg.yX (ho:ops[i]?=some o)(hw:o.guard=none)(hk:b.kind≠.early){X:Value}(hX:∀ρ:Rn,rv ρ X=X)(hrun:∀ρ W,(execOp (ew σ (a.rn ρ)).eval o).run P W=.ok (.value X) W)(gi:∀ρ W,(execOp (ew σ (a.rn ρ)).eval o).events P W #[]=#[]){d:Tmp}(hd:o.dst=some d)(xP:eR σ (.tmp d)=true)(ha:a.put (some d) X=a')
 (h:bg P S Ψ b σ a' (.inRegion ops rest::kk) w):bg P S Ψ b σ a (.inRegion ops (i::rest)::kk) w:=by
 subst ha;exact bg.bare ho (λρ=>by simp[Region.wanted,hw]) hk hX hrun gi hd xP h
def Iu (S:Sd)(Ψ:bq)(w:World)(ad:Addr)(v:Value):Prop:=(Ψ.ro ad.block∧Ψ.base.cell? ad=some v)∨(S.d≤ad.block∧ad.block<S.g∧w.cell? ad=some v)
theorem bg.XW (ho:ops[i]?=some o)(hw:o.guard=none)(hk:b.kind≠.early){e:TypeId}{x:Operand}(hop:o.op=.load e x){ad:Addr}(hx:∀ρ,(ew σ (a.rn ρ)).eval x=.pointer (some ad)){v:Value}(hr:Iu S Ψ w ad v)(hX:∀ρ:Rn,rv ρ v=v)
 (hl:∀(w:World),w.cell? ad=some v→(Instr.loadAt e (.pointer (some ad))).run P w=.ok v w∧∀ev∈(Instr.loadAt e (.pointer (some ad))).events P w #[],ev.loc=.cell ad∧ev.write=false){d:Tmp}(hd:o.dst=some d)(xP:eR σ (.tmp d)=true)(ha:a.put (some d) v=a')
 (h:bg P S Ψ b σ a' (.inRegion ops rest::kk) w):bg P S Ψ b σ a (.inRegion ops (i::rest)::kk) w:=by
 subst ha;rcases hr with⟨hr,hv⟩|⟨g1,g2,hv⟩
 ·exact bg.load ho (λρ=>by simp[Region.wanted,hw]) hk hop hx hr hv hX hl hd xP h
 ·refine bg.walk λρ W hS Ev _ _=>?_;have cF:ρ ad.block=ad.block:=hS.fix.g _ g1 g2;have hlt:ad.block<w.heap.size:=World.block_lt_of_cell? _ _ hv;have hown:Touch S.d ρ w ad.block:=⟨ad.block,g1,hlt,cF.symm⟩;have hc:W.cell? ad=some v:=by
   unfold World.cell? at hv ⊢;cases hh:w.heap[ad.block]? with
   |none=>rw[hh]at hv;cases hv
   |some o=>
    have:=hS.wr.live _ _ g1 hh;rw[cF]at this;rw[hh]at hv;rw[this];cases o with
    |cells c t f=>
     simp only[ro]at hv ⊢;split at hv
     ·cases hv
     ·rename_i hs;rw[if_neg hs,zal,hv,zaM,hX]
    |_=>cases hv
  have e2:(ew σ (a.rn ρ)).put (some d) v=ew σ ((a.put (some d) v).rn ρ):=by
   rw[mI d v σ _ (eZ xP),←nZ,hX]
  refine aj.step' rfl λaF hR=>?_;have hc1:aF.cell? ad=some v:=by
   rw[←hc];simp only[World.cell?,hR.block _ (.inl hown)]
  obtain⟨h1,h2⟩:=hl aF hc1;have hrun:(execOp (ew σ (a.rn ρ)).eval o).run P aF=.ok (.value v) aF:=by
   unfold execOp;simp[hop,hx ρ,h1]
  have gi:(execOp (ew σ (a.rn ρ)).eval o).events P aF #[]=(Instr.loadAt e (.pointer (some ad))).events P aF #[]:=by
   unfold execOp;simp[hop,hx ρ]
  refine⟨_,aF,_,stepG_value ho (by simp[Region.wanted,hw]) hk hrun,⟨rfl,rfl,rfl,zaa _,λ_ _ _=>rfl,λev he=>?_⟩,?_⟩
  ·unfold listed at he;rw[gi]at he;obtain⟨h3,h4⟩:=h2 ev (mem_seen he);unfold yO;rw[h3];exact .inl (.inl hown)
  ·rw[jf _ rfl,hd,e2];exact(aj.jo h hS (λ_ h=>h) (pI.put (P:=P) Ev (some d) (hX _)) (se.refl _ _)).rely hR
theorem bg.Sk (ho:ops[i]?=some o)(hw:o.guard=none)(hk:b.kind≠.early){f:FuncId}{xs:Array Operand}{ats:Array TypeId}(hop:o.op=.call { callee:= .value (.func f),args:=xs,argTypes:=ats })
 (pZ:(P.funcs[f]?).any (λfn=>fn.body.isSome)=true)(Ew:(P.funcs[f]?).any (λfn=>fn.name != "runtime.NumGoroutine")=true)(hx:xs.all (gL S)=true)(hj:xs.all (eR σ)=true){args:Array Value}(rj:xs.map a.eval=args)
 (h:∀ρ:Rn,(∀x,ρ.f x=x)→Ψ.an≤w.heap.size→(∀r,r<Ψ.an→ρ r=Ψ.ar r)→pI P S w.heap.size a→af P S (Ψ.under (b.at (ew σ (a.rn ρ)) (.inRegion ops (i::rest)::kk)) w.heap.size ρ) (Frame.enter P f args .normal) [] w):bg P S Ψ b σ a (.inRegion ops (i::rest)::kk) w:=by
 subst rj;exact bg.call ho (λρ=>by simp[Region.wanted,hw]) hk hop pZ Ew hx hj h
end
end
section
variable {P:Program}{F:FuncId→Bool}{S:Sd}{W:World}{Post:Value→World→Prop}
theorem Ir.last {lo n0:Nat}{r0:Rn}{ro:Nat→Prop}{l6:∀b,ro b→b<W.heap.size∧∀r,lo≤r→r<n0→b≠r0 r}{σ:List (Nat×Value)}{b:Frame}{a:Act}{k:List Item}{fn:Func}{v:Value}{w:World}(hn:b.kind=.normal)(hd:a.defers=[])(hf:P.funcs[b.fn]?=some fn)(hi:P.inits.idxOf? b.fn=none)
 (hr:∀(ρ:Rn) (W:World),(results fn (ew σ (a.rn ρ)).tmps).run P W=.ok v W)(he:∀(ρ:Rn) (W:World),(results fn (ew σ (a.rn ρ)).tmps).events P W #[]=#[])(hP:∀W' ρ,Ad (wq P W lo n0 r0 Post) W'→gp P S ρ w W'→se n0 r0 w ρ→Post v W'):Ir P S (ED P W lo n0 r0 ro l6 Post) b σ a k w:=by
 intro ρ w' gs' sl' t' q' Shun pA hc vV Eu Es hN hO hT aaB _;have Kg:Ad (wq P W lo n0 r0 Post) w':=⟨hO.tape,hO.os,hO.output,hO.size,hO.block⟩;refine Reach.here ⟨gs',_,w',sl',q',Shun,rfl,vV,Eu,Es,λd=>⟨rfl,v,#[],?_,by simp,hP _ ρ ⟨Kg.tape,Kg.os,Kg.output,Kg.size,Kg.block⟩ ⟨⟨pA.wr.live,pA.wr.ok,pA.wr.dead,pA.wr.closed,pA.wr.next,pA.wr.low,pA.wr.big⟩,pA.inj,pA.jE,pA.f,pA.nB⟩ aaB⟩⟩;have h1:=hr ρ (w'.at d);have h2:=he ρ (w'.at d);have h3:(ew σ (a.rn ρ)).defers=[]:=by rw[wo];exact hd
 show stepG P true (G (eC b (ew σ (a.rn ρ)) k) []) (w'.at d)=_;generalize ew σ (a.rn ρ)=A at h1 h2 h3 ⊢;simp[eC,Frame.at,G,stepG,unwind,doReturn,h3,hn,hf,hi,GStep.after,seen]at h1 h2 ⊢;simp[h1,h2]
end
end Go.Ren
namespace Go.Ren
open Go Go.Conc
open Go.ConcN (sumTo)
theorem ix {P:Program}{c:Nat}{a b:Goroutine}{Q:Machine→Trace→Prop}{J:World→Trace→Prop}(NP:awake a)(XN:awake b)(hrun:a.status=.running∨b.status=.running)
 (hJ:∀w t d ops,J w t→(∀op∈ops,op.act.touch? =none∧∀a,op.act≠.mark (.release a))→(∀B,∀op∈ops,op.act.low B)→Deaf (t++ops) 0=Deaf t 0→Deaf (t++ops) c=Deaf t c→J (w.at d) (t++ops))
 (hst:∀w t,J w t→BQ P w a∧BQ P w b)
 (H0:a.status=.running→∀gs w sl t q,eJ P c t gs q→gs[0]?=some a→gs[c]?=some b→J w t→∃m' ops,runT P (crowd gs w sl) 0=(.next m',ops)∧Reach P m' (t++ops) Q)
 (HC:b.status=.running→∀gs w sl t q,eJ P c t gs q→gs[0]?=some a→gs[c]?=some b→J w t→∃m' ops,runT P (crowd gs w sl) c=(.next m',ops)∧Reach P m' (t++ops) Q):
 ∀gs w sl t q,eJ P c t gs q→gs[0]?=some a→gs[c]?=some b→J w t→Reach P (crowd gs w sl) t Q:=by
 intro gs w sl t q hC h0 hc hj;generalize hM:sumTo c q=M
 induction M using Nat.strongRecOn generalizing gs w sl t q with
 |_ M ih=>
  have hd:∀w t d,J w t→J (w.at d) t:=λw t d h=>by
   have:=hJ w t d #[] h (by simp) (by simp) (by simp) (by simp);simpa using this
  rcases Eo (sl:=sl) hC h0 hc NP XN hrun (hst w t hj).1 (hst w t hj).2 with⟨hr,d,sl',hs⟩|⟨hr,d,sl',hs⟩|⟨gs',d,sl',ops,q',hs,hC',vV,hc',hlt,h1,h2,h3,h4⟩
  ·obtain⟨m',ops,e,hR⟩:=H0 hr gs (w.at d) sl' t q hC h0 hc (hd w t d hj);exact Reach.step (hs.trans e) hR
  ·obtain⟨m',ops,e,hR⟩:=HC hr gs (w.at d) sl' t q hC h0 hc (hd w t d hj);exact Reach.step (hs.trans e) hR
  ·exact Reach.step hs (ih _ (by omega) gs' (w.at d) sl' (t++ops) q' hC' vV hc' (hJ w t d ops hj h1 h2 h3 h4) rfl)
def iM (P:Program)(ch:Nat)(z:Value)(Next:(Nat→Prop)→Goroutine→World→Prop)(own:Nat→Prop)(g:Goroutine)(w:World):Prop:=
 g.status=.running∧stepG P true g w=.comm (core g) #[rcase ch z] true (.recv true) w #[]∧Next own (core g) w
def lA (P:Program)(ro:Nat→Prop)(ch:Nat)(z:Value)(Fin:(Nat→Prop)→Goroutine→World→Prop):List Value→(Nat→Prop)→Goroutine→World→Prop
 |[],own,g,w=>aj P true ro (iM P ch z λown g w=>Fin own (Conc.served g (.tuple #[z,.bool false])) w) own g w
 |v::vs,own,g,w=>aj P true ro (iM P ch z λown g w=>lA P ro ch z Fin vs own (Conc.served g (.tuple #[v,.bool true])) w) own g w
def yY (P:Program)(ro:Nat→Prop)(ch:Nat)(z:Value)(Fin:(Nat→Prop)→Goroutine→World→Prop):List Value→(Nat→Prop)→Goroutine→World→Prop
 |[],own,g,w=>Fin own (Conc.served g (.tuple #[z,.bool false])) w
 |v::vs,own,g,w=>lA P ro ch z Fin vs own (Conc.served g (.tuple #[v,.bool true])) w
def Gz (P:Program)(ch:Nat)(v:Value)(Next:(Nat→Prop)→Goroutine→World→Prop)(own:Nat→Prop)(g:Goroutine)(w:World):Prop:=
 g.status=.running∧∃z',stepG P false g w=.comm (core g) #[scase ch v z'] true .send w #[]∧Next own (Conc.served (core g) undef) w
def gV (ch:Nat):Array Event:=#[⟨.obj ch,false,true⟩,⟨.obj ch,true,true⟩]
def wy (P:Program)(ch:Nat)(gM:(Nat→Prop)→Goroutine→World→Prop)(own:Nat→Prop)(g:Goroutine)(w:World):Prop:=
 g.status=.running∧mayWake P g=true∧∃g₂,g₂.status=.running∧∀s r tm,w.heap[ch]?=some (.chan 0 #[] false s r tm)→stepG P false g w=.go g₂ (w.setChan ch 0 #[] true s r tm) (gV ch)∧gM own g₂ (w.setChan ch 0 #[] true s r tm)
def jT (P:Program)(ro:Nat→Prop)(ch:Nat)(gM:(Nat→Prop)→Goroutine→World→Prop):List Value→(Nat→Prop)→Goroutine→World→Prop
 |[],own,g,w=>aj P false ro (wy P ch gM) own g w
 |v::vs,own,g,w=>aj P false ro (Gz P ch v (jT P ro ch gM vs)) own g w
def StopG (P:Program)(ro:Nat→Prop)(ch:Nat)(gM:(Nat→Prop)→Goroutine→World→Prop):List Value→(Nat→Prop)→Goroutine→World→Prop
 |[]=>wy P ch gM
 |v::vs=>Gz P ch v (jT P ro ch gM vs)
theorem cN {P:Program}{ro:Nat→Prop}{ch:Nat}{z:Value}{Fin:(Nat→Prop)→Goroutine→World→Prop}{vs:List Value}{own:Nat→Prop}{g:Goroutine}{w:World}:lA P ro ch z Fin vs own g w↔aj P true ro (iM P ch z (yY P ro ch z Fin vs)) own g w:=by cases vs<;>exact Iff.rfl
theorem dN {P:Program}{ro:Nat→Prop}{ch:Nat}{gM:(Nat→Prop)→Goroutine→World→Prop}{vs:List Value}{own:Nat→Prop}{g:Goroutine}{w:World}:jT P ro ch gM vs own g w↔aj P false ro (StopG P ro ch gM vs) own g w:=by cases vs<;>exact Iff.rfl
theorem aj.running {P:Program}{main:Bool}{ro own:Nat→Prop}{Stop:(Nat→Prop)→Goroutine→World→Prop}{g:Goroutine}{w:World}(h:aj P main ro Stop own g w)(hs:∀own g w,Stop own g w→g.status=.running):g.status=.running:=by
 cases h with
 |stop h=>exact hs _ _ _ (h w (bV.refl _ _ _))
 |step _ _ _ h=>exact h
theorem StopG.running {P:Program}{ro:Nat→Prop}{ch:Nat}{gM:(Nat→Prop)→Goroutine→World→Prop}{vs:List Value}{own:Nat→Prop}{g:Goroutine}{w:World}(h:StopG P ro ch gM vs own g w):g.status=.running:=by cases vs<;>exact h.1
structure Lay (Q Shun:Loc→Prop) (c ch Low:Nat) (ro:Nat→Prop):Prop where
 c0:c≠0
 DT:∀b,ro b→b<Low
 EE:ch<Low
 Iw:¬ro ch
 QS:∀l,Q l→Shun l
 qZ:∀l,Shun l→l.low Low
 rS:∀l,jR ro l→¬Shun l
 Qch:Q (.obj ch)
structure kY (Q Shun:Loc→Prop) (c ch Low:Nat) (ro bC aS X:Nat→Prop) (closed:Bool) (w0 w:World) (t:Trace):Prop where
 ti:TI Q Shun c aS ro w.heap.size t
 d0:Deaf t 0=0
 dc:closed=false→Deaf t c=0
 mlt:∀b,bC b→Low≤b∧b<w.heap.size
 EF:∀b,aS b→Low≤b∧b<w.heap.size
 apart:∀b,bC b→¬aS b
 big:Low≤w.heap.size
 chan:∃s r tm,w.heap[ch]?=some (.chan 0 #[] closed s r tm)
 tape:w.tape=w0.tape
 os:w.os=w0.os
 output:w.output=w0.output
 keep:∀b,b<Low→¬X b→w.heap[b]?=w0.heap[b]?
 OT:X ch
section
variable {P:Program}{Q Shun:Loc→Prop}{c ch Low:Nat}{ro bC aS X:Nat→Prop}{cl:Bool}{w0 w w':World}{t u:Trace}{es:Array Event}{fn:FuncId}{pos:String}
theorem sL {X:Nat→Prop}(h:∀b,X b→Low≤b){l:Loc}(hi:jR X l)(hl:l.low Low):False:=OI hi (λb hb hlt=>by have:=h b hb;omega) hl
theorem wz {ro own:Nat→Prop}{g:Nat}(h:∀e∈es,yO ro own e):∀op∈MemOp.ofEvents g fn pos es,op.g=g∧K1 ro own op:=by
 intro op hop;obtain⟨e,he,rfl⟩:=Conc.mem_ofEvents hop;refine⟨rfl,yP (h e he),?_,?_⟩
 ·intro e';exact(nX (h e he)).1 (by obtain⟨loc,wr,sy⟩:=e;cases loc<;>cases wr<;>cases sy<;>simp_all [MemAct.ofEvent])
 ·intro e';exact(nX (h e he)).2 (by obtain⟨loc,wr,sy⟩:=e;cases loc<;>cases wr<;>cases sy<;>simp_all [MemAct.ofEvent])
theorem wA {ro own:Nat→Prop}{g B:Nat}(hB:∀b,own b→b<B)(hr:∀b,ro b→b<B)(h:∀e∈es,yO ro own e):∀op∈MemOp.ofEvents g fn pos es,op.act.low B:=by
 intro op hop;obtain⟨e,he,rfl⟩:=Conc.mem_ofEvents hop;exact Gr hB hr (h e he)
theorem wB {ro own:Nat→Prop}{g:Nat}(h:∀e∈es,yO ro own e):Deaf (t++MemOp.ofEvents g fn pos es) g=Deaf t g:=by
 rw[Deaf_own];exact deafBehind_still (λe he=>nX (h e he)) _
theorem kY.still (h:kY Q Shun c ch Low ro bC aS X cl w0 w t)(d:Nat)(h1:∀op∈u,op.act.touch? =none)(h2:∀op∈u,op.act.low w.heap.size)(h3:Deaf (t++u) 0=Deaf t 0)(h4:Deaf (t++u) c=Deaf t c):kY Q Shun c ch Low ro bC aS X cl w0 (w.at d) (t++u):=
 ⟨h.ti.still h1 h2,h3.trans h.d0,λe=>h4.trans (h.dc e),h.mlt,h.EF,h.apart,h.big,h.chan,h.tape,h.os,h.output,h.keep,h.OT⟩
theorem kY.Ln (hY:Lay Q Shun c ch Low ro)(h:kY Q Shun c ch Low ro bC aS X cl w0 w t)(hg:BN ro bC w w' es):kY Q Shun c ch Low ro (Grow bC w w') aS X cl w0 w' (t++MemOp.ofEvents 0 fn pos es)∧bV ro aS w w':=by
 have hs:=hg.size;have hb:=h.big;have js:∀b,Grow bC w w' b→Low≤b∧b<w'.heap.size:=λb hb'=>hb'.elim (λx=>by have:=h.mlt b x;omega) λx=>by omega
 have hap:∀b,Grow bC w w' b→¬aS b:=λb hb' hgb=>hb'.elim (λx=>h.apart b x hgb) λx=>by have:=h.EF b hgb;omega
 have B2:∀b,b<w.heap.size→¬bC b→w'.heap[b]?=w.heap[b]?:=hg.block;have fW:∀b,b<Low→w'.heap[b]?=w.heap[b]?:=λb hlt=>B2 b (by omega) λhm=>by have:=h.mlt b hm;omega
 refine⟨⟨(h.ti.mono hs).app0 (own:=Grow bC w w') hY.c0 (wz hg.evs) (wA (λb hb'=>(js b hb').2) (λb hb'=>by have:=hY.DT b hb';omega) hg.evs) ?_ ?_ hap ?_ ?_,(wB hg.evs).trans h.d0,?_,js,λb hb'=>by have:=h.EF b hb';omega,hap,by omega,?_,hg.tape.trans h.tape,hg.os.trans h.os,hg.output.trans h.output,λb h1 h2=>(fW b h1).trans (h.keep b h1 h2),h.OT⟩,hg.tape,hg.os,hg.output,hs,?_⟩
 ·rintro l (hl|hl) hS
  ·exact sL (λb hb'=>(js b hb').1) hl (hY.qZ l hS)
  ·exact hY.rS l hl hS
 ·rintro l (hl|hl) hS
  ·exact sL (λb hb'=>(js b hb').1) hl (hY.qZ l (hY.QS l hS))
  ·exact hY.rS l hl (hY.QS l hS)
 ·intro b hb' hr;have:=js b hb';have:=hY.DT b hr;omega
 ·intro b hb' hr;have:=h.EF b hb';have:=hY.DT b hr;omega
 ·intro e;rw[Deaf_other t (Ne.symm hY.c0) _ ofEvents_g];exact h.dc e
 ·obtain⟨s,r,tm,e⟩:=h.chan;exact⟨s,r,tm,by rw[fW ch hY.EE];exact e⟩
 ·rintro b (hb'|hb')
  ·exact B2 b (h.EF b hb').2 λhm=>h.apart b hm hb'
  ·exact fW b (hY.DT b hb')
theorem kY.stepG (hY:Lay Q Shun c ch Low ro)(h:kY Q Shun c ch Low ro bC aS X cl w0 w t)(hg:BN ro aS w w' es):kY Q Shun c ch Low ro bC (Grow aS w w') X cl w0 w' (t++MemOp.ofEvents c fn pos es)∧bV ro bC w w':=by
 have hs:=hg.size;have hb:=h.big;have js:∀b,Grow aS w w' b→Low≤b∧b<w'.heap.size:=λb hb'=>hb'.elim (λx=>by have:=h.EF b x;omega) λx=>by omega
 have hap:∀b,bC b→¬Grow aS w w' b:=λb hm hgb=>hgb.elim (λx=>h.apart b hm x) λx=>by have:=h.mlt b hm;omega
 have B2:∀b,b<w.heap.size→¬aS b→w'.heap[b]?=w.heap[b]?:=hg.block;have fW:∀b,b<Low→w'.heap[b]?=w.heap[b]?:=λb hlt=>B2 b (by omega) λhm=>by have:=h.EF b hm;omega
 refine⟨⟨h.ti.aax (own':=Grow aS w w') hs (wz hg.evs) (wA (λb hb'=>(js b hb').2) (λb hb'=>by have:=hY.DT b hb';omega) hg.evs) (λb=>Iff.rfl) ?_,?_,λe=>(wB hg.evs).trans (h.dc e),λb hb'=>by have:=h.mlt b hb';omega,js,hap,by omega,?_,hg.tape.trans h.tape,hg.os.trans h.os,hg.output.trans h.output,λb h1 h2=>(fW b h1).trans (h.keep b h1 h2),h.OT⟩,hg.tape,hg.os,hg.output,hs,?_⟩
 ·rintro l (hl|hl) hS
  ·exact sL (λb hb'=>(js b hb').1) hl (hY.qZ l (hY.QS l hS))
  ·exact hY.rS l hl (hY.QS l hS)
 ·rw[Deaf_other t hY.c0 _ ofEvents_g];exact h.d0
 ·obtain⟨s,r,tm,e⟩:=h.chan;exact⟨s,r,tm,by rw[fW ch hY.EE];exact e⟩
 ·rintro b (hb'|hb')
  ·exact B2 b (h.mlt b hb').2 λhm=>h.apart b hb' hm
  ·exact fW b (hY.DT b hb')
theorem kH {cap s r:Nat}{buf:Array Value}{tm cl:Bool}{b:Nat}(h:b≠ch):(w.setChan ch cap buf cl s r tm).heap[b]?=w.heap[b]?:=by
 show(w.heap.setIfInBounds ch _)[b]?=_;rw[zan (Ne.symm h)]
theorem dU {cap s r:Nat}{buf:Array Value}{tm cl:Bool}:(w.setChan ch cap buf cl s r tm).heap.size=w.heap.size:=by
 show(w.heap.setIfInBounds ch _).size=_;simp
theorem kv {cap s r:Nat}{buf:Array Value}{tm cl:Bool}{own:Nat→Prop}(h:¬own ch)(hr:¬ro ch):bV ro own w (w.setChan ch cap buf cl s r tm):=
 ⟨rfl,rfl,rfl,by rw[dU];exact zaa _,λb hb=>kH λe=>by subst e;exact hb.elim h hr⟩
theorem kY.chG (hY:Lay Q Shun c ch Low ro)(h:kY Q Shun c ch Low ro bC aS X cl w0 w t):¬aS ch:=λx=>by have:=h.EF ch x;have:=hY.EE;omega
theorem kY.chM (hY:Lay Q Shun c ch Low ro)(h:kY Q Shun c ch Low ro bC aS X cl w0 w t):¬bC ch:=λx=>by have:=h.mlt ch x;have:=hY.EE;omega
theorem kY.meet (hY:Lay Q Shun c ch Low ro){s r s' r':Nat}{tm:Bool}(h:kY Q Shun c ch Low ro bC aS X false w0 w t)(hch:w.heap[ch]?=some (.chan 0 #[] false s r tm))(hu:K3 ch u):kY Q Shun c ch Low ro bC aS X false w0 (w.setChan ch 0 #[] false s' r' tm) (t++u):=by
 have hb:=h.big;have eG:=hY.EE;refine⟨by rw[dU];exact h.ti.still (λop hop=>(hu op hop).1) λop hop=>(hu op hop).2.2 _ (by omega),by rw[dK t 0 u λop hop=>(hu op hop).2.1];exact h.d0,λe=>by rw[dK t c u λop hop=>(hu op hop).2.1];exact h.dc e,by rw[dU];exact h.mlt,by rw[dU];exact h.EF,h.apart,by rw[dU];exact hb,⟨s',r',tm,heap_put hch⟩,h.tape,h.os,h.output,λb h1 h2=>(kH λe=>h2 (by rw[e];exact h.OT)).trans (h.keep b h1 h2),h.OT⟩
theorem oZ (g:Nat):MemOp.ofEvents g fn pos (gV ch)=#[{ g:=g,fn:=fn,pos:=pos,act:= .access ⟨.obj ch,false,true⟩ },{ g:=g,fn:=fn,pos:=pos,act:= .close ch }]:=by
 simp[MemOp.ofEvents,gV,MemAct.ofEvent]
theorem kY.yZ (h:kY Q Shun c ch Low ro bC aS X false w0 w t):Deaf (t++MemOp.ofEvents c fn pos (gV ch)) c=0:=by
 rw[dK t c _ λop hop m e=>?_]
 ·exact h.dc rfl
 ·rw[oZ]at hop;simp at hop;rcases hop with rfl|rfl<;>simp at e
theorem kY.close (hY:Lay Q Shun c ch Low ro){s r:Nat}{tm:Bool}(h:kY Q Shun c ch Low ro bC aS X false w0 w t)(hch:w.heap[ch]?=some (.chan 0 #[] false s r tm)):kY Q Shun c ch Low ro bC aS X true w0 (w.setChan ch 0 #[] true s r tm) (t++MemOp.ofEvents c fn pos (gV ch)):=by
 have hb:=h.big;have eG:=hY.EE;have hm:∀op∈MemOp.ofEvents c fn pos (gV ch),∀m,op.act≠.mark m:=λop hop m e=>by
  rw[oZ]at hop;simp at hop;rcases hop with rfl|rfl<;>simp at e
 refine⟨?_,by rw[dK t 0 _ hm];exact h.d0,(λe=>by cases e),by rw[dU];exact h.mlt,by rw[dU];exact h.EF,h.apart,by rw[dU];exact hb,⟨s,r,tm,heap_put hch⟩,h.tape,h.os,h.output,λb h1 h2=>(kH λe=>h2 (by rw[e];exact h.OT)).trans (h.keep b h1 h2),h.OT⟩;rw[dU];refine h.ti.OJ (g:=c) (.inr rfl) (λop hop=>⟨ofEvents_g op hop,λx hx=>?_⟩) (λop hop=>?_) hY.QS λl hl=>⟨λhi=>?_,λhi=>hY.rS l hi (hY.QS l hl)⟩
 ·rw[oZ]at hop;simp at hop;rcases hop with rfl|rfl
  ·simp only[MemAct.touch?,zap]at hx;subst hx;exact⟨hY.Qch,by simp,by simp⟩
  ·simp[MemAct.touch?]at hx
 ·rw[oZ]at hop;simp at hop;have:ch<w.heap.size:=by omega
  rcases hop with rfl|rfl<;>exact this
 ·exact sL (λb hb'=>(h.EF b hb').1) hi (hY.qZ l (hY.QS l hl))
end
end Go.Ren
namespace Go.Ren
open Go Go.Conc
def Ix (P:Program)(Q Shun:Loc→Prop)(c ch Low:Nat)(ro X:Nat→Prop)(z:Value)(Fin gM:(Nat→Prop)→Goroutine→World→Prop)(w0:World)(m:Machine)(t:Trace):Prop:=
 ∃gs w sl q bC aS a b t₁ fn pos,m=crowd gs w sl∧eJ P c t gs q∧gs[0]?=some a∧gs[c]?=some b∧b.status=.running∧lA P ro ch z Fin [] bC a w∧gM aS b w∧kY Q Shun c ch Low ro bC aS X true w0 w t∧t=t₁++MemOp.ofEvents c fn pos (gV ch)∧Deaf t c=0
section
variable {P:Program}{Q Shun:Loc→Prop}{c ch Low:Nat}{ro X:Nat→Prop}{z:Value}{Fin gM:(Nat→Prop)→Goroutine→World→Prop}{w0:World}
variable (P Q Shun c ch Low ro X z Fin gM w0) in
def B3 (vs:List Value):Prop:=∀gs w sl t q bC aS a b,eJ P c t gs q→gs[0]?=some a→gs[c]?=some b→lA P ro ch z Fin vs bC a w→jT P ro ch gM vs aS b w→kY Q Shun c ch Low ro bC aS X false w0 w t→Reach P (crowd gs w sl) t (Ix P Q Shun c ch Low ro X z Fin gM w0)
theorem iM.again {Next:(Nat→Prop)→Goroutine→World→Prop}{own:Nat→Prop}{g:Goroutine}{w:World}(h:iM P ch z Next own g w):iM P ch z Next own { parked (core g) #[rcase ch z] (.recv true)with status:= .running } w:=by
 have e:stepG P true { parked (core g) #[rcase ch z] (.recv true)with status:= .running } w=stepG P true g w:=stepG_same rfl rfl rfl w;exact⟨rfl,by rw[e];exact h.2.1,h.2.2⟩
theorem fU {g:Goroutine}(h:g.status=.running):awake g:=awake_of (.inl h)
theorem km {g:Goroutine}{cs:Array CommCase}{sh:CommShape}:awake (parked g cs sh):=awake_of (.inr (.inl rfl))
theorem y7 {g:Goroutine}{w:World}{s r:Nat}{tm:Bool}(hc:w.heap[ch]?=some (.chan 0 #[] false s r tm)):BQ P w (parked g #[rcase ch z] (.recv true)):=λx x' d=>woken_recv_open x x' (w:=w.at d) hc
theorem y8 {g:Goroutine}{w:World}{s r:Nat}{tm:Bool}{v z':Value}(hc:w.heap[ch]?=some (.chan 0 #[] false s r tm)):BQ P w (parked g #[scase ch v z'] .send):=λx x' d=>woken_send_open x x' (w:=w.at d) hc
theorem Lp (hY:Lay Q Shun c ch Low ro){vs:List Value}(hK:∀v vs',vs=v::vs'→B3 P Q Shun c ch Low ro X z Fin gM w0 vs'){aS:Nat→Prop}{b:Goroutine}{wG:World}
 (hG:aj P false ro (StopG P ro ch gM vs) aS b wG):∀(g:Goroutine) (bC:Nat→Prop) (wM:World),(∀w₁,bV ro bC wM w₁→iM P ch z (yY P ro ch z Fin vs) bC g w₁)→
   ∀gs w sl t q,eJ P c t gs q→gs[0]?=some (parked (core g) #[rcase ch z] (.recv true))→gs[c]?=some b→bV ro bC wM w→bV ro aS wG w→kY Q Shun c ch Low ro bC aS X false w0 w t→
   Reach P (crowd gs w sl) t (Ix P Q Shun c ch Low ro X z Fin gM w0):=by
 induction hG with
 | @stop aS b wG hS=>
   intro g bC wM hM gs w sl t q hC h0 hc lB pB eV;have hb:b.status=.running:=(hS wG (bV.refl _ _ _)).running;refine ix (J:=λw t=>bV ro bC wM w∧bV ro aS wG w∧kY Q Shun c ch Low ro bC aS X false w0 w t) km (fU hb) (.inr hb)
    (λw t d ops hj h1 h2 h3 h4=>⟨hj.1.trans (fF _ _ _ d),hj.2.1.trans (fF _ _ _ d),hj.2.2.still d (λop hop=>(h1 op hop).1) (h2 _) h3 h4⟩)
    (λw t hj=>by obtain⟨s,r,tm,e⟩:=hj.2.2.chan;exact⟨y7 e,.run hb⟩)
    (λhr=>by cases hr) (λ_ gs w sl t q hC h0 hc hj=>?_) gs w sl t q hC h0 hc ⟨lB,pB,eV⟩
   obtain⟨lB,pB,eV⟩:=hj;obtain⟨s,r,tm,hch⟩:=eV.chan;cases vs with
   |nil=>
    obtain⟨_,hmw,g₂,hg2,hx⟩:=hS w pB;obtain⟨hst,nS⟩:=hx s r tm hch;obtain⟨gs',e1,e2,e3,e4⟩:=kD (sl:=sl) hC h0 hc hst;refine⟨_,_,e1,.here ⟨gs',_,sl,q,bC,aS,_,_,t,_,_,rfl,e2,e3,e4,hg2,?_,nS,eV.close hY hch,rfl,eV.yZ⟩⟩;have hw:woken P b g₂ (w.setChan ch 0 #[] true s r tm) (parked (core g) #[rcase ch z] (.recv true))={ parked (core g) #[rcase ch z] (.recv true)with status:= .running }:=by
     unfold woken;rw[if_pos (by simp[hmw,hg2])];exact again_recv_closed (heap_put hch)
    rw[hw];exact cN.2 (.stop λw₂ h₂=>(hM w₂ ((lB.trans (kv (eV.chM hY) hY.Iw)).trans h₂)).again)
   |cons v vs'=>
    obtain⟨_,z',hst,rp⟩:=hS w pB;obtain⟨gs',u,e1,e2,e3,e4,e5⟩:=uy (sl:=sl) hC h0 hc hst hch;exact⟨_,_,e1,hK v vs' rfl gs' _ sl _ q bC aS _ _ e3 e4 e5 (cN.2 ((cN.1 (hM w lB).2.2).rely (kv (eV.chM hY) hY.Iw))) (dN.2 ((dN.1 rp).rely (kv (eV.chG hY) hY.Iw))) (eV.meet hY hch e2)⟩
 | @step aS b wG nx nw ne hb h1 h2 _ ih=>
   intro g bC wM hM gs w sl t q hC h0 hc lB pB eV;refine ix (J:=λw t=>bV ro bC wM w∧bV ro aS wG w∧kY Q Shun c ch Low ro bC aS X false w0 w t) km (fU hb) (.inr hb)
    (λw t d ops hj h1 h2 h3 h4=>⟨hj.1.trans (fF _ _ _ d),hj.2.1.trans (fF _ _ _ d),hj.2.2.still d (λop hop=>(h1 op hop).1) (h2 _) h3 h4⟩)
    (λw t hj=>by obtain⟨s,r,tm,e⟩:=hj.2.2.chan;exact⟨y7 e,.run hb⟩)
    (λhr=>by cases hr) (λ_ gs w sl t q hC h0 hc hj=>?_) gs w sl t q hC h0 hc ⟨lB,pB,eV⟩
   obtain⟨lB,pB,eV⟩:=hj;obtain⟨gs',e1,e2,e3,e4⟩:=kD (sl:=sl) hC h0 hc (h1 w pB);obtain⟨k1,k2⟩:=eV.stepG (fn:=b.frame.fn) (pos:=b.frame.place) hY (h2 w pB);obtain⟨s,r,tm,hch⟩:=k1.chan;rw[woken_recv_open _ _ hch]at e3;exact⟨_,_,e1,ih w pB g bC wM hM gs' _ sl _ q e2 e3 e4 (lB.trans k2) (bV.refl _ _ _) k1⟩
theorem Lq (hY:Lay Q Shun c ch Low ro){v:Value}{vs:List Value}(hK:B3 P Q Shun c ch Low ro X z Fin gM w0 vs){bC:Nat→Prop}{a:Goroutine}{wM:World}
 (hM:aj P true ro (iM P ch z (yY P ro ch z Fin (v::vs))) bC a wM):∀(g:Goroutine) (z':Value) (aS:Nat→Prop) (wG:World),jT P ro ch gM vs aS (Conc.served (core g) undef) wG→
   ∀gs w sl t q,eJ P c t gs q→gs[0]?=some a→gs[c]?=some (parked (core g) #[scase ch v z'] .send)→bV ro bC wM w→bV ro aS wG w→kY Q Shun c ch Low ro bC aS X false w0 w t→
   Reach P (crowd gs w sl) t (Ix P Q Shun c ch Low ro X z Fin gM w0):=by
 induction hM with
 | @stop bC a wM hS=>
   intro g z' aS wG hG gs w sl t q hC h0 hc lB pB eV;have ha:a.status=.running:=(hS wM (bV.refl _ _ _)).1;refine ix (J:=λw t=>bV ro bC wM w∧bV ro aS wG w∧kY Q Shun c ch Low ro bC aS X false w0 w t) (fU ha) km (.inl ha)
    (λw t d ops hj h1 h2 h3 h4=>⟨hj.1.trans (fF _ _ _ d),hj.2.1.trans (fF _ _ _ d),hj.2.2.still d (λop hop=>(h1 op hop).1) (h2 _) h3 h4⟩)
    (λw t hj=>by obtain⟨s,r,tm,e⟩:=hj.2.2.chan;exact⟨.run ha,y8 e⟩)
    (λ_ gs w sl t q hC h0 hc hj=>?_) (λhr=>by cases hr) gs w sl t q hC h0 hc ⟨lB,pB,eV⟩
   obtain⟨lB,pB,eV⟩:=hj;obtain⟨s,r,tm,hch⟩:=eV.chan;obtain⟨_,hst,rp⟩:=hS w lB;obtain⟨gs',u,e1,e2,e3,e4,e5⟩:=ux (sl:=sl) hC h0 hc hst hch;exact⟨_,_,e1,hK gs' _ sl _ q bC aS _ _ e3 e4 e5 (cN.2 ((cN.1 rp).rely (kv (eV.chM hY) hY.Iw))) (dN.2 ((dN.1 hG).rely (pB.trans (kv (eV.chG hY) hY.Iw)))) (eV.meet hY hch e2)⟩
 | @step bC a wM nx nw ne ha h1 h2 _ ih=>
   intro g z' aS wG hG gs w sl t q hC h0 hc lB pB eV;refine ix (J:=λw t=>bV ro bC wM w∧bV ro aS wG w∧kY Q Shun c ch Low ro bC aS X false w0 w t) (fU ha) km (.inl ha)
    (λw t d ops hj h1 h2 h3 h4=>⟨hj.1.trans (fF _ _ _ d),hj.2.1.trans (fF _ _ _ d),hj.2.2.still d (λop hop=>(h1 op hop).1) (h2 _) h3 h4⟩)
    (λw t hj=>by obtain⟨s,r,tm,e⟩:=hj.2.2.chan;exact⟨.run ha,y8 e⟩)
    (λ_ gs w sl t q hC h0 hc hj=>?_) (λhr=>by cases hr) gs w sl t q hC h0 hc ⟨lB,pB,eV⟩
   obtain⟨lB,pB,eV⟩:=hj;obtain⟨gs',e1,e2,e3,e4⟩:=qY (sl:=sl) hC h0 hc (h1 w lB);obtain⟨k1,k2⟩:=eV.Ln (fn:=a.frame.fn) (pos:=a.frame.place) hY (h2 w lB);obtain⟨s,r,tm,hch⟩:=k1.chan;rw[woken_send_open _ _ hch]at e4;exact⟨_,_,e1,ih w lB g z' aS wG hG gs' _ sl _ q e2 e3 e4 (bV.refl _ _ _) (pB.trans k2) k1⟩
theorem za (hY:Lay Q Shun c ch Low ro){vs:List Value}(hK:∀v vs',vs=v::vs'→B3 P Q Shun c ch Low ro X z Fin gM w0 vs'){bC:Nat→Prop}{a:Goroutine}{wM:World}
 (hM:aj P true ro (iM P ch z (yY P ro ch z Fin vs)) bC a wM)
 (H0:∀aS b wG,aj P false ro (StopG P ro ch gM vs) aS b wG→∀gs w sl t q,eJ P c t gs q→gs[0]?=some a→gs[c]?=some b→bV ro bC wM w→bV ro aS wG w→kY Q Shun c ch Low ro bC aS X false w0 w t→∃m' ops,runT P (crowd gs w sl) 0=(.next m',ops)∧Reach P m' (t++ops) (Ix P Q Shun c ch Low ro X z Fin gM w0))
 {aS:Nat→Prop}{b:Goroutine}{wG:World}(hG:aj P false ro (StopG P ro ch gM vs) aS b wG):
  ∀gs w sl t q,eJ P c t gs q→gs[0]?=some a→gs[c]?=some b→bV ro bC wM w→bV ro aS wG w→kY Q Shun c ch Low ro bC aS X false w0 w t→
  Reach P (crowd gs w sl) t (Ix P Q Shun c ch Low ro X z Fin gM w0):=by
 have ha:a.status=.running:=hM.running λ_ _ _ h=>h.1
 induction hG with
 | @stop aS b wG hS=>
   intro gs w sl t q hC h0 hc lB pB eV;have hb:b.status=.running:=(hS wG (bV.refl _ _ _)).running;refine ix (J:=λw t=>bV ro bC wM w∧bV ro aS wG w∧kY Q Shun c ch Low ro bC aS X false w0 w t) (fU ha) (fU hb) (.inr hb)
    (λw t d ops hj h1 h2 h3 h4=>⟨hj.1.trans (fF _ _ _ d),hj.2.1.trans (fF _ _ _ d),hj.2.2.still d (λop hop=>(h1 op hop).1) (h2 _) h3 h4⟩)
    (λw t hj=>⟨.run ha,.run hb⟩)
    (λ_ gs w sl t q hC h0 hc hj=>H0 aS b wG (.stop hS) gs w sl t q hC h0 hc hj.1 hj.2.1 hj.2.2) (λ_ gs w sl t q hC h0 hc hj=>?_) gs w sl t q hC h0 hc ⟨lB,pB,eV⟩
   obtain⟨lB,pB,eV⟩:=hj;obtain⟨s,r,tm,hch⟩:=eV.chan;cases vs with
   |nil=>
    obtain⟨_,hmw,g₂,hg2,hx⟩:=hS w pB;obtain⟨hst,nS⟩:=hx s r tm hch;obtain⟨gs',e1,e2,e3,e4⟩:=kD (sl:=sl) hC h0 hc hst;rw[woken_run ha]at e3;exact⟨_,_,e1,.here ⟨gs',_,sl,q,bC,aS,_,_,t,_,_,rfl,e2,e3,e4,hg2,cN.2 (hM.rely (lB.trans (kv (eV.chM hY) hY.Iw))),nS,eV.close hY hch,rfl,eV.yZ⟩⟩
   |cons v vs'=>
    obtain⟨_,z',hst,rp⟩:=hS w pB;obtain⟨gs',e1,e2,e3,e4⟩:=uw (sl:=sl) hC h0 hc (by simp[ha]) hst hch;exact⟨_,_,e1,Lq hY (hK v vs' rfl) hM b z' aS w rp gs' w sl _ q e2 e3 e4 lB (bV.refl _ _ _) (by simpa using eV)⟩
 | @step aS b wG nx nw ne hb h1 h2 h3 ih=>
   intro gs w sl t q hC h0 hc lB pB eV;refine ix (J:=λw t=>bV ro bC wM w∧bV ro aS wG w∧kY Q Shun c ch Low ro bC aS X false w0 w t) (fU ha) (fU hb) (.inr hb)
    (λw t d ops hj h1 h2 h3 h4=>⟨hj.1.trans (fF _ _ _ d),hj.2.1.trans (fF _ _ _ d),hj.2.2.still d (λop hop=>(h1 op hop).1) (h2 _) h3 h4⟩)
    (λw t hj=>⟨.run ha,.run hb⟩)
    (λ_ gs w sl t q hC h0 hc hj=>H0 aS b wG (.step nx nw ne hb h1 h2 h3) gs w sl t q hC h0 hc hj.1 hj.2.1 hj.2.2) (λ_ gs w sl t q hC h0 hc hj=>?_) gs w sl t q hC h0 hc ⟨lB,pB,eV⟩
   obtain⟨lB,pB,eV⟩:=hj;obtain⟨gs',e1,e2,e3,e4⟩:=kD (sl:=sl) hC h0 hc (h1 w pB);obtain⟨k1,k2⟩:=eV.stepG (fn:=b.frame.fn) (pos:=b.frame.place) hY (h2 w pB);rw[woken_run ha]at e3;exact⟨_,_,e1,ih w pB gs' _ sl _ q e2 e3 e4 (lB.trans k2) (bV.refl _ _ _) k1⟩
theorem B4 (hY:Lay Q Shun c ch Low ro){vs:List Value}(hK:∀v vs',vs=v::vs'→B3 P Q Shun c ch Low ro X z Fin gM w0 vs'){bC:Nat→Prop}{a:Goroutine}{wM:World}
 (hM:aj P true ro (iM P ch z (yY P ro ch z Fin vs)) bC a wM):∀(aS:Nat→Prop) (b:Goroutine) (wG:World),aj P false ro (StopG P ro ch gM vs) aS b wG→
   ∀gs w sl t q,eJ P c t gs q→gs[0]?=some a→gs[c]?=some b→bV ro bC wM w→bV ro aS wG w→kY Q Shun c ch Low ro bC aS X false w0 w t→
   Reach P (crowd gs w sl) t (Ix P Q Shun c ch Low ro X z Fin gM w0):=by
 induction hM with
 | @stop bC a wM hS=>
   intro aS b wG hG;refine za hY hK (.stop hS) (λaS b wG hG gs w sl t q hC h0 hc lB pB eV=>?_) hG;obtain⟨s,r,tm,hch⟩:=eV.chan;have hb:b.status=.running:=hG.running λ_ _ _ h=>h.running;obtain⟨gs',e1,e2,e3,e4⟩:=uv (sl:=sl) hC h0 hc (by simp[hb]) (hS w lB).2.1 hch;exact⟨_,_,e1,Lp hY hK hG a bC wM hS gs' w sl _ q e2 e3 e4 lB pB (by simpa using eV)⟩
 | @step bC a wM nx nw ne ha h1 h2 h3 ih=>
   intro aS b wG hG;refine za hY hK (.step nx nw ne ha h1 h2 h3) (λaS b wG hG gs w sl t q hC h0 hc lB pB eV=>?_) hG;have hb:b.status=.running:=hG.running λ_ _ _ h=>h.running;obtain⟨gs',e1,e2,e3,e4⟩:=qY (sl:=sl) hC h0 hc (h1 w lB);obtain⟨k1,k2⟩:=eV.Ln (fn:=a.frame.fn) (pos:=a.frame.place) hY (h2 w lB);rw[woken_run hb]at e4;exact⟨_,_,e1,ih w lB aS b wG hG gs' _ sl _ q e2 e3 e4 (bV.refl _ _ _) (pB.trans k2) k1⟩
theorem Lr (hY:Lay Q Shun c ch Low ro):∀vs,B3 P Q Shun c ch Low ro X z Fin gM w0 vs
 |[],gs,w,sl,t,q,bC,aS,a,b,hC,h0,hc,hM,hG,eV=>B4 hY (λ_ _ e=>by cases e) (cN.1 hM) aS b w (dN.1 hG) gs w sl t q hC h0 hc (bV.refl _ _ _) (bV.refl _ _ _) eV
 |v::vs,gs,w,sl,t,q,bC,aS,a,b,hC,h0,hc,hM,hG,eV=>B4 hY (λv' vs' e=>by cases e;exact Lr hY vs) (cN.1 hM) aS b w (dN.1 hG) gs w sl t q hC h0 hc (bV.refl _ _ _) (bV.refl _ _ _) eV
end
end Go.Ren
