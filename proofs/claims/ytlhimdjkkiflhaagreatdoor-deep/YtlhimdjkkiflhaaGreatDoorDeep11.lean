import Derived.Test.YtlhimdjkkiflhaaGreatDoorDeep10
namespace Go.Ren
open Go Go.Conc
section
variable {P:Program} {F:FuncId→Bool} {S:Sd} {w W:World} {ρ:Rn} {k:List Item} {fn0:FuncId} {Q:Frame→List Frame→World→Prop}
theorem subL_append (k:List Item)(c:Frame)(r:List Frame):∀ p:List Frame,subL k (p++c::r)=p++subL k (c::r)
 |[]=>rfl
 |[x]=>rfl
 |x::y::p=>by
  have:=subL_append k c r (y::p)
  simp only[List.cons_append] at this ⊢
  rw[subL,this]
def sF (k:List Item)(f:Frame):List Frame→Frame
 |[]=>tsub k f
 |_::_=>f
def TSt (fn0:FuncId)(f:Frame)(ab:List Frame):Prop:=
 match ab.getLast? with
 |none=>f.fn=fn0∧(f.mode= .returning∨∃ l,Bot f l)
 |some x=>∃ h l,Bot x (h::l)∧x.fn=fn0
theorem okHd_of {f:Frame}(h:OkFr P F S f):OkHd P F S f:=⟨h.defers,h.mode,h.kind,h.round,by
 have:=h.todo
 cases hq:f.todo with
 |nil=>rfl
 |cons x l=>rw[hq] at this;simp only[List.all_cons,Bool.and_eq_true] at this;simpa using this.1,h.fn⟩
theorem ok_head {x:Frame}{h:Item}{l:List Item}(hx:OkFr P F S x)(hb:Bot x (h::l)):okItem P F S h=true:=by
 have:=hx.todo
 rw[hb.todo] at this
 simp only[List.cons_append,List.all_cons,Bool.and_eq_true] at this
 exact this.1
theorem okHd_tsub {x:Frame}{h:Item}{l:List Item}(hx:OkFr P F S x)(hb:Bot x (h::l))(k:List Item):OkHd P F S (tsub k x):=⟨hx.defers,hx.mode,hx.kind,hx.round,by
 have e:(tsub k x).todo=h::(l++k):=by
  show x.todo.dropLast++k=_
  rw[hb.todo,dropLast_mk];rfl
 rw[e]
 simpa using ok_head hx hb,hx.fn⟩
theorem okFr_rfr {x:Frame}(h:OkFr P F S x):OkFr P F S (rfr ρ x):=⟨h.defers,h.mode,h.kind,h.round,h.todo,h.fn⟩
theorem tail_step {f f1:Frame}{ab a1:List Frame}{w0 w1 W1:World}{es es':Array Event}(hok:OkFr P F S f)(hoks:∀ x∈ab,OkFr P F S x)(hT:TSt fn0 f ab)(hn:ab=[]→∃ h l,Bot f (h::l))
 (hp:(psem P f ab).runT P w0 #[]=(.ok (f1,a1) w1,es))(hr:(psem P (rfr ρ f) (ab.map (rfr ρ))).runT P W #[]=(.ok (rfr ρ f1,a1.map (rfr ρ)) W1,es'))(main:Bool)(cs:List Frame):
 TSt fn0 f1 a1∧stepG P main (G (rfr ρ (sF k f ab)) ((subL k ab).map (rfr ρ)++cs)) W= .go (G (rfr ρ (sF k f1 a1)) ((subL k a1).map (rfr ρ)++cs)) W1 (seen P f.fn es'):=by
 cases ab with
 |nil=>
  obtain⟨hf,-⟩:=hT
  obtain⟨h,l,hb⟩:=hn rfl
  have hh:=ok_head hok hb
  have hb':Bot (rfr ρ f) (h::l):=⟨hb.todo,hb.run⟩
  have hH:OkHd P F S (tsub k (rfr ρ f)):=okHd_tsub (okFr_rfr hok) hb' k
  rcases psem_bot k hb hh hp with⟨l1,b1,b2,rfl,_⟩|⟨m1,rfl,_⟩|⟨rfl,_⟩
  ·rcases psem_bot k hb' hh hr with⟨l2,c1,c2,_,c3⟩|⟨m1,_,m2⟩|⟨e,_⟩
   ·refine⟨⟨b2.trans hf,.inr ⟨l1,b1⟩⟩,?_⟩
    exact stepG_psemH (main:=main) (cs:=cs) hH c3
   ·have:f1.mode= .returning:=congrArg Frame.mode m1
    rw[b1.run] at this;cases this
   ·simp at e
  ·rcases psem_bot k hb' hh hr with⟨l2,c1,c2,_,c3⟩|⟨_,_,c3⟩|⟨e,_⟩
   ·have:f1.mode= .returning:=congrArg Frame.mode m1
    have c4:f1.mode= .run:=c1.run
    rw[c4] at this;cases this
   ·refine⟨⟨by rw[m1];exact hf,.inl (by rw[m1])⟩,?_⟩
    exact stepG_psemH (main:=main) (cs:=cs) hH c3
   ·simp at e
  ·rcases psem_bot k hb' hh hr with⟨l2,c1,c2,e,c3⟩|⟨m1,e,m2⟩|⟨e,c3⟩
   ·simp at e
   ·simp at e
   ·exact⟨⟨h,l,hb,hf⟩,stepG_psemH (main:=main) (cs:=cs) hH c3⟩
 |cons c r=>
  have hH:OkHd P F S (rfr ρ f):=okHd_of (okFr_rfr hok)
  rcases psem_up hp with⟨p,rfl,_⟩|⟨v,rfl,rfl,_⟩
  ·rcases psem_up (c:=rfr ρ c) (r:=r.map (rfr ρ)) hr with⟨p',e,h2⟩|⟨v,_,e,_⟩
   ·have ep:p'=p.map (rfr ρ):=by
     rw[List.map_append,List.map_cons] at e
     exact(List.append_cancel_right e).symm
    subst ep
    have hT':TSt fn0 f1 (p++c::r):=by
     unfold TSt at hT ⊢
     rw[List.getLast?_append]
     cases hg:(c::r).getLast? with
     |none=>simp at hg
     |some x=>rw[hg] at hT;exact hT
    refine⟨hT',?_⟩
    have e1:sF k f1 (p++c::r)=f1:=by cases p<;>rfl
    rw[e1,subL_append,List.map_append]
    exact stepG_psemH (main:=main) (cs:=cs) hH (h2 _)
   ·have:=congrArg List.length e
    simp at this
    omega
  ·rcases psem_up (c:=rfr ρ c) (r:=a1.map (rfr ρ)) hr with⟨p',e,h2⟩|⟨v',e1,_,h2⟩
   ·have:=congrArg List.length e
    simp at this
    omega
   ·cases a1 with
    |nil=>
     obtain⟨h,l,hb,hf⟩:=hT
     have hcO:=hoks c List.mem_cons_self
     have hh:=ok_head hcO hb
     obtain⟨g1,g2,g3,h',g4⟩:=finish_tail k hb.todo hh v
     obtain⟨q1,-,-,-,-⟩:=finish_tail k (x:=rfr ρ c) hb.todo hh v'
     refine⟨⟨g2.trans hf,.inr ⟨h'::l,⟨g4,g3.trans hb.run⟩⟩⟩,?_⟩
     have h3:=stepG_psemH (main:=main) (cs:=cs) hH (h2 (tsub k (rfr ρ c)) [])
     rw[q1,←e1] at h3
     exact h3
    |cons d r2=>
     refine⟨?_,?_⟩
     ·unfold TSt at hT ⊢
      rw[List.getLast?_cons_cons] at hT
      exact hT
     ·have h3:=stepG_psemH (main:=main) (cs:=cs) hH (h2 (rfr ρ c) ((subL k (d::r2)).map (rfr ρ)))
      rw[←e1] at h3
      exact h3
def TStop (P:Program)(F:FuncId→Bool)(S:Sd)(Q:Frame→List Frame→World→Prop)(k:List Item)(fn0:FuncId)(cs:List Frame)(ρ₀:Rn)(n₀:Nat)(own:Nat→Prop)(g:Goroutine)(W:World):Prop:=
 ∃ fr w ρ,(Bot fr []∨fr.mode= .returning)∧fr.fn=fn0∧Bar P Q fr [] w∧PI P F S fr [] w∧Sim P S ρ w W∧own=Touch S.d ρ w∧g=G (rfr ρ (tsub k fr)) cs∧n₀≤w.heap.size∧∀ r,r<n₀→ρ r=ρ₀ r
theorem rfr_sF_agree {ρ ρ':Rn}{n:Nat}{fr:Frame}(k:List Item)(ab:List Frame)(hc:ClFr P S n fr)(hb:∀ r,r<n→ρ r=ρ' r)(hf:∀ x,ρ.f x=ρ'.f x):rfr ρ (sF k fr ab)=rfr ρ' (sF k fr ab):=
 rfr_agree (P:=P) (S:=S) (n:=n) (by cases ab<;>exact hc) hb hf
theorem cl_subL {n:Nat}(k:List Item):∀ {ab:List Frame},(∀ f∈ab,ClFr P S n f)→∀ f∈subL k ab,ClFr P S n f
 |[],_,f,hf=>by cases hf
 |[x],h,f,hf=>by
  simp only[subL,List.mem_singleton] at hf
  subst hf
  exact h x List.mem_cons_self
 |c::d::r,h,f,hf=>by
  rw[subL] at hf
  rcases List.mem_cons.1 hf with rfl|hf
  ·exact h _ List.mem_cons_self
  ·exact cl_subL k (fun g hg=>h g (List.mem_cons_of_mem _ hg)) f hf
theorem walks_tail (hC:Clo P F S){main:Bool}{ro:Nat→Prop}(hQ:∀ f a w,Q f a w→a=[]∧(Bot f []∨f.mode= .returning)){cs:List Frame}{fr:Frame}{above:List Frame}{w:World}(hb:Bar P Q fr above w):
 PI P F S fr above w→TSt fn0 fr above→∀ (ρ₀:Rn) (n₀:Nat) (ρ:Rn) (W:World),Sim P S ρ w W→n₀≤w.heap.size→(∀ r,r<n₀→ρ r=ρ₀ r)→Walks P main ro (TStop P F S Q k fn0 cs ρ₀ n₀) (Touch S.d ρ w) (G (rfr ρ (sF k fr above)) ((subL k above).map (rfr ρ)++cs)) W:=by
 induction hb with
 | @stop fr above w h=>
   intro hI hT ρ₀ n₀ ρ W hS hn hρ
   obtain⟨rfl,hbot⟩:=hQ _ _ _ h
   have hfn:fr.fn=fn0:=hT.1
   refine .stop fun W₁ hr=>⟨fr,w,_,hbot,hfn,.stop h,hI,hS.rely hr,touch_ext.symm,?_,hn,fun r hlt=>by rw[extR_lt (by omega)];exact hρ r hlt⟩
   show G (rfr ρ (tsub k fr)) ([]++cs)=_
   rw[rfr_agree (P:=P) (S:=S) (n:=w.heap.size) (fr:=tsub k fr) hI.cl (ρ:=ρ) (ρ':=extR ρ w.heap.size W₁.heap.size) (fun r hlt=>(extR_lt hlt).symm) (fun _=>rfl)]
   rfl
 | @step fr above w nf na nw ne h1 h2 ih=>
   intro hI hT ρ₀ n₀ ρ W hS hn hρ
   by_cases hend:above=[]∧(Bot fr []∨fr.mode= .returning)
   ·obtain⟨rfl,hbot⟩:=hend
    have hfn:fr.fn=fn0:=hT.1
    refine .stop fun W₁ hr=>⟨fr,w,_,hbot,hfn,.step nf na nw ne h1 h2,hI,hS.rely hr,touch_ext.symm,?_,hn,fun r hlt=>by rw[extR_lt (by omega)];exact hρ r hlt⟩
    show G (rfr ρ (tsub k fr)) ([]++cs)=_
    rw[rfr_agree (P:=P) (S:=S) (n:=w.heap.size) (fr:=tsub k fr) hI.cl (ρ:=ρ) (ρ':=extR ρ w.heap.size W₁.heap.size) (fun r hlt=>(extR_lt hlt).symm) (fun _=>rfl)]
    rfl
   ·refine Walks.step' rfl fun W₁ hr=>?_
    have hS1:=hS.rely hr
    generalize hext:extR ρ w.heap.size W₁.heap.size=ρ₁ at hS1
    have hlt1:∀ r,r<w.heap.size→ρ₁ r=ρ r:=fun r hlt=>by rw[←hext];exact extR_lt hlt
    have hf1:∀ x,ρ₁.f x=ρ.f x:=fun x=>by rw[←hext];rfl
    have hrun:=h1 W₁.tape W₁.drawn
    have hW:WR P S ρ₁ (w.re W₁.tape W₁.drawn) W₁:=⟨hS1.wr.live,hS1.wr.ok,hS1.wr.dead,hS1.wr.closed,hS1.wr.next,hS1.wr.low,hS1.wr.big⟩
    have hIr:=hI.re W₁.tape W₁.drawn
    have hpl:Plain P ρ₁:=⟨fun t i v a b=>hC.zero t i v a b _,hS1.inj⟩
    have hp1:=e_psem (ρ:=ρ₁) hC hpl hS1.fix hIr.ok hIr.oks (fun v _=> .inl hS1.glob) (fun v hv=>fv_closed (hIr.cl v hv))
    obtain⟨bb,W2,es',r1,⟨rfl,o1,o2⟩,r3,q1,q2,r6⟩:=run_ren hpl (fun o=> .inl hS1.glob) _ _ _ (fun n=>FF P F S (sg S S.d n)) (w.re W₁.tape W₁.drawn) W₁ #[] #[] _ _ _ hp1 (self_psem hC hIr) hW (fun j _ q=>rfl) hrun
    have q3:∀ e∈es',EvOk S.d ρ₁ (nw W₁.tape W₁.drawn) e:=fun e he=>(r6 e he).resolve_left (by simp)
    have hI2:=(psem_window hC hIr hrun).1
    have hS1':Sim P S ρ₁ (w.re W₁.tape W₁.drawn) W₁:=⟨hW,hS1.inj,hS1.glob,hS1.f,hS1.bigW⟩
    have hS2:Sim P S ρ₁ (nw W₁.tape W₁.drawn) W2:=⟨q1,hS1.inj,hS1.glob,hS1.f,by have:=hS1.bigW;have h3:=q2.size;have h4:=q2.wgrow;omega⟩
    have hgrow:Touch S.d ρ₁ (nw W₁.tape W₁.drawn)=Grow (Touch S.d ρ w) W₁ W2:=by
     rw[touch_grow hS1' q2]
     have:Touch S.d ρ₁ (w.re W₁.tape W₁.drawn)=Touch S.d ρ w:=by
      rw[←hext];exact touch_ext
     rw[this]
    have hfr:rfr ρ (sF k fr above)=rfr ρ₁ (sF k fr above):=rfr_sF_agree k above hI.cl (fun r hlt=>(hlt1 r hlt).symm) (fun x=>(hf1 x).symm)
    have hab:(subL k above).map (rfr ρ)=(subL k above).map (rfr ρ₁):=rfrs_agree (fun r hlt=>(hlt1 r hlt).symm) (fun x=>(hf1 x).symm) (cl_subL k hI.cls)
    obtain⟨hT2,q4⟩:=tail_step (k:=k) (ρ:=ρ₁) hI.ok hI.oks hT (fun e=>by
     subst e
     rcases hT.2 with hm|⟨l,hl⟩
     ·exact absurd ⟨rfl,.inr hm⟩ hend
     ·cases l with
      |nil=>exact absurd ⟨rfl,.inl hl⟩ hend
      |cons h l=>exact⟨h,l,hl⟩) hrun r1 main cs
    refine⟨_,W2,_,by rw[hfr,hab];exact q4,⟨q2.tape,q2.os,q2.output,by have h3:=q2.size;have h4:=q2.wgrow;simp only[World.re] at h3 h4;omega,fun b hb hnb=>?_,fun e he=>?_⟩,?_⟩
    ·refine q2.frame b hb fun ht=>?_
     rw[hgrow] at ht
     rcases ht with h|⟨h,_⟩
     ·exact hnb h
     ·omega
    ·have:=q3 e (mem_seen he)
     unfold EvOk at this
     unfold EvG
     rw[←hgrow]
     cases hl:e.loc<;>simp only[hl] at this ⊢<;>first|exact .inl this|exact this
    ·rw[←hgrow]
     refine ih W₁.tape W₁.drawn hI2 hT2 ρ₀ n₀ ρ₁ W2 hS2 ?_ fun r hlt=>(hlt1 r (by omega)).trans (hρ r hlt)
     have h4:=q2.wgrow
     simp only[World.re] at h4
     omega
end
section
variable {P:Program} {F:FuncId→Bool} {S:Sd} {Ψ:CoGoal} {cs:List Frame} {w:World} {b:Frame} {a:Act} {k:List Item}
theorem panic_never':∀ (above:List Frame) (fr:Frame) (w:World) (chain:List PanicEntry) (n:Nat) (frf:Frame) (wf:World),fr.defers=[]→(∃ f,P.funcs[fr.fn]? =some f)→(∀ f∈above,OkFr P F S f)→
 runN P n (Go.lone { fr with mode:= .panicking chain } (above++[c0 P]) w)= .next (Go.lone frf [c0 P] wf)→(∀ ch,frf.mode≠ .panicking ch)→False:=by
 intro above
 induction above with
 |nil=>
  rintro fr w chain n frf wf hd ⟨f,hf⟩ _ hr hm
  cases n with
  |zero=>
   simp only[runN,Stepped.next.injEq] at hr
   obtain⟨rfl,_,_⟩:=lone_inj hr
   exact hm _ rfl
  |succ n=>
   have h1:step P (Go.lone { fr with mode:= .panicking chain } ([]++[c0 P]) w)= .next (Go.lone ((c0 P).raise chain) [] w):=by
    refine lone_go (es:=#[]) ?_
    simp[G,stepG,unwind,hd,Frame.catches,hf]
   simp only[runN,h1] at hr
   cases n with
   |zero=>
    simp only[runN,Stepped.next.injEq] at hr
    obtain⟨_,e,_⟩:=lone_inj hr
    cases e
   |succ n=>
    have h2:∃ o w3 es,stepG P true (G ((c0 P).raise chain) []) w= .ended o w3 es:=by
     simp[G,stepG,unwind,c0,Frame.raise,Frame.catches]
    obtain⟨o,w3,es,h2⟩:=h2
    simp only[runN,lone_ended h2] at hr
    cases hr
 |cons c rest ih=>
  rintro fr w chain n frf wf hd ⟨f,hf⟩ hok hr hm
  cases n with
  |zero=>
   simp only[runN,Stepped.next.injEq] at hr
   obtain⟨rfl,_,_⟩:=lone_inj hr
   exact hm _ rfl
  |succ n=>
   have hc:=hok c (by simp)
   have h1:step P (Go.lone { fr with mode:= .panicking chain } (c::rest++[c0 P]) w)= .next (Go.lone { c with mode:= .panicking chain } (rest++[c0 P]) w):=by
    refine lone_go (es:=#[]) ?_
    have hcr:c.raise chain={ c with mode:= .panicking chain }:=by
     unfold Frame.raise
     rcases hc.mode with e|e<;>rw[e]
    simp[G,stepG,unwind,hd,Frame.catches,hf,hcr]
   simp only[runN,h1] at hr
   exact ih c w chain n frf wf hc.defers hc.fn (fun g hg=>hok g (by simp[hg])) hr hm
theorem prun_of_lone' (hC:Clo P F S):∀ (n:Nat) (fr:Frame) (above:List Frame) (w:World) (frf:Frame) (wf:World),PI P F S fr above w→runN P n (Go.lone fr (above++[c0 P]) w)= .next (Go.lone frf [c0 P] wf)→(∀ ch,frf.mode≠ .panicking ch)→∃ m,PRun P m fr above w frf [] wf:=by
 intro n
 induction n with
 |zero=>
  intro fr above w frf wf h hr hm
  simp only[runN,Stepped.next.injEq] at hr
  obtain⟨rfl,e,rfl⟩:=lone_inj hr
  have:above=[]:=by
   have:=congrArg List.length e
   simp at this
   exact this
  subst this
  exact⟨0,.zero⟩
 |succ n ih=>
  intro fr above w frf wf h hr hm
  by_cases hl:above=[]∧fr.mode= .returning
  ·obtain⟨rfl,hl⟩:=hl
   exact(leave_never hC h hl hr).elim
  ·cases hrun:(psem P fr above).runT P w #[] with
   |mk r es=>
    cases r with
    |ok x w1=>
     obtain⟨f1,a1⟩:=x
     have hs:=stepG_psem (main:=true) (cs:=[c0 P]) h.ok hrun
     simp only[runN,lone_go hs] at hr
     obtain⟨m,hm2⟩:=ih f1 a1 w1 frf wf (psem_window hC h hrun).1 hr hm
     exact⟨m+1,.succ hrun hm2⟩
    |halt hh w1=>
     rcases step_halt (cs:=[c0 P]) hC h hl hrun with⟨chain,w2,es',e⟩|⟨o,w2,es',e⟩
     ·simp only[runN,lone_go e] at hr
      exact(panic_never' above fr w2 chain n frf wf h.ok.defers h.ok.fn h.oks hr hm).elim
     ·simp only[runN,lone_ended e] at hr
      cases hr
def CoEnd (P:Program)(S:Sd)(Ψ:CoGoal)(b:Frame)(k:List Item)(cs:List Frame)(f:Frame)(ab:List Frame)(w:World):Prop:=
 ab=[]∧((Bot f []∧CoReach P S Ψ (b.at ⟨f.tmps,f.defers⟩ k) cs w)∨(f.mode= .returning∧∀ todo,CoReach P S Ψ (outFr b ⟨f.tmps,f.defers⟩ todo) cs w))
theorem CoReach.item (hC:Clo P F S){x:Item}(hok:okItem P F S x=true)(hk:b.kind= .normal)(hfn:∃ f,P.funcs[b.fn]? =some f)(hd:a.defers=[])
 (h:∀ τ,(∃ a' w',CoReach P S Ψ (b.at a' k) cs w'∧Steps P (Go.lone (b.at a [x,mk0]) [c0 P] (w.re τ 0)) (Go.lone (b.at a' [mk0]) [c0 P] w'))∨∃ a' w' todo,(∀ todo,CoReach P S Ψ (outFr b a' todo) cs w')∧Steps P (Go.lone (b.at a [x,mk0]) [c0 P] (w.re τ 0)) (Go.lone { b.at a' todo with mode:= .returning } [c0 P] w')):CoReach P S Ψ (b.at a (x::k)) cs w:=
 CoReach.walk fun ρ W hS hc hcs=>by
  have hI:PI P F S (b.at a [x,mk0]) [] w:=⟨⟨hd,.inl rfl,hk,rfl,by show[x,mk0].all _=true;simp only[List.all_cons,List.all_nil,hok,Bool.true_and,Bool.and_true];rfl,hfn⟩,by simp,hc,by simp,hS.self⟩
  have hT:∀ τ:Tp,∃ n f a1 w',PRun P n (b.at a [x,mk0]) [] (w.re τ 0) f a1 w'∧CoEnd P S Ψ b k cs f a1 w':=fun τ=>by
   rcases h τ with⟨a',w',hK,n,hn⟩|⟨a',w',todo,hK,n,hn⟩
   ·obtain⟨m,hm⟩:=prun_of_lone' hC n _ [] (w.re τ 0) _ w' (hI.re τ 0) hn (fun ch e=>by cases e)
    exact⟨m,_,[],w',hm,rfl,.inl ⟨⟨rfl,rfl⟩,hK⟩⟩
   ·obtain⟨m,hm⟩:=prun_of_lone' hC n _ [] (w.re τ 0) _ w' (hI.re τ 0) hn (fun ch e=>by cases e)
    exact⟨m,_,[],w',hm,rfl,.inr ⟨rfl,hK⟩⟩
  have hbar:=bar_of_runs (Q:=CoEnd P S Ψ b k cs) hC (fun f a1 w τ d _ hx=>⟨hx.1,hx.2.imp (fun q=>⟨q.1,q.2.re rfl⟩) fun q=>⟨q.1,fun todo=>(q.2 todo).re rfl⟩⟩) hI hT
  have key:=walks_tail (k:=k) (fn0:=b.fn) (main:=true) (ro:=fun _=>False) (cs:=cs.map (rfr ρ)) hC (fun f a1 w' hx=>⟨hx.1,hx.2.imp (·.1) (·.1)⟩) hbar hI ⟨rfl,.inr ⟨[x],⟨rfl,rfl⟩⟩⟩ ρ w.heap.size ρ W hS (Nat.le_refl _) (fun _ _=>rfl)
  refine Walks.bind key fun own g W' hst=>?_
  obtain⟨fr1,w1,ρ1,hb1,hf1,hbar1,hI1,hS1,rfl,rfl,hn,hag⟩:=hst
  have ecs:cs.map (rfr ρ)=cs.map (rfr ρ1):=rfrs_agree (fun r hr=>(hag r hr).symm) (fun x=>by rw[hS.f,hS1.f]) hcs
  rw[ecs]
  have hEnd:CoEnd P S Ψ b k cs fr1 [] w1:=by
   cases hbar1 with
   |stop hx=>exact hx
   |step nf na nw ne h1 h2=>
    exfalso
    have hr:=h1 w1.tape 0
    rcases hb1 with hb1|hb1
    ·obtain⟨fn0,tmps,todo,defers,mode,kind,rnd⟩:=fr1
     obtain⟨ht,hm⟩:=hb1
     simp only[List.nil_append] at ht hm
     subst ht hm
     simp[psem,stuck] at hr
    ·exact psem_out (by rw[hb1];simp) hr
  rcases hEnd.2 with⟨hbot,hK⟩|⟨hret,hK⟩
  ·have efr:tsub k fr1=b.at ⟨fr1.tmps,fr1.defers⟩ k:=by
    obtain⟨fn0,tmps,todo,defers,mode,kind,rnd⟩:=fr1
    obtain⟨ht,hm⟩:=hbot
    have h3:kind= .normal:=hI1.ok.kind
    have h4:rnd=none:=hI1.ok.round
    simp only[List.nil_append] at ht hm hf1
    subst ht hm h3 h4 hf1
    simp[tsub,Frame.at,hk]
   rw[efr]
   exact Walks.co hK hS1 (fun _ h=>h) hI1.cl (fun f hf=>cl_mono hn (hcs f hf)) ⟨hn,hag⟩
  ·have efr:tsub k fr1=outFr b ⟨fr1.tmps,fr1.defers⟩ (fr1.todo.dropLast++k):=by
    obtain⟨fn0,tmps,todo,defers,mode,kind,rnd⟩:=fr1
    have h3:kind= .normal:=hI1.ok.kind
    have h4:rnd=none:=hI1.ok.round
    simp only at hret hf1
    subst hret h3 h4 hf1
    simp[tsub,outFr,Frame.at,hk]
   rw[efr]
   exact Walks.co (hK _) hS1 (fun _ h=>h) hI1.cl (fun f hf=>cl_mono hn (hcs f hf)) ⟨hn,hag⟩
def coPost (P:Program)(S:Sd)(Ψ:CoGoal)(b:Frame)(k:List Item)(cs:List Frame):Exit→Act→World→Prop
 | .normal,a,w=>CoReach P S Ψ (b.at a k) cs w
 | .ret,a,w=>∀ todo,CoReach P S Ψ (outFr b a todo) cs w
 |_,_,_=>False
theorem CoReach.code (hC:Clo P F S){c:Code}(hok:okCode P F S c=true)(hk:b.kind= .normal)(hfn:∃ f,P.funcs[b.fn]? =some f)(hd:a.defers=[])
 (h:∀ τ d,c.wp P (coPost P S Ψ b k cs) a (w.re τ d)):CoReach P S Ψ (b.at a (.code c::k)) cs w:=
 CoReach.item hC hok hk hfn hd fun τ=>by
  obtain⟨e,a',w',hK,harr⟩:=h τ 0 b [mk0] [c0 P]
  cases e with
  |normal=>exact .inl ⟨a',w',hK,harr⟩
  |ret=>obtain⟨todo,hs⟩:=harr;exact .inr ⟨a',w',todo,hK,hs⟩
  |_=>exact hK.elim
theorem CoReach.ops (hC:Clo P F S){ops:Array Oper}(hk:b.kind= .normal)(hfn:∃ f,P.funcs[b.fn]? =some f)(hd:a.defers=[]){l:List Nat}(hok:(l.all fun i=>(ops[i]?).all fun o=>okOp P F S o.op)=true)(i:Nat)(rest:List Oper)(hl:l=List.range' i rest.length)(hr:∀ j,rest[j]? =ops[i+j]?)
 (h:∀ τ d,wpList P ops (coPost P S Ψ b k cs) rest a (w.re τ d)):CoReach P S Ψ (b.at a (.inRegion ops l::k)) cs w:=
 CoReach.item hC hok hk hfn hd fun τ=>by
  have h0:=h τ 0
  rw[←wpOps_eq_wpList rest i hr,←hl] at h0
  obtain⟨e,a',w',hK,harr⟩:=wp_ops l a (w.re τ 0) h0 b [mk0] [c0 P]
  cases e with
  |normal=>exact .inl ⟨a',w',hK,harr⟩
  |ret=>obtain⟨todo,hs⟩:=harr;exact .inr ⟨a',w',todo,hK,hs⟩
  |_=>exact hK.elim
end
end Go.Ren
namespace Go.Ren
open Go Go.Conc
open Go.ConcN (sumTo)
theorem crew_turn {P:Program}{c:Nat}{a b:Goroutine}{Q:Machine→Trace→Prop}{J:World→Trace→Prop}(hwa:awake a)(hwb:awake b)(hrun:a.status= .running∨b.status= .running)
 (hJ:∀ w t d ops,J w t→(∀ op∈ops,op.act.touch? =none∧∀ a,op.act≠ .mark (.release a))→(∀ B,∀ op∈ops,op.act.low B)→Deaf (t++ops) 0=Deaf t 0→Deaf (t++ops) c=Deaf t c→J (w.at d) (t++ops))
 (hst:∀ w t,J w t→Stay P w a∧Stay P w b)
 (H0:a.status= .running→∀ gs w sl t q,Crew P c t gs q→gs[0]? =some a→gs[c]? =some b→J w t→∃ m' ops,runT P (crowd gs w sl) 0=(.next m',ops)∧Reach P m' (t++ops) Q)
 (HC:b.status= .running→∀ gs w sl t q,Crew P c t gs q→gs[0]? =some a→gs[c]? =some b→J w t→∃ m' ops,runT P (crowd gs w sl) c=(.next m',ops)∧Reach P m' (t++ops) Q):
 ∀ gs w sl t q,Crew P c t gs q→gs[0]? =some a→gs[c]? =some b→J w t→Reach P (crowd gs w sl) t Q:=by
 intro gs w sl t q hC h0 hc hj
 generalize hM:sumTo c q=M
 induction M using Nat.strongRecOn generalizing gs w sl t q with
 |_ M ih=>
  have hd:∀ w t d,J w t→J (w.at d) t:=fun w t d h=>by
   have:=hJ w t d #[] h (by simp) (by simp) (by simp) (by simp)
   simpa using this
  rcases crew_cases (sl:=sl) hC h0 hc hwa hwb hrun (hst w t hj).1 (hst w t hj).2 with⟨hr,d,sl',hs⟩|⟨hr,d,sl',hs⟩|⟨gs',d,sl',ops,q',hs,hC',h0',hc',hlt,h1,h2,h3,h4⟩
  ·obtain⟨m',ops,e,hR⟩:=H0 hr gs (w.at d) sl' t q hC h0 hc (hd w t d hj)
   exact Reach.step (hs.trans e) hR
  ·obtain⟨m',ops,e,hR⟩:=HC hr gs (w.at d) sl' t q hC h0 hc (hd w t d hj)
   exact Reach.step (hs.trans e) hR
  ·exact Reach.step hs (ih _ (by omega) gs' (w.at d) sl' (t++ops) q' hC' h0' hc' (hJ w t d ops hj h1 h2 h3 h4) rfl)
def AtRecvW (P:Program)(ch:Nat)(z:Value)(Next:(Nat→Prop)→Goroutine→World→Prop)(own:Nat→Prop)(g:Goroutine)(w:World):Prop:=
 g.status= .running∧stepG P true g w= .comm (core g) #[rcase ch z] true (.recv true) w #[]∧Next own (core g) w
def RecvsW (P:Program)(ro:Nat→Prop)(ch:Nat)(z:Value)(Fin:(Nat→Prop)→Goroutine→World→Prop):List Value→(Nat→Prop)→Goroutine→World→Prop
 |[],own,g,w=>Walks P true ro (AtRecvW P ch z fun own g w=>Fin own (Conc.served g (.tuple #[z,.bool false])) w) own g w
 |v::vs,own,g,w=>Walks P true ro (AtRecvW P ch z fun own g w=>RecvsW P ro ch z Fin vs own (Conc.served g (.tuple #[v,.bool true])) w) own g w
def NextM (P:Program)(ro:Nat→Prop)(ch:Nat)(z:Value)(Fin:(Nat→Prop)→Goroutine→World→Prop):List Value→(Nat→Prop)→Goroutine→World→Prop
 |[],own,g,w=>Fin own (Conc.served g (.tuple #[z,.bool false])) w
 |v::vs,own,g,w=>RecvsW P ro ch z Fin vs own (Conc.served g (.tuple #[v,.bool true])) w
def AtSendW (P:Program)(ch:Nat)(v:Value)(Next:(Nat→Prop)→Goroutine→World→Prop)(own:Nat→Prop)(g:Goroutine)(w:World):Prop:=
 g.status= .running∧∃ z',stepG P false g w= .comm (core g) #[scase ch v z'] true .send w #[]∧Next own (Conc.served (core g) undef) w
def closeEv (ch:Nat):Array Event:=#[⟨.obj ch,false,true⟩,⟨.obj ch,true,true⟩]
def AtCloseW (P:Program)(ch:Nat)(FinG:(Nat→Prop)→Goroutine→World→Prop)(own:Nat→Prop)(g:Goroutine)(w:World):Prop:=
 g.status= .running∧mayWake P g=true∧∃ g₂,g₂.status= .running∧∀ s r tm,w.heap[ch]? =some (.chan 0 #[] false s r tm)→stepG P false g w= .go g₂ (w.setChan ch 0 #[] true s r tm) (closeEv ch)∧FinG own g₂ (w.setChan ch 0 #[] true s r tm)
def SendsW (P:Program)(ro:Nat→Prop)(ch:Nat)(FinG:(Nat→Prop)→Goroutine→World→Prop):List Value→(Nat→Prop)→Goroutine→World→Prop
 |[],own,g,w=>Walks P false ro (AtCloseW P ch FinG) own g w
 |v::vs,own,g,w=>Walks P false ro (AtSendW P ch v (SendsW P ro ch FinG vs)) own g w
def StopG (P:Program)(ro:Nat→Prop)(ch:Nat)(FinG:(Nat→Prop)→Goroutine→World→Prop):List Value→(Nat→Prop)→Goroutine→World→Prop
 |[]=>AtCloseW P ch FinG
 |v::vs=>AtSendW P ch v (SendsW P ro ch FinG vs)
theorem recvsW_iff {P:Program}{ro:Nat→Prop}{ch:Nat}{z:Value}{Fin:(Nat→Prop)→Goroutine→World→Prop}{vs:List Value}{own:Nat→Prop}{g:Goroutine}{w:World}:
 RecvsW P ro ch z Fin vs own g w↔Walks P true ro (AtRecvW P ch z (NextM P ro ch z Fin vs)) own g w:=by cases vs<;>exact Iff.rfl
theorem sendsW_iff {P:Program}{ro:Nat→Prop}{ch:Nat}{FinG:(Nat→Prop)→Goroutine→World→Prop}{vs:List Value}{own:Nat→Prop}{g:Goroutine}{w:World}:
 SendsW P ro ch FinG vs own g w↔Walks P false ro (StopG P ro ch FinG vs) own g w:=by cases vs<;>exact Iff.rfl
theorem Walks.running {P:Program}{main:Bool}{ro own:Nat→Prop}{Stop:(Nat→Prop)→Goroutine→World→Prop}{g:Goroutine}{w:World}(h:Walks P main ro Stop own g w)(hs:∀ own g w,Stop own g w→g.status= .running):g.status= .running:=by
 cases h with
 |stop h=>exact hs _ _ _ (h w (Rely.refl _ _ _))
 |step _ _ _ h=>exact h
theorem StopG.running {P:Program}{ro:Nat→Prop}{ch:Nat}{FinG:(Nat→Prop)→Goroutine→World→Prop}{vs:List Value}{own:Nat→Prop}{g:Goroutine}{w:World}(h:StopG P ro ch FinG vs own g w):g.status= .running:=by cases vs<;>exact h.1
structure Lay (Q Shun:Loc→Prop) (c ch Low:Nat) (ro:Nat→Prop):Prop where
 c0:c≠0
 rlt:∀ b,ro b→b<Low
 chlt:ch<Low
 chro:¬ ro ch
 QS:∀ l,Q l→Shun l
 shun:∀ l,Shun l→l.low Low
 rS:∀ l,InB ro l→¬ Shun l
 Qch:Q (.obj ch)
structure St1 (Q Shun:Loc→Prop) (c ch Low:Nat) (ro ownM ownG X:Nat→Prop) (closed:Bool) (w0 w:World) (t:Trace):Prop where
 ti:TI Q Shun c ownG ro w.heap.size t
 d0:Deaf t 0=0
 dc:closed=false→Deaf t c=0
 mlt:∀ b,ownM b→Low≤b∧b<w.heap.size
 glt:∀ b,ownG b→Low≤b∧b<w.heap.size
 apart:∀ b,ownM b→¬ ownG b
 big:Low≤w.heap.size
 chan:∃ s r tm,w.heap[ch]? =some (.chan 0 #[] closed s r tm)
 tape:w.tape=w0.tape
 os:w.os=w0.os
 output:w.output=w0.output
 keep:∀ b,b<Low→¬ X b→w.heap[b]? =w0.heap[b]?
 xch:X ch
section
variable {P:Program} {Q Shun:Loc→Prop} {c ch Low:Nat} {ro ownM ownG X:Nat→Prop} {cl:Bool} {w0 w w':World} {t u:Trace} {es:Array Event} {fn:FuncId} {pos:String}
theorem inB_ge {X:Nat→Prop}(h:∀ b,X b→Low≤b){l:Loc}(hi:InB X l)(hl:l.low Low):False:=inB_low hi (fun b hb hlt=>by have:=h b hb;omega) hl
theorem ops_of_evG {ro own:Nat→Prop}{g:Nat}(h:∀ e∈es,EvG ro own e):∀ op∈MemOp.ofEvents g fn pos es,op.g=g∧OwnOp ro own op:=by
 intro op hop
 obtain⟨e,he,rfl⟩:=Conc.mem_ofEvents hop
 refine⟨rfl,evG_touch (h e he),?_,?_⟩
 ·intro e';exact(evG_deaf (h e he)).1 (by obtain⟨loc,wr,sy⟩:=e;cases loc<;>cases wr<;>cases sy<;>simp_all [MemAct.ofEvent])
 ·intro e';exact(evG_deaf (h e he)).2 (by obtain⟨loc,wr,sy⟩:=e;cases loc<;>cases wr<;>cases sy<;>simp_all [MemAct.ofEvent])
theorem low_of_evG {ro own:Nat→Prop}{g B:Nat}(hB:∀ b,own b→b<B)(hr:∀ b,ro b→b<B)(h:∀ e∈es,EvG ro own e):∀ op∈MemOp.ofEvents g fn pos es,op.act.low B:=by
 intro op hop
 obtain⟨e,he,rfl⟩:=Conc.mem_ofEvents hop
 exact evG_low hB hr (h e he)
theorem Deaf_evG {ro own:Nat→Prop}{g:Nat}(h:∀ e∈es,EvG ro own e):Deaf (t++MemOp.ofEvents g fn pos es) g=Deaf t g:=by
 rw[Deaf_own]
 exact deafBehind_still (fun e he=>evG_deaf (h e he)) _
theorem St1.still (h:St1 Q Shun c ch Low ro ownM ownG X cl w0 w t)(d:Nat)(h1:∀ op∈u,op.act.touch? =none)(h2:∀ op∈u,op.act.low w.heap.size)(h3:Deaf (t++u) 0=Deaf t 0)(h4:Deaf (t++u) c=Deaf t c):St1 Q Shun c ch Low ro ownM ownG X cl w0 (w.at d) (t++u):=
 ⟨h.ti.still h1 h2,h3.trans h.d0,fun e=>h4.trans (h.dc e),h.mlt,h.glt,h.apart,h.big,h.chan,h.tape,h.os,h.output,h.keep,h.xch⟩
theorem St1.stepM (hY:Lay Q Shun c ch Low ro)(h:St1 Q Shun c ch Low ro ownM ownG X cl w0 w t)(hg:Guar ro ownM w w' es):St1 Q Shun c ch Low ro (Grow ownM w w') ownG X cl w0 w' (t++MemOp.ofEvents 0 fn pos es)∧Rely ro ownG w w':=by
 have hs:=hg.size
 have hb:=h.big
 have hge:∀ b,Grow ownM w w' b→Low≤b∧b<w'.heap.size:=fun b hb'=>hb'.elim (fun x=>by have:=h.mlt b x;omega) fun x=>by omega
 have hap:∀ b,Grow ownM w w' b→¬ ownG b:=fun b hb' hgb=>hb'.elim (fun x=>h.apart b x hgb) fun x=>by have:=h.glt b hgb;omega
 have hkeep:∀ b,b<w.heap.size→¬ ownM b→w'.heap[b]? =w.heap[b]?:=hg.block
 have hlow:∀ b,b<Low→w'.heap[b]? =w.heap[b]?:=fun b hlt=>hkeep b (by omega) fun hm=>by have:=h.mlt b hm;omega
 refine⟨⟨(h.ti.mono hs).app0 (own:=Grow ownM w w') hY.c0 (ops_of_evG hg.evs) (low_of_evG (fun b hb'=>(hge b hb').2) (fun b hb'=>by have:=hY.rlt b hb';omega) hg.evs) ?_ ?_ hap ?_ ?_,(Deaf_evG hg.evs).trans h.d0,?_,hge,fun b hb'=>by have:=h.glt b hb';omega,hap,by omega,?_,hg.tape.trans h.tape,hg.os.trans h.os,hg.output.trans h.output,fun b h1 h2=>(hlow b h1).trans (h.keep b h1 h2),h.xch⟩,hg.tape,hg.os,hg.output,hs,?_⟩
 ·rintro l (hl|hl) hS
  ·exact inB_ge (fun b hb'=>(hge b hb').1) hl (hY.shun l hS)
  ·exact hY.rS l hl hS
 ·rintro l (hl|hl) hS
  ·exact inB_ge (fun b hb'=>(hge b hb').1) hl (hY.shun l (hY.QS l hS))
  ·exact hY.rS l hl (hY.QS l hS)
 ·intro b hb' hr;have:=hge b hb';have:=hY.rlt b hr;omega
 ·intro b hb' hr;have:=h.glt b hb';have:=hY.rlt b hr;omega
 ·intro e;rw[Deaf_other t (Ne.symm hY.c0) _ ofEvents_g];exact h.dc e
 ·obtain⟨s,r,tm,e⟩:=h.chan
  exact⟨s,r,tm,by rw[hlow ch hY.chlt];exact e⟩
 ·rintro b (hb'|hb')
  ·exact hkeep b (h.glt b hb').2 fun hm=>h.apart b hm hb'
  ·exact hlow b (hY.rlt b hb')
theorem St1.stepG (hY:Lay Q Shun c ch Low ro)(h:St1 Q Shun c ch Low ro ownM ownG X cl w0 w t)(hg:Guar ro ownG w w' es):St1 Q Shun c ch Low ro ownM (Grow ownG w w') X cl w0 w' (t++MemOp.ofEvents c fn pos es)∧Rely ro ownM w w':=by
 have hs:=hg.size
 have hb:=h.big
 have hge:∀ b,Grow ownG w w' b→Low≤b∧b<w'.heap.size:=fun b hb'=>hb'.elim (fun x=>by have:=h.glt b x;omega) fun x=>by omega
 have hap:∀ b,ownM b→¬ Grow ownG w w' b:=fun b hm hgb=>hgb.elim (fun x=>h.apart b hm x) fun x=>by have:=h.mlt b hm;omega
 have hkeep:∀ b,b<w.heap.size→¬ ownG b→w'.heap[b]? =w.heap[b]?:=hg.block
 have hlow:∀ b,b<Low→w'.heap[b]? =w.heap[b]?:=fun b hlt=>hkeep b (by omega) fun hm=>by have:=h.glt b hm;omega
 refine⟨⟨h.ti.appC (own':=Grow ownG w w') hs (ops_of_evG hg.evs) (low_of_evG (fun b hb'=>(hge b hb').2) (fun b hb'=>by have:=hY.rlt b hb';omega) hg.evs) (fun b=>Iff.rfl) ?_,?_,fun e=>(Deaf_evG hg.evs).trans (h.dc e),fun b hb'=>by have:=h.mlt b hb';omega,hge,hap,by omega,?_,hg.tape.trans h.tape,hg.os.trans h.os,hg.output.trans h.output,fun b h1 h2=>(hlow b h1).trans (h.keep b h1 h2),h.xch⟩,hg.tape,hg.os,hg.output,hs,?_⟩
 ·rintro l (hl|hl) hS
  ·exact inB_ge (fun b hb'=>(hge b hb').1) hl (hY.shun l (hY.QS l hS))
  ·exact hY.rS l hl (hY.QS l hS)
 ·rw[Deaf_other t hY.c0 _ ofEvents_g];exact h.d0
 ·obtain⟨s,r,tm,e⟩:=h.chan
  exact⟨s,r,tm,by rw[hlow ch hY.chlt];exact e⟩
 ·rintro b (hb'|hb')
  ·exact hkeep b (h.mlt b hb').2 fun hm=>h.apart b hb' hm
  ·exact hlow b (hY.rlt b hb')
theorem setChan_ne {cap s r:Nat}{buf:Array Value}{tm cl:Bool}{b:Nat}(h:b≠ch):(w.setChan ch cap buf cl s r tm).heap[b]? =w.heap[b]?:=by
 show(w.heap.setIfInBounds ch _)[b]? =_
 rw[Array.getElem?_setIfInBounds_ne (Ne.symm h)]
theorem setChan_size {cap s r:Nat}{buf:Array Value}{tm cl:Bool}:(w.setChan ch cap buf cl s r tm).heap.size=w.heap.size:=by
 show(w.heap.setIfInBounds ch _).size=_
 simp
theorem rely_chan {cap s r:Nat}{buf:Array Value}{tm cl:Bool}{own:Nat→Prop}(h:¬ own ch)(hr:¬ ro ch):Rely ro own w (w.setChan ch cap buf cl s r tm):=
 ⟨rfl,rfl,rfl,by rw[setChan_size];exact Nat.le_refl _,fun b hb=>setChan_ne fun e=>by subst e;exact hb.elim h hr⟩
theorem St1.chG (hY:Lay Q Shun c ch Low ro)(h:St1 Q Shun c ch Low ro ownM ownG X cl w0 w t):¬ ownG ch:=fun x=>by have:=h.glt ch x;have:=hY.chlt;omega
theorem St1.chM (hY:Lay Q Shun c ch Low ro)(h:St1 Q Shun c ch Low ro ownM ownG X cl w0 w t):¬ ownM ch:=fun x=>by have:=h.mlt ch x;have:=hY.chlt;omega
theorem St1.meet (hY:Lay Q Shun c ch Low ro){s r s' r':Nat}{tm:Bool}(h:St1 Q Shun c ch Low ro ownM ownG X false w0 w t)(hch:w.heap[ch]? =some (.chan 0 #[] false s r tm))(hu:Meets ch u):St1 Q Shun c ch Low ro ownM ownG X false w0 (w.setChan ch 0 #[] false s' r' tm) (t++u):=by
 have hb:=h.big
 have hcl:=hY.chlt
 refine⟨by rw[setChan_size];exact h.ti.still (fun op hop=>(hu op hop).1) fun op hop=>(hu op hop).2.2 _ (by omega),by rw[Deaf_comm t 0 u fun op hop=>(hu op hop).2.1];exact h.d0,fun e=>by rw[Deaf_comm t c u fun op hop=>(hu op hop).2.1];exact h.dc e,by rw[setChan_size];exact h.mlt,by rw[setChan_size];exact h.glt,h.apart,by rw[setChan_size];exact hb,⟨s',r',tm,heap_put hch⟩,h.tape,h.os,h.output,fun b h1 h2=>(setChan_ne fun e=>h2 (by rw[e];exact h.xch)).trans (h.keep b h1 h2),h.xch⟩
theorem closeOps' (g:Nat):MemOp.ofEvents g fn pos (closeEv ch)=#[{ g:=g,fn:=fn,pos:=pos,act:= .access ⟨.obj ch,false,true⟩ },{ g:=g,fn:=fn,pos:=pos,act:= .close ch }]:=by
 simp[MemOp.ofEvents,closeEv,MemAct.ofEvent]
theorem St1.closeDeaf (h:St1 Q Shun c ch Low ro ownM ownG X false w0 w t):Deaf (t++MemOp.ofEvents c fn pos (closeEv ch)) c=0:=by
 rw[Deaf_comm t c _ fun op hop m e=>?_]
 ·exact h.dc rfl
 ·rw[closeOps'] at hop
  simp at hop
  rcases hop with rfl|rfl<;>simp at e
theorem St1.close (hY:Lay Q Shun c ch Low ro){s r:Nat}{tm:Bool}(h:St1 Q Shun c ch Low ro ownM ownG X false w0 w t)(hch:w.heap[ch]? =some (.chan 0 #[] false s r tm)):St1 Q Shun c ch Low ro ownM ownG X true w0 (w.setChan ch 0 #[] true s r tm) (t++MemOp.ofEvents c fn pos (closeEv ch)):=by
 have hb:=h.big
 have hcl:=hY.chlt
 have hm:∀ op∈MemOp.ofEvents c fn pos (closeEv ch),∀ m,op.act≠ .mark m:=fun op hop m e=>by
  rw[closeOps'] at hop
  simp at hop
  rcases hop with rfl|rfl<;>simp at e
 refine⟨?_,by rw[Deaf_comm t 0 _ hm];exact h.d0,(fun e=>by cases e),by rw[setChan_size];exact h.mlt,by rw[setChan_size];exact h.glt,h.apart,by rw[setChan_size];exact hb,⟨s,r,tm,heap_put hch⟩,h.tape,h.os,h.output,fun b h1 h2=>(setChan_ne fun e=>h2 (by rw[e];exact h.xch)).trans (h.keep b h1 h2),h.xch⟩
 rw[setChan_size]
 refine h.ti.appQ (g:=c) (.inr rfl) (fun op hop=>⟨ofEvents_g op hop,fun x hx=>?_⟩) (fun op hop=>?_) hY.QS fun l hl=>⟨fun hi=>?_,fun hi=>hY.rS l hi (hY.QS l hl)⟩
 ·rw[closeOps'] at hop
  simp at hop
  rcases hop with rfl|rfl
  ·simp only[MemAct.touch?,Option.some.injEq] at hx
   subst hx
   exact⟨hY.Qch,by simp,by simp⟩
  ·simp[MemAct.touch?] at hx
 ·rw[closeOps'] at hop
  simp at hop
  have:ch<w.heap.size:=by omega
  rcases hop with rfl|rfl<;>exact this
 ·exact inB_ge (fun b hb'=>(h.glt b hb').1) hi (hY.shun l (hY.QS l hl))
end
end Go.Ren
