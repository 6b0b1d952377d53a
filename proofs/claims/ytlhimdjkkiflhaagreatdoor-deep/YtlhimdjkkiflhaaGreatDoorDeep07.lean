import Derived.Calls
import Derived.Test.YtlhimdjkkiflhaaGreatDoorDeep06
namespace Go.Ren
open Go Go.Conc
section
variable {P:Program} {F:FuncId→Bool} {S:Sd}
theorem idinj:∀ a b,idR a=idR b→a=b:=fun _ _ h=>h
theorem run_soft {α:Type}:∀ (t:Sem α) (Rs:Nat→α→α→Prop) (w:World) (es:Array Event) (h:Halt) (w1:World) (es1:Array Event),
 (∀ n,w.heap.size≤n→Eqv P (sg S S.d n) (Rs n) t t)→WR P S idR w w→t.runT P w es=(.halt h w1,es1)→Soft h
 | .pure a0,Rs,w,es,h,w1,es1,h2,hW,hr=>by simp[Sem.runT] at hr
 | .load m ad k,Rs,w,es,h,w1,es1,h2,hW,hr=>by
   by_cases hlt:ad.block<S.d
   ·simp only[Sem.runT,cell_dead hW hlt,World.farLoad,hW.dead _ hlt,deadObj,Prod.mk.injEq,World.noCell] at hr
    have e:=hr.1
    simp only[Result.halt.injEq] at e
    rw[←e.1];trivial
   have hfix:S.d≤ad.block∧ad.block<w.heap.size:=by
    rcases h2 w.heap.size (Nat.le_refl _) with h|⟨k',e,_⟩
    ·exact absurd h hlt
    ·simp only[Sem.load.injEq] at e
     exact sg_fix.1 (ra_fix.1 e.2.1.symm)
   have h2':∀ v,(∀ n,w.heap.size≤n→rv (sg S S.d n) v=v)→∀ n,w.heap.size≤n→Eqv P (sg S S.d n) (Rs n) (k v) (k v):=fun v hv n hn=>by
    rcases h2 n hn with h|⟨k',e,hk⟩
    ·exact absurd h hlt
    ·simp only[Sem.load.injEq] at e
     obtain⟨_,_,rfl⟩:=e
     have:=hk v
     rwa[hv n hn] at this
   simp only[Sem.runT] at hr
   cases hc:w.cell? ad with
   |some v=>
    rw[hc] at hr
    have hcl:=cell_closed hW hfix.1 hc
    exact run_soft (k v) Rs w _ h w1 es1 (h2' v fun n hn=>fix_mono (sg_mono hn).1 (sg_mono hn).2 v hcl) hW hr
   |none=>
    rw[hc] at hr
    simp only at hr
    obtain⟨o,ho⟩:∃ o,w.heap[ad.block]? =some o:=⟨_,Array.getElem?_eq_getElem hfix.2⟩
    have hok:=hW.ok _ o ho
    cases o with
    |view at_ u=>
     cases hv:w.viewLoad P at_ u ad (m== .atomic) with
     |error e=>
      simp only[World.farLoad,ho,hv,Prod.mk.injEq,Result.halt.injEq] at hr
      rw[←hr.1.1];trivial
     |ok x=>
      simp only[World.farLoad,ho,hv] at hr
      have hcl:=hW.closed _ _ hfix.1 ho
      simp only[ro,Obj.view.injEq,and_true] at hcl
      have hat:=sg_fix.1 (ra_fix.1 hcl)
      obtain⟨v,ts⟩:=x
      obtain⟨ts',q1,q2,q3,q4⟩:=viewLoad_ren hW.Live hat.1 hv
      exact run_soft (k v) Rs w _ h w1 es1 (h2' v fun n _=>q3 _) hW hr
    |cells c e f=>
     simp only[World.farLoad,ho,World.noCell,Prod.mk.injEq,Result.halt.injEq] at hr
     rw[←hr.1.1];trivial
    |number c e=>
     simp only[World.farLoad,ho,World.noCell,Prod.mk.injEq,Result.halt.injEq] at hr
     rw[←hr.1.1];trivial
    |map c e=>
     simp only[World.farLoad,ho,World.noCell,Prod.mk.injEq,Result.halt.injEq] at hr
     rw[←hr.1.1];trivial
    |_=>exact hok.elim
 | .store m ad v k,Rs,w,es,h,w1,es1,h2,hW,hr=>by
   have hfix:(S.d≤ad.block∧ad.block<w.heap.size)∧rv (sg S S.d w.heap.size) v=v:=by
    obtain⟨k',e,_⟩:=h2 w.heap.size (Nat.le_refl _)
    simp only[Sem.store.injEq] at e
    exact⟨sg_fix.1 (ra_fix.1 e.2.1.symm),e.2.2.1.symm⟩
   obtain⟨hfix,hv⟩:=hfix
   have h2':∀ n,w.heap.size≤n→Eqv P (sg S S.d n) (Rs n) k k:=fun n hn=>by
    obtain⟨k',e,hk⟩:=h2 n hn
    simp only[Sem.store.injEq] at e
    obtain⟨_,_,_,rfl⟩:=e
    exact hk
   cases hc:w.cell? ad with
   |some v0=>
    cases hfz:w.frozen? ad with
    |true=>cases v<;>simp only[Sem.runT,hc,hfz,if_true,Prod.mk.injEq,Result.halt.injEq] at hr<;>(rw[←hr.1.1];trivial)
    |false=>
     have key:(∃ s,h= .stuck s)∨k.runT P (w.setCell ad v) (es.push ⟨.cell ad,true,m== .atomic⟩)=(.halt h w1,es1):=by
      cases v<;>simp only[Sem.runT,hc,hfz,Bool.false_eq_true,if_false] at hr<;>first|exact .inr hr|(simp only[Prod.mk.injEq,Result.halt.injEq] at hr;exact .inl ⟨_,hr.1.1.symm⟩)
     rcases key with⟨s,rfl⟩|key
     ·trivial
     ·have hs:=hW.setCell idinj hfix.1 hv
      rw[rv_id] at hs
      exact run_soft k Rs _ _ h w1 es1 (by simpa[World.setCell] using h2') hs key
   |none=>
    obtain⟨o,ho⟩:∃ o,w.heap[ad.block]? =some o:=⟨_,Array.getElem?_eq_getElem hfix.2⟩
    have hok:=hW.ok _ o ho
    have soft:∀ x,w.farStore P ad v (m== .atomic)= .error x→Soft x:=fun x hx=>by
     unfold World.farStore at hx
     rw[ho] at hx
     cases o with
     |view at_ u=>
      simp only at hx
      split at hx
      ·cases hx
      ·cases hx;trivial
     |cells c e f=>simp only[World.noCell,ho,Except.error.injEq] at hx;rw[←hx];trivial
     |number c e=>simp only[World.noCell,ho,Except.error.injEq] at hx;rw[←hx];trivial
     |map c e=>simp only[World.noCell,ho,Except.error.injEq] at hx;rw[←hx];trivial
     |_=>exact hok.elim
    cases hf:w.farStore P ad v (m== .atomic) with
    |error x=>
     have:(∃ s,h= .stuck s)∨h=x:=by
      cases v<;>simp only[Sem.runT,hc,hf,Prod.mk.injEq,Result.halt.injEq] at hr<;>first|exact .inr hr.1.1.symm|exact .inl ⟨_,hr.1.1.symm⟩
     rcases this with⟨s,rfl⟩|rfl
     ·trivial
     ·exact soft _ hf
    |ok x=>
     obtain⟨w2,ts⟩:=x
     have hf0:=hf
     unfold World.farStore at hf
     rw[ho] at hf
     cases o with
     |view at_ u=>
      simp only at hf
      cases hvs:w.viewStore P at_ u ad v (m== .atomic) with
      |error e=>rw[hvs] at hf;cases hf
      |ok x=>
       rw[hvs] at hf
       simp only[Except.ok.injEq] at hf
       subst hf
       have hcl:=hW.closed _ _ hfix.1 ho
       simp only[ro,Obj.view.injEq,and_true] at hcl
       have hat:=sg_fix.1 (ra_fix.1 hcl)
       obtain⟨c,c',ty,fz,ts',q1,q2,q3,q4,q5⟩:=viewStore_ren hW.Live hat.1 hvs
       subst q2
       have key:(∃ s,h= .stuck s)∨k.runT P { w with heap:=w.heap.setIfInBounds at_.block (.cells c' ty fz) } (es++ts.toArray.map (⟨.cell ·,true,m== .atomic⟩))=(.halt h w1,es1):=by
        cases v<;>simp only[Sem.runT,hc,hf0] at hr<;>first|exact .inr hr|(simp only[Prod.mk.injEq,Result.halt.injEq] at hr;exact .inl ⟨_,hr.1.1.symm⟩)
       rcases key with⟨s,rfl⟩|key
       ·trivial
       ·have hupd:WR P S idR { w with heap:=w.heap.setIfInBounds at_.block (.cells c' ty fz) } { w with heap:=w.heap.setIfInBounds (idR at_.block) (.cells c' ty fz) }:=by
         refine hW.upd idinj hat.1 (chg_set _ _ _) (chg_set _ _ _) (fun o ho=>⟨trivial,by rw[ro_id],fun hs=>?_⟩)
         rw[q1] at ho
         cases ho
         simp only[ro,Obj.cells.injEq,and_true] at hs ⊢
         exact q3 _ hs
        exact run_soft k Rs _ _ h w1 es1 (by simpa using h2') hupd key
     |_=>cases hf
 | .new o k,Rs,w,es,h,w1,es1,h2,hW,hr=>by
   have hs:NewOk o∧ro (sg S S.d w.heap.size) o=o:=by
    obtain⟨ho,k',e,_⟩:=h2 w.heap.size (Nat.le_refl _)
    simp only[Sem.new.injEq] at e
    exact⟨ho,e.1.symm⟩
   have h2':∀ n,w.heap.size+1≤n→Eqv P (sg S S.d n) (Rs n) (k w.heap.size) (k w.heap.size):=fun n hn=>by
    obtain⟨_,k',e,hk⟩:=h2 n (by omega)
    simp only[Sem.new.injEq] at e
    obtain⟨_,rfl⟩:=e
    have:=hk w.heap.size
    rwa[show sg S S.d n w.heap.size=w.heap.size from sg_fix.2 ⟨hW.big.d,by omega⟩] at this
   simp only[Sem.runT] at hr
   have hpush:=hW.push hs.1 hs.2
   rw[ro_id] at hpush
   exact run_soft (k w.heap.size) Rs _ es h w1 es1 (by simpa using h2') hpush hr
 | .shape r k,Rs,w,es,h,w1,es1,h2,hW,hr=>by
   simp only[Sem.runT] at hr
   refine run_soft _ Rs w es h w1 es1 (fun n hn=>?_) hW hr
   obtain⟨k',e,hk⟩:=h2 n hn
   simp only[Sem.shape.injEq] at e
   obtain⟨_,rfl⟩:=e
   exact hk _
 | .freeze ad n k,Rs,w,es,h,w1,es1,h2,hW,hr=>by
   have hfix:S.d≤ad.block∧ad.block<w.heap.size:=by
    obtain⟨k',e,_⟩:=h2 w.heap.size (Nat.le_refl _)
    simp only[Sem.freeze.injEq] at e
    exact sg_fix.1 (ra_fix.1 e.1.symm)
   have h2':∀ n,w.heap.size≤n→Eqv P (sg S S.d n) (Rs n) k k:=fun n hn=>by
    obtain⟨k',e,hk⟩:=h2 n hn
    simp only[Sem.freeze.injEq] at e
    obtain⟨_,_,rfl⟩:=e
    exact hk
   simp only[Sem.runT] at hr
   have hsz:(w.freeze ad n).heap.size=w.heap.size:=by unfold World.freeze;split<;>simp
   exact run_soft k Rs (w.freeze ad n) es h w1 es1 (by rw[hsz];exact h2') (hW.freeze idinj hfix.1) hr
 | .frozen ad k,Rs,w,es,h,w1,es1,h2,hW,hr=>by
   simp only[Sem.runT] at hr
   refine run_soft _ Rs w es h w1 es1 (fun n hn=>?_) hW hr
   obtain⟨k',e,hk⟩:=h2 n hn
   simp only[Sem.frozen.injEq] at e
   obtain⟨_,rfl⟩:=e
   exact hk _
 | .getObj r k,Rs,w,es,h,w1,es1,h2,hW,hr=>by
   have hfix:S.d≤r∧r<w.heap.size:=by
    obtain⟨k',e,_⟩:=h2 w.heap.size (Nat.le_refl _)
    simp only[Sem.getObj.injEq] at e
    exact sg_fix.1 e.1.symm
   obtain⟨o,ho⟩:∃ o,w.heap[r]? =some o:=⟨_,Array.getElem?_eq_getElem hfix.2⟩
   have hcl:=hW.closed _ o hfix.1 ho
   have hok:=hW.ok _ o ho
   have hcn:∀ n,w.heap.size≤n→ro (sg S S.d n) o=o:=fun n hn=>fixO_mono (sg_mono hn).1 (sg_mono hn).2 hcl
   have h2':∀ n,w.heap.size≤n→Eqv P (sg S S.d n) (Rs n) (k o) (k o):=fun n hn=>by
    obtain⟨k',e,hk⟩:=h2 n hn
    simp only[Sem.getObj.injEq] at e
    obtain⟨_,rfl⟩:=e
    have:=hk o (.inr (hcn n hn))
    rwa[hcn n hn] at this
   simp only[Sem.runT,ho] at hr
   cases o with
   |cells c e f=>simp only[Prod.mk.injEq,Result.halt.injEq] at hr;rw[←hr.1.1];trivial
   |view x t=>exact run_soft _ Rs w _ h w1 es1 h2' hW hr
   |number x t=>exact run_soft _ Rs w _ h w1 es1 h2' hW hr
   |map x t=>exact run_soft _ Rs w _ h w1 es1 h2' hW hr
   |_=>exact hok.elim
 | .setObj r o k,Rs,w,es,h,w1,es1,h2,hW,hr=>by
   have hfix:((S.d≤r∧r<w.heap.size)∧ro (sg S S.d w.heap.size) o=o)∧SetOk o:=by
    obtain⟨hs,k',e,_⟩:=h2 w.heap.size (Nat.le_refl _)
    simp only[Sem.setObj.injEq] at e
    exact⟨⟨sg_fix.1 e.1.symm,e.2.1.symm⟩,hs⟩
   obtain⟨⟨hfix,hcl⟩,hso⟩:=hfix
   have h2':∀ n,w.heap.size≤n→Eqv P (sg S S.d n) (Rs n) k k:=fun n hn=>by
    obtain⟨_,k',e,hk⟩:=h2 n hn
    simp only[Sem.setObj.injEq] at e
    obtain⟨_,_,rfl⟩:=e
    exact hk
   obtain⟨o0,ho⟩:∃ o,w.heap[r]? =some o:=⟨_,Array.getElem?_eq_getElem hfix.2⟩
   have hok:=hW.ok _ o0 ho
   have hupd:WR P S idR { w with heap:=w.heap.setIfInBounds r o } { w with heap:=w.heap.setIfInBounds r o }:=by
    refine hW.upd idinj hfix.1 (chg_set _ _ _) (chg_set _ _ _) (fun o1 _=>⟨?_,by rw[ro_id],fun _=>hcl⟩)
    cases o<;>first|exact hso.elim|trivial
   simp only[Sem.runT,ho] at hr
   cases o0 with
   |cells c e f=>simp only[Prod.mk.injEq,Result.halt.injEq] at hr;rw[←hr.1.1];trivial
   |view x t=>exact run_soft k Rs _ _ h w1 es1 (by simpa using h2') hupd hr
   |number x t=>exact run_soft k Rs _ _ h w1 es1 (by simpa using h2') hupd hr
   |map x t=>exact run_soft k Rs _ _ h w1 es1 (by simpa using h2') hupd hr
   |_=>exact hok.elim
 | .choose q k,Rs,w,es,h,w1,es1,h2,hW,hr=>by
   have h2':∀ x n,w.heap.size≤n→Eqv P (sg S S.d n) (Rs n) (k x) (k x):=fun x n hn=>by
    obtain⟨k',e,hk⟩:=h2 n hn
    simp only[Sem.choose.injEq] at e
    obtain⟨_,rfl⟩:=e
    exact hk x
   simp only[Sem.runT] at hr
   split at hr
   ·exact run_soft _ Rs w es h w1 es1 (h2' _) hW hr
   ·exact run_soft _ Rs { w with drawn:=w.drawn+1 } es h w1 es1 (h2' _) (hW.drew _ _) hr
 | .sys c k,Rs,w,es,h,w1,es1,h2,hW,hr=>tm_soft (.sys c k) _ _ _ _ _ (h2 w.heap.size (Nat.le_refl _)) hr
 | .program k,Rs,w,es,h,w1,es1,h2,hW,hr=>by
   simp only[Sem.runT] at hr
   refine run_soft _ Rs w es h w1 es1 (fun n hn=>?_) hW hr
   obtain⟨k',e,hk⟩:=h2 n hn
   simp only[Sem.program.injEq] at e
   obtain rfl:=e
   exact hk
 | .mark m k,Rs,w,es,h,w1,es1,h2,hW,hr=>by
   simp only[Sem.runT] at hr
   refine run_soft k Rs w _ h w1 es1 (fun n hn=>?_) hW hr
   obtain⟨_,k',e,hk⟩:=h2 n hn
   simp only[Sem.mark.injEq] at e
   obtain⟨_,rfl⟩:=e
   exact hk
 | .halt h0,Rs,w,es,h,w1,es1,h2,hW,hr=>by
   simp only[Sem.runT,Prod.mk.injEq,Result.halt.injEq] at hr
   rw[←hr.1.1]
   exact h2 w.heap.size (Nat.le_refl _)
end
def c0 (P:Program):Frame:={ fn:=P.funcs.size,tmps:=#[],todo:=[.call default false "fmt's door" #[]],defers:=[],mode:= .run,kind:= .normal,roundOf:=none }
theorem door2:Extern.next "fmt's door" =none:=by
 have:(Extern.next "fmt's door").isNone=true:=by rfl
 simpa using this
section
variable {P:Program} {F:FuncId→Bool} {S:Sd}
theorem lone_eq (fr:Frame)(cs:List Frame)(w:World):stepG P true { frame:=fr,callers:=cs,status:= .running,dying:=none } w=stepG P true (G fr cs) w:=rfl
theorem lone_go {fr fr':Frame}{cs cs':List Frame}{w w':World}{es:Array Event}(h:stepG P true (G fr cs) w= .go (G fr' cs') w' es):step P (lone fr cs w)= .next (lone fr' cs' w'):=by
 refine step_lone_go ?_
 rw[lone_eq,h]
 rfl
theorem lone_ended {fr:Frame}{cs:List Frame}{w w':World}{o:Outcome}{es:Array Event}(h:stepG P true (G fr cs) w= .ended o w' es):step P (lone fr cs w)= .ended o w':=by
 refine step_lone_ended ?_
 rw[lone_eq,h]
 rfl
theorem lone_inj {fr fr':Frame}{cs cs':List Frame}{w w':World}(h:lone fr cs w=lone fr' cs' w'):fr=fr'∧cs=cs'∧w=w':=by
 simp only[lone,Machine.mk.injEq,Array.mk.injEq,List.cons.injEq,Goroutine.mk.injEq,and_true] at h
 exact⟨h.2.1,h.2.2,h.1⟩
theorem self_exec (hC:Clo P F S){fr:Frame}{above:List Frame}{w:World}(h:PI P F S fr above w){o:Oper}(ho:okOp P F S o.op=true)(n:Nat)(hn:w.heap.size≤n):
 Eqv P (sg S S.d n) (NN F (sg S S.d n)) (execOp fr.eval o) (execOp fr.eval o):=by
 have hf:FixS S (sg S S.d n):=fixS_sg (Nat.le_trans h.wr.big.g hn)
 have hcl:=cl_mono hn h.cl
 have hev:∀ x,okX S x=true→rv (sg S S.d n) (fr.eval x)=fr.eval x:=fun x hx=>by
  have e:=eval_rfr (ρ:=sg S S.d n) (fr:=fr) hx hf
  rw[cl_rfr hcl] at e
  exact e.symm
 refine e_execOp (F:=F) (plain_sg hC n) hf hC.SF hC.fn o ho (fun x hx=>(hev x hx).symm) (fun x hx=> .inr (hev x hx)) (fun x hx=>fv_closed (hev x hx)) (fun _=>rfl) (fun _=>rfl) (fun _=>rfl) (fun _=>rfl)
theorem op_kind (hC:Clo P F S){fr:Frame}{above:List Frame}{w w1:World}(h:PI P F S fr above w){o:Oper}(ho:okOp P F S o.op=true){nx:Next}{es:Array Event}(hr:(execOp fr.eval o).runT P w #[]=(.ok nx w1,es)):∃ b,NN F idR nx b:=by
 have hid:Eqv P idR (NN F idR) (execOp fr.eval o) (execOp fr.eval o):=by
  have hev:∀ x,okX S x=true→FV S (fr.eval x):=fun x hx=>by
   have e:=eval_rfr (ρ:=sg S S.d w.heap.size) (fr:=fr) hx (fixS_sg h.wr.big.g)
   rw[cl_rfr h.cl] at e
   exact fv_closed e.symm
  exact e_execOp (F:=F) (plain_id hC) (S:=S) fixS_id hC.SF hC.fn o ho (fun x hx=>(rv_id _).symm) (fun x hx=> .inl glob_id) hev (fun _=>rfl) (fun _=>rfl) (fun _=>rfl) (fun _=>rfl)
 obtain⟨b,W1,es',r1,r2,_⟩:=run_ren (plain_id hC) go_id _ _ _ (fun n=>NN F (sg S S.d n)) w w #[] #[] _ _ _ hid (fun n hn=>self_exec hC h ho n hn) h.wr (fun _ _ _=>rfl) hr
 exact⟨b,r2⟩
theorem step_halt (hC:Clo P F S){fr:Frame}{above cs:List Frame}{w w1:World}(h:PI P F S fr above w)(hnl:¬ (above=[]∧fr.mode= .returning)){hh:Halt}{es:Array Event}(hr:(psem P fr above).runT P w #[]=(.halt hh w1,es)):
 (∃ chain w2 es',stepG P true (G fr (above++cs)) w= .go (G { fr with mode:= .panicking chain } (above++cs)) w2 es')∨(∃ o w2 es',stepG P true (G fr (above++cs)) w= .ended o w2 es'):=by
 have hI:=h
 obtain⟨fn0,tmps,todo,defers,mode,kind,rnd⟩:=fr
 obtain⟨hd,hm,hk,hrd,hand,hFn⟩:=h.ok
 simp only at hd hm hk hrd hand hFn
 subst hd hk hrd
 rcases hm with rfl|rfl
 ·match todo,hand,hr,hI with
  |[],hand,hr,hI=>simp[psem,pure] at hr
  | .code .ret::k,hand,hr,hI=>simp[psem,pure] at hr
  | .code .skip::k,hand,hr,hI=>simp[psem,pure] at hr
  | .inBlock _::k,hand,hr,hI=>simp[psem,pure] at hr
  | .code (.seq a b)::k,hand,hr,hI=>simp[psem,pure] at hr
  | .code (.block id a)::k,hand,hr,hI=>simp[psem,pure] at hr
  | .code (.loop a)::k,hand,hr,hI=>simp[psem,pure] at hr
  | .inLoop a::k,hand,hr,hI=>simp[psem,pure] at hr
  | .inRegion _ []::k,hand,hr,hI=>simp[psem,pure] at hr
  | .code (.cond c a b)::k,hand,hr,hI=>
    simp only[psem] at hr
    generalize hq:Frame.eval _ c=q at hr
    cases q with
    |bool t=>simp[pure] at hr
    |_=>exact .inr (by simp[G,stepG,stepG.exec,hq])
  | .code (.exit id)::k,hand,hr,hI=>
    simp only[psem] at hr
    cases he:exitTo id k with
    |none=>exact .inr (by simp[G,stepG,stepG.exec,he])
    |some k'=>rw[he] at hr;simp[pure] at hr
  | .code (.region id ops draw)::k,hand,hr,hI=>
    cases draw with
    |false=>simp[psem,pure] at hr
    |true=>
     exfalso
     simp only[psem,if_true,bind,choose,Sem.bind,Sem.runT,Question.forced,Bool.false_eq_true,if_false,pure,Prod.mk.injEq,reduceCtorEq,false_and] at hr
  | .inRegion ops (i::rest)::k,hand,hr,hI=>
    simp only[psem] at hr
    by_cases hw:((ops[i]?).map (Region.wanted · (yielded ops tmps))).getD false=true
    ·rw[if_pos hw] at hr
     cases ho:ops[i]? with
     |none=>rw[ho] at hw;simp at hw
     |some o=>
      rw[ho] at hr
      dsimp only at hr
      have hok:okOp P F S o.op=true:=by
       simp only[List.all_cons,okItem,Bool.and_eq_true] at hand
       have:=hand.1.1
       rw[ho] at this
       simpa using this
      have hstep:stepG P true (G ⟨fn0,tmps,.inRegion ops (i::rest)::k,[],.run,.normal,none⟩ (above++cs)) w=
       stepG.apply P true ⟨fn0,tmps,.inRegion ops (i::rest)::k,[],.run,.normal,none⟩ (above++cs) none (execOp (Frame.eval ⟨fn0,tmps,.inRegion ops (i::rest)::k,[],.run,.normal,none⟩) o) w:=by
       rw[ho] at hw
       have hw':Region.wanted o (yielded ops tmps)=true:=by simpa using hw
       simp[G,stepG,stepG.exec,stepG.oper,Frame.oper?,ho,hw']
      rw[hstep]
      rw[runT_bind] at hr
      cases hrun:(execOp (Frame.eval ⟨fn0,tmps,.inRegion ops (i::rest)::k,[],.run,.normal,none⟩) o).runT P w #[] with
      |mk r es1=>
       rw[hrun] at hr
       have q1:=congrArg Prod.fst hrun
       have q2:=congrArg Prod.snd hrun
       simp at q1 q2
       cases r with
       |halt h3 w3=>
        simp only[Prod.mk.injEq,Result.halt.injEq] at hr
        obtain⟨⟨rfl,rfl⟩,rfl⟩:=hr
        have soft:=run_soft _ (fun n=>NN F (sg S S.d n)) w #[] h3 w3 es1 (fun n hn=>self_exec hC hI hok n hn) hI.wr hrun
        cases h3 with
        |panic v=>exact .inl ⟨_,_,_,by simp[stepG.apply,q1,G,GStep.after,Frame.raise];exact⟨rfl,rfl,rfl⟩⟩
        |stuck s=>exact .inr ⟨_,_,_,by simp[stepG.apply,q1,GStep.after];exact⟨rfl,rfl,rfl⟩⟩
        |unsupported u=>
         cases u with
         |initOrder g=>exact soft.elim
         |_=>exact .inr ⟨_,_,_,by simp[stepG.apply,q1,GStep.after];exact⟨rfl,rfl,rfl⟩⟩
        |_=>exact soft.elim
       |ok nx w3=>
        obtain⟨b,hb⟩:=op_kind hC hI hok hrun
        dsimp only at hr
        cases nx<;>simp only[NN] at hb<;>simp[pure] at hr
    ·rw[if_neg hw] at hr
     simp[pure] at hr
  | .code (.rangeFunc ..)::k,hand,hr,hI=>simp[okItem,okCode] at hand
  | .code (.scope ..)::k,hand,hr,hI=>simp[okItem,okCode] at hand
  | .code (.label ..)::k,hand,hr,hI=>simp[okItem,okCode] at hand
  | .code (.goto ..)::k,hand,hr,hI=>simp[okItem,okCode] at hand
  | .code (.refuse ..)::k,hand,hr,hI=>exact .inr (by simp[G,stepG,stepG.exec])
  | .inScope c::k,hand,hr,hI=>simp[okItem] at hand
  | .inRangeFunc c::k,hand,hr,hI=>simp[okItem] at hand
  | .endRangeFunc c::k,hand,hr,hI=>simp[okItem] at hand
  | .beginRound::k,hand,hr,hI=>simp[okItem] at hand
  | .call ..::k,hand,hr,hI=>simp[okItem] at hand
  | .extern ..::k,hand,hr,hI=>simp[okItem] at hand
 ·obtain⟨fn,h1⟩:=hFn
  simp only[psem,h1] at hr
  rw[runT_bind] at hr
  cases hrun:(results fn tmps).runT P w #[] with
  |mk r es1=>
   rw[hrun] at hr
   have q1:=congrArg Prod.fst hrun
   simp at q1
   cases r with
   |ok v w3=>
    dsimp only at hr
    cases above with
    |nil=>exact absurd ⟨rfl,rfl⟩ hnl
    |cons c rest=>simp[pure] at hr
   |halt h3 w3=>
    refine .inr ?_
    cases h3<;>exact⟨_,_,_,by simp[G,stepG,unwind,h1,q1,GStep.after];exact⟨rfl,rfl,rfl⟩⟩
theorem panic_never:∀ (above:List Frame) (fr:Frame) (w:World) (chain:List PanicEntry) (n:Nat) (frf:Frame) (wf:World),fr.defers=[]→(∃ f,P.funcs[fr.fn]? =some f)→(∀ f∈above,OkFr P F S f)→
 runN P n (lone { fr with mode:= .panicking chain } (above++[c0 P]) w)= .next (lone frf [c0 P] wf)→frf.mode= .returning→False:=by
 intro above
 induction above with
 |nil=>
  rintro fr w chain n frf wf hd ⟨f,hf⟩ _ hr hm
  cases n with
  |zero=>
   simp only[runN,Stepped.next.injEq] at hr
   obtain⟨rfl,_,_⟩:=lone_inj hr
   cases hm
  |succ n=>
   have h1:step P (lone { fr with mode:= .panicking chain } ([]++[c0 P]) w)= .next (lone ((c0 P).raise chain) [] w):=by
    refine lone_go (es:=#[]) ?_
    simp[G,stepG,unwind,hd,Frame.catches,hf]
   simp only[runN,h1] at hr
   cases n with
   |zero=>
    simp only[runN,Stepped.next.injEq] at hr
    obtain⟨_,e,_⟩:=lone_inj hr
    cases e
   |succ n=>
    have h2:∃ o w3 es,stepG P true (G ((c0 P).raise chain) []) w= .ended o w3 es:=by
     simp[G,stepG,unwind,c0,Frame.raise,Frame.catches]
    obtain⟨o,w3,es,h2⟩:=h2
    simp only[runN,lone_ended h2] at hr
    cases hr
 |cons c rest ih=>
  rintro fr w chain n frf wf hd ⟨f,hf⟩ hok hr hm
  cases n with
  |zero=>
   simp only[runN,Stepped.next.injEq] at hr
   obtain⟨rfl,_,_⟩:=lone_inj hr
   cases hm
  |succ n=>
   have hc:=hok c (by simp)
   have h1:step P (lone { fr with mode:= .panicking chain } (c::rest++[c0 P]) w)= .next (lone { c with mode:= .panicking chain } (rest++[c0 P]) w):=by
    refine lone_go (es:=#[]) ?_
    have hcr:c.raise chain={ c with mode:= .panicking chain }:=by
     unfold Frame.raise
     rcases hc.mode with e|e<;>rw[e]
    simp[G,stepG,unwind,hd,Frame.catches,hf,hcr]
   simp only[runN,h1] at hr
   exact ih c w chain n frf wf hc.defers hc.fn (fun g hg=>hok g (by simp[hg])) hr hm
theorem leave_never (_hC:Clo P F S){fr:Frame}{w:World}(h:PI P F S fr [] w)(hm:fr.mode= .returning){n:Nat}{frf:Frame}{wf:World}(hr:runN P (n+1) (lone fr [c0 P] w)= .next (lone frf [c0 P] wf)):False:=by
 obtain⟨f,hf⟩:=h.ok.fn
 have key:(∃ v w2 es,stepG P true (G fr [c0 P]) w= .go (G ((c0 P).finish v) []) w2 es)∨∃ o w2 es,stepG P true (G fr [c0 P]) w= .ended o w2 es:=by
  have hk:=h.ok.kind
  cases hrun:(results f fr.tmps).run P w with
  |ok v w2=>
   refine .inl ⟨v,w2,?_⟩
   simp[G,stepG,unwind,hm,h.ok.defers,hf,hrun,doReturn,hk,GStep.after]
  |halt h3 w2=>
   refine .inr ?_
   cases h3<;>simp[G,stepG,unwind,hm,h.ok.defers,hf,hrun,GStep.after]
 rcases key with⟨v,w2,es,e⟩|⟨o,w2,es,e⟩
 ·simp only[runN,lone_go e] at hr
  cases n with
  |zero=>
   simp only[runN,Stepped.next.injEq] at hr
   obtain⟨_,e,_⟩:=lone_inj hr
   cases e
  |succ n=>
   have h2:∃ o w3 es,stepG P true (G ((c0 P).finish v) []) w2= .ended o w3 es:=by
    simp[G,stepG,stepG.exec,c0,Frame.finish,door2]
   obtain⟨o,w3,es,h2⟩:=h2
   simp only[runN,lone_ended h2] at hr
   cases hr
 ·simp only[runN,lone_ended e] at hr
  cases hr
theorem prun_of_lone (hC:Clo P F S):∀ (n:Nat) (fr:Frame) (above:List Frame) (w:World) (frf:Frame) (wf:World),PI P F S fr above w→runN P n (lone fr (above++[c0 P]) w)= .next (lone frf [c0 P] wf)→frf.mode= .returning→∃ m,PRun P m fr above w frf [] wf:=by
 intro n
 induction n with
 |zero=>
  intro fr above w frf wf h hr hm
  simp only[runN,Stepped.next.injEq] at hr
  obtain⟨rfl,e,rfl⟩:=lone_inj hr
  have:above=[]:=by
   have:=congrArg List.length e
   simp at this
   exact this
  subst this
  exact⟨0,.zero⟩
 |succ n ih=>
  intro fr above w frf wf h hr hm
  by_cases hl:above=[]∧fr.mode= .returning
  ·obtain⟨rfl,hl⟩:=hl
   exact(leave_never hC h hl hr).elim
  ·cases hrun:(psem P fr above).runT P w #[] with
   |mk r es=>
    cases r with
    |ok x w1=>
     obtain⟨f1,a1⟩:=x
     have hs:=stepG_psem (main:=true) (cs:=[c0 P]) h.ok hrun
     simp only[runN,lone_go hs] at hr
     obtain⟨m,hm2⟩:=ih f1 a1 w1 frf wf (psem_window hC h hrun).1 hr hm
     exact⟨m+1,.succ hrun hm2⟩
    |halt hh w1=>
     rcases step_halt (cs:=[c0 P]) hC h hl hrun with⟨chain,w2,es',e⟩|⟨o,w2,es',e⟩
     ·simp only[runN,lone_go e] at hr
      exact(panic_never above fr w2 chain n frf wf h.ok.defers h.ok.fn h.oks hr hm).elim
     ·simp only[runN,lone_ended e] at hr
      cases hr
end
section
variable {P:Program} {F:FuncId→Bool} {S:Sd}
theorem results_re (hC:Clo P F S){fr:Frame}{above:List Frame}{w:World}(h:PI P F S fr above w){fn:Func}{v:Value}(hr:(results fn fr.tmps).run P w= .ok v w)(τ:Tp)(d:Nat):(results fn fr.tmps).run P (w.re τ d)= .ok v (w.re τ d):=by
 cases hrun:(results fn fr.tmps).runT P w #[] with
 |mk r es=>
  have q1:=congrArg Prod.fst hrun
  simp at q1
  rw[hr] at q1
  subst q1
  have hid:Eqv P idR (VV idR) (results fn fr.tmps) (results fn fr.tmps):=by
   have:=e_results (plain_id hC) fn fr.tmps (rv_id undef)
   rwa[map_id'] at this
  have hself:∀ n,w.heap.size≤n→Eqv P (sg S S.d n) (VV (sg S S.d n)) (results fn fr.tmps) (results fn fr.tmps):=fun n hn=>by
   have:=e_results (plain_sg hC n) fn fr.tmps rv_undef
   have e:fr.tmps.map (rv (sg S S.d n))=fr.tmps:=map_fix.2 (cl_mono hn h.cl)
   rwa[e] at this
  have hW:WR P S idR w (w.re τ d):=⟨h.wr.live,h.wr.ok,h.wr.dead,h.wr.closed,h.wr.next,h.wr.low,h.wr.big⟩
  obtain⟨b,W1,es',r1,r2,_,r4,r5,_⟩:=run_ren (plain_id hC) go_id _ _ _ _ w (w.re τ d) #[] #[] _ _ _ hid hself hW (fun j hj=>by omega) hrun
  have q2:=congrArg Prod.fst r1
  simp at q2
  have hb:b=v:=by have:=r2;unfold VV at this;rw[rv_id] at this;exact this
  have hs:=r5.size
  have hW1:W1=w.re τ d:=by
   refine world_ext (Array.ext_getElem? fun i=>?_) r5.tape (by have:=r5.drawn;omega) r5.os r5.output
   have hsz:W1.heap.size=(w.re τ d).heap.size:=by omega
   rcases Nat.lt_or_ge i (w.re τ d).heap.size with hlt|hge
   ·by_cases ht:Touch S.d idR w i
    ·obtain⟨k,hr1,hr2,rfl⟩:=ht
     have hlive:=r4.live _ _ hr1 (Array.getElem?_eq_getElem hr2)
     have hlive2:=hW.live _ _ hr1 (Array.getElem?_eq_getElem hr2)
     exact hlive.trans hlive2.symm
    ·exact r5.frame i hlt ht
   ·rw[Array.getElem?_eq_none (by omega),Array.getElem?_eq_none hge]
  rw[q2,hb,hW1]
theorem call_run (hC:Clo P F S){f:FuncId}{args:Array Value}{w:World}{Q:Value→World→Prop}(hI:PI P F S (Frame.enter P f args .normal) [] w)
 (hc:∀ τ:Tp,Calls P f args (w.re τ 0) fun e w'=>∃ v,e= .returned v∧Q v w')(τ:Tp):
 ∃ n fr a w',PRun P n (Frame.enter P f args .normal) [] (w.re τ 0) fr a w'∧(a=[]∧fr.fn=f∧∃ v,Q v w'∧fr.leaving P w' (.returned v)):=by
 generalize hfr:Frame.enter P f args .normal=fr0 at hI
 have h:=hc τ [c0 P]
 rw[hfr] at h
 generalize hcs:[c0 P]=cs at h
 obtain⟨e,w',fr,⟨v,he,hq⟩,hs,hfn,hl⟩:=h
 subst he
 have hs':Steps P (lone fr0 cs (w.re τ 0)) (lone fr cs w'):=hs
 obtain⟨n,hn⟩:=hs'
 have hm1:fr.mode= .returning:=hl.1
 subst hcs
 obtain⟨m,hm⟩:=prun_of_lone hC n fr0 [] (w.re τ 0) fr w' (hI.re τ 0) hn hm1
 exact⟨m,fr,[],w',hm,rfl,hfn,v,hq,hl⟩
theorem bar_of_calls (hC:Clo P F S){f:FuncId}{args:Array Value}{w:World}{Q:Value→World→Prop}(hF:F f=true)(ha:∀ v∈args,rv (sg S S.d w.heap.size) v=v)(hw:WR P S idR w w)(hQ:∀ v w τ d,Q v w→Q v (w.re τ d))
 (hc:∀ τ:Tp,Calls P f args (w.re τ 0) fun e w'=>∃ v,e= .returned v∧Q v w'):
 Bar P (fun fr above w'=>above=[]∧fr.fn=f∧∃ v,Q v w'∧fr.leaving P w' (.returned v)) (Frame.enter P f args .normal) [] w:=by
 have hI:PI P F S (Frame.enter P f args .normal) [] w:=by
  refine⟨enter_ok hC hF args,by simp,fun v hv=>?_,by simp,hw⟩
  have e:rfr (sg S S.d w.heap.size) (Frame.enter P f args .normal)=Frame.enter P f args .normal:=by
   rw[←enter_rfr,map_fix.2 ha]
  have:=congrArg Frame.tmps e
  simp only[rfr] at this
  exact map_fix.1 this v hv
 have hT:=call_run hC hI hc
 generalize Frame.enter P f args .normal=fr0 at hI hT ⊢
 refine bar_of_runs hC (fun fr above w τ d hI hx=>?_) hI hT
 obtain⟨e1,e2,v,hq,hl⟩:=hx
 refine⟨e1,e2,v,hQ v w τ d hq,?_⟩
 have hl':fr.mode= .returning∧fr.defers=[]∧fr.kind= .normal∧∃ fn,P.funcs[fr.fn]? =some fn∧(results fn fr.tmps).run P w= .ok v w:=hl
 obtain⟨h1,h2,h3,fn,h4,h5⟩:=hl'
 exact(show fr.mode= .returning∧fr.defers=[]∧fr.kind= .normal∧∃ fn,P.funcs[fr.fn]? =some fn∧(results fn fr.tmps).run P (w.re τ d)= .ok v (w.re τ d) from⟨h1,h2,h3,fn,h4,results_re hC hI h5 τ d⟩)
end
structure Rely (ro own:Nat→Prop) (w w₁:World):Prop where
 tape:w₁.tape=w.tape
 os:w₁.os=w.os
 output:w₁.output=w.output
 size:w.heap.size≤w₁.heap.size
 block:∀ b,own b∨ro b→w₁.heap[b]? =w.heap[b]?
def Grow (own:Nat→Prop)(w w':World):Nat→Prop:=fun b=>own b∨(w.heap.size≤b∧b<w'.heap.size)
def EvG (ro own:Nat→Prop)(e:Event):Prop:=
 match e.loc with
 | .cell a=>own a.block∨(ro a.block∧e.write=false)
 | .obj r=>own r∧e.sync=false
 | .mark m=>MOk m∧e.sync=true
 |_=>False
structure Guar (ro own:Nat→Prop) (w w':World) (es:Array Event):Prop where
 tape:w'.tape=w.tape
 os:w'.os=w.os
 output:w'.output=w.output
 size:w.heap.size≤w'.heap.size
 block:∀ b,b<w.heap.size→¬ own b→w'.heap[b]? =w.heap[b]?
 evs:∀ e∈es,EvG ro (Grow own w w') e
inductive Walks (P:Program) (main:Bool) (ro:Nat→Prop) (Stop:(Nat→Prop)→Goroutine→World→Prop):(Nat→Prop)→Goroutine→World→Prop
 |stop {own:Nat→Prop} {g:Goroutine} {w:World}:(∀ w₁,Rely ro own w w₁→Stop own g w₁)→Walks P main ro Stop own g w
 |step {own:Nat→Prop} {g:Goroutine} {w:World} (nx:World→Goroutine) (nw:World→World) (ne:World→Array Event):g.status= .running→
   (∀ w₁,Rely ro own w w₁→stepG P main g w₁= .go (nx w₁) (nw w₁) (ne w₁))→(∀ w₁,Rely ro own w w₁→Guar ro own w₁ (nw w₁) (ne w₁))→(∀ w₁,Rely ro own w w₁→Walks P main ro Stop (Grow own w₁ (nw w₁)) (nx w₁) (nw w₁))→
   Walks P main ro Stop own g w
section
variable {P:Program} {F:FuncId→Bool} {S:Sd} {main:Bool} {ro:Nat→Prop} {Stop Stop':(Nat→Prop)→Goroutine→World→Prop}
theorem Rely.refl (ro own:Nat→Prop)(w:World):Rely ro own w w:=⟨rfl,rfl,rfl,Nat.le_refl _,fun _ _=>rfl⟩
theorem Rely.trans {own:Nat→Prop}{a b c:World}(h:Rely ro own a b)(k:Rely ro own b c):Rely ro own a c:=
 ⟨k.tape.trans h.tape,k.os.trans h.os,k.output.trans h.output,Nat.le_trans h.size k.size,fun x hx=>(k.block x hx).trans (h.block x hx)⟩
theorem Walks.step' {own:Nat→Prop}{g:Goroutine}{w:World}(hs:g.status= .running)(h:∀ w₁,Rely ro own w w₁→∃ g' w' es,stepG P main g w₁= .go g' w' es∧Guar ro own w₁ w' es∧Walks P main ro Stop (Grow own w₁ w') g' w'):Walks P main ro Stop own g w:=by
 classical
 let X:World→Goroutine×World×Array Event:=fun w₁=>if hr:Rely ro own w w₁ then(Classical.choose (h w₁ hr),Classical.choose (Classical.choose_spec (h w₁ hr)),Classical.choose (Classical.choose_spec (Classical.choose_spec (h w₁ hr)))) else default
 have hX:∀ w₁,Rely ro own w w₁→stepG P main g w₁= .go (X w₁).1 (X w₁).2.1 (X w₁).2.2∧Guar ro own w₁ (X w₁).2.1 (X w₁).2.2∧Walks P main ro Stop (Grow own w₁ (X w₁).2.1) (X w₁).1 (X w₁).2.1:=fun w₁ hr=>by
  simp only[X,dif_pos hr]
  exact Classical.choose_spec (Classical.choose_spec (Classical.choose_spec (h w₁ hr)))
 exact .step (fun w₁=>(X w₁).1) (fun w₁=>(X w₁).2.1) (fun w₁=>(X w₁).2.2) hs (fun w₁ hr=>(hX w₁ hr).1) (fun w₁ hr=>(hX w₁ hr).2.1) (fun w₁ hr=>(hX w₁ hr).2.2)
theorem Walks.rely {own:Nat→Prop}{g:Goroutine}{w w₁:World}(h:Walks P main ro Stop own g w)(hr:Rely ro own w w₁):Walks P main ro Stop own g w₁:=by
 cases h with
 |stop h=>exact .stop fun w₂ h₂=>h w₂ (hr.trans h₂)
 |step nx nw ne hs h1 h2 h3=>exact .step nx nw ne hs (fun w₂ h₂=>h1 w₂ (hr.trans h₂)) (fun w₂ h₂=>h2 w₂ (hr.trans h₂)) (fun w₂ h₂=>h3 w₂ (hr.trans h₂))
theorem Walks.bind {own:Nat→Prop}{g:Goroutine}{w:World}(h:Walks P main ro Stop own g w)(hq:∀ own g w,Stop own g w→Walks P main ro Stop' own g w)(_keep:∀ own g w w₁,(∀ w₂,Rely ro own w w₂→Stop own g w₂)→Rely ro own w w₁→True:=fun _ _ _ _ _ _=>trivial):Walks P main ro Stop' own g w:=by
 induction h with
 | @stop own g w h=>exact hq own g w (h w (Rely.refl ro own w))
 |step nx nw ne hs h1 h2 _ ih=>exact .step nx nw ne hs h1 h2 ih
structure Sim (P:Program) (S:Sd) (ρ:Rn) (w W:World):Prop where
 wr:WR P S ρ w W
 inj:∀ a b,ρ a=ρ b→a=b
 glob:Glob P ρ
 f:∀ x,ρ.f x=x
 bigW:P.globals.size≤W.heap.size
def extR (ρ:Rn)(n N:Nat):Rn:={ b:=fun r=>if r<n then ρ r else N+(r-n),f:=ρ.f,d:=ρ.d }
theorem extR_lt {ρ:Rn}{n N r:Nat}(h:r<n):extR ρ n N r=ρ r:=by simp[extR,h]
theorem extR_ge {ρ:Rn}{n N r:Nat}(h:n≤r):extR ρ n N r=N+(r-n):=by simp[extR];omega
theorem Sim.fix {ρ:Rn}{w W:World}(h:Sim P S ρ w W):FixS S ρ:=⟨fun _ _=>h.f _,h.wr.big.fg,h.wr.big.fl⟩
theorem GBase.ext {ρ:Rn}{n N:Nat}(h:GBase P S ρ n):GBase P S (extR ρ n N) n:=⟨h.d,h.g,h.r,h.p,h.dp,fun g h1 h2=>by rw[extR_lt (Nat.lt_of_lt_of_le h2 h.g)];exact h.fg g h1 h2,fun g hg=>by rw[extR_lt (Nat.lt_of_lt_of_le hg h.d)];exact h.fl g hg⟩
theorem Sim.low {ρ:Rn}{w W:World}(h:Sim P S ρ w W){r:Nat}(hr:r<w.heap.size):ρ r<W.heap.size:=by
 rcases Nat.lt_or_ge r P.globals.size with hlt|hge
 ·have:=(h.glob r).2 hlt;have:=h.bigW;omega
 ·exact h.wr.low r (Nat.le_trans h.wr.big.dp hge) hr
theorem ext_agree {ρ:Rn}{n N:Nat}:(∀ r,sg S S.d n r=r→ρ r=extR ρ n N r)∧∀ x,(sg S S.d n).f x=x→ρ.f x=(extR ρ n N).f x:=
 ⟨fun _r hr=>(extR_lt (sg_fix.1 hr).2).symm,fun _x _=>rfl⟩
theorem rfr_agree {ρ ρ':Rn}{n:Nat}{fr:Frame}(hc:ClFr P S n fr)(hb:∀ r,r<n→ρ r=ρ' r)(hf:∀ x,ρ.f x=ρ'.f x):rfr ρ fr=rfr ρ' fr:=by
 unfold rfr
 rw[map_congr' fun v hv=>agree (σ:=sg S S.d n) (fun r hr=>hb r (sg_fix.1 hr).2) (fun x _=>hf x) v (hc v hv)]
theorem rfrs_agree {ρ ρ':Rn}{n:Nat}(hb:∀ r,r<n→ρ r=ρ' r)(hf:∀ x,ρ.f x=ρ'.f x):∀ {above:List Frame},(∀ f∈above,ClFr P S n f)→above.map (rfr ρ)=above.map (rfr ρ')
 |[],_=>rfl
 |f::l,h=>by rw[List.map_cons,List.map_cons,rfr_agree (h f (by simp)) hb hf,rfrs_agree hb hf fun g hg=>h g (by simp[hg])]
theorem Sim.rely {ρ:Rn}{w W W₁:World}(h:Sim P S ρ w W)(hr:Rely ro (Touch S.d ρ w) W W₁):Sim P S (extR ρ w.heap.size W₁.heap.size) w W₁:=by
 have hag:=ext_agree (S:=S) (ρ:=ρ) (n:=w.heap.size) (N:=W₁.heap.size)
 have hsz:=hr.size
 refine⟨⟨fun r o hge ho=>?_,h.wr.ok,h.wr.dead,h.wr.closed,fun r hge=>extR_ge hge,fun r hge hlt=>?_,h.wr.big.ext⟩,fun a b e=>?_,fun r=>?_,h.f,Nat.le_trans h.bigW hsz⟩
 ·have hlt:=lt_of_some ho
  rw[extR_lt hlt,hr.block _ (.inl ⟨r,hge,hlt,rfl⟩),h.wr.live r o hge ho,agreeO hag.1 hag.2 (h.wr.closed r o hge ho)]
 ·rw[extR_lt hlt];have:=h.wr.low r hge hlt;omega
 ·rcases Nat.lt_or_ge a w.heap.size with ha|ha<;>rcases Nat.lt_or_ge b w.heap.size with hb|hb
  ·rw[extR_lt ha,extR_lt hb] at e;exact h.inj a b e
  ·rw[extR_lt ha,extR_ge hb] at e;have:=h.low ha;omega
  ·rw[extR_ge ha,extR_lt hb] at e;have:=h.low hb;omega
  ·rw[extR_ge ha,extR_ge hb] at e;omega
 ·rcases Nat.lt_or_ge r w.heap.size with ha|ha
  ·rw[extR_lt ha];exact h.glob r
  ·rw[extR_ge ha]
   have:=h.bigW
   have:=h.wr.big.p
   constructor<;>intro<;>omega
theorem touch_ext {ρ:Rn}{w:World}{N:Nat}:Touch S.d (extR ρ w.heap.size N) w=Touch S.d ρ w:=by
 funext b
 refine propext ⟨?_,?_⟩
 ·rintro ⟨r,h1,h2,rfl⟩;exact⟨r,h1,h2,extR_lt h2⟩
 ·rintro ⟨r,h1,h2,rfl⟩;exact⟨r,h1,h2,(extR_lt h2).symm⟩
theorem touch_grow {ρ:Rn}{w w1 W W1:World}(h:Sim P S ρ w W)(hD:Did S.d ρ w w1 W W1):Touch S.d ρ w1=Grow (Touch S.d ρ w) W W1:=by
 funext b
 have hs:=hD.size
 have hg:=hD.wgrow
 have hb:=h.wr.big.d
 refine propext ⟨?_,?_⟩
 ·rintro ⟨r,h1,h2,rfl⟩
  rcases Nat.lt_or_ge r w.heap.size with hlt|hge
  ·exact .inl ⟨r,h1,hlt,rfl⟩
  ·right;rw[h.wr.next r hge];omega
 ·rintro (⟨r,h1,h2,rfl⟩|⟨h1,h2⟩)
  ·exact⟨r,h1,by omega,rfl⟩
  ·refine⟨w.heap.size+(b-W.heap.size),by omega,by omega,?_⟩
   rw[h.wr.next _ (by omega)]
   omega
def SimStop (P:Program)(F:FuncId→Bool)(S:Sd)(Q:Frame→List Frame→World→Prop)(cs:List Frame)(ρ₀:Rn)(n₀:Nat)(own:Nat→Prop)(g:Goroutine)(W:World):Prop:=
 ∃ fr above w ρ,Q fr above w∧PI P F S fr above w∧Sim P S ρ w W∧own=Touch S.d ρ w∧g=G (rfr ρ fr) (above.map (rfr ρ)++cs)∧n₀≤w.heap.size∧∀ r,r<n₀→ρ r=ρ₀ r
theorem walks_of_bar (hC:Clo P F S){Q:Frame→List Frame→World→Prop}{cs:List Frame}{fr:Frame}{above:List Frame}{w:World}(hb:Bar P Q fr above w):
 PI P F S fr above w→∀ (ρ₀:Rn) (n₀:Nat) (ρ:Rn) (W:World),Sim P S ρ w W→n₀≤w.heap.size→(∀ r,r<n₀→ρ r=ρ₀ r)→Walks P main ro (SimStop P F S Q cs ρ₀ n₀) (Touch S.d ρ w) (G (rfr ρ fr) (above.map (rfr ρ)++cs)) W:=by
 induction hb with
 | @stop fr above w hq=>
   intro hI ρ₀ n₀ ρ W hS hn hρ
   refine .stop fun W₁ hr=>⟨fr,above,w,_,hq,hI,hS.rely hr,touch_ext.symm,?_,hn,fun r hlt=>by rw[extR_lt (by omega)];exact hρ r hlt⟩
   rw[rfr_agree hI.cl (ρ:=ρ) (ρ':=extR ρ w.heap.size W₁.heap.size) (fun r hlt=>(extR_lt hlt).symm) (fun _=>rfl),rfrs_agree (ρ:=ρ) (ρ':=extR ρ w.heap.size W₁.heap.size) (fun r hlt=>(extR_lt hlt).symm) (fun _=>rfl) hI.cls]
 | @step fr above w nf na nw ne h1 _ ih=>
   intro hI ρ₀ n₀ ρ W hS hn hρ
   refine Walks.step' rfl fun W₁ hr=>?_
   have hS1:=hS.rely hr
   generalize hext:extR ρ w.heap.size W₁.heap.size=ρ₁ at hS1
   have hlt1:∀ r,r<w.heap.size→ρ₁ r=ρ r:=fun r hlt=>by rw[←hext];exact extR_lt hlt
   have hf1:∀ x,ρ₁.f x=ρ.f x:=fun x=>by rw[←hext];rfl
   have hrun:=h1 W₁.tape W₁.drawn
   have hW:WR P S ρ₁ (w.re W₁.tape W₁.drawn) W₁:=⟨hS1.wr.live,hS1.wr.ok,hS1.wr.dead,hS1.wr.closed,hS1.wr.next,hS1.wr.low,hS1.wr.big⟩
   obtain⟨W2,es',q1,q2,q3,q4⟩:=step_ren hC (ρ:=ρ₁) ⟨fun t i v a b=>hC.zero t i v a b _,hS1.inj⟩ hS1.glob hS1.fix (hI.re W₁.tape W₁.drawn) hW (fun j _ q=>rfl) hrun
   have hI2:=(psem_window hC (hI.re W₁.tape W₁.drawn) hrun).1
   have hS1':Sim P S ρ₁ (w.re W₁.tape W₁.drawn) W₁:=⟨hW,hS1.inj,hS1.glob,hS1.f,hS1.bigW⟩
   have hS2:Sim P S ρ₁ (nw W₁.tape W₁.drawn) W2:=⟨q1,hS1.inj,hS1.glob,hS1.f,by have:=hS1.bigW;have h3:=q2.size;have h4:=q2.wgrow;omega⟩
   have hgrow:Touch S.d ρ₁ (nw W₁.tape W₁.drawn)=Grow (Touch S.d ρ w) W₁ W2:=by
    rw[touch_grow hS1' q2]
    have:Touch S.d ρ₁ (w.re W₁.tape W₁.drawn)=Touch S.d ρ w:=by
     rw[←hext];exact touch_ext
    rw[this]
   have hfr:rfr ρ fr=rfr ρ₁ fr:=rfr_agree hI.cl (fun r hlt=>(hlt1 r hlt).symm) (fun x=>(hf1 x).symm)
   have hab:above.map (rfr ρ)=above.map (rfr ρ₁):=rfrs_agree (fun r hlt=>(hlt1 r hlt).symm) (fun x=>(hf1 x).symm) hI.cls
   refine⟨_,W2,_,by rw[hfr,hab];exact q4 main cs,⟨q2.tape,q2.os,q2.output,by have h3:=q2.size;have h4:=q2.wgrow;simp only[World.re] at h3 h4;omega,fun b hb hnb=>?_,fun e he=>?_⟩,?_⟩
   ·refine q2.frame b hb fun ht=>?_
    rw[hgrow] at ht
    rcases ht with h|⟨h,_⟩
    ·exact hnb h
    ·omega
   ·have:=q3 e (mem_seen he)
    unfold EvOk at this
    unfold EvG
    rw[←hgrow]
    cases hl:e.loc<;>simp only[hl] at this ⊢<;>first|exact .inl this|exact this
   ·rw[←hgrow]
    refine ih W₁.tape W₁.drawn hI2 ρ₀ n₀ ρ₁ W2 hS2 ?_ fun r hlt=>(hlt1 r (by omega)).trans (hρ r hlt)
    have h4:=q2.wgrow
    simp only[World.re] at h4
    omega
end
section
variable {P:Program} {F:FuncId→Bool} {S:Sd} {main:Bool} {ro own:Nat→Prop} {Stop Stop':(Nat→Prop)→Goroutine→World→Prop}
theorem Walks.mono {g:Goroutine}{w:World}(h:Walks P main ro Stop own g w)(hs:∀ own g w,Stop own g w→Stop' own g w):Walks P main ro Stop' own g w:=by
 induction h with
 |stop h=>exact .stop fun w₁ hr=>hs _ _ _ (h w₁ hr)
 |step nx nw ne hr h1 h2 _ ih=>exact .step nx nw ne hr h1 h2 ih
def Beside (ro:Nat→Prop)(Stop:(Nat→Prop)→Goroutine→World→Prop)(extra:Nat→Prop)(w₀:World)(own'':Nat→Prop)(g:Goroutine)(w:World):Prop:=
 ∃ own',(∀ b,own'' b↔own' b∨extra b)∧Stop own' g w∧w₀.heap.size≤w.heap.size∧∀ b,extra b∨ro b→¬ own' b∧w.heap[b]? =w₀.heap[b]?
theorem Rely.sub {own own':Nat→Prop}{w w₁:World}(h:Rely ro own' w w₁)(hs:∀ b,own b→own' b):Rely ro own w w₁:=⟨h.tape,h.os,h.output,h.size,fun b hb=>h.block b (hb.imp (hs b) id)⟩
theorem EvG.mono {own own':Nat→Prop}{e:Event}(h:EvG ro own e)(hs:∀ b,own b→own' b):EvG ro own' e:=by
 unfold EvG at h ⊢
 split at h
 ·exact h.imp (hs _) id
 ·exact⟨hs _ h.1,h.2⟩
 ·exact h
 ·exact h.elim
theorem Walks.frame {extra:Nat→Prop}{g:Goroutine}{w:World}(h:Walks P main ro Stop own g w):(∀ b,extra b∨ro b→¬ own b∧b<w.heap.size)→Walks P main ro (Beside ro Stop extra w) (fun b=>own b∨extra b) g w:=by
 induction h with
 | @stop own g w h=>
   intro hd
   exact .stop fun w₁ hr=>⟨own,fun b=>Iff.rfl,h w₁ (hr.sub fun b hb=> .inl hb),hr.size,fun b hb=>⟨(hd b hb).1,hr.block b (hb.imp .inr id)⟩⟩
 | @step own g w nx nw ne hs h1 h2 h3 ih=>
   intro hd
   refine .step nx nw ne hs (fun w₁ hr=>h1 w₁ (hr.sub fun b hb=> .inl hb)) (fun w₁ hr=>?_) (fun w₁ hr=>?_)
   ·have hg:=h2 w₁ (hr.sub fun b hb=> .inl hb)
    exact⟨hg.tape,hg.os,hg.output,hg.size,fun b hb hn=>hg.block b hb fun x=>hn (.inl x),fun e he=>(hg.evs e he).mono fun b hb=>hb.imp .inl id⟩
   ·have hr':=hr.sub (own:=own) fun b hb=> .inl hb
    have hg:=h2 w₁ hr'
    have hsz:=hr.size
    have hsz2:=hg.size
    have:=ih w₁ hr' fun b hb=>⟨fun x=>x.elim (hd b hb).1 fun y=>by have:=(hd b hb).2;omega,by have:=(hd b hb).2;omega⟩
    have e:(fun b=>Grow own w₁ (nw w₁) b∨extra b)=Grow (fun b=>own b∨extra b) w₁ (nw w₁):=by
     funext b
     unfold Grow
     refine propext ⟨?_,?_⟩
     ·rintro ((x|x)|x)
      ·exact .inl (.inl x)
      ·exact .inr x
      ·exact .inl (.inr x)
     ·rintro ((x|x)|x)
      ·exact .inl (.inl x)
      ·exact .inr x
      ·exact .inl (.inr x)
    rw[e] at this
    refine this.mono fun own'' g' w' ⟨own',k1,k2,k0,k3⟩=>⟨own',k1,k2,by omega,fun b hb=>⟨(k3 b hb).1,?_⟩⟩
    rw[(k3 b hb).2,hg.block b (by have:=(hd b hb).2;omega) (hd b hb).1,hr.block b (hb.imp .inr id)]
end
end Go.Ren
