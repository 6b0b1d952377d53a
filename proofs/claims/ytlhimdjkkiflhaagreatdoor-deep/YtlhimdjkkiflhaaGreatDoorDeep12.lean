import Derived.Conc.FxMachine2
import Derived.Conc.FxFork
import Derived.Test.YtlhimdjkkiflhaaGreatDoorDeep11
namespace Go.Ren
open Go Go.Conc
def End1 (P:Program)(Q Shun:Loc→Prop)(c ch Low:Nat)(ro X:Nat→Prop)(z:Value)(Fin FinG:(Nat→Prop)→Goroutine→World→Prop)(w0:World)(m:Machine)(t:Trace):Prop:=
 ∃ gs w sl q ownM ownG a b t₁ fn pos,m=crowd gs w sl∧Crew P c t gs q∧gs[0]? =some a∧gs[c]? =some b∧b.status= .running∧RecvsW P ro ch z Fin [] ownM a w∧FinG ownG b w∧St1 Q Shun c ch Low ro ownM ownG X true w0 w t∧t=t₁++MemOp.ofEvents c fn pos (closeEv ch)∧Deaf t c=0
section
variable {P:Program} {Q Shun:Loc→Prop} {c ch Low:Nat} {ro X:Nat→Prop} {z:Value} {Fin FinG:(Nat→Prop)→Goroutine→World→Prop} {w0:World}
variable (P Q Shun c ch Low ro X z Fin FinG w0) in
def Goal1 (vs:List Value):Prop:=∀ gs w sl t q ownM ownG a b,Crew P c t gs q→gs[0]? =some a→gs[c]? =some b→RecvsW P ro ch z Fin vs ownM a w→SendsW P ro ch FinG vs ownG b w→St1 Q Shun c ch Low ro ownM ownG X false w0 w t→
 Reach P (crowd gs w sl) t (End1 P Q Shun c ch Low ro X z Fin FinG w0)
theorem AtRecvW.again {Next:(Nat→Prop)→Goroutine→World→Prop}{own:Nat→Prop}{g:Goroutine}{w:World}(h:AtRecvW P ch z Next own g w):AtRecvW P ch z Next own { parked (core g) #[rcase ch z] (.recv true) with status:= .running } w:=by
 have e:stepG P true { parked (core g) #[rcase ch z] (.recv true) with status:= .running } w=stepG P true g w:=stepG_same rfl rfl rfl w
 exact⟨rfl,by rw[e];exact h.2.1,h.2.2⟩
theorem awake_run {g:Goroutine}(h:g.status= .running):awake g:=awake_of (.inl h)
theorem awake_parked {g:Goroutine}{cs:Array CommCase}{sh:CommShape}:awake (parked g cs sh):=awake_of (.inr (.inl rfl))
theorem stay_recv {g:Goroutine}{w:World}{s r:Nat}{tm:Bool}(hc:w.heap[ch]? =some (.chan 0 #[] false s r tm)):Stay P w (parked g #[rcase ch z] (.recv true)):=fun x x' d=>woken_recv_open x x' (w:=w.at d) hc
theorem stay_send {g:Goroutine}{w:World}{s r:Nat}{tm:Bool}{v z':Value}(hc:w.heap[ch]? =some (.chan 0 #[] false s r tm)):Stay P w (parked g #[scase ch v z'] .send):=fun x x' d=>woken_send_open x x' (w:=w.at d) hc
theorem stage1_A (hY:Lay Q Shun c ch Low ro){vs:List Value}(hK:∀ v vs',vs=v::vs'→Goal1 P Q Shun c ch Low ro X z Fin FinG w0 vs'){ownG:Nat→Prop}{b:Goroutine}{wG:World}
 (hG:Walks P false ro (StopG P ro ch FinG vs) ownG b wG):∀ (g:Goroutine) (ownM:Nat→Prop) (wM:World),(∀ w₁,Rely ro ownM wM w₁→AtRecvW P ch z (NextM P ro ch z Fin vs) ownM g w₁)→
   ∀ gs w sl t q,Crew P c t gs q→gs[0]? =some (parked (core g) #[rcase ch z] (.recv true))→gs[c]? =some b→Rely ro ownM wM w→Rely ro ownG wG w→St1 Q Shun c ch Low ro ownM ownG X false w0 w t→
   Reach P (crowd gs w sl) t (End1 P Q Shun c ch Low ro X z Fin FinG w0):=by
 induction hG with
 | @stop ownG b wG hS=>
   intro g ownM wM hM gs w sl t q hC h0 hc hrM hrG hSt
   have hb:b.status= .running:=(hS wG (Rely.refl _ _ _)).running
   refine crew_turn (J:=fun w t=>Rely ro ownM wM w∧Rely ro ownG wG w∧St1 Q Shun c ch Low ro ownM ownG X false w0 w t) awake_parked (awake_run hb) (.inr hb)
    (fun w t d ops hj h1 h2 h3 h4=>⟨hj.1.trans (rely_at _ _ _ d),hj.2.1.trans (rely_at _ _ _ d),hj.2.2.still d (fun op hop=>(h1 op hop).1) (h2 _) h3 h4⟩)
    (fun w t hj=>by obtain⟨s,r,tm,e⟩:=hj.2.2.chan;exact⟨stay_recv e,.run hb⟩)
    (fun hr=>by cases hr) (fun _ gs w sl t q hC h0 hc hj=>?_) gs w sl t q hC h0 hc ⟨hrM,hrG,hSt⟩
   obtain⟨hrM,hrG,hSt⟩:=hj
   obtain⟨s,r,tm,hch⟩:=hSt.chan
   cases vs with
   |nil=>
    obtain⟨_,hmw,g₂,hg2,hx⟩:=hS w hrG
    obtain⟨hst,hfin⟩:=hx s r tm hch
    obtain⟨gs',e1,e2,e3,e4⟩:=crew_goC (sl:=sl) hC h0 hc hst
    refine⟨_,_,e1,.here ⟨gs',_,sl,q,ownM,ownG,_,_,t,_,_,rfl,e2,e3,e4,hg2,?_,hfin,hSt.close hY hch,rfl,hSt.closeDeaf⟩⟩
    have hw:woken P b g₂ (w.setChan ch 0 #[] true s r tm) (parked (core g) #[rcase ch z] (.recv true))={ parked (core g) #[rcase ch z] (.recv true) with status:= .running }:=by
     unfold woken
     rw[if_pos (by simp[hmw,hg2])]
     exact again_recv_closed (heap_put hch)
    rw[hw]
    exact recvsW_iff.2 (.stop fun w₂ h₂=>(hM w₂ ((hrM.trans (rely_chan (hSt.chM hY) hY.chro)).trans h₂)).again)
   |cons v vs'=>
    obtain⟨_,z',hst,hnext⟩:=hS w hrG
    obtain⟨gs',u,e1,e2,e3,e4,e5⟩:=crew_send_meets (sl:=sl) hC h0 hc hst hch
    exact⟨_,_,e1,hK v vs' rfl gs' _ sl _ q ownM ownG _ _ e3 e4 e5 (recvsW_iff.2 ((recvsW_iff.1 (hM w hrM).2.2).rely (rely_chan (hSt.chM hY) hY.chro))) (sendsW_iff.2 ((sendsW_iff.1 hnext).rely (rely_chan (hSt.chG hY) hY.chro))) (hSt.meet hY hch e2)⟩
 | @step ownG b wG nx nw ne hb h1 h2 _ ih=>
   intro g ownM wM hM gs w sl t q hC h0 hc hrM hrG hSt
   refine crew_turn (J:=fun w t=>Rely ro ownM wM w∧Rely ro ownG wG w∧St1 Q Shun c ch Low ro ownM ownG X false w0 w t) awake_parked (awake_run hb) (.inr hb)
    (fun w t d ops hj h1 h2 h3 h4=>⟨hj.1.trans (rely_at _ _ _ d),hj.2.1.trans (rely_at _ _ _ d),hj.2.2.still d (fun op hop=>(h1 op hop).1) (h2 _) h3 h4⟩)
    (fun w t hj=>by obtain⟨s,r,tm,e⟩:=hj.2.2.chan;exact⟨stay_recv e,.run hb⟩)
    (fun hr=>by cases hr) (fun _ gs w sl t q hC h0 hc hj=>?_) gs w sl t q hC h0 hc ⟨hrM,hrG,hSt⟩
   obtain⟨hrM,hrG,hSt⟩:=hj
   obtain⟨gs',e1,e2,e3,e4⟩:=crew_goC (sl:=sl) hC h0 hc (h1 w hrG)
   obtain⟨k1,k2⟩:=hSt.stepG (fn:=b.frame.fn) (pos:=b.frame.place) hY (h2 w hrG)
   obtain⟨s,r,tm,hch⟩:=k1.chan
   rw[woken_recv_open _ _ hch] at e3
   exact⟨_,_,e1,ih w hrG g ownM wM hM gs' _ sl _ q e2 e3 e4 (hrM.trans k2) (Rely.refl _ _ _) k1⟩
theorem stage1_B (hY:Lay Q Shun c ch Low ro){v:Value}{vs:List Value}(hK:Goal1 P Q Shun c ch Low ro X z Fin FinG w0 vs){ownM:Nat→Prop}{a:Goroutine}{wM:World}
 (hM:Walks P true ro (AtRecvW P ch z (NextM P ro ch z Fin (v::vs))) ownM a wM):∀ (g:Goroutine) (z':Value) (ownG:Nat→Prop) (wG:World),SendsW P ro ch FinG vs ownG (Conc.served (core g) undef) wG→
   ∀ gs w sl t q,Crew P c t gs q→gs[0]? =some a→gs[c]? =some (parked (core g) #[scase ch v z'] .send)→Rely ro ownM wM w→Rely ro ownG wG w→St1 Q Shun c ch Low ro ownM ownG X false w0 w t→
   Reach P (crowd gs w sl) t (End1 P Q Shun c ch Low ro X z Fin FinG w0):=by
 induction hM with
 | @stop ownM a wM hS=>
   intro g z' ownG wG hG gs w sl t q hC h0 hc hrM hrG hSt
   have ha:a.status= .running:=(hS wM (Rely.refl _ _ _)).1
   refine crew_turn (J:=fun w t=>Rely ro ownM wM w∧Rely ro ownG wG w∧St1 Q Shun c ch Low ro ownM ownG X false w0 w t) (awake_run ha) awake_parked (.inl ha)
    (fun w t d ops hj h1 h2 h3 h4=>⟨hj.1.trans (rely_at _ _ _ d),hj.2.1.trans (rely_at _ _ _ d),hj.2.2.still d (fun op hop=>(h1 op hop).1) (h2 _) h3 h4⟩)
    (fun w t hj=>by obtain⟨s,r,tm,e⟩:=hj.2.2.chan;exact⟨.run ha,stay_send e⟩)
    (fun _ gs w sl t q hC h0 hc hj=>?_) (fun hr=>by cases hr) gs w sl t q hC h0 hc ⟨hrM,hrG,hSt⟩
   obtain⟨hrM,hrG,hSt⟩:=hj
   obtain⟨s,r,tm,hch⟩:=hSt.chan
   obtain⟨_,hst,hnext⟩:=hS w hrM
   obtain⟨gs',u,e1,e2,e3,e4,e5⟩:=crew_recv_meets (sl:=sl) hC h0 hc hst hch
   exact⟨_,_,e1,hK gs' _ sl _ q ownM ownG _ _ e3 e4 e5 (recvsW_iff.2 ((recvsW_iff.1 hnext).rely (rely_chan (hSt.chM hY) hY.chro))) (sendsW_iff.2 ((sendsW_iff.1 hG).rely (hrG.trans (rely_chan (hSt.chG hY) hY.chro)))) (hSt.meet hY hch e2)⟩
 | @step ownM a wM nx nw ne ha h1 h2 _ ih=>
   intro g z' ownG wG hG gs w sl t q hC h0 hc hrM hrG hSt
   refine crew_turn (J:=fun w t=>Rely ro ownM wM w∧Rely ro ownG wG w∧St1 Q Shun c ch Low ro ownM ownG X false w0 w t) (awake_run ha) awake_parked (.inl ha)
    (fun w t d ops hj h1 h2 h3 h4=>⟨hj.1.trans (rely_at _ _ _ d),hj.2.1.trans (rely_at _ _ _ d),hj.2.2.still d (fun op hop=>(h1 op hop).1) (h2 _) h3 h4⟩)
    (fun w t hj=>by obtain⟨s,r,tm,e⟩:=hj.2.2.chan;exact⟨.run ha,stay_send e⟩)
    (fun _ gs w sl t q hC h0 hc hj=>?_) (fun hr=>by cases hr) gs w sl t q hC h0 hc ⟨hrM,hrG,hSt⟩
   obtain⟨hrM,hrG,hSt⟩:=hj
   obtain⟨gs',e1,e2,e3,e4⟩:=crew_go0 (sl:=sl) hC h0 hc (h1 w hrM)
   obtain⟨k1,k2⟩:=hSt.stepM (fn:=a.frame.fn) (pos:=a.frame.place) hY (h2 w hrM)
   obtain⟨s,r,tm,hch⟩:=k1.chan
   rw[woken_send_open _ _ hch] at e4
   exact⟨_,_,e1,ih w hrM g z' ownG wG hG gs' _ sl _ q e2 e3 e4 (Rely.refl _ _ _) (hrG.trans k2) k1⟩
theorem stage1_C' (hY:Lay Q Shun c ch Low ro){vs:List Value}(hK:∀ v vs',vs=v::vs'→Goal1 P Q Shun c ch Low ro X z Fin FinG w0 vs'){ownM:Nat→Prop}{a:Goroutine}{wM:World}
 (hM:Walks P true ro (AtRecvW P ch z (NextM P ro ch z Fin vs)) ownM a wM)
 (H0:∀ ownG b wG,Walks P false ro (StopG P ro ch FinG vs) ownG b wG→∀ gs w sl t q,Crew P c t gs q→gs[0]? =some a→gs[c]? =some b→Rely ro ownM wM w→Rely ro ownG wG w→St1 Q Shun c ch Low ro ownM ownG X false w0 w t→∃ m' ops,runT P (crowd gs w sl) 0=(.next m',ops)∧Reach P m' (t++ops) (End1 P Q Shun c ch Low ro X z Fin FinG w0))
 {ownG:Nat→Prop}{b:Goroutine}{wG:World}(hG:Walks P false ro (StopG P ro ch FinG vs) ownG b wG):
  ∀ gs w sl t q,Crew P c t gs q→gs[0]? =some a→gs[c]? =some b→Rely ro ownM wM w→Rely ro ownG wG w→St1 Q Shun c ch Low ro ownM ownG X false w0 w t→
  Reach P (crowd gs w sl) t (End1 P Q Shun c ch Low ro X z Fin FinG w0):=by
 have ha:a.status= .running:=hM.running fun _ _ _ h=>h.1
 induction hG with
 | @stop ownG b wG hS=>
   intro gs w sl t q hC h0 hc hrM hrG hSt
   have hb:b.status= .running:=(hS wG (Rely.refl _ _ _)).running
   refine crew_turn (J:=fun w t=>Rely ro ownM wM w∧Rely ro ownG wG w∧St1 Q Shun c ch Low ro ownM ownG X false w0 w t) (awake_run ha) (awake_run hb) (.inr hb)
    (fun w t d ops hj h1 h2 h3 h4=>⟨hj.1.trans (rely_at _ _ _ d),hj.2.1.trans (rely_at _ _ _ d),hj.2.2.still d (fun op hop=>(h1 op hop).1) (h2 _) h3 h4⟩)
    (fun w t hj=>⟨.run ha,.run hb⟩)
    (fun _ gs w sl t q hC h0 hc hj=>H0 ownG b wG (.stop hS) gs w sl t q hC h0 hc hj.1 hj.2.1 hj.2.2) (fun _ gs w sl t q hC h0 hc hj=>?_) gs w sl t q hC h0 hc ⟨hrM,hrG,hSt⟩
   obtain⟨hrM,hrG,hSt⟩:=hj
   obtain⟨s,r,tm,hch⟩:=hSt.chan
   cases vs with
   |nil=>
    obtain⟨_,hmw,g₂,hg2,hx⟩:=hS w hrG
    obtain⟨hst,hfin⟩:=hx s r tm hch
    obtain⟨gs',e1,e2,e3,e4⟩:=crew_goC (sl:=sl) hC h0 hc hst
    rw[woken_run ha] at e3
    exact⟨_,_,e1,.here ⟨gs',_,sl,q,ownM,ownG,_,_,t,_,_,rfl,e2,e3,e4,hg2,recvsW_iff.2 (hM.rely (hrM.trans (rely_chan (hSt.chM hY) hY.chro))),hfin,hSt.close hY hch,rfl,hSt.closeDeaf⟩⟩
   |cons v vs'=>
    obtain⟨_,z',hst,hnext⟩:=hS w hrG
    obtain⟨gs',e1,e2,e3,e4⟩:=crew_send_waits (sl:=sl) hC h0 hc (by simp[ha]) hst hch
    exact⟨_,_,e1,stage1_B hY (hK v vs' rfl) hM b z' ownG w hnext gs' w sl _ q e2 e3 e4 hrM (Rely.refl _ _ _) (by simpa using hSt)⟩
 | @step ownG b wG nx nw ne hb h1 h2 h3 ih=>
   intro gs w sl t q hC h0 hc hrM hrG hSt
   refine crew_turn (J:=fun w t=>Rely ro ownM wM w∧Rely ro ownG wG w∧St1 Q Shun c ch Low ro ownM ownG X false w0 w t) (awake_run ha) (awake_run hb) (.inr hb)
    (fun w t d ops hj h1 h2 h3 h4=>⟨hj.1.trans (rely_at _ _ _ d),hj.2.1.trans (rely_at _ _ _ d),hj.2.2.still d (fun op hop=>(h1 op hop).1) (h2 _) h3 h4⟩)
    (fun w t hj=>⟨.run ha,.run hb⟩)
    (fun _ gs w sl t q hC h0 hc hj=>H0 ownG b wG (.step nx nw ne hb h1 h2 h3) gs w sl t q hC h0 hc hj.1 hj.2.1 hj.2.2) (fun _ gs w sl t q hC h0 hc hj=>?_) gs w sl t q hC h0 hc ⟨hrM,hrG,hSt⟩
   obtain⟨hrM,hrG,hSt⟩:=hj
   obtain⟨gs',e1,e2,e3,e4⟩:=crew_goC (sl:=sl) hC h0 hc (h1 w hrG)
   obtain⟨k1,k2⟩:=hSt.stepG (fn:=b.frame.fn) (pos:=b.frame.place) hY (h2 w hrG)
   rw[woken_run ha] at e3
   exact⟨_,_,e1,ih w hrG gs' _ sl _ q e2 e3 e4 (hrM.trans k2) (Rely.refl _ _ _) k1⟩
theorem stage1_C (hY:Lay Q Shun c ch Low ro){vs:List Value}(hK:∀ v vs',vs=v::vs'→Goal1 P Q Shun c ch Low ro X z Fin FinG w0 vs'){ownM:Nat→Prop}{a:Goroutine}{wM:World}
 (hM:Walks P true ro (AtRecvW P ch z (NextM P ro ch z Fin vs)) ownM a wM):∀ (ownG:Nat→Prop) (b:Goroutine) (wG:World),Walks P false ro (StopG P ro ch FinG vs) ownG b wG→
   ∀ gs w sl t q,Crew P c t gs q→gs[0]? =some a→gs[c]? =some b→Rely ro ownM wM w→Rely ro ownG wG w→St1 Q Shun c ch Low ro ownM ownG X false w0 w t→
   Reach P (crowd gs w sl) t (End1 P Q Shun c ch Low ro X z Fin FinG w0):=by
 induction hM with
 | @stop ownM a wM hS=>
   intro ownG b wG hG
   refine stage1_C' hY hK (.stop hS) (fun ownG b wG hG gs w sl t q hC h0 hc hrM hrG hSt=>?_) hG
   obtain⟨s,r,tm,hch⟩:=hSt.chan
   have hb:b.status= .running:=hG.running fun _ _ _ h=>h.running
   obtain⟨gs',e1,e2,e3,e4⟩:=crew_recv_waits (sl:=sl) hC h0 hc (by simp[hb]) (hS w hrM).2.1 hch
   exact⟨_,_,e1,stage1_A hY hK hG a ownM wM hS gs' w sl _ q e2 e3 e4 hrM hrG (by simpa using hSt)⟩
 | @step ownM a wM nx nw ne ha h1 h2 h3 ih=>
   intro ownG b wG hG
   refine stage1_C' hY hK (.step nx nw ne ha h1 h2 h3) (fun ownG b wG hG gs w sl t q hC h0 hc hrM hrG hSt=>?_) hG
   have hb:b.status= .running:=hG.running fun _ _ _ h=>h.running
   obtain⟨gs',e1,e2,e3,e4⟩:=crew_go0 (sl:=sl) hC h0 hc (h1 w hrM)
   obtain⟨k1,k2⟩:=hSt.stepM (fn:=a.frame.fn) (pos:=a.frame.place) hY (h2 w hrM)
   rw[woken_run hb] at e4
   exact⟨_,_,e1,ih w hrM ownG b wG hG gs' _ sl _ q e2 e3 e4 (Rely.refl _ _ _) (hrG.trans k2) k1⟩
theorem stage1 (hY:Lay Q Shun c ch Low ro):∀ vs,Goal1 P Q Shun c ch Low ro X z Fin FinG w0 vs
 |[],gs,w,sl,t,q,ownM,ownG,a,b,hC,h0,hc,hM,hG,hSt=>stage1_C hY (fun _ _ e=>by cases e) (recvsW_iff.1 hM) ownG b w (sendsW_iff.1 hG) gs w sl t q hC h0 hc (Rely.refl _ _ _) (Rely.refl _ _ _) hSt
 |v::vs,gs,w,sl,t,q,ownM,ownG,a,b,hC,h0,hc,hM,hG,hSt=>stage1_C hY (fun v' vs' e=>by cases e;exact stage1 hY vs) (recvsW_iff.1 hM) ownG b w (sendsW_iff.1 hG) gs w sl t q hC h0 hc (Rely.refl _ _ _) (Rely.refl _ _ _) hSt
end
end Go.Ren
namespace Go.Ren
open Go Go.Conc
open Go.ConcX (stA Acq)
theorem at_ev {t:Trace}{g:Nat}{fn:FuncId}{pos:String}{es:Array Event}(j:Nat):(t++MemOp.ofEvents g fn pos es)[t.size+j]? =(es[j]?).map fun e=>{ g:=g,fn:=fn,pos:=pos,act:= .ofEvent e }:=by
 rw[Array.getElem?_append_right (by omega),ofEvents_eq,Array.getElem?_map]
 congr 2
 omega
theorem act_ev {t:Trace}{g:Nat}{fn:FuncId}{pos:String}{es:Array Event}(j:Nat):(t++MemOp.ofEvents g fn pos es).act? (t.size+j)=(es[j]?).map MemAct.ofEvent:=by
 unfold Trace.act?
 rw[at_ev]
 cases es[j]?<;>rfl
theorem g_ev {t:Trace}{g:Nat}{fn:FuncId}{pos:String}{es:Array Event}(j:Nat):(t++MemOp.ofEvents g fn pos es).g? (t.size+j)=(es[j]?).map fun _=>g:=by
 unfold Trace.g?
 rw[at_ev]
 cases es[j]?<;>rfl
theorem heard_ev {t:Trace}{g:Nat}{fn:FuncId}{pos:String}{es:Array Event}{j:Nat}{e:Event}(he:es[j]? =some e):(t++MemOp.ofEvents g fn pos es).heard (t.size+j)↔deafBehind (Deaf t g) (es.extract 0 j)=0:=by
 have hj:j≤es.size:=by
  rcases Nat.lt_or_ge j es.size with h|h
  ·omega
  ·rw[Array.getElem?_eq_none h] at he;cases he
 unfold Trace.heard
 rw[g_ev,he]
 simp only[Option.map_some,Option.some.injEq,exists_eq_left']
 rw[deaf_inside t g fn pos es j hj]
theorem heard_ev2 {s T:Trace}{g g':Nat}{fn:FuncId}{pos:String}{es:Array Event}{j:Nat}{e:Event}(he:es[j]? =some e)(hd:Deaf T g'=Deaf s g):(T++MemOp.ofEvents g' fn pos es).heard (T.size+j)↔(s++MemOp.ofEvents g fn pos es).heard (s.size+j):=by
 rw[heard_ev he,heard_ev he,hd]
theorem counts_ev2 {s T:Trace}{g g':Nat}{fn:FuncId}{pos:String}{es:Array Event}{j:Nat}(hd:Deaf T g'=Deaf s g):(T++MemOp.ofEvents g' fn pos es).counts (T.size+j)→(s++MemOp.ofEvents g fn pos es).counts (s.size+j):=by
 rintro ⟨x,hx,hm,hk⟩
 rw[act_ev] at hx
 cases he:es[j]? with
 |none=>rw[he] at hx;simp at hx
 |some e=>exact⟨x,by rw[act_ev];exact hx,hm,hk.imp id (heard_ev2 he hd).1⟩
theorem split_ev {t:Trace}{g:Nat}{fn:FuncId}{pos:String}{es:Array Event}{i:Nat}(hi:t.size≤i)(hlt:i<(t++MemOp.ofEvents g fn pos es).size):∃ j e,i=t.size+j∧es[j]? =some e:=by
 rw[ofEvents_eq] at hlt
 simp at hlt
 exact⟨i-t.size,es[i-t.size]'(by omega),by omega,Array.getElem?_eq_getElem _⟩
theorem lt_of_g {t:Trace}{i g:Nat}(h:t.g? i=some g):i<t.size:=by
 obtain⟨z,hz,_⟩:=Option.map_eq_some_iff.1 h
 exact lt_size_of_getElem? hz
structure RelT (c Wg:Nat) (T:Trace) (R:Nat):Prop where
 act:T.act? R=some (.mark (.releaseMerge (stA Wg)))
 g:T.g? R=some c
 heard:T.heard R
 after:∀ i,R<i→T.g? i=some c→¬ T.counts i
 norel:∀ i,R<i→T.act? i≠some (.mark (.release (stA Wg)))
 late:∀ i a,R<i→T.g? i=some c→touchAt T i=some a→∃ ad,a.loc= .cell ad∧ad.block=Wg
def Mild (c Wg:Nat)(u:Trace):Prop:=∀ op∈u,op.act≠ .mark (.release (stA Wg))∧(op.g=c→∀ x,op.act.touch? =some x→∃ ad,x.loc= .cell ad∧ad.block=Wg)
theorem RelT.app {c Wg:Nat}{T u:Trace}{R:Nat}(h:RelT c Wg T R)(hu:Mild c Wg u)(hc:∀ i,T.size≤i→(T++u).g? i=some c→¬ (T++u).counts i):RelT c Wg (T++u) R:=by
 have hR:=lt_of_act? h.act
 refine⟨by rw[act?_old hR];exact h.act,by rw[g?_old hR];exact h.g,(heard_old hR).2 h.heard,fun i hi hg hcn=>?_,fun i hi e=>?_,fun i a hi hg ha=>?_⟩
 ·rcases Nat.lt_or_ge i T.size with hlt|hge
  ·exact h.after i hi (by rw[←g?_old (u:=u) hlt];exact hg) ((counts_old hlt).1 hcn)
  ·exact hc i hge hg hcn
 ·obtain⟨op,ho,hoa⟩:=Option.map_eq_some_iff.1 e
  rcases getElem?_append_cases ho with⟨_,ho'⟩|⟨_,hou⟩
  ·exact h.norel i hi (by rw[act?_of ho',hoa])
  ·exact(hu op hou).1 hoa
 ·obtain⟨op,ho,hoa⟩:=touch_of ha
  rcases getElem?_append_cases ho with⟨hlt,ho'⟩|⟨_,hou⟩
  ·exact h.late i a hi (by rw[←g?_old (u:=u) hlt];exact hg) (by rw[touchAt_of ho'];exact hoa)
  ·exact(hu op hou).2 (by simpa[Trace.g?,ho] using hg) a hoa
def AcqT (c Wg:Nat)(T:Trace):Prop:=∃ R Q,RelT c Wg T R∧T.act? Q=some (.mark (.acquire (stA Wg)))∧T.g? Q=some 0∧T.heard Q∧R<Q
structure GL (c Wg:Nat) (s T:Trace):Prop where
 d0:Deaf T 0=Deaf s 0
 dc:Deaf T c=Deaf s 1
 rel:∀ r,Released (stA Wg) s r→∃ R,RelT c Wg T R
 acq:Acq Wg s→AcqT c Wg T
section
variable {c Wg:Nat} {s T u:Trace}
theorem AcqT.app (h:AcqT c Wg T)(hu:Mild c Wg u)(hc:∀ i,T.size≤i→(T++u).g? i=some c→¬ (T++u).counts i):AcqT c Wg (T++u):=by
 obtain⟨R,Q,h1,h2,h3,h4,h5⟩:=h
 have hQ:=lt_of_act? h2
 exact⟨R,Q,h1.app hu hc,by rw[act?_old hQ];exact h2,by rw[g?_old hQ];exact h3,(heard_old hQ).2 h4,h5⟩
theorem GL.other (h:GL c Wg s T)(hu:∀ op∈u,op.act≠ .mark (.release (stA Wg))∧(op.g=c→op.act.touch? =none))(h0:Deaf (T++u) 0=Deaf T 0)(hc:Deaf (T++u) c=Deaf T c):GL c Wg s (T++u):=by
 have k:∀ i,T.size≤i→(T++u).g? i=some c→¬ (T++u).counts i:=by
  rintro i hi hg ⟨x,hx,_⟩
  obtain⟨op,ho,hog⟩:=Option.map_eq_some_iff.1 hg
  rcases getElem?_append_cases ho with⟨hlt,_⟩|⟨_,hou⟩
  ·omega
  ·rw[act?_of ho] at hx
   simp only[Option.bind_some] at hx
   rw[(hu op hou).2 hog] at hx;cases hx
 have hm:Mild c Wg u:=fun op hop=>⟨(hu op hop).1,fun e x hx=>by rw[(hu op hop).2 e] at hx;cases hx⟩
 exact⟨h0.trans h.d0,hc.trans h.dc,fun r hr=>let⟨R,hR⟩:=h.rel r hr;⟨R,hR.app hm k⟩,fun ha=>(h.acq ha).app hm k⟩
theorem Released.back {t u:Trace}{a:Addr}{r:Nat}(h:Released a (t++u) r)(hr:r<t.size):Released a t r:=
 ⟨by rw[←act?_old (u:=u) hr];exact h.act,by rw[←g?_old (u:=u) hr];exact h.g,(heard_old hr).1 h.heard,fun i hi hg hc=>by
   have hlt:=lt_of_g hg
   exact h.after i hi (by rw[g?_old hlt];exact hg) ((counts_old hlt).2 hc)⟩
theorem release_ofEvent {e:Event}(a:Addr)(h:MemAct.ofEvent e= .mark (.release a)):e.loc= .mark (.release a):=by
 obtain⟨loc,wr,sy⟩:=e
 cases loc<;>cases wr<;>cases sy<;>simp_all [MemAct.ofEvent]
theorem GL.step (hc0:c≠0)(h:GL c Wg s T){g:Nat}(hg:g=0∨g=1){g':Nat}(hg':g'=if g=0 then 0 else c)(fn:FuncId)(pos:String)(es:Array Event)(hn:NoRelease (stA Wg) (s++MemOp.ofEvents g fn pos es))(hq:∀ e∈es,∀ x,(MemAct.ofEvent e).touch? =some x→∃ ad,x.loc= .cell ad∧ad.block=Wg):
 GL c Wg (s++MemOp.ofEvents g fn pos es) (T++MemOp.ofEvents g' fn pos es):=by
 have hd:Deaf T g'=Deaf s g:=by
  rcases hg with rfl|rfl
  ·rw[hg'];exact h.d0
  ·rw[hg'];exact h.dc
 have hgc:g'=c↔g=1:=by
  rcases hg with rfl|rfl
  ·rw[hg'];simp;exact Ne.symm hc0
  ·rw[hg'];simp
 have hnu:Mild c Wg (MemOp.ofEvents g' fn pos es):=by
  intro op hop
  obtain⟨ev,hev,rfl⟩:=Conc.mem_ofEvents hop
  refine⟨fun e=>?_,fun _=>hq ev hev⟩
  obtain⟨j,hj⟩:=Array.getElem?_of_mem hev
  exact hn (s.size+j) (by rw[act_ev,hj];exact congrArg some e)
 have kc:∀ r,Released (stA Wg) (s++MemOp.ofEvents g fn pos es) r→∀ j e,es[j]? =some e→r<s.size+j→g'=c→¬ (T++MemOp.ofEvents g' fn pos es).counts (T.size+j):=by
  intro r hr j e he hlt hgg hcn
  refine hr.after (s.size+j) hlt ?_ (counts_ev2 hd hcn)
  rw[g_ev,he,hgc.1 hgg];rfl
 have knew:∀ r,Released (stA Wg) (s++MemOp.ofEvents g fn pos es) r→r<s.size→∀ i,T.size≤i→(T++MemOp.ofEvents g' fn pos es).g? i=some c→¬ (T++MemOp.ofEvents g' fn pos es).counts i:=by
  intro r hr hlt i hi hgi
  obtain⟨j,e,rfl,he⟩:=split_ev hi (lt_of_g hgi)
  refine kc r hr j e he (by omega) ?_
  rw[g_ev,he] at hgi
  simpa using hgi
 have krel:∀ r,Released (stA Wg) (s++MemOp.ofEvents g fn pos es) r→∃ R,RelT c Wg (T++MemOp.ofEvents g' fn pos es) R∧(r<s.size→R<T.size):=by
  intro r hr
  rcases Nat.lt_or_ge r s.size with hlt|hge
  ·obtain⟨R,hR⟩:=h.rel r (Released.back hr hlt)
   exact⟨R,hR.app hnu (knew r hr hlt),fun _=>lt_of_act? hR.act⟩
  ·obtain⟨j,e,rfl,he⟩:=split_ev hge (lt_of_g hr.g)
   have h1:=hr.act
   have h2:=hr.g
   rw[act_ev,he] at h1
   rw[g_ev,he] at h2
   have hg1:g=1:=by simpa using h2
   refine⟨T.size+j,⟨by rw[act_ev,he];exact h1,by rw[g_ev,he,hgc.2 hg1];rfl,(heard_ev2 he hd).2 hr.heard,fun i hi hgi=>?_,fun i hi e'=>?_,fun i a hi hgi ha=>?_⟩,fun hlt=>by omega⟩
   ·obtain⟨j',e',rfl,he'⟩:=split_ev (by omega) (lt_of_g hgi)
    exact kc _ hr j' e' he' (by omega) (hgc.2 hg1)
   ·obtain⟨j',e'',rfl,he''⟩:=split_ev (by omega) (lt_of_act? e')
    rw[act_ev,he''] at e'
    exact hn (s.size+j') (by rw[act_ev,he''];exact e')
   ·obtain⟨op,ho,hoa⟩:=touch_of ha
    rcases getElem?_append_cases ho with⟨hlt,_⟩|⟨_,hou⟩
    ·omega
    ·obtain⟨ev,hev,rfl⟩:=Conc.mem_ofEvents hou
     exact hq ev hev a hoa
 refine⟨?_,?_,fun r hr=>let⟨R,hR,_⟩:=krel r hr;⟨R,hR⟩,?_⟩
 ·rcases hg with rfl|rfl
  ·rw[if_pos rfl] at hg'
   subst hg'
   rw[Deaf_own,Deaf_own,h.d0]
  ·rw[if_neg (by decide)] at hg'
   subst hg'
   rw[Deaf_other T hc0 _ ofEvents_g,Deaf_other s (by decide) _ ofEvents_g,h.d0]
 ·rcases hg with rfl|rfl
  ·rw[if_pos rfl] at hg'
   subst hg'
   rw[Deaf_other T (Ne.symm hc0) _ ofEvents_g,Deaf_other s (by decide) _ ofEvents_g,h.dc]
  ·rw[if_neg (by decide)] at hg'
   subst hg'
   rw[Deaf_own,Deaf_own,h.dc]
 ·rintro ⟨q,r,hr,hq,hgq,hh,hrq⟩
  rcases Nat.lt_or_ge q s.size with hlt|hge
  ·have hr':=Released.back hr (by omega)
   exact(h.acq ⟨q,r,hr',by rw[←act?_old hlt];exact hq,by rw[←g?_old hlt];exact hgq,(heard_old hlt).1 hh,hrq⟩).app hnu (knew r hr (by omega))
  ·obtain⟨j,e,rfl,he⟩:=split_ev hge (lt_of_g hgq)
   rw[g_ev,he] at hgq
   have hg0:g=0:=by simpa using hgq
   have hr':r<s.size:=by
    rcases Nat.lt_or_ge r s.size with hlt|hge'
    ·exact hlt
    ·obtain⟨j',e',rfl,he'⟩:=split_ev hge' (lt_of_g hr.g)
     have:=hr.g
     rw[g_ev,he',hg0] at this
     simp at this
   obtain⟨R,hR,hlt⟩:=krel r hr
   refine⟨R,T.size+j,hR,?_,?_,(heard_ev2 he hd).2 hh,by have:=hlt hr';omega⟩
   ·rw[act_ev,he] at hq ⊢;exact hq
   ·rw[g_ev,he,hg'];simp[hg0]
end
end Go.Ren
set_option linter.unusedSectionVars false
namespace Go.Ren
open Go Go.Conc
open Go.ConcX (Payload Shy stA smA Base CA JInv RCa RCd DCs AtR0 RPa DPi AtKd PA KK WgAt ChanAt Full Aside2 runTX JT CAOut)
section
variable [Payload] {P:Program} {ty:TypeId} {Wg C Low:Nat} [Shy Wg C] {vals:List Value} {Mine:Loc→Prop}
def Half (P:Program)(ty:TypeId)(Wg C Low:Nat) [Shy Wg C] (vals:List Value)(Mine:Loc→Prop)(μ:Nat×Nat)(b:Goroutine)(w:World)(s:Trace):Prop:=
 (∃ p d1 rc mc rel cl sent vs,μ=(rc,mc)∧sent++vs=vals∧Base Mine ty Wg C vals.length KK 0 sent.toArray cl sent.length 0 0 d1 rel w s p∧CA P ty Wg C Low vals Mine rc d1 rel vs cl mc b w)∨
 (∃ p d1 q,μ=(0,q)∧Base Mine ty Wg C vals.length 0 0 vals.toArray true vals.length 0 0 d1 true w s p∧QuitsD P q d1 b)
theorem duo_next {a b:Goroutine}{w:World}{m':Machine}{ops:Array MemOp}(h:runTX P (duo a b w none) 1=(.next m',ops)):∃ b' w' es,stepG P false b w= .go b' w' es∧m'=duo (Conc.woken P b b' w' a) b' w' none∧ops=MemOp.ofEvents 1 b.frame.fn b.frame.place es:=by
 rw[duo_eq_crowd] at h
 obtain⟨g,g',w',es,hg,hs,hm,ho⟩:=Go.ConcX.runTX_next h
 obtain rfl:b=g:=by simpa using hg
 exact⟨g',w',es,hs,by rw[hm];simp[crowd,duo],ho⟩
theorem Half.status {μ:Nat×Nat}{b:Goroutine}{w:World}{s:Trace}(h:Half P ty Wg C Low vals Mine μ b w s):b.status= .running∨b.status= .finished:=by
 rcases h with⟨_,_,_,_,_,_,_,_,_,_,_,hc⟩|⟨_,_,_,_,_,hq⟩
 ·exact .inl hc.running
 ·exact hq.status
theorem Half.jt {μ:Nat×Nat}{b:Goroutine}{w:World}{s:Trace}(h:Half P ty Wg C Low vals Mine μ b w s):∃ p,JT Mine Wg C s p:=by
 rcases h with⟨p,_,_,_,_,_,_,_,_,_,hB,_⟩|⟨p,_,_,_,hB,_⟩
 ·exact⟨p,hB.jt⟩
 ·exact⟨p,hB.jt⟩
theorem Half.woken {μ:Nat×Nat}{b:Goroutine}{w w':World}{s:Trace}(h:Half P ty Wg C Low vals Mine μ b w s)(x x':Goroutine):Conc.woken P x x' w' b=b:=by
 rcases h with⟨_,_,_,_,_,_,_,_,_,_,_,hc⟩|⟨_,_,_,_,_,hq⟩
 ·exact woken_run hc.running
 ·exact woken_quitsD hq
theorem Half.rely (hW:Wg<Low)(hC:C<Low){μ:Nat×Nat}{b:Goroutine}{w w':World}{s:Trace}(h:Half P ty Wg C Low vals Mine μ b w s)(hr:∀ b,b<Low→w'.heap[b]? =w.heap[b]?):Half P ty Wg C Low vals Mine μ b w' s:=by
 rcases h with⟨p,d1,rc,mc,rel,cl,sent,vs,e,hs,hB,hc⟩|⟨p,d1,q,e,hB,hq⟩
 ·exact .inl ⟨p,d1,rc,mc,rel,cl,sent,vs,e,hs,⟨hB.wg.of_block (hr Wg hW),hB.ch.of_block (hr C hC),hB.jt,hB.deaf0,hB.deaf1,hB.noacq,hB.rel⟩,hc.rely (Go.ConcX.RCd.toA hW hr)⟩
 ·exact .inr ⟨p,d1,q,e,⟨hB.wg.of_block (hr Wg hW),hB.ch.of_block (hr C hC),hB.jt,hB.deaf0,hB.deaf1,hB.noacq,hB.rel⟩,hq⟩
theorem Half.move (hCW:C≠Wg){μ:Nat×Nat}{b:Goroutine}{w:World}{s:Trace}(h:Half P ty Wg C Low vals Mine μ b w s)(hb:b.status= .running):
 ∃ b' w' es μ',stepG P false b w= .go b' w' es∧Aside2 C Wg w w'∧Lt2 μ' μ∧Half P ty Wg C Low vals Mine μ' b' w' (s++MemOp.ofEvents 1 b.frame.fn b.frame.place es):=by
 rcases h with⟨p,d1,rc,mc,rel,cl,sent,vs,rfl,hs,hB,hc⟩|⟨p,d1,q,rfl,hB,hq⟩
 ·obtain⟨a',b',w',ops,hrun,_,hA,hout⟩:=Go.ConcX.CA.move hCW (a:=ph) (sl:=none) (.inl rfl) hs hB hc (.inl (by simp[ph]))
  obtain⟨b2,w2,es,hst,hm,rfl⟩:=duo_next hrun
  obtain⟨_,rfl,rfl,_⟩:=Go.ConcX.duo_inj hm
  cases hout with
  |stay rc' d1' rel' sent' vs' cl' mc' hl hs' hB' hc'=>exact⟨b',w',es,(rc',mc'),hst,hA,hl,.inl ⟨p,d1',rc',mc',rel',cl',sent',vs',rfl,hs',hB',hc'⟩⟩
  |lone q _ hB' hq=>exact⟨b',w',es,(0,q),hst,hA,.left _ _ (by have:=hc.rank_pos;omega),.inr ⟨p,1,q,rfl,hB',hq⟩⟩
  |met m e _ _=>exact absurd e Go.ConcX.kk1_ne
 ·obtain⟨b',ops,q',d1',hrun,hlt,hB',hq',_⟩:=Go.ConcX.cq_move (a:=ph) (sl:=none) hB hq hb
  obtain⟨b2,w2,es,hst,hm,rfl⟩:=duo_next hrun
  obtain⟨_,rfl,rfl,_⟩:=Go.ConcX.duo_inj hm
  exact⟨b',w,es,(0,q'),hst,.refl w,.right _ hlt,.inr ⟨p,d1',q',rfl,hB',hq'⟩⟩
theorem Half.inv {AnchW:Goroutine→World→Prop}{Post:Value→World→Prop}{μ:Nat×Nat}{a b:Goroutine}{w:World}{s:Trace}{sl:Option (Nat×Nat)}(h:Half P ty Wg C Low vals Mine μ b w s){m:Nat}(hp:Goes P true (RPa ty Wg C vals) (DPi Mine Wg C Low) (AtKd P ty Wg C Low vals Mine AnchW) m a w):
 ∃ μ',JInv P ty Wg C Low vals Mine AnchW Post μ' (duo a b w sl) s:=by
 rcases h with⟨p,d1,rc,mc,rel,cl,sent,vs,rfl,hs,hB,hc⟩|⟨p,d1,q,rfl,hB,hq⟩
 ·exact⟨_,.a a b w sl s p 0 d1 rc mc 4 m rel cl sent vs hs hB (.kd hp) hc⟩
 ·exact⟨_,.c a b w sl s p 0 d1 q 4 m hB (.kd hp) hq⟩
def gst:Trace:=((#[]:Trace).push { g:=0,fn:=0,pos:= "",act:= .go 1 }).push { g:=1,fn:=0,pos:= "",act:= .start }
theorem Half.init {b:Goroutine}{w:World}{n:Nat}(hw:WgAt ty Wg w KK 0)(hG:Goes P false (RCa ty Wg Low) (DCs Mine Wg C) (AtR0 P ty Wg C Low vals) n b w):Half P ty Wg C Low vals Mine (7,n) b w gst:=by
 obtain⟨h1,h2,h3,h4⟩:=Go.ConcX.JT.init (Mine:=Mine) (Go.ConcX.ST.nil (Wg:=Wg) (C:=C)) (x:={ g:=0,fn:=0,pos:= "",act:= .go 1 }) (y:={ g:=1,fn:=0,pos:= "",act:= .start }) ⟨rfl,rfl⟩ ⟨rfl,rfl⟩
 exact .inl ⟨_,0,7,n,false,false,vals,[],rfl,by simp,⟨hw,(fun e=>by cases e),h1,h2,h3,(fun _=>h4),(fun e=>by cases e)⟩,.r0 hG⟩
end
theorem gst_deaf0:Deaf gst 0=0:=by simp[gst,Deaf,Trace.deaf]
theorem gst_deaf1:Deaf gst 1=0:=by simp[gst,Deaf,Trace.deaf]
theorem gst_norel {a:Addr}{r:Nat}(h:Released a gst r):False:=by
 have:=h.act
 have hlt:=lt_of_act? this
 have h2:r<2:=hlt
 match r,h2 with
 |0,_=>simp[gst,Trace.act?] at this
 |1,_=>simp[gst,Trace.act?] at this
theorem GL.init {c Wg:Nat}{T:Trace}(h0:Deaf T 0=0)(hc:Deaf T c=0):GL c Wg gst T:=
 ⟨by rw[h0,gst_deaf0],by rw[hc,gst_deaf1],fun r hr=>(gst_norel hr).elim,fun⟨_,_,hr,_⟩=>(gst_norel hr).elim⟩
end Go.Ren
set_option linter.unusedSectionVars false
namespace Go.Ren
open Go Go.Conc
open Go.ConcX (Payload Shy stA smA Base CA JInv RCa RCd DCs AtR0 RPa DPi AtKd PA KK WgAt ChanAt Full Aside2 runTX JT AtW1)
structure Side (Wg:Nat) where
 pl:Payload
 C:Nat
 sh:Shy Wg C
 vals:List Value
 Mine:Loc→Prop
 AnchW:Goroutine→World→Prop
 Post:Value→World→Prop
section
variable {Wg:Nat}
def Side.half (x:Side Wg)(P:Program)(ty:TypeId)(Low:Nat)(μ:Nat×Nat)(b:Goroutine)(w:World)(s:Trace):Prop:=@Half x.pl P ty Wg x.C Low x.sh x.vals x.Mine μ b w s
def Side.jt (x:Side Wg)(s:Trace)(p:Nat):Prop:=@JT x.Mine Wg x.C x.sh s p
theorem Side.half_rely {x:Side Wg}{P:Program}{ty:TypeId}{Low:Nat}(hW:Wg<Low)(hC:x.C<Low){μ:Nat×Nat}{b:Goroutine}{w w':World}{s:Trace}(h:x.half P ty Low μ b w s)(hr:∀ b,b<Low→w'.heap[b]? =w.heap[b]?):x.half P ty Low μ b w' s:=
 @Half.rely x.pl P ty Wg x.C Low x.sh x.vals x.Mine hW hC μ b w w' s h hr
theorem Side.half_woken {x:Side Wg}{P:Program}{ty:TypeId}{Low:Nat}{μ:Nat×Nat}{b:Goroutine}{w w':World}{s:Trace}(h:x.half P ty Low μ b w s)(u u':Goroutine):Conc.woken P u u' w' b=b:=
 @Half.woken x.pl P ty Wg x.C Low x.sh x.vals x.Mine μ b w w' s h u u'
theorem Side.norel {x:Side Wg}{s:Trace}{p:Nat}(h:x.jt s p):NoRelease (stA Wg) s:=@JT.norel x.Mine Wg x.C x.sh s p h
theorem Side.oks {x:Side Wg}{s:Trace}{p:Nat}(h:x.jt s p):∀ op∈s,x.sh.ok op.act:=@JT.oks x.Mine Wg x.C x.sh s p h
theorem Side.quiet {x:Side Wg}{s:Trace}{p:Nat}(h:x.jt s p):Quiet (Go.ConcX.ShJ Wg x.C) s:=@JT.quiet x.Mine Wg x.C x.sh s p h
structure SideOk (P:Program) (ty:TypeId) (Wg Low:Nat) (x:Side Wg):Prop where
 hC:x.C<Low
 hCW:x.C≠Wg
 hAr:∀ g w,x.AnchW g w→g.status= .running
 hAn:letI:=x.pl;letI:=x.sh;∀ g w,x.AnchW g w→∃ m,Goes P true (RPa ty Wg x.C x.vals) (DPi x.Mine Wg x.C Low) (AtW1 P ty Wg x.C Low x.vals x.Mine x.AnchW x.Post) m g w
 ok:∀ act,x.sh.ok act→(∀ t,act.touch? =some t→∃ a,t.loc= .cell a∧(a.block=Wg∨a.block=x.C))∧act.low Low
end
section
variable {P:Program} {ty:TypeId} {Wg Low:Nat} {x y:Side Wg} {s s':Trace} {g:Nat} {fn:FuncId} {pos:String} {es:Array Event} {p p':Nat}
theorem side_ev (hx:SideOk P ty Wg Low x)(h:x.jt (s++MemOp.ofEvents g fn pos es) p):∀ e∈es,(∀ t,(MemAct.ofEvent e).touch? =some t→∃ a,t.loc= .cell a∧((a.block=Wg∧t.kind≠ .plain∧(t.kind= .said→g=0))∨a.block=x.C))∧(MemAct.ofEvent e).low Low:=by
 intro e he
 obtain⟨j,hj⟩:=Array.getElem?_of_mem he
 have hop:(s++MemOp.ofEvents g fn pos es)[s.size+j]? =some { g:=g,fn:=fn,pos:=pos,act:= .ofEvent e }:=by rw[at_ev,hj];rfl
 obtain⟨k1,k2⟩:=hx.ok _ (Side.oks h _ (Array.mem_of_getElem? hop))
 refine⟨fun t ht=>?_,k2⟩
 obtain⟨a,ha,hb⟩:=k1 t ht
 refine⟨a,ha,hb.imp (fun hb=>?_) id⟩
 obtain⟨q1,q2⟩:=Side.quiet h _ _ t hop ht (.inl ⟨a,ha,hb⟩)
 exact⟨hb,q1,q2⟩
theorem two_ev (hx:SideOk P ty Wg Low x)(hy:SideOk P ty Wg Low y)(hxy:x.C≠y.C)(h:x.jt (s++MemOp.ofEvents g fn pos es) p)(h':y.jt (s'++MemOp.ofEvents g fn pos es) p'):
 ∀ e∈es,(∀ t,(MemAct.ofEvent e).touch? =some t→∃ a,t.loc= .cell a∧a.block=Wg∧t.kind≠ .plain∧(t.kind= .said→g=0))∧(MemAct.ofEvent e).low Low:=by
 intro e he
 obtain⟨k1,k2⟩:=side_ev hx h e he
 refine⟨fun t ht=>?_,k2⟩
 obtain⟨a,ha,hb⟩:=k1 t ht
 obtain⟨a',ha',hb'⟩:=(side_ev hy h' e he).1 t ht
 rw[ha] at ha'
 obtain rfl:a=a':=by simpa using ha'
 rcases hb with hb|hb
 ·exact⟨a,ha,hb⟩
 ·rcases hb' with hb'|hb'
  ·exact⟨a,ha,hb'⟩
  ·exact absurd (hb.symm.trans hb') hxy
theorem aside_of_two {w w':World}(hxy:x.C≠y.C)(h:Aside2 x.C Wg w w')(h':Aside2 y.C Wg w w'):Aside Wg w w':=
 ⟨h.tape,h.os,h.output,h.size,fun k hk=>by
   by_cases e:k=x.C
   ·exact h'.block k (by rw[e];exact hxy) hk
   ·exact h.block k e hk⟩
end
section
variable {P:Program} {ty:TypeId} {Q Shun:Loc→Prop} {c ch Wg Low:Nat} {ro ownM ownG X:Nat→Prop} {w0 w w':World} {t u:Trace} {x y:Side Wg}
theorem St1.weaken {X':Nat→Prop}{cl:Bool}(h:St1 Q Shun c ch Low ro ownM ownG X cl w0 w t)(hX:∀ b,X b→X' b):St1 Q Shun c ch Low ro ownM ownG X' cl w0 w t:=
 ⟨h.ti,h.d0,h.dc,h.mlt,h.glt,h.apart,h.big,h.chan,h.tape,h.os,h.output,fun b h1 h2=>h.keep b h1 fun e=>h2 (hX b e),hX _ h.xch⟩
structure LayW (Q Shun:Loc→Prop) (c ch Wg Low:Nat) (ro X:Nat→Prop):Prop extends Lay Q Shun c ch Low ro where
 wlt:Wg<Low
 wch:Wg≠ch
 wQ:∀ a:Addr,a.block=Wg→Q (.cell a)
 wX:X Wg
theorem LayW.wro (hY:LayW Q Shun c ch Wg Low ro X):¬ ro Wg:=fun h=>hY.rS (.cell ⟨Wg,0,none⟩) h (hY.QS _ (hY.wQ _ rfl))
theorem St1.stepW (hY:LayW Q Shun c ch Wg Low ro X)(h:St1 Q Shun c ch Low ro ownM ownG X true w0 w t)(hA:Aside Wg w w'){g:Nat}(hg:g=0∨g=c)(hu:∀ op∈u,op.g=g∧∀ x,op.act.touch? =some x→Q x.loc∧x.kind≠ .plain∧(x.kind= .said→g=0))(hl:∀ op∈u,op.act.low w.heap.size)(hd:Deaf (t++u) 0=0):
 St1 Q Shun c ch Low ro ownM ownG X true w0 w' (t++u)∧Rely ro ownM w w':=by
 have hs:=hA.size
 refine⟨⟨?_,hd,(fun e=>by cases e),fun b hb=>by have:=h.mlt b hb;omega,fun b hb=>by have:=h.glt b hb;omega,h.apart,by have:=h.big;omega,?_,hA.tape.trans h.tape,hA.os.trans h.os,hA.output.trans h.output,fun b h1 h2=>?_,h.xch⟩,hA.tape,hA.os,hA.output,by omega,fun b hb=>hA.block b ?_⟩
 ·rw[hs]
  exact h.ti.appQ hg hu hl hY.QS fun l hl=>⟨fun hi=>inB_ge (fun b hb'=>(h.glt b hb').1) hi (hY.shun l (hY.QS l hl)),fun hi=>hY.rS l hi (hY.QS l hl)⟩
 ·obtain⟨s,r,tm,e⟩:=h.chan
  exact⟨s,r,tm,by rw[hA.block ch (Ne.symm hY.wch)];exact e⟩
 ·rw[hA.block b fun e=>h2 (by rw[e];exact hY.wX)];exact h.keep b h1 h2
 ·rintro rfl
  rcases hb with hb|hb
  ·have:=h.mlt _ hb;have:=hY.wlt;omega
  ·exact hY.wro hb
theorem ops_two {g g':Nat}{fn:FuncId}{pos:String}{es:Array Event}(hQ:∀ a:Addr,a.block=Wg→Q (.cell a))(hgg:g=0→g'=0)(h:∀ e∈es,(∀ t,(MemAct.ofEvent e).touch? =some t→∃ a,t.loc= .cell a∧a.block=Wg∧t.kind≠ .plain∧(t.kind= .said→g=0))∧(MemAct.ofEvent e).low Low):
 (∀ op∈MemOp.ofEvents g' fn pos es,op.g=g'∧∀ x,op.act.touch? =some x→Q x.loc∧x.kind≠ .plain∧(x.kind= .said→g'=0))∧∀ op∈MemOp.ofEvents g' fn pos es,op.act.low Low:=by
 refine⟨fun op hop=>⟨ofEvents_g op hop,fun x hx=>?_⟩,fun op hop=>?_⟩
 ·obtain⟨e,he,rfl⟩:=Conc.mem_ofEvents hop
  obtain⟨a,ha,hb,h1,h2⟩:=(h e he).1 x hx
  exact⟨by rw[ha];exact hQ a hb,h1,fun hs=>hgg (h2 hs)⟩
 ·obtain⟨e,he,rfl⟩:=Conc.mem_ofEvents hop
  exact(h e he).2
def End2 (P:Program)(ty:TypeId)(Q Shun:Loc→Prop)(c ch:Nat){Wg:Nat}(Low:Nat)(ro X:Nat→Prop)(x y:Side Wg)(Fin:(Nat→Prop)→Goroutine→World→Prop)(w0:World)(m:Machine)(t:Trace):Prop:=
 ∃ gs w sl q ownM ownG a b s₁ s₂ μ ν,m=crowd gs w sl∧Crew P c t gs q∧gs[0]? =some a∧gs[c]? =some b∧Fin ownM a w∧St1 Q Shun c ch Low ro ownM ownG X true w0 w t∧x.half P ty Low μ b w s₁∧y.half P ty Low ν b w s₂∧GL c Wg s₁ t∧GL c Wg s₂ t
variable {z:Value} {Fin:(Nat→Prop)→Goroutine→World→Prop}
theorem lt2_wf:WellFounded Lt2:=(Prod.lex Nat.lt_wfRel Nat.lt_wfRel).wf
theorem norel_evG {ro own:Nat→Prop}{g:Nat}{fn:FuncId}{pos:String}{es:Array Event}{a:Addr}(h:∀ e∈es,EvG ro own e):∀ op∈MemOp.ofEvents g fn pos es,op.act≠ .mark (.release a):=by
 intro op hop e'
 obtain⟨e,he,rfl⟩:=Conc.mem_ofEvents hop
 have hl:=release_ofEvent a e'
 have:=h e he
 unfold EvG at this
 rw[hl] at this
 exact this.1
theorem two_move (hxo:SideOk P ty Wg Low x)(hyo:SideOk P ty Wg Low y)(hxy:x.C≠y.C){μ ν:Nat×Nat}{b:Goroutine}{s₁ s₂:Trace}(hx:x.half P ty Low μ b w s₁)(hy:y.half P ty Low ν b w s₂)(hb:b.status= .running):
 ∃ b' w' es μ' ν',stepG P false b w= .go b' w' es∧Aside Wg w w'∧Lt2 μ' μ∧x.half P ty Low μ' b' w' (s₁++MemOp.ofEvents 1 b.frame.fn b.frame.place es)∧y.half P ty Low ν' b' w' (s₂++MemOp.ofEvents 1 b.frame.fn b.frame.place es):=by
 obtain⟨b',w',es,μ',h1,h2,h3,h4⟩:=@Half.move x.pl P ty Wg x.C Low x.sh x.vals x.Mine hxo.hCW μ b w s₁ hx hb
 obtain⟨b'',w'',es',ν',k1,k2,k3,k4⟩:=@Half.move y.pl P ty Wg y.C Low y.sh y.vals y.Mine hyo.hCW ν b w s₂ hy hb
 rw[h1] at k1
 obtain⟨rfl,rfl,rfl⟩:b'=b''∧w'=w''∧es=es':=by simpa using k1
 exact⟨b',w',es,μ',ν',h1,aside_of_two hxy h2 k2,h3,h4,k4⟩
theorem stage2 (hY:LayW Q Shun c ch Wg Low ro X)(hxo:SideOk P ty Wg Low x)(hyo:SideOk P ty Wg Low y)(hxy:x.C≠y.C){a:Goroutine}{wM:World}
 (hM:Walks P true ro (AtRecvW P ch z (NextM P ro ch z Fin [])) ownM a wM):∀ (μ ν:Nat×Nat) (ownG:Nat→Prop) (b:Goroutine) (s₁ s₂:Trace) gs w sl t q,Crew P c t gs q→gs[0]? =some a→gs[c]? =some b→Rely ro ownM wM w→
   St1 Q Shun c ch Low ro ownM ownG X true w0 w t→x.half P ty Low μ b w s₁→y.half P ty Low ν b w s₂→GL c Wg s₁ t→GL c Wg s₂ t→
   Reach P (crowd gs w sl) t (End2 P ty Q Shun c ch Low ro X x y Fin w0):=by
 induction hM with
 | @stop ownM a wM hS=>
   intro μ
   induction μ using lt2_wf.induction with
   |_ μ ihμ=>
   intro ν ownG b s₁ s₂ gs w sl t q hC h0 hc hr hSt hx hy hg1 hg2
   have ha:a.status= .running:=(hS wM (Rely.refl _ _ _)).1
   have hbs:=@Half.status x.pl P ty Wg x.C Low x.sh x.vals x.Mine μ b w s₁ hx
   refine crew_turn (J:=fun w t=>Rely ro ownM wM w∧St1 Q Shun c ch Low ro ownM ownG X true w0 w t∧x.half P ty Low μ b w s₁∧y.half P ty Low ν b w s₂∧GL c Wg s₁ t∧GL c Wg s₂ t) (awake_run ha) (awake_of (hbs.elim .inl fun h=> .inr (.inr h))) (.inl ha)
    (fun w t d ops hj h1 h2 h3 h4=>⟨hj.1.trans (rely_at _ _ _ d),hj.2.1.still d (fun op hop=>(h1 op hop).1) (h2 _) h3 h4,Side.half_rely hY.wlt hxo.hC hj.2.2.1 (fun _ _=>rfl),Side.half_rely hY.wlt hyo.hC hj.2.2.2.1 (fun _ _=>rfl),hj.2.2.2.2.1.other (fun op hop=>⟨(h1 op hop).2 _,fun _=>(h1 op hop).1⟩) h3 h4,hj.2.2.2.2.2.other (fun op hop=>⟨(h1 op hop).2 _,fun _=>(h1 op hop).1⟩) h3 h4⟩)
    (fun w t hj=>⟨.run ha,fun u u' d=>Side.half_woken hj.2.2.1 u u'⟩)
    (fun _ gs w sl t q hC h0 hc hj=>?_) (fun hb gs w sl t q hC h0 hc hj=>?_) gs w sl t q hC h0 hc ⟨hr,hSt,hx,hy,hg1,hg2⟩
   ·obtain⟨hr,hSt,hx,hy,hg1,hg2⟩:=hj
    obtain⟨s,r,tm,hch⟩:=hSt.chan
    obtain⟨_,hst,hnext⟩:=hS w hr
    obtain⟨gs',fn,pos,e1,e2,e3,e4⟩:=crew_recv_closed (sl:=sl) hC h0 hc (by rcases hbs with h|h<;>simp[h]) hst hch
    have hm:∀ op∈(#[{ g:=0,fn:=fn,pos:=pos,act:= .recvClosed ch }]:Trace),∀ m,op.act≠ .mark m:=by intro op hop m;simp at hop;subst hop;simp
    have ht:∀ op∈(#[{ g:=0,fn:=fn,pos:=pos,act:= .recvClosed ch }]:Trace),op.act.touch? =none:=by intro op hop;simp at hop;subst hop;rfl
    have hlow:∀ op∈(#[{ g:=0,fn:=fn,pos:=pos,act:= .recvClosed ch }]:Trace),op.act.low w.heap.size:=by
     intro op hop
     simp at hop
     subst hop
     have:ch<w.heap.size:=by have:=hY.chlt;have:=hSt.big;omega
     exact this
    have hst':=hSt.still w.drawn ht hlow (Deaf_comm t 0 _ hm) (Deaf_comm t c _ hm)
    exact⟨_,_,e1,.here ⟨gs',w,sl,q,ownM,ownG,_,b,s₁,s₂,μ,ν,rfl,e2,e3,e4,hnext,hst',hx,hy,hg1.other (fun op hop=>⟨hm op hop _,fun _=>ht op hop⟩) (Deaf_comm t 0 _ hm) (Deaf_comm t c _ hm),hg2.other (fun op hop=>⟨hm op hop _,fun _=>ht op hop⟩) (Deaf_comm t 0 _ hm) (Deaf_comm t c _ hm)⟩⟩
   ·obtain⟨hr,hSt,hx,hy,hg1,hg2⟩:=hj
    obtain⟨b',w',es,μ',ν',hst,hA,hlt,hx',hy'⟩:=two_move hxo hyo hxy hx hy hb
    obtain⟨gs',e1,e2,e3,e4⟩:=crew_goC (sl:=sl) hC h0 hc hst
    rw[woken_run ha] at e3
    obtain⟨p1,j1⟩:=@Half.jt x.pl P ty Wg x.C Low x.sh x.vals x.Mine _ _ _ _ hx'
    obtain⟨p2,j2⟩:=@Half.jt y.pl P ty Wg y.C Low y.sh y.vals y.Mine _ _ _ _ hy'
    have hq2:∀ e∈es,∀ x,(MemAct.ofEvent e).touch? =some x→∃ ad,x.loc= .cell ad∧ad.block=Wg:=fun e he x hx=>let⟨ad,h1,h2,_⟩:=(two_ev hxo hyo hxy j1 j2 e he).1 x hx;⟨ad,h1,h2⟩
    obtain⟨o1,o2⟩:=ops_two (Q:=Q) (g':=c) (fn:=b.frame.fn) (pos:=b.frame.place) hY.wQ (by simp) (two_ev hxo hyo hxy j1 j2)
    obtain⟨k1,k2⟩:=hSt.stepW hY hA (.inr rfl) o1 (fun op hop=>MemAct.low_mono hSt.big (o2 op hop)) (by rw[Deaf_other t hY.c0 _ ofEvents_g];exact hSt.d0)
    exact⟨_,_,e1,ihμ μ' hlt ν' ownG b' _ _ gs' w' sl _ q e2 e3 e4 (hr.trans k2) k1 hx' hy' (hg1.step hY.c0 (.inr rfl) (by simp) _ _ es (Side.norel j1) hq2) (hg2.step hY.c0 (.inr rfl) (by simp) _ _ es (Side.norel j2) hq2)⟩
 | @step ownM a wM nx nw ne ha h1 h2 _ ih=>
   intro μ
   induction μ using lt2_wf.induction with
   |_ μ ihμ=>
   intro ν ownG b s₁ s₂ gs w sl t q hC h0 hc hr hSt hx hy hg1 hg2
   have hbs:=@Half.status x.pl P ty Wg x.C Low x.sh x.vals x.Mine μ b w s₁ hx
   refine crew_turn (J:=fun w t=>Rely ro ownM wM w∧St1 Q Shun c ch Low ro ownM ownG X true w0 w t∧x.half P ty Low μ b w s₁∧y.half P ty Low ν b w s₂∧GL c Wg s₁ t∧GL c Wg s₂ t) (awake_run ha) (awake_of (hbs.elim .inl fun h=> .inr (.inr h))) (.inl ha)
    (fun w t d ops hj h1 h2 h3 h4=>⟨hj.1.trans (rely_at _ _ _ d),hj.2.1.still d (fun op hop=>(h1 op hop).1) (h2 _) h3 h4,Side.half_rely hY.wlt hxo.hC hj.2.2.1 (fun _ _=>rfl),Side.half_rely hY.wlt hyo.hC hj.2.2.2.1 (fun _ _=>rfl),hj.2.2.2.2.1.other (fun op hop=>⟨(h1 op hop).2 _,fun _=>(h1 op hop).1⟩) h3 h4,hj.2.2.2.2.2.other (fun op hop=>⟨(h1 op hop).2 _,fun _=>(h1 op hop).1⟩) h3 h4⟩)
    (fun w t hj=>⟨.run ha,fun u u' d=>Side.half_woken hj.2.2.1 u u'⟩)
    (fun _ gs w sl t q hC h0 hc hj=>?_) (fun hb gs w sl t q hC h0 hc hj=>?_) gs w sl t q hC h0 hc ⟨hr,hSt,hx,hy,hg1,hg2⟩
   ·obtain⟨hr,hSt,hx,hy,hg1,hg2⟩:=hj
    have hgu:=h2 w hr
    obtain⟨gs',e1,e2,e3,e4⟩:=crew_go0 (sl:=sl) hC h0 hc (h1 w hr)
    rw[Side.half_woken hx] at e4
    obtain⟨k1,k2⟩:=hSt.stepM (fn:=a.frame.fn) (pos:=a.frame.place) hY.toLay hgu
    have hlow:∀ b,b<Low→(nw w).heap[b]? =w.heap[b]?:=fun b hlt=>hgu.block b (by have:=hSt.big;omega) fun hm=>by have:=hSt.mlt b hm;omega
    have hd0:Deaf (t++MemOp.ofEvents 0 a.frame.fn a.frame.place (ne w)) 0=Deaf t 0:=Deaf_evG hgu.evs
    have hdc:Deaf (t++MemOp.ofEvents 0 a.frame.fn a.frame.place (ne w)) c=Deaf t c:=Deaf_other t (Ne.symm hY.c0) _ ofEvents_g
    have hoth:∀ op∈MemOp.ofEvents 0 a.frame.fn a.frame.place (ne w),op.act≠ .mark (.release (stA Wg))∧(op.g=c→op.act.touch? =none):=fun op hop=>⟨norel_evG hgu.evs op hop,fun e=>absurd ((ofEvents_g op hop).symm.trans e) (Ne.symm hY.c0)⟩
    exact⟨_,_,e1,ih w hr μ ν ownG b s₁ s₂ gs' _ sl _ q e2 e3 e4 (Rely.refl _ _ _) k1 (Side.half_rely hY.wlt hxo.hC hx hlow) (Side.half_rely hY.wlt hyo.hC hy hlow) (hg1.other hoth hd0 hdc) (hg2.other hoth hd0 hdc)⟩
   ·obtain⟨hr,hSt,hx,hy,hg1,hg2⟩:=hj
    obtain⟨b',w',es,μ',ν',hst,hA,hlt,hx',hy'⟩:=two_move hxo hyo hxy hx hy hb
    obtain⟨gs',e1,e2,e3,e4⟩:=crew_goC (sl:=sl) hC h0 hc hst
    rw[woken_run ha] at e3
    obtain⟨p1,j1⟩:=@Half.jt x.pl P ty Wg x.C Low x.sh x.vals x.Mine _ _ _ _ hx'
    obtain⟨p2,j2⟩:=@Half.jt y.pl P ty Wg y.C Low y.sh y.vals y.Mine _ _ _ _ hy'
    have hq2:∀ e∈es,∀ x,(MemAct.ofEvent e).touch? =some x→∃ ad,x.loc= .cell ad∧ad.block=Wg:=fun e he x hx=>let⟨ad,h1,h2,_⟩:=(two_ev hxo hyo hxy j1 j2 e he).1 x hx;⟨ad,h1,h2⟩
    obtain⟨o1,o2⟩:=ops_two (Q:=Q) (g':=c) (fn:=b.frame.fn) (pos:=b.frame.place) hY.wQ (by simp) (two_ev hxo hyo hxy j1 j2)
    obtain⟨k1,k2⟩:=hSt.stepW hY hA (.inr rfl) o1 (fun op hop=>MemAct.low_mono hSt.big (o2 op hop)) (by rw[Deaf_other t hY.c0 _ ofEvents_g];exact hSt.d0)
    exact⟨_,_,e1,ihμ μ' hlt ν' ownG b' _ _ gs' w' sl _ q e2 e3 e4 (hr.trans k2) k1 hx' hy' (hg1.step hY.c0 (.inr rfl) (by simp) _ _ es (Side.norel j1) hq2) (hg2.step hY.c0 (.inr rfl) (by simp) _ _ es (Side.norel j2) hq2)⟩
end
end Go.Ren
