import Derived.Conc.TokenWalk
import Derived.Deep.MidRow
import Derived.Deep.WholeRow
import Derived.Test.YtlhimdjkkiflhaaGreatDoorDeep07
namespace Go.Ren
open Go Go.Conc
section
variable {P:Program} {F:FuncId→Bool} {S:Sd} {main:Bool} {ro:Nat→Prop}
class Shut (P:Program) (S:Sd):Prop where
 d:S.d=P.globals.size
 g:S.g≤P.globals.size
def pw0 (P:Program)(W:World):World:={ W with heap:=Array.replicate P.globals.size deadObj }
theorem pw0_size (W:World):(pw0 P W).heap.size=P.globals.size:=by simp[pw0]
theorem pw0_wr [Z:Shut P S] (W:World){W':World}{ρ:Rn}(hd:ρ.d≤P.globals.size)(hi:∀ r,r<P.globals.size→ρ r=r)(hn:∀ r:Nat,P.globals.size≤r→ρ r=W'.heap.size+(r-P.globals.size)):WR P S ρ (pw0 P W) W':=by
 have hs:=pw0_size (P:=P) W
 have hZ:=Z.d
 have hG:=Z.g
 refine⟨fun r o hge ho=>?_,fun r o ho=>?_,fun r hr=>?_,fun r o hge ho=>?_,fun r hr=>by rw[hs] at hr ⊢;exact hn r hr,fun r h1 h2=>by omega,⟨by omega,by omega,by omega,by omega,by omega,fun g h1 h2=>hi g (by omega),fun g h1=> .inr (hi g (by omega))⟩⟩
 ·have:=lt_of_some ho;omega
 ·have hlt:=lt_of_some ho
  simp only[pw0,Array.getElem?_replicate] at ho
  split at ho
  ·cases ho;trivial
  ·cases ho
 ·simp only[pw0,Array.getElem?_replicate,if_pos (show r<P.globals.size by omega)]
 ·have:=lt_of_some ho;omega
theorem pw0_sim [Shut P S] {W:World}(hb:P.globals.size≤W.heap.size):Sim P S (extR idR P.globals.size W.heap.size) (pw0 P W) W:=by
 refine⟨pw0_wr W (Nat.zero_le _) (fun r hr=>extR_lt hr) fun r hr=>extR_ge hr,fun a b e=>?_,fun r=>?_,fun _=>rfl,hb⟩
 ·rcases Nat.lt_or_ge a P.globals.size with ha|ha<;>rcases Nat.lt_or_ge b P.globals.size with hb'|hb'
  ·rw[extR_lt ha,extR_lt hb'] at e;exact e
  ·rw[extR_lt ha,extR_ge hb'] at e
   have:idR.b a=a:=rfl
   omega
  ·rw[extR_ge ha,extR_lt hb'] at e
   have:idR.b b=b:=rfl
   omega
  ·rw[extR_ge ha,extR_ge hb'] at e;omega
 ·rcases Nat.lt_or_ge r P.globals.size with ha|ha
  ·rw[extR_lt ha];exact Iff.rfl
  ·rw[extR_ge ha]
   constructor<;>intro<;>omega
theorem leave_sim (hC:Clo P F S){fr:Frame}{w W:World}{ρ:Rn}(hI:PI P F S fr [] w)(hS:Sim P S ρ w W){v:Value}(hl:fr.leaving P w (.returned v))(hv:Bare v)(c:Frame)(cs:List Frame):
 ∃ es,stepG P main (G (rfr ρ fr) (c::cs)) W= .go (G (c.finish v) cs) W es∧∀ e∈es,EvOk S.d ρ w e:=by
 have hl':fr.mode= .returning∧fr.defers=[]∧fr.kind= .normal∧∃ fn,P.funcs[fr.fn]? =some fn∧(results fn fr.tmps).run P w= .ok v w:=hl
 obtain⟨h1,h2,h3,fn,h4,h5⟩:=hl'
 have hp:Plain P ρ:=⟨fun t i v a b=>hC.zero t i v a b _,hS.inj⟩
 cases hrun:(results fn fr.tmps).runT P w #[] with
 |mk r es=>
  have q1:=congrArg Prod.fst hrun
  simp at q1
  rw[h5] at q1
  subst q1
  have hself:∀ n,w.heap.size≤n→Eqv P (sg S S.d n) (VV (sg S S.d n)) (results fn fr.tmps) (results fn fr.tmps):=fun n hn=>by
   have:=e_results (plain_sg hC n) fn fr.tmps rv_undef
   have e:fr.tmps.map (rv (sg S S.d n))=fr.tmps:=map_fix.2 (cl_mono hn hI.cl)
   rwa[e] at this
  obtain⟨b,W1,es',r1,r2,_,r4,r5,r6⟩:=run_ren hp (fun o=> .inl hS.glob) _ _ _ _ w W #[] #[] _ _ _ (e_results hp fn fr.tmps rv_undef) hself hS.wr (fun j hj=>by omega) hrun
  have hb:b=v:=by have:=r2;unfold VV at this;rw[hv ρ] at this;exact this
  have hs:=r5.size
  have hW1:W1=W:=by
   refine world_ext (Array.ext_getElem? fun i=>?_) r5.tape (by have:=r5.drawn;omega) r5.os r5.output
   rcases Nat.lt_or_ge i W.heap.size with hlt|hge
   ·by_cases ht:Touch S.d ρ w i
    ·obtain⟨k,hr1,hr2,rfl⟩:=ht
     have hlive:=r4.live _ _ hr1 (Array.getElem?_eq_getElem hr2)
     have hlive2:=hS.wr.live _ _ hr1 (Array.getElem?_eq_getElem hr2)
     exact hlive.trans hlive2.symm
    ·exact r5.frame i hlt ht
   ·rw[Array.getElem?_eq_none (by omega),Array.getElem?_eq_none hge]
  subst hb hW1
  have hok:OkFr P F S (rfr ρ fr):=⟨hI.ok.defers,hI.ok.mode,hI.ok.kind,hI.ok.round,hI.ok.todo,hI.ok.fn⟩
  have hps:(psem P (rfr ρ fr) [c]).runT P W1 #[]=(.ok (c.finish b,[]) W1,es'):=by
   have hm:(rfr ρ fr).mode= .returning:=h1
   have hf:P.funcs[(rfr ρ fr).fn]? =some fn:=h4
   unfold psem
   rw[hm]
   simp only[hf]
   rw[runT_bind]
   have:(results fn (rfr ρ fr).tmps).runT P W1 #[]=(.ok b W1,es'):=r1
   rw[this]
   rfl
  have hst:=stepG_psem (main:=main) (cs:=cs) hok hps
  refine⟨_,hst,fun e he=>?_⟩
  rcases r6 e (mem_seen he) with h|h
  ·simp at h
  ·exact h
theorem touch_evG {ρ:Rn}{w:World}{e:Event}(h:EvOk S.d ρ w e):EvG ro (Touch S.d ρ w) e:=by
 unfold EvOk at h
 unfold EvG
 cases hl:e.loc<;>simp only[hl] at h ⊢<;>first|exact .inl h|exact h
theorem walks_of_calls [Z:Shut P S] (hC:Clo P F S){f:FuncId}{args:Array Value}(hF:F f=true)(ha:∀ v∈args,Bare v){Qv:Value→Prop}(hv:∀ v,Qv v→Bare v){W:World}(hb:P.globals.size≤W.heap.size)
 (hc:∀ w:World,w.heap=Array.replicate P.globals.size deadObj→w.os=W.os→w.output=W.output→Calls P f args w fun e _=>∃ v,e= .returned v∧Qv v)(c:Frame)(cs:List Frame):
 Walks P main ro (fun _ g _=>∃ v,Qv v∧g=G (c.finish v) cs) (fun _=>False) (G (Frame.enter P f args .normal) (c::cs)) W:=by
 have hw:WR P S idR (pw0 P W) (pw0 P W):=pw0_wr W (Nat.zero_le _) (fun _ _=>rfl) fun r hr=>by rw[pw0_size];show r=_;omega
 have hbar:=bar_of_calls (Q:=fun v _=>Qv v) hC hF (w:=pw0 P W) (args:=args) (fun v hv'=>ha v hv' _) hw (fun _ _ _ _ h=>h) fun τ=>hc _ rfl rfl rfl
 have hI:PI P F S (Frame.enter P f args .normal) [] (pw0 P W):=by
  refine⟨enter_ok hC hF args,by simp,fun v hv'=>?_,by simp,hw⟩
  have e:rfr (sg S S.d (pw0 P W).heap.size) (Frame.enter P f args .normal)=Frame.enter P f args .normal:=by
   rw[←enter_rfr,map_fix.2 fun v hv'=>ha v hv' _]
  have:=congrArg Frame.tmps e
  simp only[rfr] at this
  exact map_fix.1 this v hv'
 have hS:=pw0_sim (S:=S) hb
 have key:=walks_of_bar (main:=main) (ro:=ro) (cs:=c::cs) hC hbar hI (extR idR P.globals.size W.heap.size) 0 _ W hS (by omega) (fun r hr=>by omega)
 have e1:rfr (extR idR P.globals.size W.heap.size) (Frame.enter P f args .normal)=Frame.enter P f args .normal:=by
  rw[←enter_rfr,map_fix.2 fun v hv'=>ha v hv' _]
 have e2:Touch S.d (extR idR P.globals.size W.heap.size) (pw0 P W)=fun _=>False:=by
  funext b
  refine propext ⟨?_,False.elim⟩
  rintro ⟨r,h1,h2,_⟩
  rw[pw0_size] at h2
  rw[Z.d] at h1
  omega
 rw[e1,e2] at key
 refine Walks.bind key fun own g W' hst=>?_
 obtain⟨fr,above,w,ρ,⟨rfl,_,v,hq,hl⟩,hI',hS',rfl,rfl,_,_⟩:=hst
 refine Walks.step' rfl fun W₁ hr=>?_
 have hS1:=hS'.rely hr
 obtain⟨es,hstep,hev⟩:=leave_sim (main:=main) hC hI' hS1 hl (hv v hq) c cs
 have hfr:rfr ρ fr=rfr (extR ρ w.heap.size W₁.heap.size) fr:=rfr_agree hI'.cl (fun r hlt=>(extR_lt hlt).symm) (fun _=>rfl)
 refine⟨_,W₁,es,by rw[hfr];exact hstep,⟨rfl,rfl,rfl,Nat.le_refl _,fun _ _ _=>rfl,fun e he=>?_⟩,.stop fun _ _=>⟨v,hq,rfl⟩⟩
 have:=touch_evG (ro:=ro) (hev e he)
 rw[touch_ext] at this
 exact this.mono fun b hb=> .inl hb
end
section
variable {P:Program} {main:Bool} {ro own:Nat→Prop} {Stop:(Nat→Prop)→Goroutine→World→Prop} {g:Goroutine} {w:World}
theorem grow_same (own:Nat→Prop){w w':World}(h:w'.heap.size=w.heap.size):Grow own w w'=own:=by
 funext b
 unfold Grow
 refine propext ⟨fun x=>x.elim id fun y=>by omega,.inl⟩
theorem Walks.silent {g':Goroutine}(hs:g.status= .running)(h:∀ w₁,stepG P main g w₁= .go g' w₁ #[])(k:Walks P main ro Stop own g' w):Walks P main ro Stop own g w:=
 Walks.step' hs fun w₁ hr=>⟨g',w₁,#[],h w₁,⟨rfl,rfl,rfl,Nat.le_refl _,fun _ _ _=>rfl,by simp⟩,by rw[grow_same own rfl];exact k.rely hr⟩
end
section
variable {P:Program} {F:FuncId→Bool} {S:Sd} {main:Bool} {ro own:Nat→Prop} {Stop:(Nat→Prop)→Goroutine→World→Prop} {w W:World} {ρ:Rn} {b:Frame} {a:Act} {ops:Array Oper} {i:Nat} {rest:List Nat} {o:Oper} {kk:List Item} {cs:List Frame}
structure Hold (ro own:Nat→Prop) (W:World):Prop where
 lt:∀ b,own b∨ro b→b<W.heap.size
 ap:∀ b,ro b→¬ own b
theorem Hold.grow {W₁ W':World}(h:Hold ro own W)(h1:W.heap.size≤W₁.heap.size)(h2:W₁.heap.size≤W'.heap.size):Hold ro (Grow own W₁ W') W':=
 ⟨fun b hb=>by
   rcases hb with(hb|hb)|hb
   ·have:=h.lt b (.inl hb);omega
   ·exact hb.2
   ·have:=h.lt b (.inr hb);omega,fun b hb hg=>by
   rcases hg with hg|hg
   ·exact h.ap b hb hg
   ·have:=h.lt b (.inr hb);omega⟩
theorem Walks.bounded {g:Goroutine}(h:Walks P main ro Stop own g w):(∀ b,own b→b<w.heap.size)→Walks P main ro (fun own g w=>Stop own g w∧∀ b,own b→b<w.heap.size) own g w:=by
 induction h with
 | @stop own g w h=>intro hb;exact .stop fun w₁ hr=>⟨h w₁ hr,fun b hx=>by have:=hb b hx;have:=hr.size;omega⟩
 | @step own g w nx nw ne hs h1 h2 _ ih=>
   intro hb
   refine .step nx nw ne hs h1 h2 fun w₁ hr=>ih w₁ hr fun b hx=>?_
   have h3:=(h2 w₁ hr).size
   have h4:=hr.size
   rcases hx with hx|hx
   ·have:=hb b hx;omega
   ·exact hx.2
theorem Walks.call' [Shut P S] (hC:Clo P F S){f:FuncId}{args:Array Value}(hF:F f=true)(ha:∀ v∈args,Bare v){Qv:Value→Prop}(hv:∀ v,Qv v→Bare v){c:Frame}{g:Goroutine}
 (hs:g.status= .running)(hst:∀ w₁,stepG P main g w₁= .go (G (Frame.enter P f args .normal) (c::cs)) w₁ #[])(hb:P.globals.size≤w.heap.size)(hH:Hold ro own w)
 (hc:∀ w':World,w'.heap=Array.replicate P.globals.size deadObj→Calls P f args w' fun e _=>∃ v,e= .returned v∧Qv v)
 (k:∀ v w' own',Qv v→(∀ b,own b→own' b)→Hold ro own' w'→(∀ b,own b∨ro b→w'.heap[b]? =w.heap[b]?)→w.heap.size≤w'.heap.size→Walks P main ro Stop own' (G (c.finish v) cs) w'):Walks P main ro Stop own g w:=by
 refine Walks.silent hs hst ?_
 have h1:=((walks_of_calls (main:=main) (ro:=ro) hC hF ha hv hb (fun w' e _ _=>hc w' e) c cs).bounded (fun _ h=>h.elim)).frame (extra:=own) (fun b hb=>⟨fun h=>h,hH.lt b hb⟩)
 have e:(fun b=>False∨own b)=own:=by funext b;exact propext ⟨fun h=>h.elim False.elim id,.inr⟩
 rw[e] at h1
 refine Walks.bind h1 fun own'' g' w' ⟨own',k1,⟨⟨v,hq,hg⟩,k4⟩,k2,k3⟩=>?_
 subst hg
 refine k v w' own'' hq (fun b hb=>(k1 b).2 (.inr hb)) ⟨fun b hb=>?_,fun b hr hb=>?_⟩ (fun b hb=>(k3 b hb).2) k2
 ·rcases hb with hb|hb
  ·rcases(k1 b).1 hb with h|h
   ·exact k4 b h
   ·have:=hH.lt b (.inl h);omega
  ·have:=hH.lt b (.inr hb);omega
 ·rcases(k1 b).1 hb with h|h
  ·exact(k3 b (.inr hr)).1 h
  ·exact hH.ap b hr h
theorem Sim.grow {W₁:World}(h:Sim P S ρ w W)(hs:W.heap.size≤W₁.heap.size)(hb:∀ b,Touch S.d ρ w b→W₁.heap[b]? =W.heap[b]?):Sim P S (extR ρ w.heap.size W₁.heap.size) w W₁:=by
 have h':Sim P S ρ w { W with tape:=W₁.tape,os:=W₁.os,output:=W₁.output }:=⟨⟨h.wr.live,h.wr.ok,h.wr.dead,h.wr.closed,h.wr.next,h.wr.low,h.wr.big⟩,h.inj,h.glob,h.f,h.bigW⟩
 exact h'.rely (ro:=fun _=>False) ⟨rfl,rfl,rfl,hs,fun b hx=>hx.elim (hb b) False.elim⟩
def Cl (_P:Program)(S:Sd)(w:World)(v:Value):Prop:=rv (sg S S.d w.heap.size) v=v
theorem Cl.agree {ρ':Rn}{v:Value}(h:Cl P S w v)(hb:∀ r,r<w.heap.size→ρ' r=ρ r)(hf:∀ x,ρ'.f x=ρ.f x):rv ρ' v=rv ρ v:=
 Go.Ren.agree (σ:=sg S S.d w.heap.size) (fun r hr=>hb r (sg_fix.1 hr).2) (fun x _=>hf x) v h
theorem Cl.mono {w':World}{v:Value}(h:Cl P S w v)(hs:w.heap.size≤w'.heap.size):Cl P S w' v:=fix_mono (sg_mono hs).1 (sg_mono hs).2 v h
def evOf (f:Nat→Value):Operand→Value
 | .tmp t=>f t
 | .const v=>v
 | .global g=> .pointer (some ⟨g,0,none⟩)
 | .func f=> .func (.func f) #[] #[]
theorem ev_map {T:Nat→Value}{x:Operand}(hx:okX S x=true)(hf:FixS S ρ):evOf (fun t=>rv ρ (T t)) x=rv ρ (evOf T x):=by
 cases x with
 |tmp t=>rfl
 |const v=>simp only[okX] at hx;exact(plainV_bare hx ρ).symm
 |global g=>
  simp only[okX,Bool.and_eq_true,decide_eq_true_eq] at hx
  simp[evOf,rv,ra,hf.g g hx.1 hx.2]
 |func f=>simp[evOf,rv,hf.f f hx]
theorem ev_cl {T:Nat→Value}{n:Nat}(hn:S.g≤n)(hT:∀ t,rv (sg S S.d n) (T t)=T t){x:Operand}(hx:okX S x=true):rv (sg S S.d n) (evOf T x)=evOf T x:=by
 cases x with
 |tmp t=>exact hT t
 |const v=>simp only[okX] at hx;exact plainV_bare hx _
 |global g=>
  simp only[okX,Bool.and_eq_true,decide_eq_true_eq] at hx
  have:(sg S S.d n) g=g:=sg_fix.2 ⟨hx.1,by omega⟩
  simp[evOf,rv,ra,this]
 |func f=>
  simp only[evOf,rv]
  have:(sg S S.d n).f (.func f)= .func f:=sg_fixF.2 ⟨f,rfl,hx⟩
  simp[this]
theorem opr_run (hC:Clo P F S)(hok:okOp P F S o.op=true){T:Nat→Value}(hT:∀ t,Cl P S w (T t))(hS:Sim P S ρ w W){nx:Next}{w':World}
 (hrun:(execOp (evOf T) o).run P (w.re W.tape W.drawn)= .ok nx w'):
 ∃ nx' W' es,(execOp (evOf fun t=>rv ρ (T t)) o).runT P W #[]=(.ok nx' W',es)∧NN F ρ nx nx'∧NN F (sg S S.d w'.heap.size) nx nx∧Sim P S ρ w' W'∧Did S.d ρ (w.re W.tape W.drawn) w' W W'∧∀ e∈es,EvOk S.d ρ w' e:=by
 have hp:Plain P ρ:=⟨fun t i v a b=>hC.zero t i v a b _,hS.inj⟩
 have hfv:∀ x,okX S x=true→FV S ((evOf T) x):=fun x hx=>fv_closed (ev_cl (n:=w.heap.size) hS.wr.big.g hT hx)
 have e1:=e_execOp (P:=P) (F:=F) (S:=S) (ρ:=ρ) (ev:=(evOf T)) (ev':=(evOf fun t=>rv ρ (T t))) hp hS.fix hC.SF hC.fn o hok (fun x hx=>ev_map hx hS.fix) (fun x _=> .inl hS.glob) hfv (fun _=>rfl) (fun _=>rfl) (fun _=>rfl) (fun _=>rfl)
 have e2:∀ n,(w.re W.tape W.drawn).heap.size≤n→Eqv P (sg S S.d n) (NN F (sg S S.d n)) (execOp (evOf T) o) (execOp (evOf T) o):=fun n hn=>by
  have hT':∀ t,rv (sg S S.d n) (T t)=T t:=fun t=>fix_mono (sg_mono hn).1 (sg_mono hn).2 _ (hT t)
  exact e_execOp (plain_sg hC n) (fixS_sg (Nat.le_trans hS.wr.big.g hn)) hC.SF hC.fn o hok (fun x hx=>(ev_cl (Nat.le_trans hS.wr.big.g hn) hT' hx).symm) (fun x hx=> .inr (ev_cl (Nat.le_trans hS.wr.big.g hn) hT' hx)) hfv (fun _=>rfl) (fun _=>rfl) (fun _=>rfl) (fun _=>rfl)
 cases hrt:(execOp (evOf T) o).runT P (w.re W.tape W.drawn) #[] with
 |mk r es=>
  have q1:=congrArg Prod.fst hrt
  simp at q1
  rw[hrun] at q1
  subst q1
  have hW:WR P S ρ (w.re W.tape W.drawn) W:=⟨hS.wr.live,hS.wr.ok,hS.wr.dead,hS.wr.closed,hS.wr.next,hS.wr.low,hS.wr.big⟩
  obtain⟨nx',W',es',r1,r2,r3,r4,r5,r6⟩:=run_ren hp (fun o=> .inl hS.glob) _ _ _ (fun n=>NN F (sg S S.d n)) (w.re W.tape W.drawn) W #[] #[] _ _ _ e1 e2 hW (fun j _ q=>rfl) hrt
  exact⟨nx',W',es',r1,r2,r3 _ (Nat.le_refl _),⟨r4,hS.inj,hS.glob,hS.f,by have h1:=r5.size;have h2:=r5.wgrow;have:=hS.bigW;omega⟩,r5,fun e he=>(r6 e he).resolve_left (by simp)⟩
theorem Walks.opv (hC:Clo P F S)(hok:okOp P F S o.op=true)(ho:ops[i]? =some o)(hw:Region.wanted o (yielded ops a.tmps)=true)(hk:b.kind≠ .early){T:Nat→Value}(hT:∀ t,Cl P S w (T t))(hS:Sim P S ρ w W)(hown:∀ x,Touch S.d ρ w x→own x)
 (hx:execOp a.eval o=execOp (evOf fun t=>rv ρ (T t)) o){Q:Value→World→Prop}(hrun:∀ τ d,∃ v w',(execOp (evOf T) o).run P (w.re τ d)= .ok (.value v) w'∧Q v w')
 (k:∀ v w' ρ' W' own',Q v w'→Sim P S ρ' w' W'→(∀ r,r<w.heap.size→ρ' r=ρ r)→w.heap.size≤w'.heap.size→Cl P S w' v→(∀ x,Touch S.d ρ' w' x→own' x)→(∀ x,own x→own' x)→
   (∀ x,ro x→W'.heap[x]? =W.heap[x]?)→Hold ro own' W'→Walks P main ro Stop own' (G (b.at (a.put o.dst (rv ρ' v)) (.inRegion ops rest::kk)) cs) W')(hro:Hold ro own W):
 Walks P main ro Stop own (G (b.at a (.inRegion ops (i::rest)::kk)) cs) W:=by
 refine Walks.step' rfl fun W₁ hr=>?_
 have hS1:=hS.grow hr.size fun x hx=>hr.block x (.inl (hown x hx))
 generalize hext:extR ρ w.heap.size W₁.heap.size=ρ₁ at hS1
 have hlt:∀ r,r<w.heap.size→ρ₁ r=ρ r:=fun r h=>by rw[←hext];exact extR_lt h
 have hf:∀ x,ρ₁.f x=ρ.f x:=fun x=>by rw[←hext];rfl
 obtain⟨v,w',hv,hq⟩:=hrun W₁.tape W₁.drawn
 obtain⟨nx',W',es,r1,r2,r3,r4,r5,r6⟩:=opr_run hC hok hT hS1 hv
 have hnx:nx'= .value (rv ρ₁ v):=r2
 subst hnx
 have hcl:Cl P S w' v:=by
  have:Next.value v= .value (rv (sg S S.d w'.heap.size) v):=r3
  exact(Next.value.inj this).symm
 have hTe:(fun t=>rv ρ (T t))=fun t=>rv ρ₁ (T t):=funext fun t=>((hT t).agree hlt hf).symm
 have hrun2:(execOp a.eval o).run P W₁= .ok (.value (rv ρ₁ v)) W':=by
  rw[hx,hTe]
  have:=congrArg Prod.fst r1
  simpa using this
 have hev:(execOp a.eval o).events P W₁ #[]=es:=by
  rw[hx,hTe]
  have:=congrArg Prod.snd r1
  simpa using this
 have hsz:=r5.size
 have hwg:=r5.wgrow
 simp only[World.re] at hsz hwg
 have hsub:∀ x,Touch S.d ρ₁ w' x→Grow own W₁ W' x:=by
  rintro x ⟨r,h1,h2,rfl⟩
  rcases Nat.lt_or_ge r w.heap.size with h3|h3
  ·exact .inl (hown _ ⟨r,h1,h3,by rw[hlt r h3]⟩)
  ·right;rw[hS1.wr.next r h3];omega
 have hnt:∀ x,x<W₁.heap.size→¬ own x→W'.heap[x]? =W₁.heap[x]?:=fun x h1 h2=>r5.frame x h1 fun ht=>by
  rcases hsub x ht with h|⟨h,_⟩
  ·exact h2 h
  ·omega
 refine⟨_,W',_,stepG_value ho hw hk hrun2,⟨r5.tape,r5.os,r5.output,by omega,hnt,fun e he=>?_⟩,k v w' ρ₁ W' _ hq r4 hlt hwg hcl hsub (fun x hx=> .inl hx) (fun x hx=>?_) (hro.grow hr.size (by omega))⟩
 ·unfold listed at he
  rw[hev] at he
  have:=touch_evG (ro:=ro) (r6 e (mem_seen he))
  exact this.mono hsub
 ·have h1:=hro.lt x (.inr hx)
  have h2:=hr.size
  rw[hnt x (by omega) (hro.ap x hx),hr.block x (.inr hx)]
theorem Walks.opn (hC:Clo P F S)(hok:okOp P F S o.op=true)(ho:ops[i]? =some o)(hw:Region.wanted o (yielded ops a.tmps)=true)(hk:b.kind≠ .early){T:Nat→Value}(hT:∀ t,Cl P S w (T t))(hS:Sim P S ρ w W)(hown:∀ x,Touch S.d ρ w x→own x)
 (hx:execOp a.eval o=execOp (evOf fun t=>rv ρ (T t)) o){Q:World→Prop}(hrun:∀ τ d,∃ w',(execOp (evOf T) o).run P (w.re τ d)= .ok .skip w'∧Q w')
 (k:∀ w' ρ' W' own',Q w'→Sim P S ρ' w' W'→(∀ r,r<w.heap.size→ρ' r=ρ r)→w.heap.size≤w'.heap.size→(∀ x,Touch S.d ρ' w' x→own' x)→(∀ x,own x→own' x)→
   (∀ x,ro x→W'.heap[x]? =W.heap[x]?)→Hold ro own' W'→Walks P main ro Stop own' (G (b.at (a.put o.dst undef) (.inRegion ops rest::kk)) cs) W')(hro:Hold ro own W):
 Walks P main ro Stop own (G (b.at a (.inRegion ops (i::rest)::kk)) cs) W:=by
 refine Walks.step' rfl fun W₁ hr=>?_
 have hS1:=hS.grow hr.size fun x hx=>hr.block x (.inl (hown x hx))
 generalize hext:extR ρ w.heap.size W₁.heap.size=ρ₁ at hS1
 have hlt:∀ r,r<w.heap.size→ρ₁ r=ρ r:=fun r h=>by rw[←hext];exact extR_lt h
 have hf:∀ x,ρ₁.f x=ρ.f x:=fun x=>by rw[←hext];rfl
 obtain⟨w',hv,hq⟩:=hrun W₁.tape W₁.drawn
 obtain⟨nx',W',es,r1,r2,r3,r4,r5,r6⟩:=opr_run hC hok hT hS1 hv
 have hnx:nx'= .skip:=r2
 subst hnx
 have hTe:(fun t=>rv ρ (T t))=fun t=>rv ρ₁ (T t):=funext fun t=>((hT t).agree hlt hf).symm
 have hrun2:(execOp a.eval o).run P W₁= .ok .skip W':=by
  rw[hx,hTe]
  have:=congrArg Prod.fst r1
  simpa using this
 have hev:(execOp a.eval o).events P W₁ #[]=es:=by
  rw[hx,hTe]
  have:=congrArg Prod.snd r1
  simpa using this
 have hsz:=r5.size
 have hwg:=r5.wgrow
 simp only[World.re] at hsz hwg
 have hsub:∀ x,Touch S.d ρ₁ w' x→Grow own W₁ W' x:=by
  rintro x ⟨r,h1,h2,rfl⟩
  rcases Nat.lt_or_ge r w.heap.size with h3|h3
  ·exact .inl (hown _ ⟨r,h1,h3,by rw[hlt r h3]⟩)
  ·right;rw[hS1.wr.next r h3];omega
 have hnt:∀ x,x<W₁.heap.size→¬ own x→W'.heap[x]? =W₁.heap[x]?:=fun x h1 h2=>r5.frame x h1 fun ht=>by
  rcases hsub x ht with h|⟨h,_⟩
  ·exact h2 h
  ·omega
 refine⟨_,W',_,stepG_none ho hw hk hrun2,⟨r5.tape,r5.os,r5.output,by omega,hnt,fun e he=>?_⟩,k w' ρ₁ W' _ hq r4 hlt hwg hsub (fun x hx=> .inl hx) (fun x hx=>?_) (hro.grow hr.size (by omega))⟩
 ·unfold listed at he
  rw[hev] at he
  have:=touch_evG (ro:=ro) (r6 e (mem_seen he))
  exact this.mono hsub
 ·have h1:=hro.lt x (.inr hx)
  have h2:=hr.size
  rw[hnt x (by omega) (hro.ap x hx),hr.block x (.inr hx)]
end
section
variable {P:Program} {F:FuncId→Bool} {S:Sd} {main:Bool} {ro own:Nat→Prop} {Stop:(Nat→Prop)→Goroutine→World→Prop} {w W:World} {ρ:Rn} {b:Frame} {a:Act} {ops:Array Oper} {i:Nat} {rest:List Nat} {o:Oper} {kk:List Item} {cs:List Frame}
theorem Sim.cong {w₂:World}(h:Sim P S ρ w W)(e:w₂.heap=w.heap):Sim P S ρ w₂ W:=by
 obtain⟨⟨h1,h2,h3,h4,h5,h6,h7⟩,g1,g2,g3,g4⟩:=h
 exact⟨⟨by rw[e];exact h1,by rw[e];exact h2,by rw[e];exact h3,by rw[e];exact h4,by rw[e];exact h5,by rw[e];exact h6,by rw[e];exact h7⟩,g1,g2,g3,g4⟩
theorem alloc_size (w:World)(o:Obj):(w.alloc o).heap.size=w.heap.size+1:=by show(w.heap.push o).size=_;simp
structure At (P:Program) (S:Sd) (ro:Nat→Prop) (ρ:Rn) (w W:World) (own:Nat→Prop):Prop where
 sim:Sim P S ρ w W
 tou:∀ x,Touch S.d ρ w x→own x
 hold:Hold ro own W
structure On (ro:Nat→Prop) (ρ:Rn) (w W:World) (own:Nat→Prop) (ρ':Rn) (W':World) (own':Nat→Prop):Prop where
 agree:∀ r,r<w.heap.size→ρ' r=ρ r
 own:∀ x,own x→own' x
 ro:∀ x,ro x→W'.heap[x]? =W.heap[x]?
theorem rv_f {ρ':Rn}(h:Sim P S ρ w W){w' W':World}(h':Sim P S ρ' w' W'):∀ x,ρ'.f x=ρ.f x:=fun x=>by rw[h.f,h'.f]
theorem Walks.opv' (hC:Clo P F S)(hok:okOp P F S o.op=true)(ho:ops[i]? =some o)(hw:Region.wanted o (yielded ops a.tmps)=true)(hk:b.kind≠ .early){T:Nat→Value}(hT:∀ t,Cl P S w (T t))(hA:At P S ro ρ w W own)
 (hx:execOp a.eval o=execOp (evOf fun t=>rv ρ (T t)) o){v:World→Value}{o':World→World}(hrun:∀ τ d,(execOp (evOf T) o).run P (w.re τ d)= .ok (.value (v (w.re τ d))) (o' (w.re τ d)))
 (k:∀ (w₀:World) ρ' W' own',w₀.heap=w.heap→At P S ro ρ' (o' w₀) W' own'→On ro ρ w W own ρ' W' own'→Cl P S (o' w₀) (v w₀)→Walks P main ro Stop own' (G (b.at (a.put o.dst (rv ρ' (v w₀))) (.inRegion ops rest::kk)) cs) W'):
 Walks P main ro Stop own (G (b.at a (.inRegion ops (i::rest)::kk)) cs) W:=
 Walks.opv hC hok ho hw hk hT hA.sim hA.tou hx (Q:=fun x w'=>∃ τ d,x=v (w.re τ d)∧w'=o' (w.re τ d)) (fun τ d=>⟨_,_,hrun τ d,τ,d,rfl,rfl⟩)
  (fun x w' ρ' W' own' hq hS h1 _ h3 h4 h5 h6 h7=>by
    obtain⟨τ,d,rfl,rfl⟩:=hq
    exact k (w.re τ d) ρ' W' own' rfl ⟨hS,h4,h7⟩ ⟨h1,h5,h6⟩ h3) hA.hold
theorem Walks.opn' (hC:Clo P F S)(hok:okOp P F S o.op=true)(ho:ops[i]? =some o)(hw:Region.wanted o (yielded ops a.tmps)=true)(hk:b.kind≠ .early){T:Nat→Value}(hT:∀ t,Cl P S w (T t))(hA:At P S ro ρ w W own)
 (hx:execOp a.eval o=execOp (evOf fun t=>rv ρ (T t)) o){o':World→World}(hrun:∀ τ d,(execOp (evOf T) o).run P (w.re τ d)= .ok .skip (o' (w.re τ d)))
 (k:∀ (w₀:World) ρ' W' own',w₀.heap=w.heap→At P S ro ρ' (o' w₀) W' own'→On ro ρ w W own ρ' W' own'→Walks P main ro Stop own' (G (b.at (a.put o.dst undef) (.inRegion ops rest::kk)) cs) W'):
 Walks P main ro Stop own (G (b.at a (.inRegion ops (i::rest)::kk)) cs) W:=
 Walks.opn hC hok ho hw hk hT hA.sim hA.tou hx (Q:=fun w'=>∃ τ d,w'=o' (w.re τ d)) (fun τ d=>⟨_,hrun τ d,τ,d,rfl⟩)
  (fun w' ρ' W' own' hq hS h1 _ h4 h5 h6 h7=>by
    obtain⟨τ,d,rfl⟩:=hq
    exact k (w.re τ d) ρ' W' own' rfl ⟨hS,h4,h7⟩ ⟨h1,h5,h6⟩) hA.hold
theorem Walks.mv (ho:ops[i]? =some o)(hw:Region.wanted o (yielded ops a.tmps)=true)(hk:b.kind≠ .early){dd:Option Tmp}(hdd:o.dst=dd){x:Operand}(hop:o.op= .move x∨o.op= .assign x){v:Value}(hv:a.eval x=v)
 (k:Walks P main ro Stop own (G (b.at (a.put dd v) (.inRegion ops rest::kk)) cs) W):Walks P main ro Stop own (G (b.at a (.inRegion ops (i::rest)::kk)) cs) W:=by
 subst hdd
 subst hv
 refine Walks.silent rfl (fun w₁=>?_) k
 have hr:(execOp a.eval o).run P w₁= .ok (.value (a.eval x)) w₁:=by
  unfold execOp
  rcases hop with h|h<;>simp[h]
 have he:(execOp a.eval o).events P w₁ #[]=#[]:=by
  unfold execOp
  rcases hop with h|h<;>simp[h]
 rw[stepG_value ho hw hk hr,listed_none he]
theorem Walks.extr (ho:ops[i]? =some o)(hw:Region.wanted o (yielded ops a.tmps)=true)(hk:b.kind≠ .early){dd:Option Tmp}(hdd:o.dst=dd){x:Operand}{j:Nat}(hop:o.op= .extract x j){vs:Array Value}{v:Value}(hx:a.eval x= .tuple vs)(hv:vs[j]? =some v)
 (k:Walks P main ro Stop own (G (b.at (a.put dd v) (.inRegion ops rest::kk)) cs) W):Walks P main ro Stop own (G (b.at a (.inRegion ops (i::rest)::kk)) cs) W:=by
 subst hdd
 refine Walks.silent rfl (fun w₁=>?_) k
 have hr:(execOp a.eval o).run P w₁= .ok (.value v) w₁:=by
  unfold execOp
  simp[hop,hx,Instr.extract,hv]
 have he:(execOp a.eval o).events P w₁ #[]=#[]:=by
  unfold execOp
  simp[hop,hx,Instr.extract,hv]
 rw[stepG_value ho hw hk hr,listed_none he]
theorem Walks.allocT (hC:Clo P F S)(ho:ops[i]? =some o)(hw:Region.wanted o (yielded ops a.tmps)=true)(hk:b.kind≠ .early){dd:Option Tmp}(hdd:o.dst=dd){e:TypeId}(hop:o.op= .alloc e){ti:TypeInfo}{z:Value}(hi:P.info? e=some ti)(hz:ti.zero=some z)(hA:At P S ro ρ w W own)
 (k:∀ (w₀:World) ρ' W' own',w₀.heap=w.heap→At P S ro ρ' (w₀.alloc (.cells z.cells e)) W' own'→On ro ρ w W own ρ' W' own'→Walks P main ro Stop own' (G (b.at (a.put dd (.pointer (some ⟨ρ' w.heap.size,0,none⟩))) (.inRegion ops rest::kk)) cs) W'):
 Walks P main ro Stop own (G (b.at a (.inRegion ops (i::rest)::kk)) cs) W:=by
 subst hdd
 exact Walks.opv' hC (by rw[hop];rfl) ho hw hk (T:=fun _=>undef) (fun _=>rv_undef) hA (by unfold execOp;rw[hop]) (v:=fun _=> .pointer (some ⟨w.heap.size,0,none⟩)) (o':=fun w₀=>w₀.alloc (.cells z.cells e))
  (fun τ d=>by unfold execOp;simp[hop,Instr.alloc,zeroValue,typeInfo,hi,hz,newVar,newRow,World.re])
  (fun w₀ ρ' W' own' e0 hA' hO _=>by
    have:rv ρ' (.pointer (some ⟨w.heap.size,0,none⟩))= .pointer (some ⟨ρ' w.heap.size,0,none⟩):=by simp[rv,ra]
    rw[this]
    exact k w₀ ρ' W' own' e0 hA' hO)
theorem Walks.storeT (hC:Clo P F S)(ho:ops[i]? =some o)(hw:Region.wanted o (yielded ops a.tmps)=true)(hk:b.kind≠ .early){dd:Option Tmp}(hdd:o.dst=dd){e:TypeId}{s t:Tmp}(hst:s≠t)(hop:o.op= .store e (.tmp s) (.tmp t)){c c':Array Value}(hi:(P.info? e).map (·.size)=some c'.size)(hs:c.size=c'.size)(h1:c'.all (·.oneCell')=true)
 (hA:At P S ro ρ (w.alloc (.cells c e)) W own)(hp:a.eval (.tmp s)= .pointer (some ⟨ρ w.heap.size,0,none⟩))(hv:a.eval (.tmp t)=rv ρ (.agg c'))(hcl:Cl P S (w.alloc (.cells c e)) (.agg c'))(hg:P.globals.size≤w.heap.size)
 (k:∀ (w₀:World) ρ' W' own',w₀.heap=w.heap→At P S ro ρ' (w₀.alloc (.cells c' e)) W' own'→On ro ρ (w.alloc (.cells c e)) W own ρ' W' own'→Walks P main ro Stop own' (G (b.at (a.put dd undef) (.inRegion ops rest::kk)) cs) W'):
 Walks P main ro Stop own (G (b.at a (.inRegion ops (i::rest)::kk)) cs) W:=by
 subst hdd
 exact Walks.opn' hC (by rw[hop];rfl) ho hw hk (T:=fun x=>if x=s then .pointer (some ⟨w.heap.size,0,none⟩) else .agg c') (fun x=>by
  by_cases h:x=s
  ·simp only[h,if_true]
   unfold Cl
   have:(sg S S.d (w.alloc (.cells c e)).heap.size) w.heap.size=w.heap.size:=sg_fix.2 ⟨Nat.le_trans hA.sim.wr.big.dp hg,by rw[alloc_size];omega⟩
   simp only[rv,ra,Option.map_some,this]
  ·simp only[h,if_false];exact hcl) hA
  (by
    unfold execOp
    rw[hop]
    simp only[evOf,hp,hv,if_true,if_neg (Ne.symm hst)]
    simp[rv,ra]) (o':=fun w₁=>{ w₁ with heap:=w.heap.push (.cells c' e) })
  (fun τ d=>by
    unfold execOp
    simp only[hop,evOf,if_true,if_neg (Ne.symm hst)]
    have:=run_storeAt_new (P:=P) (w.re τ d) e c c' hi hs h1
    have h2:(w.alloc (.cells c e)).re τ d=(w.re τ d).alloc (.cells c e):=rfl
    have h3:(w.re τ d).heap.size=w.heap.size:=rfl
    rw[h3] at this
    rw[h2]
    simp only[Sem.run_bind,this,Result.andThen_ok,Sem.run_pure]
    rfl)
  (fun w₀ ρ' W' own' e0 hA' hO=>k { w₀ with heap:=w.heap } ρ' W' own' rfl hA' hO)
theorem Walks.loadT (hC:Clo P F S)(ho:ops[i]? =some o)(hw:Region.wanted o (yielded ops a.tmps)=true)(hk:b.kind≠ .early){dd:Option Tmp}(hdd:o.dst=dd){e:TypeId}{s:Tmp}(hop:o.op= .load e (.tmp s)){c:Array Value}{d:TypeDesc}(hu:P.underlying e=some d)(hd:d.isRow=true)(hi:(P.info? e).map (·.size)=some c.size)
 (hA:At P S ro ρ (w.alloc (.cells c e)) W own)(hp:a.eval (.tmp s)= .pointer (some ⟨ρ w.heap.size,0,none⟩))(hg:P.globals.size≤w.heap.size)
 (k:∀ (w₀:World) ρ' W' own',w₀.heap=w.heap→At P S ro ρ' (w₀.alloc (.cells c e)) W' own'→On ro ρ (w.alloc (.cells c e)) W own ρ' W' own'→Walks P main ro Stop own' (G (b.at (a.put dd (rv ρ' (.agg c))) (.inRegion ops rest::kk)) cs) W'):
 Walks P main ro Stop own (G (b.at a (.inRegion ops (i::rest)::kk)) cs) W:=by
 subst hdd
 exact Walks.opv' hC (by rw[hop];rfl) ho hw hk (T:=fun x=> .pointer (some ⟨w.heap.size,0,none⟩)) (fun x=>by
       unfold Cl
       have:(sg S S.d (w.alloc (.cells c e)).heap.size) w.heap.size=w.heap.size:=sg_fix.2 ⟨Nat.le_trans hA.sim.wr.big.dp hg,by rw[alloc_size];omega⟩
       simp only[rv,ra,Option.map_some,this]) hA
  (by
    unfold execOp
    rw[hop]
    simp only[evOf,hp]
    simp[rv,ra]) (v:=fun _=> .agg c) (o':=fun w₁=>{ w₁ with heap:=w.heap.push (.cells c e) })
  (fun τ dd=>by
    unfold execOp
    simp only[hop,evOf]
    have h2:(w.alloc (.cells c e)).re τ dd=(w.re τ dd).alloc (.cells c e):=rfl
    have:=run_loadAt_mid (P:=P) ((w.re τ dd).alloc (.cells c e)) w.heap.size 0 e c.toList d (fun j v hv=>by
     have hl:(w.re τ dd).heap.size=w.heap.size:=rfl
     have:((w.re τ dd).heap.push (Obj.cells c e))[w.heap.size]? =some (.cells c e):=by rw[←hl];simp
     have h5:((w.re τ dd).alloc (.cells c e)).heap[w.heap.size]? =some (.cells c e):=this
     simp only[World.cell?,h5]
     simpa using hv) hu hd (by simpa using hi)
    rw[h2]
    simp only[Sem.run_bind,this,Result.andThen_ok,Sem.run_pure]
    rfl)
  (fun w₀ ρ' W' own' e0 hA' hO _=>k { w₀ with heap:=w.heap } ρ' W' own' rfl hA' hO)
end
section
variable {P:Program} {F:FuncId→Bool} {S:Sd} {main:Bool} {ro own:Nat→Prop} {Stop:(Nat→Prop)→Goroutine→World→Prop} {w W:World} {ρ:Rn} {b:Frame} {a:Act} {ops:Array Oper} {i:Nat} {rest:List Nat} {o:Oper} {kk:List Item} {cs:List Frame}
theorem cl_ptr {n off:Nat}(hg:S.d≤n)(hn:n<w.heap.size):Cl P S w (.pointer (some ⟨n,off,none⟩)):=by
 unfold Cl
 have:(sg S S.d w.heap.size) n=n:=sg_fix.2 ⟨hg,hn⟩
 simp only[rv,ra,Option.map_some,this]
theorem Walks.fieldT (hC:Clo P F S)(ho:ops[i]? =some o)(hw:Region.wanted o (yielded ops a.tmps)=true)(hk:b.kind≠ .early){dd:Option Tmp}(hdd:o.dst=dd){e:TypeId}{s:Tmp}{j off:Nat}(hop:o.op= .fieldAddr e (.tmp s) j)
 (hf:∀ (w:World) (r:Nat),(Instr.fieldAt e (.pointer (some ⟨r,0,none⟩)) j).run P w= .ok (.pointer (some ⟨r,off,none⟩)) w){x:Obj}
 (hA:At P S ro ρ (w.alloc x) W own)(hp:a.eval (.tmp s)= .pointer (some ⟨ρ w.heap.size,0,none⟩))(hg:P.globals.size≤w.heap.size)
 (k:∀ (w₀:World) ρ' W' own',w₀.heap=w.heap→At P S ro ρ' (w₀.alloc x) W' own'→On ro ρ (w.alloc x) W own ρ' W' own'→Walks P main ro Stop own' (G (b.at (a.put dd (.pointer (some ⟨ρ' w.heap.size,off,none⟩))) (.inRegion ops rest::kk)) cs) W'):
 Walks P main ro Stop own (G (b.at a (.inRegion ops (i::rest)::kk)) cs) W:=by
 subst hdd
 exact Walks.opv' hC (by rw[hop];rfl) ho hw hk (T:=fun _=> .pointer (some ⟨w.heap.size,0,none⟩)) (fun _=>cl_ptr (Nat.le_trans hA.sim.wr.big.dp hg) (by rw[alloc_size];omega)) hA
  (by
    unfold execOp
    rw[hop]
    simp only[evOf,hp]
    simp[rv,ra]) (v:=fun _=> .pointer (some ⟨w.heap.size,off,none⟩)) (o':=fun w₁=>{ w₁ with heap:=w.heap.push x })
  (fun τ dd=>by
    unfold execOp
    simp only[hop,evOf,Sem.run_bind,hf,Result.andThen_ok,Sem.run_pure]
    rfl)
  (fun w₀ ρ' W' own' e0 hA' hO _=>by
    have:rv ρ' (.pointer (some ⟨w.heap.size,off,none⟩))= .pointer (some ⟨ρ' w.heap.size,off,none⟩):=by simp[rv,ra]
    rw[this]
    exact k { w₀ with heap:=w.heap } ρ' W' own' rfl hA' hO)
theorem Walks.loadC (hC:Clo P F S)(ho:ops[i]? =some o)(hw:Region.wanted o (yielded ops a.tmps)=true)(hk:b.kind≠ .early){dd:Option Tmp}(hdd:o.dst=dd){e e':TypeId}{s:Tmp}{off:Nat}(hop:o.op= .load e (.tmp s)){c:Array Value}{v:Value}
 (hl:∀ (w:World) (a:Addr),w.cell? a=some v→(Instr.loadAt e (.pointer (some a))).run P w= .ok v w)(hc:c[off]? =some v)
 (hA:At P S ro ρ (w.alloc (.cells c e')) W own)(hp:a.eval (.tmp s)= .pointer (some ⟨ρ w.heap.size,off,none⟩))(hg:P.globals.size≤w.heap.size)
 (k:∀ (w₀:World) ρ' W' own',w₀.heap=w.heap→At P S ro ρ' (w₀.alloc (.cells c e')) W' own'→On ro ρ (w.alloc (.cells c e')) W own ρ' W' own'→Walks P main ro Stop own' (G (b.at (a.put dd (rv ρ' v)) (.inRegion ops rest::kk)) cs) W'):
 Walks P main ro Stop own (G (b.at a (.inRegion ops (i::rest)::kk)) cs) W:=by
 subst hdd
 exact Walks.opv' hC (by rw[hop];rfl) ho hw hk (T:=fun _=> .pointer (some ⟨w.heap.size,off,none⟩)) (fun _=>cl_ptr (Nat.le_trans hA.sim.wr.big.dp hg) (by rw[alloc_size];omega)) hA
  (by
    unfold execOp
    rw[hop]
    simp only[evOf,hp]
    simp[rv,ra]) (v:=fun _=>v) (o':=fun w₁=>{ w₁ with heap:=w.heap.push (.cells c e') })
  (fun τ dd=>by
    have h2:(w.alloc (.cells c e')).re τ dd=(w.re τ dd).alloc (.cells c e'):=rfl
    have hcell:((w.re τ dd).alloc (.cells c e')).cell? ⟨w.heap.size,off,none⟩=some v:=by
     have hl:(w.re τ dd).heap.size=w.heap.size:=rfl
     have:((w.re τ dd).heap.push (Obj.cells c e'))[w.heap.size]? =some (.cells c e'):=by rw[←hl];simp
     have h5:((w.re τ dd).alloc (.cells c e')).heap[w.heap.size]? =some (.cells c e'):=this
     simp only[World.cell?,h5]
     simpa using hc
    unfold execOp
    simp only[hop,evOf,Sem.run_bind,h2,hl _ _ hcell,Result.andThen_ok,Sem.run_pure]
    rfl)
  (fun w₀ ρ' W' own' e0 hA' hO _=>k { w₀ with heap:=w.heap } ρ' W' own' rfl hA' hO)
theorem At.rely {W₁:World}(hA:At P S ro ρ w W own)(hr:Rely ro own W W₁):At P S ro (extR ρ w.heap.size W₁.heap.size) w W₁ own∧On ro ρ w W own (extR ρ w.heap.size W₁.heap.size) W₁ own:=
 ⟨⟨hA.sim.grow hr.size fun x hx=>hr.block x (.inl (hA.tou x hx)),fun x hx=>hA.tou x (by rw[touch_ext] at hx;exact hx),fun b hb=>by have:=hA.hold.lt b hb;have:=hr.size;omega,hA.hold.ap⟩,
  fun r h=>extR_lt h,fun x h=>h,fun x h=>hr.block x (.inr h)⟩
theorem At.call {W':World}{own':Nat→Prop}(hA:At P S ro ρ w W own)(h1:∀ b,own b∨ro b→W'.heap[b]? =W.heap[b]?)(h2:W.heap.size≤W'.heap.size)(h3:∀ b,own b→own' b)(h4:Hold ro own' W'):At P S ro (extR ρ w.heap.size W'.heap.size) w W' own'∧On ro ρ w W own (extR ρ w.heap.size W'.heap.size) W' own':=
 ⟨⟨hA.sim.grow h2 fun x hx=>h1 x (.inl (hA.tou x hx)),fun x hx=>h3 x (hA.tou x (by rw[touch_ext] at hx;exact hx)),h4⟩,fun r h=>extR_lt h,h3,fun x h=>h1 x (.inr h)⟩
theorem At.empty [Z:Shut P S] (hH:Hold ro own W)(hb:P.globals.size≤W.heap.size):At P S ro (extR idR P.globals.size W.heap.size) (pw0 P W) W own:=
 ⟨pw0_sim hb,fun x hx=>by obtain⟨r,h1,h2,_⟩:=hx;rw[pw0_size] at h2;rw[Z.d] at h1;omega,hH⟩
theorem ev_put_ne {t k:Tmp}{v:Value}(h:t≠k):(Act.put a (some t) v).eval (.tmp k)=a.eval (.tmp k):=by
 simp only[Act.put,Act.eval,Array.getD_eq_getD_getElem?,Array.getElem?_setIfInBounds_ne h]
theorem ev_put_eq {k:Tmp}{v:Value}(h:k<a.tmps.size):(Act.put a (some k) v).eval (.tmp k)=v:=by
 simp only[Act.put,Act.eval,Array.getD_eq_getD_getElem?,Array.getElem?_setIfInBounds_self_of_lt h]
 rfl
theorem size_put {d:Option Tmp}{v:Value}:(Act.put a d v).tmps.size=a.tmps.size:=by
 cases d<;>simp[Act.put]
theorem defers_put {d:Option Tmp}{v:Value}:(Act.put a d v).defers=a.defers:=by
 cases d<;>simp[Act.put]
theorem put_none {v:Value}:Act.put a none v=a:=rfl
end
end Go.Ren
