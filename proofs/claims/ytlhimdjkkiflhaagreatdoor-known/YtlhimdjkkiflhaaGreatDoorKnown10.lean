import Derived.Conc.FxMachine2
import Derived.Conc.FxFork
import Derived.Test.YtlhimdjkkiflhaaGreatDoorKnown08
set_option maxHeartbeats 8000000
set_option maxRecDepth 100000
namespace Go.Ren
open Go Go.Conc
open Go.ConcN (sumTo)
theorem gM {P:Program}{c:Nat}{a b:Goroutine}{Q:Machine→Trace→Prop}{J:World→Trace→Prop}(PD:awake a)(Ya:awake b)(hrun:a.status=.running∨b.status=.running)
 (hJ:∀w t d ops,J w t→(∀op∈ops,op.act.touch? =none∧∀a,op.act≠.mark (.release a))→(∀B,∀op∈ops,op.act.low B)→Deaf (t++ops) 0=Deaf t 0→Deaf (t++ops) c=Deaf t c→J (w.at d) (t++ops))
 (hst:∀w t,J w t→Ce P w a∧Ce P w b)
 (H0:a.status=.running→∀gs w sl t q,dW P c t gs q→gs[0]?=some a→gs[c]?=some b→J w t→∃m' ops,runT P (crowd gs w sl) 0=(.next m',ops)∧Reach P m' (t++ops) Q)
 (HC:b.status=.running→∀gs w sl t q,dW P c t gs q→gs[0]?=some a→gs[c]?=some b→J w t→∃m' ops,runT P (crowd gs w sl) c=(.next m',ops)∧Reach P m' (t++ops) Q):
 ∀gs w sl t q,dW P c t gs q→gs[0]?=some a→gs[c]?=some b→J w t→Reach P (crowd gs w sl) t Q:=by
 intro gs w sl t q hC h0 hc hj;generalize hM:sumTo c q=M
 induction M using Nat.strongRecOn generalizing gs w sl t q with
 |_ M ih=>
  have hd:∀w t d,J w t→J (w.at d) t:=λw t d h=>by
   have:=hJ w t d #[] h (by simp) (by simp) (by simp) (by simp);simpa using this
  rcases Fj (sl:=sl) hC h0 hc PD Ya hrun (hst w t hj).1 (hst w t hj).2 with⟨hr,d,sl',hs⟩|⟨hr,d,sl',hs⟩|⟨gs',d,sl',ops,q',hs,hC',Jt,hc',hlt,h1,h2,h3,h4⟩
  ·obtain⟨m',ops,e,hR⟩:=H0 hr gs (w.at d) sl' t q hC h0 hc (hd w t d hj);exact Reach.step (hs.trans e) hR
  ·obtain⟨m',ops,e,hR⟩:=HC hr gs (w.at d) sl' t q hC h0 hc (hd w t d hj);exact Reach.step (hs.trans e) hR
  ·exact Reach.step hs (ih _ (by omega) gs' (w.at d) sl' (t++ops) q' hC' Jt hc' (hJ w t d ops hj h1 h2 h3 h4) rfl)
def ik (P:Program)(ch:Nat)(z:Value)(Next:(Nat→Prop)→Goroutine→World→Prop)(own:Nat→Prop)(g:Goroutine)(w:World):Prop:=
 g.status=.running∧stepG P true g w=.comm (core g) #[rcase ch z] true (.recv true) w #[]∧Next own (core g) w
def kZ (P:Program)(ro:Nat→Prop)(ch:Nat)(z:Value)(Fin:(Nat→Prop)→Goroutine→World→Prop):List Value→(Nat→Prop)→Goroutine→World→Prop
 |[],own,g,w=>ai P true ro (ik P ch z λown g w=>Fin own (Conc.served g (.tuple #[z,.bool false])) w) own g w
 |v::vs,own,g,w=>ai P true ro (ik P ch z λown g w=>kZ P ro ch z Fin vs own (Conc.served g (.tuple #[v,.bool true])) w) own g w
def zb (P:Program)(ro:Nat→Prop)(ch:Nat)(z:Value)(Fin:(Nat→Prop)→Goroutine→World→Prop):List Value→(Nat→Prop)→Goroutine→World→Prop
 |[],own,g,w=>Fin own (Conc.served g (.tuple #[z,.bool false])) w
 |v::vs,own,g,w=>kZ P ro ch z Fin vs own (Conc.served g (.tuple #[v,.bool true])) w
def Hr (P:Program)(ch:Nat)(v:Value)(Next:(Nat→Prop)→Goroutine→World→Prop)(own:Nat→Prop)(g:Goroutine)(w:World):Prop:=
 g.status=.running∧∃z',stepG P false g w=.comm (core g) #[scase ch v z'] true .send w #[]∧Next own (Conc.served (core g) undef) w
def gw (ch:Nat):Array Event:=#[⟨.obj ch,false,true⟩,⟨.obj ch,true,true⟩]
def wk (P:Program)(ch:Nat)(fU:(Nat→Prop)→Goroutine→World→Prop)(own:Nat→Prop)(g:Goroutine)(w:World):Prop:=
 g.status=.running∧mayWake P g=true∧∃g₂,g₂.status=.running∧∀s r tm,w.heap[ch]?=some (.chan 0 #[] false s r tm)→stepG P false g w=.go g₂ (w.setChan ch 0 #[] true s r tm) (gw ch)∧fU own g₂ (w.setChan ch 0 #[] true s r tm)
def jw (P:Program)(ro:Nat→Prop)(ch:Nat)(fU:(Nat→Prop)→Goroutine→World→Prop):List Value→(Nat→Prop)→Goroutine→World→Prop
 |[],own,g,w=>ai P false ro (wk P ch fU) own g w
 |v::vs,own,g,w=>ai P false ro (Hr P ch v (jw P ro ch fU vs)) own g w
def StopG (P:Program)(ro:Nat→Prop)(ch:Nat)(fU:(Nat→Prop)→Goroutine→World→Prop):List Value→(Nat→Prop)→Goroutine→World→Prop
 |[]=>wk P ch fU
 |v::vs=>Hr P ch v (jw P ro ch fU vs)
theorem cv {P:Program}{ro:Nat→Prop}{ch:Nat}{z:Value}{Fin:(Nat→Prop)→Goroutine→World→Prop}{vs:List Value}{own:Nat→Prop}{g:Goroutine}{w:World}:kZ P ro ch z Fin vs own g w↔ai P true ro (ik P ch z (zb P ro ch z Fin vs)) own g w:=by cases vs<;>exact Iff.rfl
theorem cY {P:Program}{ro:Nat→Prop}{ch:Nat}{fU:(Nat→Prop)→Goroutine→World→Prop}{vs:List Value}{own:Nat→Prop}{g:Goroutine}{w:World}:jw P ro ch fU vs own g w↔ai P false ro (StopG P ro ch fU vs) own g w:=by cases vs<;>exact Iff.rfl
theorem ai.running {P:Program}{main:Bool}{ro own:Nat→Prop}{Stop:(Nat→Prop)→Goroutine→World→Prop}{g:Goroutine}{w:World}(h:ai P main ro Stop own g w)(hs:∀own g w,Stop own g w→g.status=.running):g.status=.running:=by
 cases h with
 |stop h=>exact hs _ _ _ (h w (bN.refl _ _ _))
 |step _ _ _ h=>exact h
theorem StopG.running {P:Program}{ro:Nat→Prop}{ch:Nat}{fU:(Nat→Prop)→Goroutine→World→Prop}{vs:List Value}{own:Nat→Prop}{g:Goroutine}{w:World}(h:StopG P ro ch fU vs own g w):g.status=.running:=by cases vs<;>exact h.1
structure Lay (Q Shun:Loc→Prop) (c ch Low:Nat) (ro:Nat→Prop):Prop where
 c0:c≠0
 MC:∀b,ro b→b<Low
 Fx:ch<Low
 Jx:¬ro ch
 QS:∀l,Q l→Shun l
 sR:∀l,Shun l→l.low Low
 rS:∀l,jv ro l→¬Shun l
 Qch:Q (.obj ch)
structure kI (Q Shun:Loc→Prop) (c ch Low:Nat) (ro bk aK X:Nat→Prop) (closed:Bool) (w0 w:World) (t:Trace):Prop where
 ti:TI Q Shun c aK ro w.heap.size t
 d0:Deaf t 0=0
 dc:closed=false→Deaf t c=0
 mlt:∀b,bk b→Low≤b∧b<w.heap.size
 Fy:∀b,aK b→Low≤b∧b<w.heap.size
 apart:∀b,bk b→¬aK b
 big:Low≤w.heap.size
 chan:∃s r tm,w.heap[ch]?=some (.chan 0 #[] closed s r tm)
 tape:w.tape=w0.tape
 os:w.os=w0.os
 output:w.output=w0.output
 keep:∀b,b<Low→¬X b→w.heap[b]?=w0.heap[b]?
 QQ:X ch
section
variable {P:Program}{Q Shun:Loc→Prop}{c ch Low:Nat}{ro bk aK X:Nat→Prop}{cl:Bool}{w0 w w':World}{t u:Trace}{es:Array Event}{fn:FuncId}{pos:String}
theorem sT {X:Nat→Prop}(h:∀b,X b→Low≤b){l:Loc}(hi:jv X l)(hl:l.low Low):False:=QI hi (λb hb hlt=>by have:=h b hb;omega) hl
theorem wo {ro own:Nat→Prop}{g:Nat}(h:∀e∈es,BJ ro own e):∀op∈MemOp.ofEvents g fn pos es,op.g=g∧My ro own op:=by
 intro op hop;obtain⟨e,he,rfl⟩:=Conc.mem_ofEvents hop;refine⟨rfl,y7 (h e he),?_,?_⟩
 ·intro e';exact(nI (h e he)).1 (by obtain⟨loc,wr,sy⟩:=e;cases loc<;>cases wr<;>cases sy<;>simp_all [MemAct.ofEvent])
 ·intro e';exact(nI (h e he)).2 (by obtain⟨loc,wr,sy⟩:=e;cases loc<;>cases wr<;>cases sy<;>simp_all [MemAct.ofEvent])
theorem wu {ro own:Nat→Prop}{g B:Nat}(hB:∀b,own b→b<B)(hr:∀b,ro b→b<B)(h:∀e∈es,BJ ro own e):∀op∈MemOp.ofEvents g fn pos es,op.act.low B:=by
 intro op hop;obtain⟨e,he,rfl⟩:=Conc.mem_ofEvents hop;exact Ho hB hr (h e he)
theorem wx {ro own:Nat→Prop}{g:Nat}(h:∀e∈es,BJ ro own e):Deaf (t++MemOp.ofEvents g fn pos es) g=Deaf t g:=by
 rw[Deaf_own];exact deafBehind_still (λe he=>nI (h e he)) _
theorem kI.still (h:kI Q Shun c ch Low ro bk aK X cl w0 w t)(d:Nat)(h1:∀op∈u,op.act.touch? =none)(h2:∀op∈u,op.act.low w.heap.size)(h3:Deaf (t++u) 0=Deaf t 0)(h4:Deaf (t++u) c=Deaf t c):kI Q Shun c ch Low ro bk aK X cl w0 (w.at d) (t++u):=
 ⟨h.ti.still h1 h2,h3.trans h.d0,λe=>h4.trans (h.dc e),h.mlt,h.Fy,h.apart,h.big,h.chan,h.tape,h.os,h.output,h.keep,h.QQ⟩
theorem kI.MP (hY:Lay Q Shun c ch Low ro)(h:kI Q Shun c ch Low ro bk aK X cl w0 w t)(hg:Ca ro bk w w' es):kI Q Shun c ch Low ro (Grow bk w w') aK X cl w0 w' (t++MemOp.ofEvents 0 fn pos es)∧bN ro aK w w':=by
 have hs:=hg.size;have hb:=h.big;have i6:∀b,Grow bk w w' b→Low≤b∧b<w'.heap.size:=λb hb'=>hb'.elim (λx=>by have:=h.mlt b x;omega) λx=>by omega
 have hap:∀b,Grow bk w w' b→¬aK b:=λb hb' hgb=>hb'.elim (λx=>h.apart b x hgb) λx=>by have:=h.Fy b hgb;omega
 have Ck:∀b,b<w.heap.size→¬bk b→w'.heap[b]?=w.heap[b]?:=hg.block;have dV:∀b,b<Low→w'.heap[b]?=w.heap[b]?:=λb hlt=>Ck b (by omega) λhm=>by have:=h.mlt b hm;omega
 refine⟨⟨(h.ti.mono hs).app0 (own:=Grow bk w w') hY.c0 (wo hg.evs) (wu (λb hb'=>(i6 b hb').2) (λb hb'=>by have:=hY.MC b hb';omega) hg.evs) ?_ ?_ hap ?_ ?_,(wx hg.evs).trans h.d0,?_,i6,λb hb'=>by have:=h.Fy b hb';omega,hap,by omega,?_,hg.tape.trans h.tape,hg.os.trans h.os,hg.output.trans h.output,λb h1 h2=>(dV b h1).trans (h.keep b h1 h2),h.QQ⟩,hg.tape,hg.os,hg.output,hs,?_⟩
 ·rintro l (hl|hl) hS
  ·exact sT (λb hb'=>(i6 b hb').1) hl (hY.sR l hS)
  ·exact hY.rS l hl hS
 ·rintro l (hl|hl) hS
  ·exact sT (λb hb'=>(i6 b hb').1) hl (hY.sR l (hY.QS l hS))
  ·exact hY.rS l hl (hY.QS l hS)
 ·intro b hb' hr;have:=i6 b hb';have:=hY.MC b hr;omega
 ·intro b hb' hr;have:=h.Fy b hb';have:=hY.MC b hr;omega
 ·intro e;rw[Deaf_other t (Ne.symm hY.c0) _ ofEvents_g];exact h.dc e
 ·obtain⟨s,r,tm,e⟩:=h.chan;exact⟨s,r,tm,by rw[dV ch hY.Fx];exact e⟩
 ·rintro b (hb'|hb')
  ·exact Ck b (h.Fy b hb').2 λhm=>h.apart b hm hb'
  ·exact dV b (hY.MC b hb')
theorem kI.stepG (hY:Lay Q Shun c ch Low ro)(h:kI Q Shun c ch Low ro bk aK X cl w0 w t)(hg:Ca ro aK w w' es):kI Q Shun c ch Low ro bk (Grow aK w w') X cl w0 w' (t++MemOp.ofEvents c fn pos es)∧bN ro bk w w':=by
 have hs:=hg.size;have hb:=h.big;have i6:∀b,Grow aK w w' b→Low≤b∧b<w'.heap.size:=λb hb'=>hb'.elim (λx=>by have:=h.Fy b x;omega) λx=>by omega
 have hap:∀b,bk b→¬Grow aK w w' b:=λb hm hgb=>hgb.elim (λx=>h.apart b hm x) λx=>by have:=h.mlt b hm;omega
 have Ck:∀b,b<w.heap.size→¬aK b→w'.heap[b]?=w.heap[b]?:=hg.block;have dV:∀b,b<Low→w'.heap[b]?=w.heap[b]?:=λb hlt=>Ck b (by omega) λhm=>by have:=h.Fy b hm;omega
 refine⟨⟨h.ti.acp (own':=Grow aK w w') hs (wo hg.evs) (wu (λb hb'=>(i6 b hb').2) (λb hb'=>by have:=hY.MC b hb';omega) hg.evs) (λb=>Iff.rfl) ?_,?_,λe=>(wx hg.evs).trans (h.dc e),λb hb'=>by have:=h.mlt b hb';omega,i6,hap,by omega,?_,hg.tape.trans h.tape,hg.os.trans h.os,hg.output.trans h.output,λb h1 h2=>(dV b h1).trans (h.keep b h1 h2),h.QQ⟩,hg.tape,hg.os,hg.output,hs,?_⟩
 ·rintro l (hl|hl) hS
  ·exact sT (λb hb'=>(i6 b hb').1) hl (hY.sR l (hY.QS l hS))
  ·exact hY.rS l hl (hY.QS l hS)
 ·rw[Deaf_other t hY.c0 _ ofEvents_g];exact h.d0
 ·obtain⟨s,r,tm,e⟩:=h.chan;exact⟨s,r,tm,by rw[dV ch hY.Fx];exact e⟩
 ·rintro b (hb'|hb')
  ·exact Ck b (h.mlt b hb').2 λhm=>h.apart b hb' hm
  ·exact dV b (hY.MC b hb')
theorem j0 {cap s r:Nat}{buf:Array Value}{tm cl:Bool}{b:Nat}(h:b≠ch):(w.setChan ch cap buf cl s r tm).heap[b]?=w.heap[b]?:=by
 show(w.heap.setIfInBounds ch _)[b]?=_;rw[zak (Ne.symm h)]
theorem dw {cap s r:Nat}{buf:Array Value}{tm cl:Bool}:(w.setChan ch cap buf cl s r tm).heap.size=w.heap.size:=by
 show(w.heap.setIfInBounds ch _).size=_;simp
theorem jN {cap s r:Nat}{buf:Array Value}{tm cl:Bool}{own:Nat→Prop}(h:¬own ch)(hr:¬ro ch):bN ro own w (w.setChan ch cap buf cl s r tm):=
 ⟨rfl,rfl,rfl,by rw[dw];exact zaa _,λb hb=>j0 λe=>by subst e;exact hb.elim h hr⟩
theorem kI.chG (hY:Lay Q Shun c ch Low ro)(h:kI Q Shun c ch Low ro bk aK X cl w0 w t):¬aK ch:=λx=>by have:=h.Fy ch x;have:=hY.Fx;omega
theorem kI.Y4 (hY:Lay Q Shun c ch Low ro)(h:kI Q Shun c ch Low ro bk aK X cl w0 w t):¬bk ch:=λx=>by have:=h.mlt ch x;have:=hY.Fx;omega
theorem kI.meet (hY:Lay Q Shun c ch Low ro){s r s' r':Nat}{tm:Bool}(h:kI Q Shun c ch Low ro bk aK X false w0 w t)(hch:w.heap[ch]?=some (.chan 0 #[] false s r tm))(hu:MB ch u):kI Q Shun c ch Low ro bk aK X false w0 (w.setChan ch 0 #[] false s' r' tm) (t++u):=by
 have hb:=h.big;have fe:=hY.Fx;refine⟨by rw[dw];exact h.ti.still (λop hop=>(hu op hop).1) λop hop=>(hu op hop).2.2 _ (by omega),by rw[cW t 0 u λop hop=>(hu op hop).2.1];exact h.d0,λe=>by rw[cW t c u λop hop=>(hu op hop).2.1];exact h.dc e,by rw[dw];exact h.mlt,by rw[dw];exact h.Fy,h.apart,by rw[dw];exact hb,⟨s',r',tm,heap_put hch⟩,h.tape,h.os,h.output,λb h1 h2=>(j0 λe=>h2 (by rw[e];exact h.QQ)).trans (h.keep b h1 h2),h.QQ⟩
theorem oM (g:Nat):MemOp.ofEvents g fn pos (gw ch)=#[{ g:=g,fn:=fn,pos:=pos,act:= .access ⟨.obj ch,false,true⟩ },{ g:=g,fn:=fn,pos:=pos,act:= .close ch }]:=by
 simp[MemOp.ofEvents,gw,MemAct.ofEvent]
theorem kI.ze (h:kI Q Shun c ch Low ro bk aK X false w0 w t):Deaf (t++MemOp.ofEvents c fn pos (gw ch)) c=0:=by
 rw[cW t c _ λop hop m e=>?_]
 ·exact h.dc rfl
 ·rw[oM]at hop;simp at hop;rcases hop with rfl|rfl<;>simp at e
theorem kI.close (hY:Lay Q Shun c ch Low ro){s r:Nat}{tm:Bool}(h:kI Q Shun c ch Low ro bk aK X false w0 w t)(hch:w.heap[ch]?=some (.chan 0 #[] false s r tm)):kI Q Shun c ch Low ro bk aK X true w0 (w.setChan ch 0 #[] true s r tm) (t++MemOp.ofEvents c fn pos (gw ch)):=by
 have hb:=h.big;have fe:=hY.Fx;have hm:∀op∈MemOp.ofEvents c fn pos (gw ch),∀m,op.act≠.mark m:=λop hop m e=>by
  rw[oM]at hop;simp at hop;rcases hop with rfl|rfl<;>simp at e
 refine⟨?_,by rw[cW t 0 _ hm];exact h.d0,(λe=>by cases e),by rw[dw];exact h.mlt,by rw[dw];exact h.Fy,h.apart,by rw[dw];exact hb,⟨s,r,tm,heap_put hch⟩,h.tape,h.os,h.output,λb h1 h2=>(j0 λe=>h2 (by rw[e];exact h.QQ)).trans (h.keep b h1 h2),h.QQ⟩;rw[dw];refine h.ti.QJ (g:=c) (.inr rfl) (λop hop=>⟨ofEvents_g op hop,λx hx=>?_⟩) (λop hop=>?_) hY.QS λl hl=>⟨λhi=>?_,λhi=>hY.rS l hi (hY.QS l hl)⟩
 ·rw[oM]at hop;simp at hop;rcases hop with rfl|rfl
  ·simp only[MemAct.touch?,zam]at hx;subst hx;exact⟨hY.Qch,by simp,by simp⟩
  ·simp[MemAct.touch?]at hx
 ·rw[oM]at hop;simp at hop;have:ch<w.heap.size:=by omega
  rcases hop with rfl|rfl<;>exact this
 ·exact sT (λb hb'=>(h.Fy b hb').1) hi (hY.sR l (hY.QS l hl))
end
end Go.Ren
namespace Go.Ren
open Go Go.Conc
def Jy (P:Program)(Q Shun:Loc→Prop)(c ch Low:Nat)(ro X:Nat→Prop)(z:Value)(Fin fU:(Nat→Prop)→Goroutine→World→Prop)(w0:World)(m:Machine)(t:Trace):Prop:=
 ∃gs w sl q bk aK a b t₁ fn pos,m=crowd gs w sl∧dW P c t gs q∧gs[0]?=some a∧gs[c]?=some b∧b.status=.running∧kZ P ro ch z Fin [] bk a w∧fU aK b w∧kI Q Shun c ch Low ro bk aK X true w0 w t∧t=t₁++MemOp.ofEvents c fn pos (gw ch)∧Deaf t c=0
section
variable {P:Program}{Q Shun:Loc→Prop}{c ch Low:Nat}{ro X:Nat→Prop}{z:Value}{Fin fU:(Nat→Prop)→Goroutine→World→Prop}{w0:World}
variable (P Q Shun c ch Low ro X z Fin fU w0) in
def Cm (vs:List Value):Prop:=∀gs w sl t q bk aK a b,dW P c t gs q→gs[0]?=some a→gs[c]?=some b→kZ P ro ch z Fin vs bk a w→jw P ro ch fU vs aK b w→kI Q Shun c ch Low ro bk aK X false w0 w t→Reach P (crowd gs w sl) t (Jy P Q Shun c ch Low ro X z Fin fU w0)
theorem ik.again {Next:(Nat→Prop)→Goroutine→World→Prop}{own:Nat→Prop}{g:Goroutine}{w:World}(h:ik P ch z Next own g w):ik P ch z Next own { parked (core g) #[rcase ch z] (.recv true)with status:= .running } w:=by
 have e:stepG P true { parked (core g) #[rcase ch z] (.recv true)with status:= .running } w=stepG P true g w:=stepG_same rfl rfl rfl w;exact⟨rfl,by rw[e];exact h.2.1,h.2.2⟩
theorem fp {g:Goroutine}(h:g.status=.running):awake g:=awake_of (.inl h)
theorem jH {g:Goroutine}{cs:Array CommCase}{sh:CommShape}:awake (parked g cs sh):=awake_of (.inr (.inl rfl))
theorem zf {g:Goroutine}{w:World}{s r:Nat}{tm:Bool}(hc:w.heap[ch]?=some (.chan 0 #[] false s r tm)):Ce P w (parked g #[rcase ch z] (.recv true)):=λx x' d=>woken_recv_open x x' (w:=w.at d) hc
theorem zg {g:Goroutine}{w:World}{s r:Nat}{tm:Bool}{v z':Value}(hc:w.heap[ch]?=some (.chan 0 #[] false s r tm)):Ce P w (parked g #[scase ch v z'] .send):=λx x' d=>woken_send_open x x' (w:=w.at d) hc
theorem MQ (hY:Lay Q Shun c ch Low ro){vs:List Value}(hK:∀v vs',vs=v::vs'→Cm P Q Shun c ch Low ro X z Fin fU w0 vs'){aK:Nat→Prop}{b:Goroutine}{wG:World}
 (hG:ai P false ro (StopG P ro ch fU vs) aK b wG):∀(g:Goroutine) (bk:Nat→Prop) (wM:World),(∀w₁,bN ro bk wM w₁→ik P ch z (zb P ro ch z Fin vs) bk g w₁)→
   ∀gs w sl t q,dW P c t gs q→gs[0]?=some (parked (core g) #[rcase ch z] (.recv true))→gs[c]?=some b→bN ro bk wM w→bN ro aK wG w→kI Q Shun c ch Low ro bk aK X false w0 w t→
   Reach P (crowd gs w sl) t (Jy P Q Shun c ch Low ro X z Fin fU w0):=by
 induction hG with
 | @stop aK b wG hS=>
   intro g bk wM hM gs w sl t q hC h0 hc k8 nj en;have hb:b.status=.running:=(hS wG (bN.refl _ _ _)).running;refine gM (J:=λw t=>bN ro bk wM w∧bN ro aK wG w∧kI Q Shun c ch Low ro bk aK X false w0 w t) jH (fp hb) (.inr hb)
    (λw t d ops hj h1 h2 h3 h4=>⟨hj.1.trans (eR _ _ _ d),hj.2.1.trans (eR _ _ _ d),hj.2.2.still d (λop hop=>(h1 op hop).1) (h2 _) h3 h4⟩)
    (λw t hj=>by obtain⟨s,r,tm,e⟩:=hj.2.2.chan;exact⟨zf e,.run hb⟩)
    (λhr=>by cases hr) (λ_ gs w sl t q hC h0 hc hj=>?_) gs w sl t q hC h0 hc ⟨k8,nj,en⟩
   obtain⟨k8,nj,en⟩:=hj;obtain⟨s,r,tm,hch⟩:=en.chan;cases vs with
   |nil=>
    obtain⟨_,hmw,g₂,hg2,hx⟩:=hS w nj;obtain⟨hst,sJ⟩:=hx s r tm hch;obtain⟨gs',e1,e2,e3,e4⟩:=jX (sl:=sl) hC h0 hc hst;refine⟨_,_,e1,.here ⟨gs',_,sl,q,bk,aK,_,_,t,_,_,rfl,e2,e3,e4,hg2,?_,sJ,en.close hY hch,rfl,en.ze⟩⟩;have hw:woken P b g₂ (w.setChan ch 0 #[] true s r tm) (parked (core g) #[rcase ch z] (.recv true))={ parked (core g) #[rcase ch z] (.recv true)with status:= .running }:=by
     unfold woken;rw[if_pos (by simp[hmw,hg2])];exact again_recv_closed (heap_put hch)
    rw[hw];exact cv.2 (.stop λw₂ h₂=>(hM w₂ ((k8.trans (jN (en.Y4 hY) hY.Jx)).trans h₂)).again)
   |cons v vs'=>
    obtain⟨_,z',hst,qT⟩:=hS w nj;obtain⟨gs',u,e1,e2,e3,e4,e5⟩:=uD (sl:=sl) hC h0 hc hst hch;exact⟨_,_,e1,hK v vs' rfl gs' _ sl _ q bk aK _ _ e3 e4 e5 (cv.2 ((cv.1 (hM w k8).2.2).rely (jN (en.Y4 hY) hY.Jx))) (cY.2 ((cY.1 qT).rely (jN (en.chG hY) hY.Jx))) (en.meet hY hch e2)⟩
 | @step aK b wG nx nw ne hb h1 h2 _ ih=>
   intro g bk wM hM gs w sl t q hC h0 hc k8 nj en;refine gM (J:=λw t=>bN ro bk wM w∧bN ro aK wG w∧kI Q Shun c ch Low ro bk aK X false w0 w t) jH (fp hb) (.inr hb)
    (λw t d ops hj h1 h2 h3 h4=>⟨hj.1.trans (eR _ _ _ d),hj.2.1.trans (eR _ _ _ d),hj.2.2.still d (λop hop=>(h1 op hop).1) (h2 _) h3 h4⟩)
    (λw t hj=>by obtain⟨s,r,tm,e⟩:=hj.2.2.chan;exact⟨zf e,.run hb⟩)
    (λhr=>by cases hr) (λ_ gs w sl t q hC h0 hc hj=>?_) gs w sl t q hC h0 hc ⟨k8,nj,en⟩
   obtain⟨k8,nj,en⟩:=hj;obtain⟨gs',e1,e2,e3,e4⟩:=jX (sl:=sl) hC h0 hc (h1 w nj);obtain⟨k1,k2⟩:=en.stepG (fn:=b.frame.fn) (pos:=b.frame.place) hY (h2 w nj);obtain⟨s,r,tm,hch⟩:=k1.chan;rw[woken_recv_open _ _ hch]at e3;exact⟨_,_,e1,ih w nj g bk wM hM gs' _ sl _ q e2 e3 e4 (k8.trans k2) (bN.refl _ _ _) k1⟩
theorem MR (hY:Lay Q Shun c ch Low ro){v:Value}{vs:List Value}(hK:Cm P Q Shun c ch Low ro X z Fin fU w0 vs){bk:Nat→Prop}{a:Goroutine}{wM:World}
 (hM:ai P true ro (ik P ch z (zb P ro ch z Fin (v::vs))) bk a wM):∀(g:Goroutine) (z':Value) (aK:Nat→Prop) (wG:World),jw P ro ch fU vs aK (Conc.served (core g) undef) wG→
   ∀gs w sl t q,dW P c t gs q→gs[0]?=some a→gs[c]?=some (parked (core g) #[scase ch v z'] .send)→bN ro bk wM w→bN ro aK wG w→kI Q Shun c ch Low ro bk aK X false w0 w t→
   Reach P (crowd gs w sl) t (Jy P Q Shun c ch Low ro X z Fin fU w0):=by
 induction hM with
 | @stop bk a wM hS=>
   intro g z' aK wG hG gs w sl t q hC h0 hc k8 nj en;have ha:a.status=.running:=(hS wM (bN.refl _ _ _)).1;refine gM (J:=λw t=>bN ro bk wM w∧bN ro aK wG w∧kI Q Shun c ch Low ro bk aK X false w0 w t) (fp ha) jH (.inl ha)
    (λw t d ops hj h1 h2 h3 h4=>⟨hj.1.trans (eR _ _ _ d),hj.2.1.trans (eR _ _ _ d),hj.2.2.still d (λop hop=>(h1 op hop).1) (h2 _) h3 h4⟩)
    (λw t hj=>by obtain⟨s,r,tm,e⟩:=hj.2.2.chan;exact⟨.run ha,zg e⟩)
    (λ_ gs w sl t q hC h0 hc hj=>?_) (λhr=>by cases hr) gs w sl t q hC h0 hc ⟨k8,nj,en⟩
   obtain⟨k8,nj,en⟩:=hj;obtain⟨s,r,tm,hch⟩:=en.chan;obtain⟨_,hst,qT⟩:=hS w k8;obtain⟨gs',u,e1,e2,e3,e4,e5⟩:=uC (sl:=sl) hC h0 hc hst hch;exact⟨_,_,e1,hK gs' _ sl _ q bk aK _ _ e3 e4 e5 (cv.2 ((cv.1 qT).rely (jN (en.Y4 hY) hY.Jx))) (cY.2 ((cY.1 hG).rely (nj.trans (jN (en.chG hY) hY.Jx)))) (en.meet hY hch e2)⟩
 | @step bk a wM nx nw ne ha h1 h2 _ ih=>
   intro g z' aK wG hG gs w sl t q hC h0 hc k8 nj en;refine gM (J:=λw t=>bN ro bk wM w∧bN ro aK wG w∧kI Q Shun c ch Low ro bk aK X false w0 w t) (fp ha) jH (.inl ha)
    (λw t d ops hj h1 h2 h3 h4=>⟨hj.1.trans (eR _ _ _ d),hj.2.1.trans (eR _ _ _ d),hj.2.2.still d (λop hop=>(h1 op hop).1) (h2 _) h3 h4⟩)
    (λw t hj=>by obtain⟨s,r,tm,e⟩:=hj.2.2.chan;exact⟨.run ha,zg e⟩)
    (λ_ gs w sl t q hC h0 hc hj=>?_) (λhr=>by cases hr) gs w sl t q hC h0 hc ⟨k8,nj,en⟩
   obtain⟨k8,nj,en⟩:=hj;obtain⟨gs',e1,e2,e3,e4⟩:=qP (sl:=sl) hC h0 hc (h1 w k8);obtain⟨k1,k2⟩:=en.MP (fn:=a.frame.fn) (pos:=a.frame.place) hY (h2 w k8);obtain⟨s,r,tm,hch⟩:=k1.chan;rw[woken_send_open _ _ hch]at e4;exact⟨_,_,e1,ih w k8 g z' aK wG hG gs' _ sl _ q e2 e3 e4 (bN.refl _ _ _) (nj.trans k2) k1⟩
theorem zh (hY:Lay Q Shun c ch Low ro){vs:List Value}(hK:∀v vs',vs=v::vs'→Cm P Q Shun c ch Low ro X z Fin fU w0 vs'){bk:Nat→Prop}{a:Goroutine}{wM:World}
 (hM:ai P true ro (ik P ch z (zb P ro ch z Fin vs)) bk a wM)
 (H0:∀aK b wG,ai P false ro (StopG P ro ch fU vs) aK b wG→∀gs w sl t q,dW P c t gs q→gs[0]?=some a→gs[c]?=some b→bN ro bk wM w→bN ro aK wG w→kI Q Shun c ch Low ro bk aK X false w0 w t→∃m' ops,runT P (crowd gs w sl) 0=(.next m',ops)∧Reach P m' (t++ops) (Jy P Q Shun c ch Low ro X z Fin fU w0))
 {aK:Nat→Prop}{b:Goroutine}{wG:World}(hG:ai P false ro (StopG P ro ch fU vs) aK b wG):
  ∀gs w sl t q,dW P c t gs q→gs[0]?=some a→gs[c]?=some b→bN ro bk wM w→bN ro aK wG w→kI Q Shun c ch Low ro bk aK X false w0 w t→
  Reach P (crowd gs w sl) t (Jy P Q Shun c ch Low ro X z Fin fU w0):=by
 have ha:a.status=.running:=hM.running λ_ _ _ h=>h.1
 induction hG with
 | @stop aK b wG hS=>
   intro gs w sl t q hC h0 hc k8 nj en;have hb:b.status=.running:=(hS wG (bN.refl _ _ _)).running;refine gM (J:=λw t=>bN ro bk wM w∧bN ro aK wG w∧kI Q Shun c ch Low ro bk aK X false w0 w t) (fp ha) (fp hb) (.inr hb)
    (λw t d ops hj h1 h2 h3 h4=>⟨hj.1.trans (eR _ _ _ d),hj.2.1.trans (eR _ _ _ d),hj.2.2.still d (λop hop=>(h1 op hop).1) (h2 _) h3 h4⟩)
    (λw t hj=>⟨.run ha,.run hb⟩)
    (λ_ gs w sl t q hC h0 hc hj=>H0 aK b wG (.stop hS) gs w sl t q hC h0 hc hj.1 hj.2.1 hj.2.2) (λ_ gs w sl t q hC h0 hc hj=>?_) gs w sl t q hC h0 hc ⟨k8,nj,en⟩
   obtain⟨k8,nj,en⟩:=hj;obtain⟨s,r,tm,hch⟩:=en.chan;cases vs with
   |nil=>
    obtain⟨_,hmw,g₂,hg2,hx⟩:=hS w nj;obtain⟨hst,sJ⟩:=hx s r tm hch;obtain⟨gs',e1,e2,e3,e4⟩:=jX (sl:=sl) hC h0 hc hst;rw[woken_run ha]at e3;exact⟨_,_,e1,.here ⟨gs',_,sl,q,bk,aK,_,_,t,_,_,rfl,e2,e3,e4,hg2,cv.2 (hM.rely (k8.trans (jN (en.Y4 hY) hY.Jx))),sJ,en.close hY hch,rfl,en.ze⟩⟩
   |cons v vs'=>
    obtain⟨_,z',hst,qT⟩:=hS w nj;obtain⟨gs',e1,e2,e3,e4⟩:=uB (sl:=sl) hC h0 hc (by simp[ha]) hst hch;exact⟨_,_,e1,MR hY (hK v vs' rfl) hM b z' aK w qT gs' w sl _ q e2 e3 e4 k8 (bN.refl _ _ _) (by simpa using en)⟩
 | @step aK b wG nx nw ne hb h1 h2 h3 ih=>
   intro gs w sl t q hC h0 hc k8 nj en;refine gM (J:=λw t=>bN ro bk wM w∧bN ro aK wG w∧kI Q Shun c ch Low ro bk aK X false w0 w t) (fp ha) (fp hb) (.inr hb)
    (λw t d ops hj h1 h2 h3 h4=>⟨hj.1.trans (eR _ _ _ d),hj.2.1.trans (eR _ _ _ d),hj.2.2.still d (λop hop=>(h1 op hop).1) (h2 _) h3 h4⟩)
    (λw t hj=>⟨.run ha,.run hb⟩)
    (λ_ gs w sl t q hC h0 hc hj=>H0 aK b wG (.step nx nw ne hb h1 h2 h3) gs w sl t q hC h0 hc hj.1 hj.2.1 hj.2.2) (λ_ gs w sl t q hC h0 hc hj=>?_) gs w sl t q hC h0 hc ⟨k8,nj,en⟩
   obtain⟨k8,nj,en⟩:=hj;obtain⟨gs',e1,e2,e3,e4⟩:=jX (sl:=sl) hC h0 hc (h1 w nj);obtain⟨k1,k2⟩:=en.stepG (fn:=b.frame.fn) (pos:=b.frame.place) hY (h2 w nj);rw[woken_run ha]at e3;exact⟨_,_,e1,ih w nj gs' _ sl _ q e2 e3 e4 (k8.trans k2) (bN.refl _ _ _) k1⟩
theorem Cn (hY:Lay Q Shun c ch Low ro){vs:List Value}(hK:∀v vs',vs=v::vs'→Cm P Q Shun c ch Low ro X z Fin fU w0 vs'){bk:Nat→Prop}{a:Goroutine}{wM:World}
 (hM:ai P true ro (ik P ch z (zb P ro ch z Fin vs)) bk a wM):∀(aK:Nat→Prop) (b:Goroutine) (wG:World),ai P false ro (StopG P ro ch fU vs) aK b wG→
   ∀gs w sl t q,dW P c t gs q→gs[0]?=some a→gs[c]?=some b→bN ro bk wM w→bN ro aK wG w→kI Q Shun c ch Low ro bk aK X false w0 w t→
   Reach P (crowd gs w sl) t (Jy P Q Shun c ch Low ro X z Fin fU w0):=by
 induction hM with
 | @stop bk a wM hS=>
   intro aK b wG hG;refine zh hY hK (.stop hS) (λaK b wG hG gs w sl t q hC h0 hc k8 nj en=>?_) hG;obtain⟨s,r,tm,hch⟩:=en.chan;have hb:b.status=.running:=hG.running λ_ _ _ h=>h.running;obtain⟨gs',e1,e2,e3,e4⟩:=uA (sl:=sl) hC h0 hc (by simp[hb]) (hS w k8).2.1 hch;exact⟨_,_,e1,MQ hY hK hG a bk wM hS gs' w sl _ q e2 e3 e4 k8 nj (by simpa using en)⟩
 | @step bk a wM nx nw ne ha h1 h2 h3 ih=>
   intro aK b wG hG;refine zh hY hK (.step nx nw ne ha h1 h2 h3) (λaK b wG hG gs w sl t q hC h0 hc k8 nj en=>?_) hG;have hb:b.status=.running:=hG.running λ_ _ _ h=>h.running;obtain⟨gs',e1,e2,e3,e4⟩:=qP (sl:=sl) hC h0 hc (h1 w k8);obtain⟨k1,k2⟩:=en.MP (fn:=a.frame.fn) (pos:=a.frame.place) hY (h2 w k8);rw[woken_run hb]at e4;exact⟨_,_,e1,ih w k8 aK b wG hG gs' _ sl _ q e2 e3 e4 (bN.refl _ _ _) (nj.trans k2) k1⟩
theorem MS (hY:Lay Q Shun c ch Low ro):∀vs,Cm P Q Shun c ch Low ro X z Fin fU w0 vs
 |[],gs,w,sl,t,q,bk,aK,a,b,hC,h0,hc,hM,hG,en=>Cn hY (λ_ _ e=>by cases e) (cv.1 hM) aK b w (cY.1 hG) gs w sl t q hC h0 hc (bN.refl _ _ _) (bN.refl _ _ _) en
 |v::vs,gs,w,sl,t,q,bk,aK,a,b,hC,h0,hc,hM,hG,en=>Cn hY (λv' vs' e=>by cases e;exact MS hY vs) (cv.1 hM) aK b w (cY.1 hG) gs w sl t q hC h0 hc (bN.refl _ _ _) (bN.refl _ _ _) en
end
end Go.Ren
namespace Go.Ren
open Go Go.Conc
open Go.ConcX (stA Acq)
theorem MT {t:Trace}{g:Nat}{fn:FuncId}{pos:String}{es:Array Event}(j:Nat):(t++MemOp.ofEvents g fn pos es)[t.size+j]?=(es[j]?).map λe=>{ g:=g,fn:=fn,pos:=pos,act:= .ofEvent e }:=by
 rw[Array.getElem?_append_right (by omega),ofEvents_eq,zal]
 congr 2
 omega
theorem nK {t:Trace}{g:Nat}{fn:FuncId}{pos:String}{es:Array Event}(j:Nat):(t++MemOp.ofEvents g fn pos es).act? (t.size+j)=(es[j]?).map MemAct.ofEvent:=by
 unfold Trace.act?
 rw[MT];cases es[j]?<;>rfl
theorem Co {t:Trace}{g:Nat}{fn:FuncId}{pos:String}{es:Array Event}(j:Nat):(t++MemOp.ofEvents g fn pos es).g? (t.size+j)=(es[j]?).map λ_=>g:=by
 unfold Trace.g?
 rw[MT];cases es[j]?<;>rfl
theorem Cp {t:Trace}{g:Nat}{fn:FuncId}{pos:String}{es:Array Event}{j:Nat}{e:Event}(he:es[j]?=some e):(t++MemOp.ofEvents g fn pos es).heard (t.size+j)↔deafBehind (Deaf t g) (es.extract 0 j)=0:=by
 have hj:j≤es.size:=by
  rcases zag j es.size with h|h
  ·omega
  ·rw[zaY h]at he;cases he
 unfold Trace.heard;rw[Co,he];simp only[zaH,zam,exists_eq_left'];rw[deaf_inside t g fn pos es j hj]
theorem sU {s T:Trace}{g g':Nat}{fn:FuncId}{pos:String}{es:Array Event}{j:Nat}{e:Event}(he:es[j]?=some e)(hd:Deaf T g'=Deaf s g):(T++MemOp.ofEvents g' fn pos es).heard (T.size+j)↔(s++MemOp.ofEvents g fn pos es).heard (s.size+j):=by
 rw[Cp he,Cp he,hd]
theorem FA {s T:Trace}{g g':Nat}{fn:FuncId}{pos:String}{es:Array Event}{j:Nat}(hd:Deaf T g'=Deaf s g):(T++MemOp.ofEvents g' fn pos es).counts (T.size+j)→(s++MemOp.ofEvents g fn pos es).counts (s.size+j):=by
 rintro ⟨x,hx,hm,hk⟩;rw[nK]at hx;cases he:es[j]? with
 |none=>rw[he]at hx;simp at hx
 |some e=>exact⟨x,by rw[nK];exact hx,hm,hk.imp id (sU he hd).1⟩
theorem lG {t:Trace}{g:Nat}{fn:FuncId}{pos:String}{es:Array Event}{i:Nat}(hi:t.size≤i)(hlt:i<(t++MemOp.ofEvents g fn pos es).size):∃j e,i=t.size+j∧es[j]?=some e:=by
 rw[ofEvents_eq]at hlt;simp at hlt;exact⟨i-t.size,es[i-t.size]'(by omega),by omega,zaq _⟩
theorem oN {t:Trace}{i g:Nat}(h:t.g? i=some g):i<t.size:=by
 obtain⟨z,hz,_⟩:=zai.1 h;exact lt_size_of_getElem? hz
structure Jz (c Wg:Nat) (T:Trace) (R:Nat):Prop where
 act:T.act? R=some (.mark (.releaseMerge (stA Wg)))
 g:T.g? R=some c
 heard:T.heard R
 after:∀i,R<i→T.g? i=some c→¬T.counts i
 norel:∀i,R<i→T.act? i≠some (.mark (.release (stA Wg)))
 late:∀i a,R<i→T.g? i=some c→touchAt T i=some a→∃ad,a.loc=.cell ad∧ad.block=Wg
def QR (c Wg:Nat)(u:Trace):Prop:=∀op∈u,op.act≠.mark (.release (stA Wg))∧(op.g=c→∀x,op.act.touch? =some x→∃ad,x.loc=.cell ad∧ad.block=Wg)
theorem Jz.app {c Wg:Nat}{T u:Trace}{R:Nat}(h:Jz c Wg T R)(hu:QR c Wg u)(hc:∀i,T.size≤i→(T++u).g? i=some c→¬(T++u).counts i):Jz c Wg (T++u) R:=by
 have hR:=lt_of_act? h.act;refine⟨by rw[act?_old hR];exact h.act,by rw[g?_old hR];exact h.g,(heard_old hR).2 h.heard,λi hi hg BI=>?_,λi hi e=>?_,λi a hi hg ha=>?_⟩
 ·rcases zag i T.size with hlt|i6
  ·exact h.after i hi (by rw[←g?_old (u:=u) hlt];exact hg) ((counts_old hlt).1 BI)
  ·exact hc i i6 hg BI
 ·obtain⟨op,ho,QT⟩:=zai.1 e;rcases getElem?_append_cases ho with⟨_,Hs⟩|⟨_,Uu⟩
  ·exact h.norel i hi (by rw[act?_of Hs,QT])
  ·exact(hu op Uu).1 QT
 ·obtain⟨op,ho,QT⟩:=touch_of ha;rcases getElem?_append_cases ho with⟨hlt,Hs⟩|⟨_,Uu⟩
  ·exact h.late i a hi (by rw[←g?_old (u:=u) hlt];exact hg) (by rw[touchAt_of Hs];exact QT)
  ·exact(hu op Uu).2 (by simpa[Trace.g?,ho]using hg) a QT
def MU (c Wg:Nat)(T:Trace):Prop:=∃R Q,Jz c Wg T R∧T.act? Q=some (.mark (.acquire (stA Wg)))∧T.g? Q=some 0∧T.heard Q∧R<Q
structure GL (c Wg:Nat) (s T:Trace):Prop where
 d0:Deaf T 0=Deaf s 0
 dc:Deaf T c=Deaf s 1
 rel:∀r,Released (stA Wg) s r→∃R,Jz c Wg T R
 acq:Acq Wg s→MU c Wg T
section
variable {c Wg:Nat}{s T u:Trace}
theorem MU.app (h:MU c Wg T)(hu:QR c Wg u)(hc:∀i,T.size≤i→(T++u).g? i=some c→¬(T++u).counts i):MU c Wg (T++u):=by
 obtain⟨R,Q,h1,h2,h3,h4,h5⟩:=h;have hQ:=lt_of_act? h2;exact⟨R,Q,h1.app hu hc,by rw[act?_old hQ];exact h2,by rw[g?_old hQ];exact h3,(heard_old hQ).2 h4,h5⟩
theorem GL.other (h:GL c Wg s T)(hu:∀op∈u,op.act≠.mark (.release (stA Wg))∧(op.g=c→op.act.touch? =none))(h0:Deaf (T++u) 0=Deaf T 0)(hc:Deaf (T++u) c=Deaf T c):GL c Wg s (T++u):=by
 have k:∀i,T.size≤i→(T++u).g? i=some c→¬(T++u).counts i:=by
  rintro i hi hg ⟨x,hx,_⟩;obtain⟨op,ho,hog⟩:=zai.1 hg;rcases getElem?_append_cases ho with⟨hlt,_⟩|⟨_,Uu⟩
  ·omega
  ·rw[act?_of ho]at hx;simp only[zbv]at hx;rw[(hu op Uu).2 hog]at hx;cases hx
 have hm:QR c Wg u:=λop hop=>⟨(hu op hop).1,λe x hx=>by rw[(hu op hop).2 e]at hx;cases hx⟩;exact⟨h0.trans h.d0,hc.trans h.dc,λr hr=>let⟨R,hR⟩:=h.rel r hr;⟨R,hR.app hm k⟩,λha=>(h.acq ha).app hm k⟩
theorem Released.back {t u:Trace}{a:Addr}{r:Nat}(h:Released a (t++u) r)(hr:r<t.size):Released a t r:=
 ⟨by rw[←act?_old (u:=u) hr];exact h.act,by rw[←g?_old (u:=u) hr];exact h.g,(heard_old hr).1 h.heard,λi hi hg hc=>by
   have hlt:=oN hg;exact h.after i hi (by rw[g?_old hlt];exact hg) ((counts_old hlt).2 hc)⟩
theorem uE {e:Event}(a:Addr)(h:MemAct.ofEvent e=.mark (.release a)):e.loc=.mark (.release a):=by
 obtain⟨loc,wr,sy⟩:=e;cases loc<;>cases wr<;>cases sy<;>simp_all [MemAct.ofEvent]
theorem GL.step (hc0:c≠0)(h:GL c Wg s T){g:Nat}(hg:g=0∨g=1){g':Nat}(sj:g'=if g=0 then 0 else c)(fn:FuncId)(pos:String)(es:Array Event)(hn:NoRelease (stA Wg) (s++MemOp.ofEvents g fn pos es))(hq:∀e∈es,∀x,(MemAct.ofEvent e).touch? =some x→∃ad,x.loc=.cell ad∧ad.block=Wg):GL c Wg (s++MemOp.ofEvents g fn pos es) (T++MemOp.ofEvents g' fn pos es):=by
 have hd:Deaf T g'=Deaf s g:=by
  rcases hg with rfl|rfl
  ·rw[sj];exact h.d0
  ·rw[sj];exact h.dc
 have WJ:g'=c↔g=1:=by
  rcases hg with rfl|rfl
  ·rw[sj];simp;exact Ne.symm hc0
  ·rw[sj];simp
 have hnu:QR c Wg (MemOp.ofEvents g' fn pos es):=by
  intro op hop;obtain⟨ev,ic,rfl⟩:=Conc.mem_ofEvents hop;refine⟨λe=>?_,λ_=>hq ev ic⟩;obtain⟨j,hj⟩:=Array.getElem?_of_mem ic;exact hn (s.size+j) (by rw[nK,hj];exact congrArg some e)
 have kc:∀r,Released (stA Wg) (s++MemOp.ofEvents g fn pos es) r→∀j e,es[j]?=some e→r<s.size+j→g'=c→¬(T++MemOp.ofEvents g' fn pos es).counts (T.size+j):=by
  intro r hr j e he hlt PG BI;refine hr.after (s.size+j) hlt ?_ (FA hd BI);rw[Co,he,WJ.1 PG];rfl
 have Yk:∀r,Released (stA Wg) (s++MemOp.ofEvents g fn pos es) r→r<s.size→∀i,T.size≤i→(T++MemOp.ofEvents g' fn pos es).g? i=some c→¬(T++MemOp.ofEvents g' fn pos es).counts i:=by
  intro r hr hlt i hi FB;obtain⟨j,e,rfl,he⟩:=lG hi (oN FB);refine kc r hr j e he (by omega) ?_;rw[Co,he]at FB;simpa using FB
 have Yl:∀r,Released (stA Wg) (s++MemOp.ofEvents g fn pos es) r→∃R,Jz c Wg (T++MemOp.ofEvents g' fn pos es) R∧(r<s.size→R<T.size):=by
  intro r hr;rcases zag r s.size with hlt|i6
  ·obtain⟨R,hR⟩:=h.rel r (Released.back hr hlt);exact⟨R,hR.app hnu (Yk r hr hlt),λ_=>lt_of_act? hR.act⟩
  ·obtain⟨j,e,rfl,he⟩:=lG i6 (oN hr.g);have h1:=hr.act;have h2:=hr.g;rw[nK,he]at h1;rw[Co,he]at h2;have hg1:g=1:=by simpa using h2
   refine⟨T.size+j,⟨by rw[nK,he];exact h1,by rw[Co,he,WJ.2 hg1];rfl,(sU he hd).2 hr.heard,λi hi FB=>?_,λi hi e'=>?_,λi a hi FB ha=>?_⟩,λhlt=>by omega⟩
   ·obtain⟨j',e',rfl,Ym⟩:=lG (by omega) (oN FB);exact kc _ hr j' e' Ym (by omega) (WJ.2 hg1)
   ·obtain⟨j',e'',rfl,Yn⟩:=lG (by omega) (lt_of_act? e');rw[nK,Yn]at e';exact hn (s.size+j') (by rw[nK,Yn];exact e')
   ·obtain⟨op,ho,QT⟩:=touch_of ha;rcases getElem?_append_cases ho with⟨hlt,_⟩|⟨_,Uu⟩
    ·omega
    ·obtain⟨ev,ic,rfl⟩:=Conc.mem_ofEvents Uu;exact hq ev ic a QT
 refine⟨?_,?_,λr hr=>let⟨R,hR,_⟩:=Yl r hr;⟨R,hR⟩,?_⟩
 ·rcases hg with rfl|rfl
  ·rw[if_pos rfl]at sj;subst sj;rw[Deaf_own,Deaf_own,h.d0]
  ·rw[if_neg (by decide)]at sj;subst sj;rw[Deaf_other T hc0 _ ofEvents_g,Deaf_other s (by decide) _ ofEvents_g,h.d0]
 ·rcases hg with rfl|rfl
  ·rw[if_pos rfl]at sj;subst sj;rw[Deaf_other T (Ne.symm hc0) _ ofEvents_g,Deaf_other s (by decide) _ ofEvents_g,h.dc]
  ·rw[if_neg (by decide)]at sj;subst sj;rw[Deaf_own,Deaf_own,h.dc]
 ·rintro ⟨q,r,hr,hq,Y5,hh,hrq⟩;rcases zag q s.size with hlt|i6
  ·have nE:=Released.back hr (by omega);exact(h.acq ⟨q,r,nE,by rw[←act?_old hlt];exact hq,by rw[←g?_old hlt];exact Y5,(heard_old hlt).1 hh,hrq⟩).app hnu (Yk r hr (by omega))
  ·obtain⟨j,e,rfl,he⟩:=lG i6 (oN Y5);rw[Co,he]at Y5;have hg0:g=0:=by simpa using Y5
   have nE:r<s.size:=by
    rcases zag r s.size with hlt|acx
    ·exact hlt
    ·obtain⟨j',e',rfl,Ym⟩:=lG acx (oN hr.g);have:=hr.g;rw[Co,Ym,hg0]at this;simp at this
   obtain⟨R,hR,hlt⟩:=Yl r hr;refine⟨R,T.size+j,hR,?_,?_,(sU he hd).2 hh,by have:=hlt nE;omega⟩
   ·rw[nK,he]at hq ⊢;exact hq
   ·rw[Co,he,sj];simp[hg0]
end
end Go.Ren
set_option linter.unusedSectionVars false
namespace Go.Ren
open Go Go.Conc
open Go.ConcX (Payload Shy stA smA Base CA JInv RCa RCd DCs AtR0 RPa DPi AtKd PA KK WgAt ChanAt Full Aside2 runTX JT CAOut)
section
variable [Payload] {P:Program}{ty:TypeId}{Wg C Low:Nat} [Shy Wg C] {vals:List Value}{Mine:Loc→Prop}
def Half (P:Program)(ty:TypeId)(Wg C Low:Nat) [Shy Wg C] (vals:List Value)(Mine:Loc→Prop)(μ:Nat×Nat)(b:Goroutine)(w:World)(s:Trace):Prop:=
 (∃p d1 rc mc rel cl sent vs,μ=(rc,mc)∧sent++vs=vals∧Base Mine ty Wg C vals.length KK 0 sent.toArray cl sent.length 0 0 d1 rel w s p∧CA P ty Wg C Low vals Mine rc d1 rel vs cl mc b w)∨
 (∃p d1 q,μ=(0,q)∧Base Mine ty Wg C vals.length 0 0 vals.toArray true vals.length 0 0 d1 true w s p∧QuitsD P q d1 b)
theorem wy {a b:Goroutine}{w:World}{m':Machine}{ops:Array MemOp}(h:runTX P (duo a b w none) 1=(.next m',ops)):∃b' w' es,stepG P false b w=.go b' w' es∧m'=duo (Conc.woken P b b' w' a) b' w' none∧ops=MemOp.ofEvents 1 b.frame.fn b.frame.place es:=by
 rw[duo_eq_crowd]at h;obtain⟨g,g',w',es,hg,hs,hm,ho⟩:=Go.ConcX.runTX_next h;obtain rfl:b=g:=by simpa using hg
 exact⟨g',w',es,hs,by rw[hm];simp[crowd,duo],ho⟩
theorem Half.status {μ:Nat×Nat}{b:Goroutine}{w:World}{s:Trace}(h:Half P ty Wg C Low vals Mine μ b w s):b.status=.running∨b.status=.finished:=by
 rcases h with⟨_,_,_,_,_,_,_,_,_,_,_,hc⟩|⟨_,_,_,_,_,hq⟩
 ·exact .inl hc.running
 ·exact hq.status
theorem Half.jt {μ:Nat×Nat}{b:Goroutine}{w:World}{s:Trace}(h:Half P ty Wg C Low vals Mine μ b w s):∃p,JT Mine Wg C s p:=by
 rcases h with⟨p,_,_,_,_,_,_,_,_,_,hB,_⟩|⟨p,_,_,_,hB,_⟩
 ·exact⟨p,hB.jt⟩
 ·exact⟨p,hB.jt⟩
theorem Half.woken {μ:Nat×Nat}{b:Goroutine}{w w':World}{s:Trace}(h:Half P ty Wg C Low vals Mine μ b w s)(x x':Goroutine):Conc.woken P x x' w' b=b:=by
 rcases h with⟨_,_,_,_,_,_,_,_,_,_,_,hc⟩|⟨_,_,_,_,_,hq⟩
 ·exact woken_run hc.running
 ·exact woken_quitsD hq
theorem Half.rely (hW:Wg<Low)(hC:C<Low){μ:Nat×Nat}{b:Goroutine}{w w':World}{s:Trace}(h:Half P ty Wg C Low vals Mine μ b w s)(hr:∀b,b<Low→w'.heap[b]?=w.heap[b]?):Half P ty Wg C Low vals Mine μ b w' s:=by
 rcases h with⟨p,d1,rc,mc,rel,cl,sent,vs,e,hs,hB,hc⟩|⟨p,d1,q,e,hB,hq⟩
 ·exact .inl ⟨p,d1,rc,mc,rel,cl,sent,vs,e,hs,⟨hB.wg.of_block (hr Wg hW),hB.ch.of_block (hr C hC),hB.jt,hB.deaf0,hB.deaf1,hB.noacq,hB.rel⟩,hc.rely (Go.ConcX.RCd.toA hW hr)⟩
 ·exact .inr ⟨p,d1,q,e,⟨hB.wg.of_block (hr Wg hW),hB.ch.of_block (hr C hC),hB.jt,hB.deaf0,hB.deaf1,hB.noacq,hB.rel⟩,hq⟩
theorem Half.move (hCW:C≠Wg){μ:Nat×Nat}{b:Goroutine}{w:World}{s:Trace}(h:Half P ty Wg C Low vals Mine μ b w s)(hb:b.status=.running):∃b' w' es nL,stepG P false b w=.go b' w' es∧Aside2 C Wg w w'∧Lt2 nL μ∧Half P ty Wg C Low vals Mine nL b' w' (s++MemOp.ofEvents 1 b.frame.fn b.frame.place es):=by
 rcases h with⟨p,d1,rc,mc,rel,cl,sent,vs,rfl,hs,hB,hc⟩|⟨p,d1,q,rfl,hB,hq⟩
 ·obtain⟨a',b',w',ops,hrun,_,hA,hout⟩:=Go.ConcX.CA.move hCW (a:=ph) (sl:=none) (.inl rfl) hs hB hc (.inl (by simp[ph]));obtain⟨b2,w2,es,hst,hm,rfl⟩:=wy hrun;obtain⟨_,rfl,rfl,_⟩:=Go.ConcX.duo_inj hm;cases hout with
  |stay rc' d1' rel' Yo vs' cl' mc' hl hs' MV hc'=>exact⟨b',w',es,(rc',mc'),hst,hA,hl,.inl ⟨p,d1',rc',mc',rel',cl',Yo,vs',rfl,hs',MV,hc'⟩⟩
  |lone q _ MV hq=>exact⟨b',w',es,(0,q),hst,hA,.left _ _ (by have:=hc.rank_pos;omega),.inr ⟨p,1,q,rfl,MV,hq⟩⟩
  |met m e _ _=>exact absurd e Go.ConcX.kk1_ne
 ·obtain⟨b',ops,q',d1',hrun,hlt,MV,hq',_⟩:=Go.ConcX.cq_move (a:=ph) (sl:=none) hB hq hb;obtain⟨b2,w2,es,hst,hm,rfl⟩:=wy hrun;obtain⟨_,rfl,rfl,_⟩:=Go.ConcX.duo_inj hm;exact⟨b',w,es,(0,q'),hst,.refl w,.right _ hlt,.inr ⟨p,d1',q',rfl,MV,hq'⟩⟩
theorem Half.inv {AnchW:Goroutine→World→Prop}{Post:Value→World→Prop}{μ:Nat×Nat}{a b:Goroutine}{w:World}{s:Trace}{sl:Option (Nat×Nat)}(h:Half P ty Wg C Low vals Mine μ b w s){m:Nat}(hp:Goes P true (RPa ty Wg C vals) (DPi Mine Wg C Low) (AtKd P ty Wg C Low vals Mine AnchW) m a w):∃nL,JInv P ty Wg C Low vals Mine AnchW Post nL (duo a b w sl) s:=by
 rcases h with⟨p,d1,rc,mc,rel,cl,sent,vs,rfl,hs,hB,hc⟩|⟨p,d1,q,rfl,hB,hq⟩
 ·exact⟨_,.a a b w sl s p 0 d1 rc mc 4 m rel cl sent vs hs hB (.kd hp) hc⟩
 ·exact⟨_,.c a b w sl s p 0 d1 q 4 m hB (.kd hp) hq⟩
def JA:Trace:=((#[]:Trace).push { g:=0,fn:=0,pos:= "",act:= .go 1 }).push { g:=1,fn:=0,pos:= "",act:= .start }
theorem Half.init {b:Goroutine}{w:World}{n:Nat}(hw:WgAt ty Wg w KK 0)(hG:Goes P false (RCa ty Wg Low) (DCs Mine Wg C) (AtR0 P ty Wg C Low vals) n b w):Half P ty Wg C Low vals Mine (7,n) b w JA:=by
 obtain⟨h1,h2,h3,h4⟩:=Go.ConcX.JT.init (Mine:=Mine) (Go.ConcX.ST.nil (Wg:=Wg) (C:=C)) (x:={ g:=0,fn:=0,pos:= "",act:= .go 1 }) (y:={ g:=1,fn:=0,pos:= "",act:= .start }) ⟨rfl,rfl⟩ ⟨rfl,rfl⟩;exact .inl ⟨_,0,7,n,false,false,vals,[],rfl,by simp,⟨hw,(λe=>by cases e),h1,h2,h3,(λ_=>h4),(λe=>by cases e)⟩,.r0 hG⟩
end
theorem JB:Deaf JA 0=0:=by simp[JA,Deaf,Trace.deaf]
theorem JC:Deaf JA 1=0:=by simp[JA,Deaf,Trace.deaf]
theorem zi {a:Addr}{r:Nat}(h:Released a JA r):False:=by
 have:=h.act;have hlt:=lt_of_act? this;have h2:r<2:=hlt
 match r,h2 with
 |0,_=>simp[JA,Trace.act?]at this
 |1,_=>simp[JA,Trace.act?]at this
theorem GL.init {c Wg:Nat}{T:Trace}(h0:Deaf T 0=0)(hc:Deaf T c=0):GL c Wg JA T:=
 ⟨by rw[h0,JB],by rw[hc,JC],λr hr=>(zi hr).elim,λ⟨_,_,hr,_⟩=>(zi hr).elim⟩
end Go.Ren
