import Derived.Conc.FxMachine2
import Derived.Conc.FxFork
import Derived.Test.YtlhimdjkkiflhaaGreatReads09
set_option maxHeartbeats 8000000
set_option maxRecDepth 100000
open Go.MemOp renaming ofEvents→Γ
open Go renaming Goroutine→Δ,Trace→Θ,World→Λ,Program→Φ,Value→Ω,FuncId→ζ,Event→η,TypeId→θ,stepG→ι
open Go.MemAct renaming ofEvent→Ξ
namespace Go.Ren
open Go Go.Conc
def I6 (P:Φ)(Q Shun:Loc→Prop)(c ch Low:Nat)(ro X:Nat→Prop)(z:Ω)(Fin fW:(Nat→Prop)→Δ→Λ→Prop)(w0:Λ)(m:Machine)(t:Θ):Prop:=
 ∃gs w sl q bq aL a b t₁ fn pos,m=crowd gs w sl∧ew P c t gs q∧gs[0]?=some a∧gs[c]?=some b∧b.status=.running∧lF P ro ch z Fin [] bq a w∧fW aL b w∧lh Q Shun c ch Low ro bq aL X true w0 w t∧t=t₁++Γ c fn pos (gJ ch)∧Deaf t c=0
section
variable {P:Φ}{Q Shun:Loc→Prop}{c ch Low:Nat}{ro X:Nat→Prop}{z:Ω}{Fin fW:(Nat→Prop)→Δ→Λ→Prop}{w0:Λ}
variable (P Q Shun c ch Low ro X z Fin fW w0) in
def CF (vs:List Ω):Prop:=∀gs w sl t q bq aL a b,ew P c t gs q→gs[0]?=some a→gs[c]?=some b→lF P ro ch z Fin vs bq a w→jU P ro ch fW vs aL b w→lh Q Shun c ch Low ro bq aL X false w0 w t→Reach P (crowd gs w sl) t (I6 P Q Shun c ch Low ro X z Fin fW w0)
theorem iA.again {Next:(Nat→Prop)→Δ→Λ→Prop}{own:Nat→Prop}{g:Δ}{w:Λ}(h:iA P ch z Next own g w):iA P ch z Next own { parked (core g) #[rcase ch z] (.recv true)with status:= .running } w:=by
 have e:ι P true { parked (core g) #[rcase ch z] (.recv true)with status:= .running } w=ι P true g w:=stepG_same rfl rfl rfl w;exact⟨rfl,by rw[e];exact h.2.1,h.2.2⟩
theorem fu {g:Δ}(h:g.status=.running):awake g:=awake_of (.inl h)
theorem kj {g:Δ}{cs:Array CommCase}{sh:CommShape}:awake (parked g cs sh):=awake_of (.inr (.inl rfl))
theorem zw {g:Δ}{w:Λ}{s r:Nat}{tm:Bool}(hc:w.heap[ch]?=some (.chan 0 #[] false s r tm)):Cv P w (parked g #[rcase ch z] (.recv true)):=λx x' d=>woken_recv_open x x' (w:=w.at d) hc
theorem zx {g:Δ}{w:Λ}{s r:Nat}{tm:Bool}{v z':Ω}(hc:w.heap[ch]?=some (.chan 0 #[] false s r tm)):Cv P w (parked g #[scase ch v z'] .send):=λx x' d=>woken_send_open x x' (w:=w.at d) hc
theorem LH (hY:Lay Q Shun c ch Low ro){vs:List Ω}(hK:∀v vs',vs=v::vs'→CF P Q Shun c ch Low ro X z Fin fW w0 vs'){aL:Nat→Prop}{b:Δ}{wG:Λ}
 (hG:af P false ro (StopG P ro ch fW vs) aL b wG):∀(g:Δ) (bq:Nat→Prop) (wM:Λ),(∀w₁,bW ro bq wM w₁→iA P ch z (zu P ro ch z Fin vs) bq g w₁)→
   ∀gs w sl t q,ew P c t gs q→gs[0]?=some (parked (core g) #[rcase ch z] (.recv true))→gs[c]?=some b→bW ro bq wM w→bW ro aL wG w→lh Q Shun c ch Low ro bq aL X false w0 w t→
   Reach P (crowd gs w sl) t (I6 P Q Shun c ch Low ro X z Fin fW w0):=by
 induction hG with
 | @stop aL b wG hS=>
   intro g bq wM hM gs w sl t q hC h0 hc lG pA eH;have hb:b.status=.running:=(hS wG (bW.refl _ _ _)).running;refine gW (J:=λw t=>bW ro bq wM w∧bW ro aL wG w∧lh Q Shun c ch Low ro bq aL X false w0 w t) kj (fu hb) (.inr hb)
    (λw t d ops hj h1 h2 h3 h4=>⟨hj.1.trans (eW _ _ _ d),hj.2.1.trans (eW _ _ _ d),hj.2.2.still d (λop hop=>(h1 op hop).1) (h2 _) h3 h4⟩)
    (λw t hj=>by obtain⟨s,r,tm,e⟩:=hj.2.2.chan;exact⟨zw e,.run hb⟩)
    (λhr=>by cases hr) (λ_ gs w sl t q hC h0 hc hj=>?_) gs w sl t q hC h0 hc ⟨lG,pA,eH⟩
   obtain⟨lG,pA,eH⟩:=hj;obtain⟨s,r,tm,hch⟩:=eH.chan;cases vs with
   |nil=>
    obtain⟨_,hmw,g₂,hg2,hx⟩:=hS w pA;obtain⟨hst,lD⟩:=hx s r tm hch;obtain⟨gs',e1,e2,e3,e4⟩:=kF (sl:=sl) hC h0 hc hst;refine⟨_,_,e1,.here ⟨gs',_,sl,q,bq,aL,_,_,t,_,_,rfl,e2,e3,e4,hg2,?_,lD,eH.close hY hch,rfl,eH.zv⟩⟩;have hw:woken P b g₂ (w.setChan ch 0 #[] true s r tm) (parked (core g) #[rcase ch z] (.recv true))={ parked (core g) #[rcase ch z] (.recv true)with status:= .running }:=by
     unfold woken;rw[zac (by simp[hmw,hg2])];exact again_recv_closed (heap_put hch)
    rw[hw];exact cE.2 (.stop λw₂ h₂=>(hM w₂ ((lG.trans (kr (eH.chM hY) hY.I5)).trans h₂)).again)
   |cons v vs'=>
    obtain⟨_,z',hst,qZ⟩:=hS w pA;obtain⟨gs',u,e1,e2,e3,e4,e5⟩:=uL (sl:=sl) hC h0 hc hst hch;exact⟨_,_,e1,hK v vs' rfl gs' _ sl _ q bq aL _ _ e3 e4 e5 (cE.2 ((cE.1 (hM w lG).2.2).rely (kr (eH.chM hY) hY.I5))) (dM.2 ((dM.1 qZ).rely (kr (eH.chG hY) hY.I5))) (eH.meet hY hch e2)⟩
 | @step aL b wG nx nw ne hb h1 h2 _ ih=>
   intro g bq wM hM gs w sl t q hC h0 hc lG pA eH;refine gW (J:=λw t=>bW ro bq wM w∧bW ro aL wG w∧lh Q Shun c ch Low ro bq aL X false w0 w t) kj (fu hb) (.inr hb)
    (λw t d ops hj h1 h2 h3 h4=>⟨hj.1.trans (eW _ _ _ d),hj.2.1.trans (eW _ _ _ d),hj.2.2.still d (λop hop=>(h1 op hop).1) (h2 _) h3 h4⟩)
    (λw t hj=>by obtain⟨s,r,tm,e⟩:=hj.2.2.chan;exact⟨zw e,.run hb⟩)
    (λhr=>by cases hr) (λ_ gs w sl t q hC h0 hc hj=>?_) gs w sl t q hC h0 hc ⟨lG,pA,eH⟩
   obtain⟨lG,pA,eH⟩:=hj;obtain⟨gs',e1,e2,e3,e4⟩:=kF (sl:=sl) hC h0 hc (h1 w pA);obtain⟨k1,k2⟩:=eH.stepG (fn:=b.frame.fn) (pos:=b.frame.place) hY (h2 w pA);obtain⟨s,r,tm,hch⟩:=k1.chan;rw[woken_recv_open _ _ hch]at e3;exact⟨_,_,e1,ih w pA g bq wM hM gs' _ sl _ q e2 e3 e4 (lG.trans k2) (bW.refl _ _ _) k1⟩
theorem LI (hY:Lay Q Shun c ch Low ro){v:Ω}{vs:List Ω}(hK:CF P Q Shun c ch Low ro X z Fin fW w0 vs){bq:Nat→Prop}{a:Δ}{wM:Λ}
 (hM:af P true ro (iA P ch z (zu P ro ch z Fin (v::vs))) bq a wM):∀(g:Δ) (z':Ω) (aL:Nat→Prop) (wG:Λ),jU P ro ch fW vs aL (Conc.served (core g) undef) wG→
   ∀gs w sl t q,ew P c t gs q→gs[0]?=some a→gs[c]?=some (parked (core g) #[scase ch v z'] .send)→bW ro bq wM w→bW ro aL wG w→lh Q Shun c ch Low ro bq aL X false w0 w t→
   Reach P (crowd gs w sl) t (I6 P Q Shun c ch Low ro X z Fin fW w0):=by
 induction hM with
 | @stop bq a wM hS=>
   intro g z' aL wG hG gs w sl t q hC h0 hc lG pA eH;have ha:a.status=.running:=(hS wM (bW.refl _ _ _)).1;refine gW (J:=λw t=>bW ro bq wM w∧bW ro aL wG w∧lh Q Shun c ch Low ro bq aL X false w0 w t) (fu ha) kj (.inl ha)
    (λw t d ops hj h1 h2 h3 h4=>⟨hj.1.trans (eW _ _ _ d),hj.2.1.trans (eW _ _ _ d),hj.2.2.still d (λop hop=>(h1 op hop).1) (h2 _) h3 h4⟩)
    (λw t hj=>by obtain⟨s,r,tm,e⟩:=hj.2.2.chan;exact⟨.run ha,zx e⟩)
    (λ_ gs w sl t q hC h0 hc hj=>?_) (λhr=>by cases hr) gs w sl t q hC h0 hc ⟨lG,pA,eH⟩
   obtain⟨lG,pA,eH⟩:=hj;obtain⟨s,r,tm,hch⟩:=eH.chan;obtain⟨_,hst,qZ⟩:=hS w lG;obtain⟨gs',u,e1,e2,e3,e4,e5⟩:=uK (sl:=sl) hC h0 hc hst hch;exact⟨_,_,e1,hK gs' _ sl _ q bq aL _ _ e3 e4 e5 (cE.2 ((cE.1 qZ).rely (kr (eH.chM hY) hY.I5))) (dM.2 ((dM.1 hG).rely (pA.trans (kr (eH.chG hY) hY.I5)))) (eH.meet hY hch e2)⟩
 | @step bq a wM nx nw ne ha h1 h2 _ ih=>
   intro g z' aL wG hG gs w sl t q hC h0 hc lG pA eH;refine gW (J:=λw t=>bW ro bq wM w∧bW ro aL wG w∧lh Q Shun c ch Low ro bq aL X false w0 w t) (fu ha) kj (.inl ha)
    (λw t d ops hj h1 h2 h3 h4=>⟨hj.1.trans (eW _ _ _ d),hj.2.1.trans (eW _ _ _ d),hj.2.2.still d (λop hop=>(h1 op hop).1) (h2 _) h3 h4⟩)
    (λw t hj=>by obtain⟨s,r,tm,e⟩:=hj.2.2.chan;exact⟨.run ha,zx e⟩)
    (λ_ gs w sl t q hC h0 hc hj=>?_) (λhr=>by cases hr) gs w sl t q hC h0 hc ⟨lG,pA,eH⟩
   obtain⟨lG,pA,eH⟩:=hj;obtain⟨gs',e1,e2,e3,e4⟩:=qU (sl:=sl) hC h0 hc (h1 w lG);obtain⟨k1,k2⟩:=eH.LG (fn:=a.frame.fn) (pos:=a.frame.place) hY (h2 w lG);obtain⟨s,r,tm,hch⟩:=k1.chan;rw[woken_send_open _ _ hch]at e4;exact⟨_,_,e1,ih w lG g z' aL wG hG gs' _ sl _ q e2 e3 e4 (bW.refl _ _ _) (pA.trans k2) k1⟩
theorem zy (hY:Lay Q Shun c ch Low ro){vs:List Ω}(hK:∀v vs',vs=v::vs'→CF P Q Shun c ch Low ro X z Fin fW w0 vs'){bq:Nat→Prop}{a:Δ}{wM:Λ}
 (hM:af P true ro (iA P ch z (zu P ro ch z Fin vs)) bq a wM)
 (H0:∀aL b wG,af P false ro (StopG P ro ch fW vs) aL b wG→∀gs w sl t q,ew P c t gs q→gs[0]?=some a→gs[c]?=some b→bW ro bq wM w→bW ro aL wG w→lh Q Shun c ch Low ro bq aL X false w0 w t→∃m' ops,runT P (crowd gs w sl) 0=(.next m',ops)∧Reach P m' (t++ops) (I6 P Q Shun c ch Low ro X z Fin fW w0))
 {aL:Nat→Prop}{b:Δ}{wG:Λ}(hG:af P false ro (StopG P ro ch fW vs) aL b wG):
  ∀gs w sl t q,ew P c t gs q→gs[0]?=some a→gs[c]?=some b→bW ro bq wM w→bW ro aL wG w→lh Q Shun c ch Low ro bq aL X false w0 w t→
  Reach P (crowd gs w sl) t (I6 P Q Shun c ch Low ro X z Fin fW w0):=by
 have ha:a.status=.running:=hM.running λ_ _ _ h=>h.1
 induction hG with
 | @stop aL b wG hS=>
   intro gs w sl t q hC h0 hc lG pA eH;have hb:b.status=.running:=(hS wG (bW.refl _ _ _)).running;refine gW (J:=λw t=>bW ro bq wM w∧bW ro aL wG w∧lh Q Shun c ch Low ro bq aL X false w0 w t) (fu ha) (fu hb) (.inr hb)
    (λw t d ops hj h1 h2 h3 h4=>⟨hj.1.trans (eW _ _ _ d),hj.2.1.trans (eW _ _ _ d),hj.2.2.still d (λop hop=>(h1 op hop).1) (h2 _) h3 h4⟩)
    (λw t hj=>⟨.run ha,.run hb⟩)
    (λ_ gs w sl t q hC h0 hc hj=>H0 aL b wG (.stop hS) gs w sl t q hC h0 hc hj.1 hj.2.1 hj.2.2) (λ_ gs w sl t q hC h0 hc hj=>?_) gs w sl t q hC h0 hc ⟨lG,pA,eH⟩
   obtain⟨lG,pA,eH⟩:=hj;obtain⟨s,r,tm,hch⟩:=eH.chan;cases vs with
   |nil=>
    obtain⟨_,hmw,g₂,hg2,hx⟩:=hS w pA;obtain⟨hst,lD⟩:=hx s r tm hch;obtain⟨gs',e1,e2,e3,e4⟩:=kF (sl:=sl) hC h0 hc hst;rw[woken_run ha]at e3;exact⟨_,_,e1,.here ⟨gs',_,sl,q,bq,aL,_,_,t,_,_,rfl,e2,e3,e4,hg2,cE.2 (hM.rely (lG.trans (kr (eH.chM hY) hY.I5))),lD,eH.close hY hch,rfl,eH.zv⟩⟩
   |cons v vs'=>
    obtain⟨_,z',hst,qZ⟩:=hS w pA;obtain⟨gs',e1,e2,e3,e4⟩:=uJ (sl:=sl) hC h0 hc (by simp[ha]) hst hch;exact⟨_,_,e1,LI hY (hK v vs' rfl) hM b z' aL w qZ gs' w sl _ q e2 e3 e4 lG (bW.refl _ _ _) (by simpa using eH)⟩
 | @step aL b wG nx nw ne hb h1 h2 h3 ih=>
   intro gs w sl t q hC h0 hc lG pA eH;refine gW (J:=λw t=>bW ro bq wM w∧bW ro aL wG w∧lh Q Shun c ch Low ro bq aL X false w0 w t) (fu ha) (fu hb) (.inr hb)
    (λw t d ops hj h1 h2 h3 h4=>⟨hj.1.trans (eW _ _ _ d),hj.2.1.trans (eW _ _ _ d),hj.2.2.still d (λop hop=>(h1 op hop).1) (h2 _) h3 h4⟩)
    (λw t hj=>⟨.run ha,.run hb⟩)
    (λ_ gs w sl t q hC h0 hc hj=>H0 aL b wG (.step nx nw ne hb h1 h2 h3) gs w sl t q hC h0 hc hj.1 hj.2.1 hj.2.2) (λ_ gs w sl t q hC h0 hc hj=>?_) gs w sl t q hC h0 hc ⟨lG,pA,eH⟩
   obtain⟨lG,pA,eH⟩:=hj;obtain⟨gs',e1,e2,e3,e4⟩:=kF (sl:=sl) hC h0 hc (h1 w pA);obtain⟨k1,k2⟩:=eH.stepG (fn:=b.frame.fn) (pos:=b.frame.place) hY (h2 w pA);rw[woken_run ha]at e3;exact⟨_,_,e1,ih w pA gs' _ sl _ q e2 e3 e4 (lG.trans k2) (bW.refl _ _ _) k1⟩
theorem CG (hY:Lay Q Shun c ch Low ro){vs:List Ω}(hK:∀v vs',vs=v::vs'→CF P Q Shun c ch Low ro X z Fin fW w0 vs'){bq:Nat→Prop}{a:Δ}{wM:Λ}
 (hM:af P true ro (iA P ch z (zu P ro ch z Fin vs)) bq a wM):∀(aL:Nat→Prop) (b:Δ) (wG:Λ),af P false ro (StopG P ro ch fW vs) aL b wG→
   ∀gs w sl t q,ew P c t gs q→gs[0]?=some a→gs[c]?=some b→bW ro bq wM w→bW ro aL wG w→lh Q Shun c ch Low ro bq aL X false w0 w t→
   Reach P (crowd gs w sl) t (I6 P Q Shun c ch Low ro X z Fin fW w0):=by
 induction hM with
 | @stop bq a wM hS=>
   intro aL b wG hG;refine zy hY hK (.stop hS) (λaL b wG hG gs w sl t q hC h0 hc lG pA eH=>?_) hG;obtain⟨s,r,tm,hch⟩:=eH.chan;have hb:b.status=.running:=hG.running λ_ _ _ h=>h.running;obtain⟨gs',e1,e2,e3,e4⟩:=uI (sl:=sl) hC h0 hc (by simp[hb]) (hS w lG).2.1 hch;exact⟨_,_,e1,LH hY hK hG a bq wM hS gs' w sl _ q e2 e3 e4 lG pA (by simpa using eH)⟩
 | @step bq a wM nx nw ne ha h1 h2 h3 ih=>
   intro aL b wG hG;refine zy hY hK (.step nx nw ne ha h1 h2 h3) (λaL b wG hG gs w sl t q hC h0 hc lG pA eH=>?_) hG;have hb:b.status=.running:=hG.running λ_ _ _ h=>h.running;obtain⟨gs',e1,e2,e3,e4⟩:=qU (sl:=sl) hC h0 hc (h1 w lG);obtain⟨k1,k2⟩:=eH.LG (fn:=a.frame.fn) (pos:=a.frame.place) hY (h2 w lG);rw[woken_run hb]at e4;exact⟨_,_,e1,ih w lG aL b wG hG gs' _ sl _ q e2 e3 e4 (bW.refl _ _ _) (pA.trans k2) k1⟩
theorem LJ (hY:Lay Q Shun c ch Low ro):∀vs,CF P Q Shun c ch Low ro X z Fin fW w0 vs
 |[],gs,w,sl,t,q,bq,aL,a,b,hC,h0,hc,hM,hG,eH=>CG hY (λ_ _ e=>by cases e) (cE.1 hM) aL b w (dM.1 hG) gs w sl t q hC h0 hc (bW.refl _ _ _) (bW.refl _ _ _) eH
 |v::vs,gs,w,sl,t,q,bq,aL,a,b,hC,h0,hc,hM,hG,eH=>CG hY (λv' vs' e=>by cases e;exact LJ hY vs) (cE.1 hM) aL b w (dM.1 hG) gs w sl t q hC h0 hc (bW.refl _ _ _) (bW.refl _ _ _) eH
end
end Go.Ren
namespace Go.Ren
open Go Go.Conc
open Go.ConcX (stA Acq)
theorem LK {t:Θ}{g:Nat}{fn:ζ}{pos:String}{es:Array η}(j:Nat):(t++Γ g fn pos es)[t.size+j]?=(es[j]?).map λe=>{ g:=g,fn:=fn,pos:=pos,act:= .ofEvent e }:=by
 rw[Array.getElem?_append_right (by omega),ofEvents_eq,zaw]
 congr 2
 omega
theorem nN {t:Θ}{g:Nat}{fn:ζ}{pos:String}{es:Array η}(j:Nat):(t++Γ g fn pos es).act? (t.size+j)=(es[j]?).map Ξ:=by
 unfold Trace.act?
 rw[LK];cases es[j]?<;>rfl
theorem CH {t:Θ}{g:Nat}{fn:ζ}{pos:String}{es:Array η}(j:Nat):(t++Γ g fn pos es).g? (t.size+j)=(es[j]?).map λ_=>g:=by
 unfold Trace.g?
 rw[LK];cases es[j]?<;>rfl
theorem CI {t:Θ}{g:Nat}{fn:ζ}{pos:String}{es:Array η}{j:Nat}{e:η}(he:es[j]?=some e):(t++Γ g fn pos es).heard (t.size+j)↔deafBehind (Deaf t g) (es.extract 0 j)=0:=by
 have hj:j≤es.size:=by
  rcases zar j es.size with h|h
  ·omega
  ·rw[zbW h]at he;cases he
 unfold Trace.heard;rw[CH,he];simp only[zbA,zaG,exists_eq_left'];rw[deaf_inside t g fn pos es j hj]
theorem th {s T:Θ}{g g':Nat}{fn:ζ}{pos:String}{es:Array η}{j:Nat}{e:η}(he:es[j]?=some e)(hd:Deaf T g'=Deaf s g):(T++Γ g' fn pos es).heard (T.size+j)↔(s++Γ g fn pos es).heard (s.size+j):=by
 rw[CI he,CI he,hd]
theorem Fg {s T:Θ}{g g':Nat}{fn:ζ}{pos:String}{es:Array η}{j:Nat}(hd:Deaf T g'=Deaf s g):(T++Γ g' fn pos es).counts (T.size+j)→(s++Γ g fn pos es).counts (s.size+j):=by
 rintro ⟨x,hx,hm,hk⟩;rw[nN]at hx;cases he:es[j]? with
 |none=>rw[he]at hx;simp at hx
 |some e=>exact⟨x,by rw[nN];exact hx,hm,hk.imp id (th he hd).1⟩
theorem lY {t:Θ}{g:Nat}{fn:ζ}{pos:String}{es:Array η}{i:Nat}(hi:t.size≤i)(hlt:i<(t++Γ g fn pos es).size):∃j e,i=t.size+j∧es[j]?=some e:=by
 rw[ofEvents_eq]at hlt;simp at hlt;exact⟨i-t.size,es[i-t.size]'(by omega),by omega,zaE _⟩
theorem oT {t:Θ}{i g:Nat}(h:t.g? i=some g):i<t.size:=by
 obtain⟨z,hz,_⟩:=zav.1 h;exact lt_size_of_getElem? hz
structure I7 (c Wg:Nat) (T:Θ) (R:Nat):Prop where
 act:T.act? R=some (.mark (.releaseMerge (stA Wg)))
 g:T.g? R=some c
 heard:T.heard R
 after:∀i,R<i→T.g? i=some c→¬T.counts i
 norel:∀i,R<i→T.act? i≠some (.mark (.release (stA Wg)))
 late:∀i a,R<i→T.g? i=some c→touchAt T i=some a→∃ad,a.loc=.cell ad∧ad.block=Wg
def Pt (c Wg:Nat)(u:Θ):Prop:=∀op∈u,op.act≠.mark (.release (stA Wg))∧(op.g=c→∀x,op.act.touch? =some x→∃ad,x.loc=.cell ad∧ad.block=Wg)
theorem I7.app {c Wg:Nat}{T u:Θ}{R:Nat}(h:I7 c Wg T R)(hu:Pt c Wg u)(hc:∀i,T.size≤i→(T++u).g? i=some c→¬(T++u).counts i):I7 c Wg (T++u) R:=by
 have hR:=lt_of_act? h.act;refine⟨by rw[act?_old hR];exact h.act,by rw[g?_old hR];exact h.g,(heard_old hR).2 h.heard,λi hi hg B3=>?_,λi hi e=>?_,λi a hi hg ha=>?_⟩
 ·rcases zar i T.size with hlt|ft
  ·exact h.after i hi (by rw[←g?_old (u:=u) hlt];exact hg) ((counts_old hlt).1 B3)
  ·exact hc i ft hg B3
 ·obtain⟨op,ho,S5⟩:=zav.1 e;rcases getElem?_append_cases ho with⟨_,ho'⟩|⟨_,I8⟩
  ·exact h.norel i hi (by rw[act?_of ho',S5])
  ·exact(hu op I8).1 S5
 ·obtain⟨op,ho,S5⟩:=touch_of ha;rcases getElem?_append_cases ho with⟨hlt,ho'⟩|⟨_,I8⟩
  ·exact h.late i a hi (by rw[←g?_old (u:=u) hlt];exact hg) (by rw[touchAt_of ho'];exact S5)
  ·exact(hu op I8).2 (by simpa[Trace.g?,ho]using hg) a S5
def LL (c Wg:Nat)(T:Θ):Prop:=∃R Q,I7 c Wg T R∧T.act? Q=some (.mark (.acquire (stA Wg)))∧T.g? Q=some 0∧T.heard Q∧R<Q
structure GL (c Wg:Nat) (s T:Θ):Prop where
 d0:Deaf T 0=Deaf s 0
 dc:Deaf T c=Deaf s 1
 rel:∀r,Released (stA Wg) s r→∃R,I7 c Wg T R
 acq:Acq Wg s→LL c Wg T
section
variable {c Wg:Nat}{s T u:Θ}
theorem LL.app (h:LL c Wg T)(hu:Pt c Wg u)(hc:∀i,T.size≤i→(T++u).g? i=some c→¬(T++u).counts i):LL c Wg (T++u):=by
 obtain⟨R,Q,h1,h2,h3,h4,h5⟩:=h;have hQ:=lt_of_act? h2;exact⟨R,Q,h1.app hu hc,by rw[act?_old hQ];exact h2,by rw[g?_old hQ];exact h3,(heard_old hQ).2 h4,h5⟩
theorem GL.other (h:GL c Wg s T)(hu:∀op∈u,op.act≠.mark (.release (stA Wg))∧(op.g=c→op.act.touch? =none))(h0:Deaf (T++u) 0=Deaf T 0)(hc:Deaf (T++u) c=Deaf T c):GL c Wg s (T++u):=by
 have k:∀i,T.size≤i→(T++u).g? i=some c→¬(T++u).counts i:=by
  rintro i hi hg ⟨x,hx,_⟩;obtain⟨op,ho,hog⟩:=zav.1 hg;rcases getElem?_append_cases ho with⟨hlt,_⟩|⟨_,I8⟩
  ·omega
  ·rw[act?_of ho]at hx;simp only[Option.bind_some]at hx;rw[(hu op I8).2 hog]at hx;cases hx
 have hm:Pt c Wg u:=λop hop=>⟨(hu op hop).1,λe x hx=>by rw[(hu op hop).2 e]at hx;cases hx⟩;exact⟨h0.trans h.d0,hc.trans h.dc,λr hr=>let⟨R,hR⟩:=h.rel r hr;⟨R,hR.app hm k⟩,λha=>(h.acq ha).app hm k⟩
theorem Released.back {t u:Θ}{a:Addr}{r:Nat}(h:Released a (t++u) r)(hr:r<t.size):Released a t r:=
 ⟨by rw[←act?_old (u:=u) hr];exact h.act,by rw[←g?_old (u:=u) hr];exact h.g,(heard_old hr).1 h.heard,λi hi hg hc=>by
   have hlt:=oT hg;exact h.after i hi (by rw[g?_old hlt];exact hg) ((counts_old hlt).2 hc)⟩
theorem uM {e:η}(a:Addr)(h:Ξ e=.mark (.release a)):e.loc=.mark (.release a):=by
 obtain⟨loc,wr,sy⟩:=e;cases loc<;>cases wr<;>cases sy<;>simp_all [Ξ]
theorem GL.step (hc0:c≠0)(h:GL c Wg s T){g:Nat}(hg:g=0∨g=1){g':Nat}(vn:g'=if g=0 then 0 else c)(fn:ζ)(pos:String)(es:Array η)(hn:NoRelease (stA Wg) (s++Γ g fn pos es))(hq:∀e∈es,∀x,(Ξ e).touch? =some x→∃ad,x.loc=.cell ad∧ad.block=Wg):GL c Wg (s++Γ g fn pos es) (T++Γ g' fn pos es):=by
 have hd:Deaf T g'=Deaf s g:=by
  rcases hg with rfl|rfl
  ·rw[vn];exact h.d0
  ·rw[vn];exact h.dc
 have Vm:g'=c↔g=1:=by
  rcases hg with rfl|rfl
  ·rw[vn];simp;exact Ne.symm hc0
  ·rw[vn];simp
 have hnu:Pt c Wg (Γ g' fn pos es):=by
  intro op hop;obtain⟨ev,ia,rfl⟩:=zbd hop;refine⟨λe=>?_,λ_=>hq ev ia⟩;obtain⟨j,hj⟩:=Array.getElem?_of_mem ia;exact hn (s.size+j) (by rw[nN,hj];exact zal some e)
 have kc:∀r,Released (stA Wg) (s++Γ g fn pos es) r→∀j e,es[j]?=some e→r<s.size+j→g'=c→¬(T++Γ g' fn pos es).counts (T.size+j):=by
  intro r hr j e he hlt Kz B3;refine hr.after (s.size+j) hlt ?_ (Fg hd B3);rw[CH,he,Vm.1 Kz];rfl
 have WS:∀r,Released (stA Wg) (s++Γ g fn pos es) r→r<s.size→∀i,T.size≤i→(T++Γ g' fn pos es).g? i=some c→¬(T++Γ g' fn pos es).counts i:=by
  intro r hr hlt i hi Fh;obtain⟨j,e,rfl,he⟩:=lY hi (oT Fh);refine kc r hr j e he (by omega) ?_;rw[CH,he]at Fh;simpa using Fh
 have WT:∀r,Released (stA Wg) (s++Γ g fn pos es) r→∃R,I7 c Wg (T++Γ g' fn pos es) R∧(r<s.size→R<T.size):=by
  intro r hr;rcases zar r s.size with hlt|ft
  ·obtain⟨R,hR⟩:=h.rel r (Released.back hr hlt);exact⟨R,hR.app hnu (WS r hr hlt),λ_=>lt_of_act? hR.act⟩
  ·obtain⟨j,e,rfl,he⟩:=lY ft (oT hr.g);have h1:=hr.act;have h2:=hr.g;rw[nN,he]at h1;rw[CH,he]at h2;have hg1:g=1:=by simpa using h2
   refine⟨T.size+j,⟨by rw[nN,he];exact h1,by rw[CH,he,Vm.2 hg1];rfl,(th he hd).2 hr.heard,λi hi Fh=>?_,λi hi e'=>?_,λi a hi Fh ha=>?_⟩,λhlt=>by omega⟩
   ·obtain⟨j',e',rfl,WU⟩:=lY (by omega) (oT Fh);exact kc _ hr j' e' WU (by omega) (Vm.2 hg1)
   ·obtain⟨j',e'',rfl,WV⟩:=lY (by omega) (lt_of_act? e');rw[nN,WV]at e';exact hn (s.size+j') (by rw[nN,WV];exact e')
   ·obtain⟨op,ho,S5⟩:=touch_of ha;rcases getElem?_append_cases ho with⟨hlt,_⟩|⟨_,I8⟩
    ·omega
    ·obtain⟨ev,ia,rfl⟩:=zbd I8;exact hq ev ia a S5
 refine⟨?_,?_,λr hr=>let⟨R,hR,_⟩:=WT r hr;⟨R,hR⟩,?_⟩
 ·rcases hg with rfl|rfl
  ·rw[zac rfl]at vn;subst vn;rw[Deaf_own,Deaf_own,h.d0]
  ·rw[zaa (by decide)]at vn;subst vn;rw[zaF T hc0 _ ofEvents_g,zaF s (by decide) _ ofEvents_g,h.d0]
 ·rcases hg with rfl|rfl
  ·rw[zac rfl]at vn;subst vn;rw[zaF T (Ne.symm hc0) _ ofEvents_g,zaF s (by decide) _ ofEvents_g,h.dc]
  ·rw[zaa (by decide)]at vn;subst vn;rw[Deaf_own,Deaf_own,h.dc]
 ·rintro ⟨q,r,hr,hq,hgq,hh,hrq⟩;rcases zar q s.size with hlt|ft
  ·have ug:=Released.back hr (by omega);exact(h.acq ⟨q,r,ug,by rw[←act?_old hlt];exact hq,by rw[←g?_old hlt];exact hgq,(heard_old hlt).1 hh,hrq⟩).app hnu (WS r hr (by omega))
  ·obtain⟨j,e,rfl,he⟩:=lY ft (oT hgq);rw[CH,he]at hgq;have hg0:g=0:=by simpa using hgq
   have ug:r<s.size:=by
    rcases zar r s.size with hlt|abc
    ·exact hlt
    ·obtain⟨j',e',rfl,WU⟩:=lY abc (oT hr.g);have:=hr.g;rw[CH,WU,hg0]at this;simp at this
   obtain⟨R,hR,hlt⟩:=WT r hr;refine⟨R,T.size+j,hR,?_,?_,(th he hd).2 hh,by have:=hlt ug;omega⟩
   ·rw[nN,he]at hq ⊢;exact hq
   ·rw[CH,he,vn];simp[hg0]
end
end Go.Ren
set_option linter.unusedSectionVars false
namespace Go.Ren
open Go Go.Conc
open Go.ConcX (Payload Shy stA smA Base CA JInv RCa RCd DCs AtR0 RPa DPi AtKd PA KK WgAt ChanAt Full Aside2 runTX JT CAOut)
section
variable [Payload] {P:Φ}{ty:θ}{Wg C Low:Nat} [Shy Wg C] {vals:List Ω}{Mine:Loc→Prop}
def Half (P:Φ)(ty:θ)(Wg C Low:Nat) [Shy Wg C] (vals:List Ω)(Mine:Loc→Prop)(μ:Nat×Nat)(b:Δ)(w:Λ)(s:Θ):Prop:=
 (∃p d1 rc mc rel cl sent vs,μ=(rc,mc)∧sent++vs=vals∧Base Mine ty Wg C vals.length KK 0 sent.toArray cl sent.length 0 0 d1 rel w s p∧CA P ty Wg C Low vals Mine rc d1 rel vs cl mc b w)∨
 (∃p d1 q,μ=(0,q)∧Base Mine ty Wg C vals.length 0 0 vals.toArray true vals.length 0 0 d1 true w s p∧QuitsD P q d1 b)
theorem wK {a b:Δ}{w:Λ}{m':Machine}{ops:Array MemOp}(h:runTX P (duo a b w none) 1=(.next m',ops)):∃b' w' es,ι P false b w=.go b' w' es∧m'=duo (Conc.woken P b b' w' a) b' w' none∧ops=Γ 1 b.frame.fn b.frame.place es:=by
 rw[duo_eq_crowd]at h;obtain⟨g,g',w',es,hg,hs,hm,ho⟩:=Go.ConcX.runTX_next h;obtain rfl:b=g:=by simpa using hg
 exact⟨g',w',es,hs,by rw[hm];simp[crowd,duo],ho⟩
theorem Half.status {μ:Nat×Nat}{b:Δ}{w:Λ}{s:Θ}(h:Half P ty Wg C Low vals Mine μ b w s):b.status=.running∨b.status=.finished:=by
 rcases h with⟨_,_,_,_,_,_,_,_,_,_,_,hc⟩|⟨_,_,_,_,_,hq⟩
 ·exact .inl hc.running
 ·exact hq.status
theorem Half.jt {μ:Nat×Nat}{b:Δ}{w:Λ}{s:Θ}(h:Half P ty Wg C Low vals Mine μ b w s):∃p,JT Mine Wg C s p:=by
 rcases h with⟨p,_,_,_,_,_,_,_,_,_,hB,_⟩|⟨p,_,_,_,hB,_⟩
 ·exact⟨p,hB.jt⟩
 ·exact⟨p,hB.jt⟩
theorem Half.woken {μ:Nat×Nat}{b:Δ}{w w':Λ}{s:Θ}(h:Half P ty Wg C Low vals Mine μ b w s)(x x':Δ):Conc.woken P x x' w' b=b:=by
 rcases h with⟨_,_,_,_,_,_,_,_,_,_,_,hc⟩|⟨_,_,_,_,_,hq⟩
 ·exact woken_run hc.running
 ·exact woken_quitsD hq
theorem Half.rely (hW:Wg<Low)(hC:C<Low){μ:Nat×Nat}{b:Δ}{w w':Λ}{s:Θ}(h:Half P ty Wg C Low vals Mine μ b w s)(hr:∀b,b<Low→w'.heap[b]?=w.heap[b]?):Half P ty Wg C Low vals Mine μ b w' s:=by
 rcases h with⟨p,d1,rc,mc,rel,cl,sent,vs,e,hs,hB,hc⟩|⟨p,d1,q,e,hB,hq⟩
 ·exact .inl ⟨p,d1,rc,mc,rel,cl,sent,vs,e,hs,⟨hB.wg.of_block (hr Wg hW),hB.ch.of_block (hr C hC),hB.jt,hB.deaf0,hB.deaf1,hB.noacq,hB.rel⟩,hc.rely (Go.ConcX.RCd.toA hW hr)⟩
 ·exact .inr ⟨p,d1,q,e,⟨hB.wg.of_block (hr Wg hW),hB.ch.of_block (hr C hC),hB.jt,hB.deaf0,hB.deaf1,hB.noacq,hB.rel⟩,hq⟩
theorem Half.move (hCW:C≠Wg){μ:Nat×Nat}{b:Δ}{w:Λ}{s:Θ}(h:Half P ty Wg C Low vals Mine μ b w s)(hb:b.status=.running):∃b' w' es nO,ι P false b w=.go b' w' es∧Aside2 C Wg w w'∧Lt2 nO μ∧Half P ty Wg C Low vals Mine nO b' w' (s++Γ 1 b.frame.fn b.frame.place es):=by
 rcases h with⟨p,d1,rc,mc,rel,cl,sent,vs,rfl,hs,hB,hc⟩|⟨p,d1,q,rfl,hB,hq⟩
 ·obtain⟨a',b',w',ops,hrun,_,hA,hout⟩:=Go.ConcX.CA.move hCW (a:=ph) (sl:=none) (.inl rfl) hs hB hc (.inl (by simp[ph]));obtain⟨b2,w2,es,hst,hm,rfl⟩:=wK hrun;obtain⟨_,rfl,rfl,_⟩:=Go.ConcX.duo_inj hm;cases hout with
  |stay rc' d1' rel' WW vs' cl' mc' hl hs' Pu hc'=>exact⟨b',w',es,(rc',mc'),hst,hA,hl,.inl ⟨p,d1',rc',mc',rel',cl',WW,vs',rfl,hs',Pu,hc'⟩⟩
  |lone q _ Pu hq=>exact⟨b',w',es,(0,q),hst,hA,.left _ _ (by have:=hc.rank_pos;omega),.inr ⟨p,1,q,rfl,Pu,hq⟩⟩
  |met m e _ _=>exact absurd e Go.ConcX.kk1_ne
 ·obtain⟨b',ops,q',d1',hrun,hlt,Pu,hq',_⟩:=Go.ConcX.cq_move (a:=ph) (sl:=none) hB hq hb;obtain⟨b2,w2,es,hst,hm,rfl⟩:=wK hrun;obtain⟨_,rfl,rfl,_⟩:=Go.ConcX.duo_inj hm;exact⟨b',w,es,(0,q'),hst,.refl w,.right _ hlt,.inr ⟨p,d1',q',rfl,Pu,hq'⟩⟩
theorem Half.inv {AnchW:Δ→Λ→Prop}{Post:Ω→Λ→Prop}{μ:Nat×Nat}{a b:Δ}{w:Λ}{s:Θ}{sl:Option (Nat×Nat)}(h:Half P ty Wg C Low vals Mine μ b w s){m:Nat}(hp:Goes P true (RPa ty Wg C vals) (DPi Mine Wg C Low) (AtKd P ty Wg C Low vals Mine AnchW) m a w):∃nO,JInv P ty Wg C Low vals Mine AnchW Post nO (duo a b w sl) s:=by
 rcases h with⟨p,d1,rc,mc,rel,cl,sent,vs,rfl,hs,hB,hc⟩|⟨p,d1,q,rfl,hB,hq⟩
 ·exact⟨_,.a a b w sl s p 0 d1 rc mc 4 m rel cl sent vs hs hB (.kd hp) hc⟩
 ·exact⟨_,.c a b w sl s p 0 d1 q 4 m hB (.kd hp) hq⟩
def I9:Θ:=((#[]:Θ).push { g:=0,fn:=0,pos:= "",act:= .go 1 }).push { g:=1,fn:=0,pos:= "",act:= .start }
theorem Half.init {b:Δ}{w:Λ}{n:Nat}(hw:WgAt ty Wg w KK 0)(hG:Goes P false (RCa ty Wg Low) (DCs Mine Wg C) (AtR0 P ty Wg C Low vals) n b w):Half P ty Wg C Low vals Mine (7,n) b w I9:=by
 obtain⟨h1,h2,h3,h4⟩:=Go.ConcX.JT.init (Mine:=Mine) (Go.ConcX.ST.nil (Wg:=Wg) (C:=C)) (x:={ g:=0,fn:=0,pos:= "",act:= .go 1 }) (y:={ g:=1,fn:=0,pos:= "",act:= .start }) ⟨rfl,rfl⟩ ⟨rfl,rfl⟩;exact .inl ⟨_,0,7,n,false,false,vals,[],rfl,by simp,⟨hw,(λe=>by cases e),h1,h2,h3,(λ_=>h4),(λe=>by cases e)⟩,.r0 hG⟩
end
theorem Ja:Deaf I9 0=0:=by simp[I9,Deaf,Trace.deaf]
theorem Jb:Deaf I9 1=0:=by simp[I9,Deaf,Trace.deaf]
theorem zA {a:Addr}{r:Nat}(h:Released a I9 r):False:=by
 have:=h.act;have hlt:=lt_of_act? this;have h2:r<2:=hlt
 match r,h2 with
 |0,_=>simp[I9,Trace.act?]at this
 |1,_=>simp[I9,Trace.act?]at this
theorem GL.init {c Wg:Nat}{T:Θ}(h0:Deaf T 0=0)(hc:Deaf T c=0):GL c Wg I9 T:=
 ⟨by rw[h0,Ja],by rw[hc,Jb],λr hr=>(zA hr).elim,λ⟨_,_,hr,_⟩=>(zA hr).elim⟩
end Go.Ren
set_option linter.unusedSectionVars false
namespace Go.Ren
open Go Go.Conc
open Go.ConcX (Payload Shy stA smA Base CA JInv RCa RCd DCs AtR0 RPa DPi AtKd PA KK WgAt ChanAt Full Aside2 runTX JT AtW1)
structure Side (Wg:Nat) where
 pl:Payload
 C:Nat
 sh:Shy Wg C
 vals:List Ω
 Mine:Loc→Prop
 AnchW:Δ→Λ→Prop
 Post:Ω→Λ→Prop
section
variable {Wg:Nat}
def Side.half (x:Side Wg)(P:Φ)(ty:θ)(Low:Nat)(μ:Nat×Nat)(b:Δ)(w:Λ)(s:Θ):Prop:=@Half x.pl P ty Wg x.C Low x.sh x.vals x.Mine μ b w s
def Side.jt (x:Side Wg)(s:Θ)(p:Nat):Prop:=@JT x.Mine Wg x.C x.sh s p
theorem Side.kt {x:Side Wg}{P:Φ}{ty:θ}{Low:Nat}(hW:Wg<Low)(hC:x.C<Low){μ:Nat×Nat}{b:Δ}{w w':Λ}{s:Θ}(h:x.half P ty Low μ b w s)(hr:∀b,b<Low→w'.heap[b]?=w.heap[b]?):x.half P ty Low μ b w' s:=
 @Half.rely x.pl P ty Wg x.C Low x.sh x.vals x.Mine hW hC μ b w w' s h hr
theorem Side.qc {x:Side Wg}{P:Φ}{ty:θ}{Low:Nat}{μ:Nat×Nat}{b:Δ}{w w':Λ}{s:Θ}(h:x.half P ty Low μ b w s)(u u':Δ):Conc.woken P u u' w' b=b:=
 @Half.woken x.pl P ty Wg x.C Low x.sh x.vals x.Mine μ b w w' s h u u'
theorem Side.norel {x:Side Wg}{s:Θ}{p:Nat}(h:x.jt s p):NoRelease (stA Wg) s:=@JT.norel x.Mine Wg x.C x.sh s p h
theorem Side.oks {x:Side Wg}{s:Θ}{p:Nat}(h:x.jt s p):∀op∈s,x.sh.ok op.act:=@JT.oks x.Mine Wg x.C x.sh s p h
theorem Side.quiet {x:Side Wg}{s:Θ}{p:Nat}(h:x.jt s p):Quiet (Go.ConcX.ShJ Wg x.C) s:=@JT.quiet x.Mine Wg x.C x.sh s p h
structure eX (P:Φ) (ty:θ) (Wg Low:Nat) (x:Side Wg):Prop where
 hC:x.C<Low
 hCW:x.C≠Wg
 hAr:∀g w,x.AnchW g w→g.status=.running
 hAn:letI:=x.pl;letI:=x.sh;∀g w,x.AnchW g w→∃m,Goes P true (RPa ty Wg x.C x.vals) (DPi x.Mine Wg x.C Low) (AtW1 P ty Wg x.C Low x.vals x.Mine x.AnchW x.Post) m g w
 ok:∀act,x.sh.ok act→(∀t,act.touch? =some t→∃a,t.loc=.cell a∧(a.block=Wg∨a.block=x.C))∧act.low Low
end
section
variable {P:Φ}{ty:θ}{Wg Low:Nat}{x y:Side Wg}{s s':Θ}{g:Nat}{fn:ζ}{pos:String}{es:Array η}{p p':Nat}
theorem GZ (hx:eX P ty Wg Low x)(h:x.jt (s++Γ g fn pos es) p):∀e∈es,(∀t,(Ξ e).touch? =some t→∃a,t.loc=.cell a∧((a.block=Wg∧t.kind≠.plain∧(t.kind=.said→g=0))∨a.block=x.C))∧(Ξ e).low Low:=by
 intro e he;obtain⟨j,hj⟩:=Array.getElem?_of_mem he;have hop:(s++Γ g fn pos es)[s.size+j]?=some { g:=g,fn:=fn,pos:=pos,act:= .ofEvent e }:=by rw[LK,hj];rfl
 obtain⟨k1,k2⟩:=hx.ok _ (Side.oks h _ (zbG hop));refine⟨λt ht=>?_,k2⟩;obtain⟨a,ha,hb⟩:=k1 t ht;refine⟨a,ha,hb.imp (λhb=>?_) id⟩;obtain⟨q1,q2⟩:=Side.quiet h _ _ t hop ht (.inl ⟨a,ha,hb⟩);exact⟨hb,q1,q2⟩
theorem tj (hx:eX P ty Wg Low x)(hy:eX P ty Wg Low y)(zB:x.C≠y.C)(h:x.jt (s++Γ g fn pos es) p)(h':y.jt (s'++Γ g fn pos es) p'):∀e∈es,(∀t,(Ξ e).touch? =some t→∃a,t.loc=.cell a∧a.block=Wg∧t.kind≠.plain∧(t.kind=.said→g=0))∧(Ξ e).low Low:=by
 intro e he;obtain⟨k1,k2⟩:=GZ hx h e he;refine⟨λt ht=>?_,k2⟩;obtain⟨a,ha,hb⟩:=k1 t ht;obtain⟨a',ha',hb'⟩:=(GZ hy h' e he).1 t ht;rw[ha]at ha';obtain rfl:a=a':=by simpa using ha'
 rcases hb with hb|hb
 ·exact⟨a,ha,hb⟩
 ·rcases hb' with hb'|hb'
  ·exact⟨a,ha,hb'⟩
  ·exact absurd (hb.symm.trans hb') zB
theorem AZ {w w':Λ}(zB:x.C≠y.C)(h:Aside2 x.C Wg w w')(h':Aside2 y.C Wg w w'):Aside Wg w w':=
 ⟨h.tape,h.os,h.output,h.size,λk hk=>by
   by_cases e:k=x.C
   ·exact h'.block k (by rw[e];exact zB) hk
   ·exact h.block k e hk⟩
end
section
variable {P:Φ}{ty:θ}{Q Shun:Loc→Prop}{c ch Wg Low:Nat}{ro bq aL X:Nat→Prop}{w0 w w':Λ}{t u:Θ}{x y:Side Wg}
theorem lh.weaken {X':Nat→Prop}{cl:Bool}(h:lh Q Shun c ch Low ro bq aL X cl w0 w t)(hX:∀b,X b→X' b):lh Q Shun c ch Low ro bq aL X' cl w0 w t:=
 ⟨h.ti,h.d0,h.dc,h.mlt,h.Ff,h.apart,h.big,h.chan,h.tape,h.os,h.output,λb h1 h2=>h.keep b h1 λe=>h2 (hX b e),hX _ h.Pr⟩
structure CJ (Q Shun:Loc→Prop) (c ch Wg Low:Nat) (ro X:Nat→Prop):Prop extends Lay Q Shun c ch Low ro where
 KA:Wg<Low
 wch:Wg≠ch
 wQ:∀a:Addr,a.block=Wg→Q (.cell a)
 wX:X Wg
theorem CJ.wro (hY:CJ Q Shun c ch Wg Low ro X):¬ro Wg:=λh=>hY.rS (.cell ⟨Wg,0,none⟩) h (hY.QS _ (hY.wQ _ rfl))
theorem lh.RO (hY:CJ Q Shun c ch Wg Low ro X)(h:lh Q Shun c ch Low ro bq aL X true w0 w t)(hA:Aside Wg w w'){g:Nat}(hg:g=0∨g=c)(hu:∀op∈u,op.g=g∧∀x,op.act.touch? =some x→Q x.loc∧x.kind≠.plain∧(x.kind=.said→g=0))(hl:∀op∈u,op.act.low w.heap.size)(hd:Deaf (t++u) 0=0):lh Q Shun c ch Low ro bq aL X true w0 w' (t++u)∧bW ro bq w w':=by
 have hs:=hA.size;refine⟨⟨?_,hd,(λe=>by cases e),λb hb=>by have:=h.mlt b hb;omega,λb hb=>by have:=h.Ff b hb;omega,h.apart,by have:=h.big;omega,?_,hA.tape.trans h.tape,hA.os.trans h.os,hA.output.trans h.output,λb h1 h2=>?_,h.Pr⟩,hA.tape,hA.os,hA.output,by omega,λb hb=>hA.block b ?_⟩
 ·rw[hs];exact h.ti.Pm hg hu hl hY.QS λl hl=>⟨λhi=>td (λb hb'=>(h.Ff b hb').1) hi (hY.qV l (hY.QS l hl)),λhi=>hY.rS l hi (hY.QS l hl)⟩
 ·obtain⟨s,r,tm,e⟩:=h.chan;exact⟨s,r,tm,by rw[hA.block ch (Ne.symm hY.wch)];exact e⟩
 ·rw[hA.block b λe=>h2 (by rw[e];exact hY.wX)];exact h.keep b h1 h2
 ·rintro rfl;rcases hb with hb|hb
  ·have:=h.mlt _ hb;have:=hY.KA;omega
  ·exact hY.wro hb
theorem vo {g g':Nat}{fn:ζ}{pos:String}{es:Array η}(hQ:∀a:Addr,a.block=Wg→Q (.cell a))(Kz:g=0→g'=0)(h:∀e∈es,(∀t,(Ξ e).touch? =some t→∃a,t.loc=.cell a∧a.block=Wg∧t.kind≠.plain∧(t.kind=.said→g=0))∧(Ξ e).low Low):(∀op∈Γ g' fn pos es,op.g=g'∧∀x,op.act.touch? =some x→Q x.loc∧x.kind≠.plain∧(x.kind=.said→g'=0))∧∀op∈Γ g' fn pos es,op.act.low Low:=by
 refine⟨λop hop=>⟨ofEvents_g op hop,λx hx=>?_⟩,λop hop=>?_⟩
 ·obtain⟨e,he,rfl⟩:=zbd hop;obtain⟨a,ha,hb,h1,h2⟩:=(h e he).1 x hx;exact⟨by rw[ha];exact hQ a hb,h1,λhs=>Kz (h2 hs)⟩
 ·obtain⟨e,he,rfl⟩:=zbd hop;exact(h e he).2
def abd (P:Φ)(ty:θ)(Q Shun:Loc→Prop)(c ch:Nat){Wg:Nat}(Low:Nat)(ro X:Nat→Prop)(x y:Side Wg)(Fin:(Nat→Prop)→Δ→Λ→Prop)(w0:Λ)(m:Machine)(t:Θ):Prop:=
 ∃gs w sl q bq aL a b iC je μ ν,m=crowd gs w sl∧ew P c t gs q∧gs[0]?=some a∧gs[c]?=some b∧Fin bq a w∧lh Q Shun c ch Low ro bq aL X true w0 w t∧x.half P ty Low μ b w iC∧y.half P ty Low ν b w je∧GL c Wg iC t∧GL c Wg je t
variable {z:Ω}{Fin:(Nat→Prop)→Δ→Λ→Prop}
theorem LM:WellFounded Lt2:=(Prod.lex Nat.lt_wfRel Nat.lt_wfRel).wf
theorem Jc {ro own:Nat→Prop}{g:Nat}{fn:ζ}{pos:String}{es:Array η}{a:Addr}(h:∀e∈es,B4 ro own e):∀op∈Γ g fn pos es,op.act≠.mark (.release a):=by
 intro op hop e';obtain⟨e,he,rfl⟩:=zbd hop;have hl:=uM a e';have:=h e he;unfold B4 at this;rw[hl]at this;exact this.1
theorem CK (tq:eX P ty Wg Low x)(wL:eX P ty Wg Low y)(zB:x.C≠y.C){μ ν:Nat×Nat}{b:Δ}{iC je:Θ}(hx:x.half P ty Low μ b w iC)(hy:y.half P ty Low ν b w je)(hb:b.status=.running):∃b' w' es nO Fj,ι P false b w=.go b' w' es∧Aside Wg w w'∧Lt2 nO μ∧x.half P ty Low nO b' w' (iC++Γ 1 b.frame.fn b.frame.place es)∧y.half P ty Low Fj b' w' (je++Γ 1 b.frame.fn b.frame.place es):=by
 obtain⟨b',w',es,nO,h1,h2,h3,h4⟩:=@Half.move x.pl P ty Wg x.C Low x.sh x.vals x.Mine tq.hCW μ b w iC hx hb;obtain⟨b'',w'',es',Fj,k1,k2,k3,k4⟩:=@Half.move y.pl P ty Wg y.C Low y.sh y.vals y.Mine wL.hCW ν b w je hy hb;rw[h1]at k1;obtain⟨rfl,rfl,rfl⟩:b'=b''∧w'=w''∧es=es':=by simpa using k1
 exact⟨b',w',es,nO,Fj,h1,AZ zB h2 k2,h3,h4,k4⟩
theorem S6 (hY:CJ Q Shun c ch Wg Low ro X)(tq:eX P ty Wg Low x)(wL:eX P ty Wg Low y)(zB:x.C≠y.C){a:Δ}{wM:Λ}
 (hM:af P true ro (iA P ch z (zu P ro ch z Fin [])) bq a wM):∀(μ ν:Nat×Nat) (aL:Nat→Prop) (b:Δ) (iC je:Θ) gs w sl t q,ew P c t gs q→gs[0]?=some a→gs[c]?=some b→bW ro bq wM w→
   lh Q Shun c ch Low ro bq aL X true w0 w t→x.half P ty Low μ b w iC→y.half P ty Low ν b w je→GL c Wg iC t→GL c Wg je t→
   Reach P (crowd gs w sl) t (abd P ty Q Shun c ch Low ro X x y Fin w0):=by
 induction hM with
 | @stop bq a wM hS=>
   intro μ
   induction μ using LM.induction with
   |_ μ S7=>
   intro ν aL b iC je gs w sl t q hC h0 hc hr eH hx hy hg1 hg2;have ha:a.status=.running:=(hS wM (bW.refl _ _ _)).1;have G0:=@Half.status x.pl P ty Wg x.C Low x.sh x.vals x.Mine μ b w iC hx;refine gW (J:=λw t=>bW ro bq wM w∧lh Q Shun c ch Low ro bq aL X true w0 w t∧x.half P ty Low μ b w iC∧y.half P ty Low ν b w je∧GL c Wg iC t∧GL c Wg je t) (fu ha) (awake_of (G0.elim .inl λh=> .inr (.inr h))) (.inl ha)
    (λw t d ops hj h1 h2 h3 h4=>⟨hj.1.trans (eW _ _ _ d),hj.2.1.still d (λop hop=>(h1 op hop).1) (h2 _) h3 h4,Side.kt hY.KA tq.hC hj.2.2.1 (λ_ _=>rfl),Side.kt hY.KA wL.hC hj.2.2.2.1 (λ_ _=>rfl),hj.2.2.2.2.1.other (λop hop=>⟨(h1 op hop).2 _,λ_=>(h1 op hop).1⟩) h3 h4,hj.2.2.2.2.2.other (λop hop=>⟨(h1 op hop).2 _,λ_=>(h1 op hop).1⟩) h3 h4⟩)
    (λw t hj=>⟨.run ha,λu u' d=>Side.qc hj.2.2.1 u u'⟩)
    (λ_ gs w sl t q hC h0 hc hj=>?_) (λhb gs w sl t q hC h0 hc hj=>?_) gs w sl t q hC h0 hc ⟨hr,eH,hx,hy,hg1,hg2⟩
   ·obtain⟨hr,eH,hx,hy,hg1,hg2⟩:=hj;obtain⟨s,r,tm,hch⟩:=eH.chan;obtain⟨_,hst,qZ⟩:=hS w hr;obtain⟨gs',fn,pos,e1,e2,e3,e4⟩:=sZ (sl:=sl) hC h0 hc (by rcases G0 with h|h<;>simp[h]) hst hch
    have hm:∀op∈(#[{ g:=0,fn:=fn,pos:=pos,act:= .recvClosed ch }]:Θ),∀m,op.act≠.mark m:=by intro op hop m;simp at hop;subst hop;simp
    have ht:∀op∈(#[{ g:=0,fn:=fn,pos:=pos,act:= .recvClosed ch }]:Θ),op.act.touch? =none:=by intro op hop;simp at hop;subst hop;rfl
    have eQ:∀op∈(#[{ g:=0,fn:=fn,pos:=pos,act:= .recvClosed ch }]:Θ),op.act.low w.heap.size:=by
     intro op hop;simp at hop;subst hop;have:ch<w.heap.size:=by have:=hY.Fe;have:=eH.big;omega
     exact this
    have abe:=eH.still w.drawn ht eQ (dH t 0 _ hm) (dH t c _ hm);exact⟨_,_,e1,.here ⟨gs',w,sl,q,bq,aL,_,b,iC,je,μ,ν,rfl,e2,e3,e4,qZ,abe,hx,hy,hg1.other (λop hop=>⟨hm op hop _,λ_=>ht op hop⟩) (dH t 0 _ hm) (dH t c _ hm),hg2.other (λop hop=>⟨hm op hop _,λ_=>ht op hop⟩) (dH t 0 _ hm) (dH t c _ hm)⟩⟩
   ·obtain⟨hr,eH,hx,hy,hg1,hg2⟩:=hj;obtain⟨b',w',es,nO,Fj,hst,hA,hlt,AP,hy'⟩:=CK tq wL zB hx hy hb;obtain⟨gs',e1,e2,e3,e4⟩:=kF (sl:=sl) hC h0 hc hst;rw[woken_run ha]at e3;obtain⟨p1,j1⟩:=@Half.jt x.pl P ty Wg x.C Low x.sh x.vals x.Mine _ _ _ _ AP;obtain⟨p2,j2⟩:=@Half.jt y.pl P ty Wg y.C Low y.sh y.vals y.Mine _ _ _ _ hy';have zC:∀e∈es,∀x,(Ξ e).touch? =some x→∃ad,x.loc=.cell ad∧ad.block=Wg:=λe he x hx=>let⟨ad,h1,h2,_⟩:=(tj tq wL zB j1 j2 e he).1 x hx;⟨ad,h1,h2⟩;obtain⟨o1,o2⟩:=vo (Q:=Q) (g':=c) (fn:=b.frame.fn) (pos:=b.frame.place) hY.wQ (by simp) (tj tq wL zB j1 j2);obtain⟨k1,k2⟩:=eH.RO hY hA (.inr rfl) o1 (λop hop=>MemAct.low_mono eH.big (o2 op hop)) (by rw[zaF t hY.c0 _ ofEvents_g];exact eH.d0);exact⟨_,_,e1,S7 nO hlt Fj aL b' _ _ gs' w' sl _ q e2 e3 e4 (hr.trans k2) k1 AP hy' (hg1.step hY.c0 (.inr rfl) (by simp) _ _ es (Side.norel j1) zC) (hg2.step hY.c0 (.inr rfl) (by simp) _ _ es (Side.norel j2) zC)⟩
 | @step bq a wM nx nw ne ha h1 h2 _ ih=>
   intro μ
   induction μ using LM.induction with
   |_ μ S7=>
   intro ν aL b iC je gs w sl t q hC h0 hc hr eH hx hy hg1 hg2;have G0:=@Half.status x.pl P ty Wg x.C Low x.sh x.vals x.Mine μ b w iC hx;refine gW (J:=λw t=>bW ro bq wM w∧lh Q Shun c ch Low ro bq aL X true w0 w t∧x.half P ty Low μ b w iC∧y.half P ty Low ν b w je∧GL c Wg iC t∧GL c Wg je t) (fu ha) (awake_of (G0.elim .inl λh=> .inr (.inr h))) (.inl ha)
    (λw t d ops hj h1 h2 h3 h4=>⟨hj.1.trans (eW _ _ _ d),hj.2.1.still d (λop hop=>(h1 op hop).1) (h2 _) h3 h4,Side.kt hY.KA tq.hC hj.2.2.1 (λ_ _=>rfl),Side.kt hY.KA wL.hC hj.2.2.2.1 (λ_ _=>rfl),hj.2.2.2.2.1.other (λop hop=>⟨(h1 op hop).2 _,λ_=>(h1 op hop).1⟩) h3 h4,hj.2.2.2.2.2.other (λop hop=>⟨(h1 op hop).2 _,λ_=>(h1 op hop).1⟩) h3 h4⟩)
    (λw t hj=>⟨.run ha,λu u' d=>Side.qc hj.2.2.1 u u'⟩)
    (λ_ gs w sl t q hC h0 hc hj=>?_) (λhb gs w sl t q hC h0 hc hj=>?_) gs w sl t q hC h0 hc ⟨hr,eH,hx,hy,hg1,hg2⟩
   ·obtain⟨hr,eH,hx,hy,hg1,hg2⟩:=hj;have Om:=h2 w hr;obtain⟨gs',e1,e2,e3,e4⟩:=qU (sl:=sl) hC h0 hc (h1 w hr);rw[Side.qc hx]at e4;obtain⟨k1,k2⟩:=eH.LG (fn:=a.frame.fn) (pos:=a.frame.place) hY.toLay Om;have eQ:∀b,b<Low→(nw w).heap[b]?=w.heap[b]?:=λb hlt=>Om.block b (by have:=eH.big;omega) λhm=>by have:=eH.mlt b hm;omega
    have Pv:Deaf (t++Γ 0 a.frame.fn a.frame.place (ne w)) 0=Deaf t 0:=wJ Om.evs;have Pw:Deaf (t++Γ 0 a.frame.fn a.frame.place (ne w)) c=Deaf t c:=zaF t (Ne.symm hY.c0) _ ofEvents_g;have WX:∀op∈Γ 0 a.frame.fn a.frame.place (ne w),op.act≠.mark (.release (stA Wg))∧(op.g=c→op.act.touch? =none):=λop hop=>⟨Jc Om.evs op hop,λe=>absurd ((ofEvents_g op hop).symm.trans e) (Ne.symm hY.c0)⟩;exact⟨_,_,e1,ih w hr μ ν aL b iC je gs' _ sl _ q e2 e3 e4 (bW.refl _ _ _) k1 (Side.kt hY.KA tq.hC hx eQ) (Side.kt hY.KA wL.hC hy eQ) (hg1.other WX Pv Pw) (hg2.other WX Pv Pw)⟩
   ·obtain⟨hr,eH,hx,hy,hg1,hg2⟩:=hj;obtain⟨b',w',es,nO,Fj,hst,hA,hlt,AP,hy'⟩:=CK tq wL zB hx hy hb;obtain⟨gs',e1,e2,e3,e4⟩:=kF (sl:=sl) hC h0 hc hst;rw[woken_run ha]at e3;obtain⟨p1,j1⟩:=@Half.jt x.pl P ty Wg x.C Low x.sh x.vals x.Mine _ _ _ _ AP;obtain⟨p2,j2⟩:=@Half.jt y.pl P ty Wg y.C Low y.sh y.vals y.Mine _ _ _ _ hy';have zC:∀e∈es,∀x,(Ξ e).touch? =some x→∃ad,x.loc=.cell ad∧ad.block=Wg:=λe he x hx=>let⟨ad,h1,h2,_⟩:=(tj tq wL zB j1 j2 e he).1 x hx;⟨ad,h1,h2⟩;obtain⟨o1,o2⟩:=vo (Q:=Q) (g':=c) (fn:=b.frame.fn) (pos:=b.frame.place) hY.wQ (by simp) (tj tq wL zB j1 j2);obtain⟨k1,k2⟩:=eH.RO hY hA (.inr rfl) o1 (λop hop=>MemAct.low_mono eH.big (o2 op hop)) (by rw[zaF t hY.c0 _ ofEvents_g];exact eH.d0);exact⟨_,_,e1,S7 nO hlt Fj aL b' _ _ gs' w' sl _ q e2 e3 e4 (hr.trans k2) k1 AP hy' (hg1.step hY.c0 (.inr rfl) (by simp) _ _ es (Side.norel j1) zC) (hg2.step hY.c0 (.inr rfl) (by simp) _ _ es (Side.norel j2) zC)⟩
end
end Go.Ren
