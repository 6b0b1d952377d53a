import Derived.Conc.FxFrame
import Derived.Test.YtlhimdjkkiflhaaGreatDoorProg
import Derived.Conc.FxGenDone
import Derived.Conc.FxGenWait
import Derived.Conc.FxGenLone
import Derived.KernelRfl
import Derived.Conc.DeferLaws
import GoSem.Extern.Table
import Derived.Test.YtlhimdjkkiflhaaGreatDoorKnown10
set_option maxHeartbeats 8000000
set_option maxRecDepth 100000
set_option linter.unusedSectionVars false
namespace Go.Ren
open Go Go.Conc
open Go.ConcX (Payload Shy stA smA Base CA JInv RCa RCd DCs AtR0 RPa DPi AtKd PA KK WgAt ChanAt Full Aside2 runTX JT AtW1)
structure Side (Wg:Nat) where
 pl:Payload
 C:Nat
 sh:Shy Wg C
 vals:List Value
 Mine:Loc→Prop
 AnchW:Goroutine→World→Prop
 Post:Value→World→Prop
section
variable {Wg:Nat}
def Side.half (x:Side Wg)(P:Program)(ty:TypeId)(Low:Nat)(μ:Nat×Nat)(b:Goroutine)(w:World)(s:Trace):Prop:=@Half x.pl P ty Wg x.C Low x.sh x.vals x.Mine μ b w s
def Side.jt (x:Side Wg)(s:Trace)(p:Nat):Prop:=@JT x.Mine Wg x.C x.sh s p
theorem Side.jO {x:Side Wg}{P:Program}{ty:TypeId}{Low:Nat}(hW:Wg<Low)(hC:x.C<Low){μ:Nat×Nat}{b:Goroutine}{w w':World}{s:Trace}(h:x.half P ty Low μ b w s)(hr:∀b,b<Low→w'.heap[b]?=w.heap[b]?):x.half P ty Low μ b w' s:=
 @Half.rely x.pl P ty Wg x.C Low x.sh x.vals x.Mine hW hC μ b w w' s h hr
theorem Side.pS {x:Side Wg}{P:Program}{ty:TypeId}{Low:Nat}{μ:Nat×Nat}{b:Goroutine}{w w':World}{s:Trace}(h:x.half P ty Low μ b w s)(u u':Goroutine):Conc.woken P u u' w' b=b:=
 @Half.woken x.pl P ty Wg x.C Low x.sh x.vals x.Mine μ b w w' s h u u'
theorem Side.norel {x:Side Wg}{s:Trace}{p:Nat}(h:x.jt s p):NoRelease (stA Wg) s:=@JT.norel x.Mine Wg x.C x.sh s p h
theorem Side.oks {x:Side Wg}{s:Trace}{p:Nat}(h:x.jt s p):∀op∈s,x.sh.ok op.act:=@JT.oks x.Mine Wg x.C x.sh s p h
theorem Side.quiet {x:Side Wg}{s:Trace}{p:Nat}(h:x.jt s p):Quiet (Go.ConcX.ShJ Wg x.C) s:=@JT.quiet x.Mine Wg x.C x.sh s p h
structure eT (P:Program) (ty:TypeId) (Wg Low:Nat) (x:Side Wg):Prop where
 hC:x.C<Low
 hCW:x.C≠Wg
 Y6:∀g w,x.AnchW g w→g.status=.running
 hAn:letI:=x.pl;letI:=x.sh;∀g w,x.AnchW g w→∃m,Goes P true (RPa ty Wg x.C x.vals) (DPi x.Mine Wg x.C Low) (AtW1 P ty Wg x.C Low x.vals x.Mine x.AnchW x.Post) m g w
 ok:∀act,x.sh.ok act→(∀t,act.touch? =some t→∃a,t.loc=.cell a∧(a.block=Wg∨a.block=x.C))∧act.low Low
end
section
variable {P:Program}{ty:TypeId}{Wg Low:Nat}{x y:Side Wg}{s s':Trace}{g:Nat}{fn:FuncId}{pos:String}{es:Array Event}{p p':Nat}
theorem Ht (hx:eT P ty Wg Low x)(h:x.jt (s++MemOp.ofEvents g fn pos es) p):∀e∈es,(∀t,(MemAct.ofEvent e).touch? =some t→∃a,t.loc=.cell a∧((a.block=Wg∧t.kind≠.plain∧(t.kind=.said→g=0))∨a.block=x.C))∧(MemAct.ofEvent e).low Low:=by
 intro e he;obtain⟨j,hj⟩:=Array.getElem?_of_mem he;have hop:(s++MemOp.ofEvents g fn pos es)[s.size+j]?=some { g:=g,fn:=fn,pos:=pos,act:= .ofEvent e }:=by rw[MT,hj];rfl
 obtain⟨k1,k2⟩:=hx.ok _ (Side.oks h _ (zaX hop));refine⟨λt ht=>?_,k2⟩;obtain⟨a,ha,hb⟩:=k1 t ht;refine⟨a,ha,hb.imp (λhb=>?_) id⟩;obtain⟨q1,q2⟩:=Side.quiet h _ _ t hop ht (.inl ⟨a,ha,hb⟩);exact⟨hb,q1,q2⟩
theorem sV (hx:eT P ty Wg Low x)(hy:eT P ty Wg Low y)(zj:x.C≠y.C)(h:x.jt (s++MemOp.ofEvents g fn pos es) p)(h':y.jt (s'++MemOp.ofEvents g fn pos es) p'):∀e∈es,(∀t,(MemAct.ofEvent e).touch? =some t→∃a,t.loc=.cell a∧a.block=Wg∧t.kind≠.plain∧(t.kind=.said→g=0))∧(MemAct.ofEvent e).low Low:=by
 intro e he;obtain⟨k1,k2⟩:=Ht hx h e he;refine⟨λt ht=>?_,k2⟩;obtain⟨a,ha,hb⟩:=k1 t ht;obtain⟨a',ha',hb'⟩:=(Ht hy h' e he).1 t ht;rw[ha]at ha';obtain rfl:a=a':=by simpa using ha'
 rcases hb with hb|hb
 ·exact⟨a,ha,hb⟩
 ·rcases hb' with hb'|hb'
  ·exact⟨a,ha,hb'⟩
  ·exact absurd (hb.symm.trans hb') zj
theorem AH {w w':World}(zj:x.C≠y.C)(h:Aside2 x.C Wg w w')(h':Aside2 y.C Wg w w'):Aside Wg w w':=
 ⟨h.tape,h.os,h.output,h.size,λk hk=>by
   by_cases e:k=x.C
   ·exact h'.block k (by rw[e];exact zj) hk
   ·exact h.block k e hk⟩
end
section
variable {P:Program}{ty:TypeId}{Q Shun:Loc→Prop}{c ch Wg Low:Nat}{ro bk aK X:Nat→Prop}{w0 w w':World}{t u:Trace}{x y:Side Wg}
theorem kI.weaken {X':Nat→Prop}{cl:Bool}(h:kI Q Shun c ch Low ro bk aK X cl w0 w t)(hX:∀b,X b→X' b):kI Q Shun c ch Low ro bk aK X' cl w0 w t:=
 ⟨h.ti,h.d0,h.dc,h.mlt,h.Fy,h.apart,h.big,h.chan,h.tape,h.os,h.output,λb h1 h2=>h.keep b h1 λe=>h2 (hX b e),hX _ h.QQ⟩
structure Cq (Q Shun:Loc→Prop) (c ch Wg Low:Nat) (ro X:Nat→Prop):Prop extends Lay Q Shun c ch Low ro where
 LI:Wg<Low
 wch:Wg≠ch
 wQ:∀a:Addr,a.block=Wg→Q (.cell a)
 wX:X Wg
theorem Cq.wro (hY:Cq Q Shun c ch Wg Low ro X):¬ro Wg:=λh=>hY.rS (.cell ⟨Wg,0,none⟩) h (hY.QS _ (hY.wQ _ rfl))
theorem kI.SY (hY:Cq Q Shun c ch Wg Low ro X)(h:kI Q Shun c ch Low ro bk aK X true w0 w t)(hA:Aside Wg w w'){g:Nat}(hg:g=0∨g=c)(hu:∀op∈u,op.g=g∧∀x,op.act.touch? =some x→Q x.loc∧x.kind≠.plain∧(x.kind=.said→g=0))(hl:∀op∈u,op.act.low w.heap.size)(hd:Deaf (t++u) 0=0):kI Q Shun c ch Low ro bk aK X true w0 w' (t++u)∧bN ro bk w w':=by
 have hs:=hA.size;refine⟨⟨?_,hd,(λe=>by cases e),λb hb=>by have:=h.mlt b hb;omega,λb hb=>by have:=h.Fy b hb;omega,h.apart,by have:=h.big;omega,?_,hA.tape.trans h.tape,hA.os.trans h.os,hA.output.trans h.output,λb h1 h2=>?_,h.QQ⟩,hA.tape,hA.os,hA.output,by omega,λb hb=>hA.block b ?_⟩
 ·rw[hs];exact h.ti.QJ hg hu hl hY.QS λl hl=>⟨λhi=>sT (λb hb'=>(h.Fy b hb').1) hi (hY.sR l (hY.QS l hl)),λhi=>hY.rS l hi (hY.QS l hl)⟩
 ·obtain⟨s,r,tm,e⟩:=h.chan;exact⟨s,r,tm,by rw[hA.block ch (Ne.symm hY.wch)];exact e⟩
 ·rw[hA.block b λe=>h2 (by rw[e];exact hY.wX)];exact h.keep b h1 h2
 ·rintro rfl;rcases hb with hb|hb
  ·have:=h.mlt _ hb;have:=hY.LI;omega
  ·exact hY.wro hb
theorem uY {g g':Nat}{fn:FuncId}{pos:String}{es:Array Event}(hQ:∀a:Addr,a.block=Wg→Q (.cell a))(PG:g=0→g'=0)(h:∀e∈es,(∀t,(MemAct.ofEvent e).touch? =some t→∃a,t.loc=.cell a∧a.block=Wg∧t.kind≠.plain∧(t.kind=.said→g=0))∧(MemAct.ofEvent e).low Low):(∀op∈MemOp.ofEvents g' fn pos es,op.g=g'∧∀x,op.act.touch? =some x→Q x.loc∧x.kind≠.plain∧(x.kind=.said→g'=0))∧∀op∈MemOp.ofEvents g' fn pos es,op.act.low Low:=by
 refine⟨λop hop=>⟨ofEvents_g op hop,λx hx=>?_⟩,λop hop=>?_⟩
 ·obtain⟨e,he,rfl⟩:=Conc.mem_ofEvents hop;obtain⟨a,ha,hb,h1,h2⟩:=(h e he).1 x hx;exact⟨by rw[ha];exact hQ a hb,h1,λhs=>PG (h2 hs)⟩
 ·obtain⟨e,he,rfl⟩:=Conc.mem_ofEvents hop;exact(h e he).2
def acy (P:Program)(ty:TypeId)(Q Shun:Loc→Prop)(c ch:Nat){Wg:Nat}(Low:Nat)(ro X:Nat→Prop)(x y:Side Wg)(Fin:(Nat→Prop)→Goroutine→World→Prop)(w0:World)(m:Machine)(t:Trace):Prop:=
 ∃gs w sl q bk aK a b il iQ μ ν,m=crowd gs w sl∧dW P c t gs q∧gs[0]?=some a∧gs[c]?=some b∧Fin bk a w∧kI Q Shun c ch Low ro bk aK X true w0 w t∧x.half P ty Low μ b w il∧y.half P ty Low ν b w iQ∧GL c Wg il t∧GL c Wg iQ t
variable {z:Value}{Fin:(Nat→Prop)→Goroutine→World→Prop}
theorem MW:WellFounded Lt2:=(Prod.lex Nat.lt_wfRel Nat.lt_wfRel).wf
theorem JD {ro own:Nat→Prop}{g:Nat}{fn:FuncId}{pos:String}{es:Array Event}{a:Addr}(h:∀e∈es,BJ ro own e):∀op∈MemOp.ofEvents g fn pos es,op.act≠.mark (.release a):=by
 intro op hop e';obtain⟨e,he,rfl⟩:=Conc.mem_ofEvents hop;have hl:=uE a e';have:=h e he;unfold BJ at this;rw[hl]at this;exact this.1
theorem Cr (sW:eT P ty Wg Low x)(wz:eT P ty Wg Low y)(zj:x.C≠y.C){μ ν:Nat×Nat}{b:Goroutine}{il iQ:Trace}(hx:x.half P ty Low μ b w il)(hy:y.half P ty Low ν b w iQ)(hb:b.status=.running):∃b' w' es nL FC,stepG P false b w=.go b' w' es∧Aside Wg w w'∧Lt2 nL μ∧x.half P ty Low nL b' w' (il++MemOp.ofEvents 1 b.frame.fn b.frame.place es)∧y.half P ty Low FC b' w' (iQ++MemOp.ofEvents 1 b.frame.fn b.frame.place es):=by
 obtain⟨b',w',es,nL,h1,h2,h3,h4⟩:=@Half.move x.pl P ty Wg x.C Low x.sh x.vals x.Mine sW.hCW μ b w il hx hb;obtain⟨b'',w'',es',FC,k1,k2,k3,k4⟩:=@Half.move y.pl P ty Wg y.C Low y.sh y.vals y.Mine wz.hCW ν b w iQ hy hb;rw[h1]at k1;obtain⟨rfl,rfl,rfl⟩:b'=b''∧w'=w''∧es=es':=by simpa using k1
 exact⟨b',w',es,nL,FC,h1,AH zj h2 k2,h3,h4,k4⟩
theorem Uv (hY:Cq Q Shun c ch Wg Low ro X)(sW:eT P ty Wg Low x)(wz:eT P ty Wg Low y)(zj:x.C≠y.C){a:Goroutine}{wM:World}
 (hM:ai P true ro (ik P ch z (zb P ro ch z Fin [])) bk a wM):∀(μ ν:Nat×Nat) (aK:Nat→Prop) (b:Goroutine) (il iQ:Trace) gs w sl t q,dW P c t gs q→gs[0]?=some a→gs[c]?=some b→bN ro bk wM w→
   kI Q Shun c ch Low ro bk aK X true w0 w t→x.half P ty Low μ b w il→y.half P ty Low ν b w iQ→GL c Wg il t→GL c Wg iQ t→
   Reach P (crowd gs w sl) t (acy P ty Q Shun c ch Low ro X x y Fin w0):=by
 induction hM with
 | @stop bk a wM hS=>
   intro μ
   induction μ using MW.induction with
   |_ μ Uw=>
   intro ν aK b il iQ gs w sl t q hC h0 hc hr en hx hy hg1 hg2;have ha:a.status=.running:=(hS wM (bN.refl _ _ _)).1;have sk:=@Half.status x.pl P ty Wg x.C Low x.sh x.vals x.Mine μ b w il hx;refine gM (J:=λw t=>bN ro bk wM w∧kI Q Shun c ch Low ro bk aK X true w0 w t∧x.half P ty Low μ b w il∧y.half P ty Low ν b w iQ∧GL c Wg il t∧GL c Wg iQ t) (fp ha) (awake_of (sk.elim .inl λh=> .inr (.inr h))) (.inl ha)
    (λw t d ops hj h1 h2 h3 h4=>⟨hj.1.trans (eR _ _ _ d),hj.2.1.still d (λop hop=>(h1 op hop).1) (h2 _) h3 h4,Side.jO hY.LI sW.hC hj.2.2.1 (λ_ _=>rfl),Side.jO hY.LI wz.hC hj.2.2.2.1 (λ_ _=>rfl),hj.2.2.2.2.1.other (λop hop=>⟨(h1 op hop).2 _,λ_=>(h1 op hop).1⟩) h3 h4,hj.2.2.2.2.2.other (λop hop=>⟨(h1 op hop).2 _,λ_=>(h1 op hop).1⟩) h3 h4⟩)
    (λw t hj=>⟨.run ha,λu u' d=>Side.pS hj.2.2.1 u u'⟩)
    (λ_ gs w sl t q hC h0 hc hj=>?_) (λhb gs w sl t q hC h0 hc hj=>?_) gs w sl t q hC h0 hc ⟨hr,en,hx,hy,hg1,hg2⟩
   ·obtain⟨hr,en,hx,hy,hg1,hg2⟩:=hj;obtain⟨s,r,tm,hch⟩:=en.chan;obtain⟨_,hst,qT⟩:=hS w hr;obtain⟨gs',fn,pos,e1,e2,e3,e4⟩:=sQ (sl:=sl) hC h0 hc (by rcases sk with h|h<;>simp[h]) hst hch
    have hm:∀op∈(#[{ g:=0,fn:=fn,pos:=pos,act:= .recvClosed ch }]:Trace),∀m,op.act≠.mark m:=by intro op hop m;simp at hop;subst hop;simp
    have ht:∀op∈(#[{ g:=0,fn:=fn,pos:=pos,act:= .recvClosed ch }]:Trace),op.act.touch? =none:=by intro op hop;simp at hop;subst hop;rfl
    have dV:∀op∈(#[{ g:=0,fn:=fn,pos:=pos,act:= .recvClosed ch }]:Trace),op.act.low w.heap.size:=by
     intro op hop;simp at hop;subst hop;have:ch<w.heap.size:=by have:=hY.Fx;have:=en.big;omega
     exact this
    have acz:=en.still w.drawn ht dV (cW t 0 _ hm) (cW t c _ hm);exact⟨_,_,e1,.here ⟨gs',w,sl,q,bk,aK,_,b,il,iQ,μ,ν,rfl,e2,e3,e4,qT,acz,hx,hy,hg1.other (λop hop=>⟨hm op hop _,λ_=>ht op hop⟩) (cW t 0 _ hm) (cW t c _ hm),hg2.other (λop hop=>⟨hm op hop _,λ_=>ht op hop⟩) (cW t 0 _ hm) (cW t c _ hm)⟩⟩
   ·obtain⟨hr,en,hx,hy,hg1,hg2⟩:=hj;obtain⟨b',w',es,nL,FC,hst,hA,hlt,Ar,hy'⟩:=Cr sW wz zj hx hy hb;obtain⟨gs',e1,e2,e3,e4⟩:=jX (sl:=sl) hC h0 hc hst;rw[woken_run ha]at e3;obtain⟨p1,j1⟩:=@Half.jt x.pl P ty Wg x.C Low x.sh x.vals x.Mine _ _ _ _ Ar;obtain⟨p2,j2⟩:=@Half.jt y.pl P ty Wg y.C Low y.sh y.vals y.Mine _ _ _ _ hy';have uF:∀e∈es,∀x,(MemAct.ofEvent e).touch? =some x→∃ad,x.loc=.cell ad∧ad.block=Wg:=λe he x hx=>let⟨ad,h1,h2,_⟩:=(sV sW wz zj j1 j2 e he).1 x hx;⟨ad,h1,h2⟩;obtain⟨o1,o2⟩:=uY (Q:=Q) (g':=c) (fn:=b.frame.fn) (pos:=b.frame.place) hY.wQ (by simp) (sV sW wz zj j1 j2);obtain⟨k1,k2⟩:=en.SY hY hA (.inr rfl) o1 (λop hop=>MemAct.low_mono en.big (o2 op hop)) (by rw[Deaf_other t hY.c0 _ ofEvents_g];exact en.d0);exact⟨_,_,e1,Uw nL hlt FC aK b' _ _ gs' w' sl _ q e2 e3 e4 (hr.trans k2) k1 Ar hy' (hg1.step hY.c0 (.inr rfl) (by simp) _ _ es (Side.norel j1) uF) (hg2.step hY.c0 (.inr rfl) (by simp) _ _ es (Side.norel j2) uF)⟩
 | @step bk a wM nx nw ne ha h1 h2 _ ih=>
   intro μ
   induction μ using MW.induction with
   |_ μ Uw=>
   intro ν aK b il iQ gs w sl t q hC h0 hc hr en hx hy hg1 hg2;have sk:=@Half.status x.pl P ty Wg x.C Low x.sh x.vals x.Mine μ b w il hx;refine gM (J:=λw t=>bN ro bk wM w∧kI Q Shun c ch Low ro bk aK X true w0 w t∧x.half P ty Low μ b w il∧y.half P ty Low ν b w iQ∧GL c Wg il t∧GL c Wg iQ t) (fp ha) (awake_of (sk.elim .inl λh=> .inr (.inr h))) (.inl ha)
    (λw t d ops hj h1 h2 h3 h4=>⟨hj.1.trans (eR _ _ _ d),hj.2.1.still d (λop hop=>(h1 op hop).1) (h2 _) h3 h4,Side.jO hY.LI sW.hC hj.2.2.1 (λ_ _=>rfl),Side.jO hY.LI wz.hC hj.2.2.2.1 (λ_ _=>rfl),hj.2.2.2.2.1.other (λop hop=>⟨(h1 op hop).2 _,λ_=>(h1 op hop).1⟩) h3 h4,hj.2.2.2.2.2.other (λop hop=>⟨(h1 op hop).2 _,λ_=>(h1 op hop).1⟩) h3 h4⟩)
    (λw t hj=>⟨.run ha,λu u' d=>Side.pS hj.2.2.1 u u'⟩)
    (λ_ gs w sl t q hC h0 hc hj=>?_) (λhb gs w sl t q hC h0 hc hj=>?_) gs w sl t q hC h0 hc ⟨hr,en,hx,hy,hg1,hg2⟩
   ·obtain⟨hr,en,hx,hy,hg1,hg2⟩:=hj;have PF:=h2 w hr;obtain⟨gs',e1,e2,e3,e4⟩:=qP (sl:=sl) hC h0 hc (h1 w hr);rw[Side.pS hx]at e4;obtain⟨k1,k2⟩:=en.MP (fn:=a.frame.fn) (pos:=a.frame.place) hY.toLay PF;have dV:∀b,b<Low→(nw w).heap[b]?=w.heap[b]?:=λb hlt=>PF.block b (by have:=en.big;omega) λhm=>by have:=en.mlt b hm;omega
    have MX:Deaf (t++MemOp.ofEvents 0 a.frame.fn a.frame.place (ne w)) 0=Deaf t 0:=wx PF.evs;have hdc:Deaf (t++MemOp.ofEvents 0 a.frame.fn a.frame.place (ne w)) c=Deaf t c:=Deaf_other t (Ne.symm hY.c0) _ ofEvents_g;have Yp:∀op∈MemOp.ofEvents 0 a.frame.fn a.frame.place (ne w),op.act≠.mark (.release (stA Wg))∧(op.g=c→op.act.touch? =none):=λop hop=>⟨JD PF.evs op hop,λe=>absurd ((ofEvents_g op hop).symm.trans e) (Ne.symm hY.c0)⟩;exact⟨_,_,e1,ih w hr μ ν aK b il iQ gs' _ sl _ q e2 e3 e4 (bN.refl _ _ _) k1 (Side.jO hY.LI sW.hC hx dV) (Side.jO hY.LI wz.hC hy dV) (hg1.other Yp MX hdc) (hg2.other Yp MX hdc)⟩
   ·obtain⟨hr,en,hx,hy,hg1,hg2⟩:=hj;obtain⟨b',w',es,nL,FC,hst,hA,hlt,Ar,hy'⟩:=Cr sW wz zj hx hy hb;obtain⟨gs',e1,e2,e3,e4⟩:=jX (sl:=sl) hC h0 hc hst;rw[woken_run ha]at e3;obtain⟨p1,j1⟩:=@Half.jt x.pl P ty Wg x.C Low x.sh x.vals x.Mine _ _ _ _ Ar;obtain⟨p2,j2⟩:=@Half.jt y.pl P ty Wg y.C Low y.sh y.vals y.Mine _ _ _ _ hy';have uF:∀e∈es,∀x,(MemAct.ofEvent e).touch? =some x→∃ad,x.loc=.cell ad∧ad.block=Wg:=λe he x hx=>let⟨ad,h1,h2,_⟩:=(sV sW wz zj j1 j2 e he).1 x hx;⟨ad,h1,h2⟩;obtain⟨o1,o2⟩:=uY (Q:=Q) (g':=c) (fn:=b.frame.fn) (pos:=b.frame.place) hY.wQ (by simp) (sV sW wz zj j1 j2);obtain⟨k1,k2⟩:=en.SY hY hA (.inr rfl) o1 (λop hop=>MemAct.low_mono en.big (o2 op hop)) (by rw[Deaf_other t hY.c0 _ ofEvents_g];exact en.d0);exact⟨_,_,e1,Uw nL hlt FC aK b' _ _ gs' w' sl _ q e2 e3 e4 (hr.trans k2) k1 Ar hy' (hg1.step hY.c0 (.inr rfl) (by simp) _ _ es (Side.norel j1) uF) (hg2.step hY.c0 (.inr rfl) (by simp) _ _ es (Side.norel j2) uF)⟩
end
end Go.Ren
set_option linter.unusedSectionVars false
namespace Go.Ren
open Go Go.Conc
open Go.ConcX (Payload Shy stA smA Base CA JInv RCa RCd DCs AtR0 RPa DPi AtKd PA KK WgAt ChanAt Full Aside2 runTX JT AtW1 Acquired Lt4 LtG ltG_wf AtRetJ DPj)
open Go.ConcN (sumTo upd sumTo_upd upd_ne upd_same)
section
variable {P:Program}{c:Nat}{t:Trace}{gs:Array Goroutine}{q:Nat→Nat}{a b:Goroutine}{w:World}{sl:Option (Nat×Nat)}
theorem Cs (hC:dW P c t gs q)(h0:gs[0]?=some a)(hc:gs[c]?=some b)(PD:awake a)(Ya:awake b)(hrun:a.status=.running∨b.status=.running):∃d sl',(a.status=.running∧stepT P (crowd gs w sl)=runT P (crowd gs (w.at d) sl') 0)∨
 (b.status=.running∧stepT P (crowd gs w sl)=runT P (crowd gs (w.at d) sl') c)∨
 (∃gs' ops q' x x',stepT P (crowd gs w sl)=(.next (crowd gs' (w.at d) sl'),ops)∧dW P c (t++ops) gs' q'∧gs'[0]?=some (Conc.woken P x x' (w.at d) a)∧gs'[c]?=some (Conc.woken P x x' (w.at d) b)∧sumTo c q'<sumTo c q∧(∀op∈ops,op.act.touch? =none∧∀a,op.act≠.mark (.release a))∧(∀B,∀op∈ops,op.act.low B)∧Deaf (t++ops) 0=Deaf t 0∧Deaf (t++ops) c=Deaf t c):=by
 have iP:=hC.pos;have Ul:∀g∈gs,awake g:=by
  intro g hg;obtain⟨i,hi,rfl⟩:=zbn.1 hg;have hi':=zaq hi;rcases hC.get hi' with rfl|rfl|⟨h1,h2⟩
  ·rw[h0]at hi';obtain rfl:=Option.some.inj hi';exact PD
  ·rw[hc]at hi';obtain rfl:=Option.some.inj hi';exact Ya
  ·exact awake_of ((hC.old i _ h1 h2 hi').status.elim .inl λx=> .inr (.inr x))
 obtain⟨i,g,d,sl',hi,hg,hst⟩:=crowd_pick (P:=P) (w:=w) (sl:=sl) Ul (hrun.elim (λh=>⟨0,a,h0,h⟩) λh=>⟨c,b,hc,h⟩);refine⟨d,sl',?_⟩;rcases hC.get hi with rfl|rfl|⟨h1,h2⟩
 ·rw[h0]at hi;obtain rfl:=Option.some.inj hi;exact .inl ⟨hg,hst⟩
 ·rw[hc]at hi;obtain rfl:=Option.some.inj hi;exact .inr (.inl ⟨hg,hst⟩)
 ·right;right;have hq:=hC.old i g h1 h2 hi;have PE:(i==0)=false:=by simp;omega
  have hlt:i<gs.size:=(zac.1 hi).1;cases Fl:q i with
  |zero=>rw[Fl]at hq;rw[hq.1]at hg;cases hg
  |succ k=>
   rw[Fl]at hq;rcases hq with⟨hf,_⟩|⟨_,g',es,hm,Fo,hq'⟩
   ·rw[hf]at hg;cases hg
   have qO:=runT_crowd_go (P:=P) (sl:=sl') (i:=i) hi (by rw[PE];exact Fo (w.at d));have Um:sumTo c (upd q i k)+(k+1)=sumTo c q+k:=by
    have:=sumTo_upd q k id h2;simpa[Fl]using this
   refine⟨_,_,upd q i k,g,g',hst.trans qO,⟨by simp[hC.size],iP,λj x hj Un hx=>?_,λj hj=>?_⟩,?_,?_,by omega,λop hop=>?_,λB op hop=>?_,Deaf_other t (by omega) _ ofEvents_g,Deaf_other t (by omega) _ ofEvents_g⟩
   ·by_cases uz:i=j
    ·subst uz;rw[zaJ (by simpa using hlt)]at hx;obtain rfl:=Option.some.inj hx;rw[upd_same,Deaf_own];exact hq'
    ·rw[zak uz,zal]at hx;obtain⟨y,hy,rfl⟩:=zai.1 hx;have MA:=hC.old j y hj Un hy;rw[woken_quitsD MA,upd_ne q k (Ne.symm uz),Deaf_other t uz _ ofEvents_g];exact MA
   ·rw[Deaf_other t (g':=i) (by omega) _ ofEvents_g];exact hC.above j hj
   ·rw[zak (by omega),zal,h0];rfl
   ·rw[zak (by omega),zal,hc];rfl
   ·obtain⟨e,he,rfl⟩:=Conc.mem_ofEvents hop;exact⟨touch_mute (hm e he),λa=>pQ (hm e he) a⟩
   ·obtain⟨e,he,rfl⟩:=Conc.mem_ofEvents hop;exact low_mute (hm e he) B
end
section
variable {Wg:Nat}
def Side.J (x:Side Wg)(P:Program)(ty:TypeId)(Low:Nat)(μ:Nat×Nat×Nat×Nat)(a b:Goroutine)(w:World)(s:Trace):Prop:=@JInv x.pl P ty Wg x.C Low x.sh x.vals x.Mine x.AnchW x.Post μ (duo a b w none) s
def Side.acq (x:Side Wg)(P:Program)(ty:TypeId)(Low:Nat)(a b:Goroutine)(w:World)(s:Trace):Prop:=@Acquired x.pl P ty Wg x.C Low x.sh x.vals x.Mine x.Post (duo a b w none) s
end
theorem QU [Payload] {P:Program}{ty:TypeId}{Wg C Low:Nat} [Shy Wg C] {vals:List Value}{Mine:Loc→Prop}{AnchW:Goroutine→World→Prop}{Post:Value→World→Prop}{μ:Nat×Nat×Nat×Nat}{m:Machine}{s:Trace}
 (h:JInv P ty Wg C Low vals Mine AnchW Post μ m s):∃p,JT Mine Wg C s p:=by
 cases h with
 |a _ _ _ _ _ p _ _ _ _ _ _ _ _ _ _ _ hB=>exact⟨p,hB.jt⟩
 |b _ _ _ _ _ p _ _ _ _ _ _ _ _ _ _ hB=>exact⟨p,hB.jt⟩
 |c _ _ _ _ _ p _ _ _ _ _ hB=>exact⟨p,hB.jt⟩
 |d _ _ _ _ _ p _ _ _ _ _ hB=>exact⟨p,hB.jt⟩
 |f _ _ _ _ _ p _ _ _ hB=>exact⟨p,hB.jt⟩
 |j _ _ _ _ _ p _ _ _ _ _ _ _ _ _ hB=>exact⟨p,hB.jt⟩
section
variable {P:Program}{ty:TypeId}{Wg Low:Nat}{x:Side Wg}{μ:Nat×Nat×Nat×Nat}{a b:Goroutine}{w:World}{s:Trace}
theorem Side.QV (h:x.J P ty Low μ a b w s):∃p,x.jt s p:=@QU x.pl P ty Wg x.C Low x.sh x.vals x.Mine x.AnchW x.Post μ _ s h
theorem Side.Hu (hx:eT P ty Wg Low x)(h:x.J P ty Low μ a b w s):awake a∧awake b∧(a.status=.running∨b.status=.running)∧∀d,x.J P ty Low μ a b (w.at d) s:=by
 obtain⟨a1,b1,w1,sl1,e,h1,h2,h3,h4⟩:=@Go.ConcX.JInv.shape x.pl P ty Wg x.C Low x.sh x.vals x.Mine x.AnchW x.Post hx.Y6 μ _ s h;obtain⟨rfl,rfl,rfl,rfl⟩:=Go.ConcX.duo_inj e;exact⟨h1,h2,h3,λd=>h4 d none⟩
theorem Side.Hv (hx:eT P ty Wg Low x)(h:x.J P ty Low μ a b w s)(g g':Goroutine):∃nL,x.J P ty Low nL (Conc.woken P g g' w a) (Conc.woken P g g' w b) w s:=by
 obtain⟨a1,b1,w1,sl1,e,nL,h1⟩:=@Go.ConcX.JInv.woken x.pl P ty Wg x.C Low x.sh x.vals x.Mine x.AnchW x.Post hx.Y6 μ _ s h g g';obtain⟨rfl,rfl,rfl,rfl⟩:=Go.ConcX.duo_inj e;exact⟨nL,h1⟩
theorem Side.AJ (h:x.acq P ty Low a b w s)(d:Nat):x.acq P ty Low a b (w.at d) s:=@Go.ConcX.Acquired.at x.pl P ty Wg x.C Low x.sh x.vals x.Mine x.Post a b w none s h d none
theorem Side.Hw (hW:Wg<Low)(hx:eT P ty Wg Low x)(h:x.J P ty Low μ a b w s)(ha:a.status=.running):x.acq P ty Low a b w s∨∃a' w' es nL,stepG P true a w=.go a' w' es∧Lt4 nL μ∧x.J P ty Low nL a' (Conc.woken P a a' w' b) w' (s++MemOp.ofEvents 0 a.frame.fn a.frame.place es):=by
 rcases @Go.ConcX.join_step x.pl P ty Wg x.C Low x.sh x.vals x.Mine x.AnchW x.Post hW hx.hC hx.hCW hx.Y6 hx.hAn μ _ s h (runTX P (duo a b (w.at w.drawn) none) 0)
  (λa2 b2 w2 sl2 e2=>by obtain⟨rfl,rfl,rfl,rfl⟩:=Go.ConcX.duo_inj e2;exact⟨w.drawn,none,.inl ⟨ha,rfl⟩⟩)with wA|⟨m',ops,nL,hX,hlt,hJ'⟩
 ·exact .inl wA
 ·rw[duo_eq_crowd]at hX;obtain⟨g0,g',w',es,hg0,hgo,rfl,rfl⟩:=Go.ConcX.runTX_next hX;obtain rfl:a=g0:=by simpa using hg0
  have em:crowd ((#[a,b].map (Conc.woken P a g' w')).setIfInBounds 0 g') w' none=duo g' (Conc.woken P a g' w' b) w' none:=by simp[crowd,duo]
  rw[em]at hJ';exact .inr ⟨g',w',es,nL,hgo,hlt,hJ'⟩
theorem Side.Hy (hW:Wg<Low)(hx:eT P ty Wg Low x)(h:x.J P ty Low μ a b w s)(hb:b.status=.running):x.acq P ty Low a b w s∨∃b' w' es nL,stepG P false b w=.go b' w' es∧Lt4 nL μ∧x.J P ty Low nL (Conc.woken P b b' w' a) b' w' (s++MemOp.ofEvents 1 b.frame.fn b.frame.place es):=by
 rcases @Go.ConcX.join_step x.pl P ty Wg x.C Low x.sh x.vals x.Mine x.AnchW x.Post hW hx.hC hx.hCW hx.Y6 hx.hAn μ _ s h (runTX P (duo a b (w.at w.drawn) none) 1)
  (λa2 b2 w2 sl2 e2=>by obtain⟨rfl,rfl,rfl,rfl⟩:=Go.ConcX.duo_inj e2;exact⟨w.drawn,none,.inr ⟨hb,rfl⟩⟩)with wA|⟨m',ops,nL,hX,hlt,hJ'⟩
 ·exact .inl wA
 ·obtain⟨b',w',es,hgo,rfl,rfl⟩:=@wy x.pl P a b (w.at w.drawn) m' ops hX;exact .inr ⟨b',w',es,nL,hgo,hlt,hJ'⟩
end
section
variable {P:Program}{ty:TypeId}{Q Shun:Loc→Prop}{c ch Wg Low B:Nat}{ro aK X:Nat→Prop}{x y:Side Wg}
def Yq (P:Program)(ty:TypeId)(Q Shun:Loc→Prop)(c:Nat){Wg:Nat}(Low B:Nat)(ro aK:Nat→Prop)(x y:Side Wg)(m:Machine)(t:Trace):Prop:=
 ∃gs w sl q a b s,m=crowd gs w sl∧dW P c t gs q∧gs[0]?=some a∧gs[c]?=some b∧TI Q Shun c aK ro B t∧GL c Wg s t∧(x.acq P ty Low a b w s∨y.acq P ty Low a b w s)
theorem Ux (hY:Cq Q Shun c ch Wg Low ro X)(sW:eT P ty Wg Low x)(wz:eT P ty Wg Low y)(zj:x.C≠y.C)(hB:Low≤B)(hown:∀b,aK b→Low≤b):∀(M:Nat×(Nat×Nat×Nat×Nat)) (ν:Nat×Nat×Nat×Nat) (gs:Array Goroutine) (w:World) (sl:Option (Nat×Nat)) (t:Trace) (q:Nat→Nat) (a b:Goroutine) (il iQ:Trace),sumTo c q=M.1→dW P c t gs q→gs[0]?=some a→gs[c]?=some b→TI Q Shun c aK ro B t→x.J P ty Low M.2 a b w il→y.J P ty Low ν a b w iQ→GL c Wg il t→GL c Wg iQ t→Reach P (crowd gs w sl) t (Yq P ty Q Shun c Low B ro aK x y):=by
 intro M
 induction M using ltG_wf.induction with
 |_ M ih=>
 intro ν gs w sl t q a b il iQ hM hC h0 hc hT hx hy hg1 hg2;obtain⟨awa,awb,hrun,acA⟩:=Side.Hu sW hx;obtain⟨_,_,_,acB⟩:=Side.Hu wz hy;have X8:∀l,Q l→¬jv aK l∧¬jv ro l:=λl hl=>⟨λhi=>sT hown hi (hY.sR l (hY.QS l hl)),λhi=>hY.rS l hi (hY.QS l hl)⟩;obtain⟨d,sl',Hz⟩:=Cs (w:=w) (sl:=sl) hC h0 hc awa awb hrun;have hx1:=acA d;have hy1:=acB d;rcases Hz with⟨hr,hst⟩|⟨hr,hst⟩|⟨gs',ops,q',g,g',hst,hC',Jt,hc',hlt,o1,o2,o3,o4⟩
 ·rcases Side.Hw hY.LI sW hx1 hr with wA|⟨a',w',es,nL,hgo,hl,Ar⟩
  ·exact .here ⟨gs,w,sl,q,a,b,il,rfl,hC,h0,hc,hT,hg1,.inl (Side.AJ wA w.drawn)⟩
  rcases Side.Hw hY.LI wz hy1 hr with wA|⟨a2,w2,XY,FC,MZ,_,hy'⟩
  ·exact .here ⟨gs,w,sl,q,a,b,iQ,rfl,hC,h0,hc,hT,hg2,.inr (Side.AJ wA w.drawn)⟩
  rw[hgo]at MZ;obtain⟨rfl,rfl,rfl⟩:a'=a2∧w'=w2∧es=XY:=by simpa using MZ
  obtain⟨p1,j1⟩:=Side.QV Ar;obtain⟨p2,j2⟩:=Side.QV hy';have ic:=sV sW wz zj j1 j2;have uF:∀e∈es,∀x,(MemAct.ofEvent e).touch? =some x→∃ad,x.loc=.cell ad∧ad.block=Wg:=λe he x hx=>let⟨ad,h1,h2,_⟩:=(ic e he).1 x hx;⟨ad,h1,h2⟩;obtain⟨k1,k2⟩:=uY (Q:=Q) (g':=0) (fn:=a.frame.fn) (pos:=a.frame.place) hY.wQ (λ_=>rfl) ic;obtain⟨gs',e1,e2,e3,e4⟩:=qP (sl:=sl') hC h0 hc hgo;exact Reach.step (hst.trans e1) (ih (M.1,nL) (.right _ hl) FC gs' w' sl' _ q a' _ _ _ hM e2 e3 e4 (hT.QJ (.inl rfl) k1 (λop hop=>MemAct.low_mono hB (k2 op hop)) hY.QS X8) Ar hy' (hg1.step hY.c0 (.inl rfl) (by simp) _ _ es (Side.norel j1) uF) (hg2.step hY.c0 (.inl rfl) (by simp) _ _ es (Side.norel j2) uF))
 ·rcases Side.Hy hY.LI sW hx1 hr with wA|⟨a',w',es,nL,hgo,hl,Ar⟩
  ·exact .here ⟨gs,w,sl,q,a,b,il,rfl,hC,h0,hc,hT,hg1,.inl (Side.AJ wA w.drawn)⟩
  rcases Side.Hy hY.LI wz hy1 hr with wA|⟨a2,w2,XY,FC,MZ,_,hy'⟩
  ·exact .here ⟨gs,w,sl,q,a,b,iQ,rfl,hC,h0,hc,hT,hg2,.inr (Side.AJ wA w.drawn)⟩
  rw[hgo]at MZ;obtain⟨rfl,rfl,rfl⟩:a'=a2∧w'=w2∧es=XY:=by simpa using MZ
  obtain⟨p1,j1⟩:=Side.QV Ar;obtain⟨p2,j2⟩:=Side.QV hy';have ic:=sV sW wz zj j1 j2;have uF:∀e∈es,∀x,(MemAct.ofEvent e).touch? =some x→∃ad,x.loc=.cell ad∧ad.block=Wg:=λe he x hx=>let⟨ad,h1,h2,_⟩:=(ic e he).1 x hx;⟨ad,h1,h2⟩;obtain⟨k1,k2⟩:=uY (Q:=Q) (g':=c) (fn:=b.frame.fn) (pos:=b.frame.place) hY.wQ (by simp) ic;obtain⟨gs',e1,e2,e3,e4⟩:=jX (sl:=sl') hC h0 hc hgo;exact Reach.step (hst.trans e1) (ih (M.1,nL) (.right _ hl) FC gs' w' sl' _ q _ a' _ _ hM e2 e3 e4 (hT.QJ (.inr rfl) k1 (λop hop=>MemAct.low_mono hB (k2 op hop)) hY.QS X8) Ar hy' (hg1.step hY.c0 (.inr rfl) (by simp) _ _ es (Side.norel j1) uF) (hg2.step hY.c0 (.inr rfl) (by simp) _ _ es (Side.norel j2) uF))
 ·obtain⟨nL,Ar⟩:=Side.Hv sW hx1 g g';obtain⟨FC,hy'⟩:=Side.Hv wz hy1 g g';exact Reach.step hst (ih (sumTo c q',nL) (.left _ _ (by omega)) FC gs' (w.at d) sl' _ q' _ _ il iQ rfl hC' Jt hc' (hT.still (λop hop=>(o1 op hop).1) (o2 _)) Ar hy' (hg1.other (λop hop=>⟨(o1 op hop).2 _,λ_=>(o1 op hop).1⟩) o3 o4) (hg2.other (λop hop=>⟨(o1 op hop).2 _,λ_=>(o1 op hop).1⟩) o3 o4))
theorem Ct {t:Trace}(SX:∀a:Addr,a.block=Wg→Shun (.cell a))(hT:TI Q Shun c aK ro B t)(hA:MU c Wg t)(hd:Deaf t 0=0):Past Shun B t:=by
 obtain⟨R,K,hR,hK,hg,hh,hRK⟩:=hA;have Yr:HappensBefore t R K:= .single (.inr ⟨.marked hRK (.inr hR.act) hK (λk h1 _=>hR.norel k h1),hR.heard,hh⟩);obtain⟨z,hz,hzg⟩:=zai.1 hg;have before:∀i,t.g? i=some c→i≤R→HappensBefore t i K:=λi hi hle=>by
  rcases zag i R with hlt|i6
  ·exact .trans (.single (.inl ⟨hlt,c,hi,hR.g⟩)) Yr
  ·obtain rfl:i=R:=by omega
   exact Yr
 refine⟨hT.clean,λi a ha hm=>?_,λi g FB h0 BI=>?_,hd,hT.seen⟩
 ·rcases hT.known i a ha hm with h|h|⟨h,_⟩
  ·exact .inl h
  ·exact .inr h
  ·rcases zag R i with hlt|hle
   ·obtain⟨ad,h1,h2⟩:=hR.late i a hlt h ha;refine .inr ⟨by rw[h1];exact SX ad h2,?_⟩;by_cases hk:a.kind=.atomic
    ·exact hk
    ·exact absurd ⟨a,ha,hm,.inl hk⟩ (hR.after i hlt h)
   ·exact .inl ⟨K,z,hz,hzg,.inr (before i h hle)⟩
 ·by_cases WJ:g=c
  ·subst WJ;exact⟨K,hg,before i FB (Nat.le_of_not_lt λhlt=>hR.after i hlt FB BI)⟩
  ·exact hT.over i g FB h0 WJ BI
theorem M0 (sW:eT P ty Wg Low x)(hB:Low≤B)(hCS:∀a:Addr,a.block=x.C→¬Shun (.cell a)){e:Event}(h:@Go.ConcX.EvJ x.Mine Wg x.C x.sh e):EvL Shun B e:=by
 obtain⟨h1,h2,h3⟩:=h;obtain⟨_,ht,_,hk⟩:=h1 0 "";obtain⟨k1,k2⟩:=sW.ok _ hk;refine⟨λz hz hs=>?_,h2,h3,MemAct.low_mono hB k2⟩;obtain⟨a,ha,hb|hb⟩:=k1 z hz
 ·exact(ht z hz).2.1 (.inl ⟨a,ha,hb⟩)
 ·rw[ha]at hs;exact absurd hs (hCS a hb)
def acC (P:Program)(Shun:Loc→Prop)(c:Nat){Wg:Nat}(B:Nat)(x y:Side Wg)(m:Machine)(t:Trace):Prop:=
 ∃gs w sl q a,m=crowd gs w sl∧gs.size=c+1∧gs[0]?=some a∧a.status=.running∧(x.sh.stop a w∨y.sh.stop a w)∧Leavers P t gs q∧Past Shun B t
theorem Cu {x:Side Wg}(sW:eT P ty Wg Low x)(hB:Low≤B)(SX:∀a:Addr,a.block=Wg→Shun (.cell a))(hCS:∀a:Addr,a.block=x.C→¬Shun (.cell a)){gs:Array Goroutine}{w:World}{sl:Option (Nat×Nat)}{q:Nat→Nat}{a b:Goroutine}{s t:Trace}
 (hC:dW P c t gs q)(h0:gs[0]?=some a)(hc:gs[c]?=some b)(hT:TI Q Shun c aK ro B t)(hg:GL c Wg s t)(hA:x.acq P ty Low a b w s):
 Reach P (crowd gs w sl) t λm t=>∃gs w sl q a,m=crowd gs w sl∧gs.size=c+1∧gs[0]?=some a∧a.status=.running∧x.sh.stop a w∧Leavers P t gs q∧Past Shun B t:=by
 letI:=x.pl
 letI:=x.sh
 obtain⟨a1,b1,w1,sl1,p,d1,k,mp,r,vs,e,SZ,hG,hAc,hq⟩:=hA;obtain⟨rfl,rfl,rfl,rfl⟩:=Go.ConcX.duo_inj e;have hP:=Ct SX hT (hg.acq hAc) (hg.d0.trans SZ.deaf0);have hL:Leavers P t gs (upd q c k):=by
  refine⟨λi g hi FB=>?_,λj hj=>hC.above j (by have:=hC.size;omega)⟩;rcases hC.get FB with rfl|rfl|⟨h1,h2⟩
  ·omega
  ·rw[hc]at FB;obtain rfl:=Option.some.inj FB;rw[upd_same,hg.dc,SZ.deaf1];exact hq
  ·rw[upd_ne q k (by omega)];exact hC.old i g h1 h2 FB
 obtain⟨N,gs',a',w',sl',T',q',hr,hs',Jt,hS,Yc,acD⟩:=walk_beside (P:=P) (λ_ _ es hD e he=>M0 sW hB hCS (hD.2 e he)) _ mp gs a w sl t _ (zaa _) h0 hL hP hG;exact⟨N,_,_,hr,gs',w',sl',q',a',rfl,hs'.trans hC.size,Jt,hS.1,hS.2,Yc,acD⟩
theorem Uy (sW:eT P ty Wg Low x)(wz:eT P ty Wg Low y)(hB:Low≤B)(SX:∀a:Addr,a.block=Wg→Shun (.cell a))(Ys:∀a:Addr,a.block=x.C→¬Shun (.cell a))(Yt:∀a:Addr,a.block=y.C→¬Shun (.cell a)){m:Machine}{t:Trace}(h:Yq P ty Q Shun c Low B ro aK x y m t):Reach P m t (acC P Shun c B x y):=by
 obtain⟨gs,w,sl,q,a,b,s,rfl,hC,h0,hc,hT,hg,hA|hA⟩:=h
 ·exact(Cu sW hB SX Ys hC h0 hc hT hg hA).mono λm t ⟨gs,w,sl,q,a,e,h1,h2,h3,h4,h5,h6⟩=>⟨gs,w,sl,q,a,e,h1,h2,h3,.inl h4,h5,h6⟩
 ·exact(Cu wz hB SX Yt hC h0 hc hT hg hA).mono λm t ⟨gs,w,sl,q,a,e,h1,h2,h3,h4,h5,h6⟩=>⟨gs,w,sl,q,a,e,h1,h2,h3,.inr h4,h5,h6⟩
end
end Go.Ren
set_option linter.unusedSectionVars false
namespace Go.Ren
open Go Go.Conc
open Go.ConcX (Payload Shy stA smA Base CA JInv RCa RCd DCs AtR0 RPa DPi AtKd PA KK WgAt ChanAt Full Aside2 runTX JT AtW1)
def okR (Wg C Low:Nat)(act:MemAct):Prop:=(∀t,act.touch? =some t→∃a,t.loc=.cell a∧(a.block=Wg∨a.block=C))∧act.low Low
@[reducible] def lH (Wg C Low:Nat) (St:Goroutine→World→Prop) (hW:Wg<Low) (hC:C<Low):Shy Wg C where
  ok:=okR Wg C Low
  atomicWg a wr h:=⟨λx hx=>by simp only[MemAct.touch?,zam]at hx;subst hx;exact⟨a,rfl,.inl h⟩,by show a.block<Low;omega⟩
  readWg a h:=⟨λx hx=>by simp only[MemAct.touch?,zam]at hx;subst hx;exact⟨a,rfl,.inl h⟩,by show a.block<Low;omega⟩
  writeWg a h:=⟨λx hx=>by simp only[MemAct.touch?,zam]at hx;subst hx;exact⟨a,rfl,.inl h⟩,by show a.block<Low;omega⟩
  theirs a wr h:=⟨λx hx=>by simp only[MemAct.touch?,zam]at hx;subst hx;exact⟨a,rfl,.inr h⟩,by show a.block<Low;omega⟩
  disable:=⟨λx hx=>(by cases hx),trivial⟩
  enable:=⟨λx hx=>(by cases hx),trivial⟩
  relMerge:=⟨λx hx=>(by cases hx),hW⟩
  acquire:=⟨λx hx=>(by cases hx),hW⟩
  go1:=⟨λx hx=>(by cases hx),trivial⟩
  start:=⟨λx hx=>(by cases hx),trivial⟩
  stop:=St
structure sX (Wg Low:Nat) where
 pl:Payload
 C:Nat
 vals:List Value
 hC:C<Low
 hCW:C≠Wg
 hW:Wg<Low
def j8:Loc→Prop:=λ_=>False
def sX.side {Wg Low:Nat}(k:sX Wg Low)(St:Goroutine→World→Prop)(A:Goroutine→World→Prop):Side Wg:=⟨k.pl,k.C,lH Wg k.C Low St k.hW k.hC,k.vals,j8,A,λ_ _=>True⟩
def mY:Goroutine→World→Prop:=λ_ _=>False
section
variable {P:Program}{ty:TypeId}{Wg Low:Nat}(k:sX Wg Low)
theorem wB {St A WK A':Goroutine→World→Prop}{μ:Nat×Nat}{b:Goroutine}{w:World}{s:Trace}(h:(k.side St A).half P ty Low μ b w s):(k.side WK A').half P ty Low μ b w s:=by
 change @Half k.pl P ty Wg k.C Low (lH Wg k.C Low WK k.hW k.hC) k.vals j8 μ b w s;replace h:@Half k.pl P ty Wg k.C Low (lH Wg k.C Low St k.hW k.hC) k.vals j8 μ b w s:=h;rcases h with⟨p,d1,rc,mc,rel,cl,sent,vs,e,hs,⟨b1,b2,⟨j1,j2,j3,j4,j5,j6,j7⟩,b4,b5,b6,b7⟩,hc⟩|⟨p,d1,q,e,⟨b1,b2,⟨j1,j2,j3,j4,j5,j6,j7⟩,b4,b5,b6,b7⟩,hq⟩
 ·letI:=k.pl
  letI:=lH Wg k.C Low WK k.hW k.hC
  refine .inl ⟨p,d1,rc,mc,rel,cl,sent,vs,e,hs,⟨b1,b2,⟨j1,j2,j3,j4,j5,j6,j7⟩,b4,b5,b6,b7⟩,?_⟩;cases hc with
  |r0 h=>exact .r0 h
  |k1 h=>exact .k1 h
  |d1 h=>exact .d1 h
 ·letI:=k.pl
  letI:=lH Wg k.C Low WK k.hW k.hC
  exact .inr ⟨p,d1,q,e,⟨b1,b2,⟨j1,j2,j3,j4,j5,j6,j7⟩,b4,b5,b6,b7⟩,hq⟩
theorem HJ {St:Goroutine→World→Prop}:eT P ty Wg Low (k.side St mY):=⟨k.hC,k.hCW,λ_ _ h=>h.elim,λ_ _ h=>h.elim,λ_ h=>h⟩
def sX.fin (k:sX Wg Low)(P:Program)(ty:TypeId)(b:Goroutine)(w:World):Prop:=
 letI:=k.pl;letI:=lH Wg k.C Low mY k.hW k.hC;∃n,Goes P false (RCa ty Wg Low) (DCs j8 Wg k.C) (AtR0 P ty Wg k.C Low k.vals) n b w
def sX.wait (k:sX Wg Low)(P:Program)(ty:TypeId)(St A:Goroutine→World→Prop)(a:Goroutine)(w:World):Prop:=
 letI:=k.pl;letI:=lH Wg k.C Low St k.hW k.hC;eT P ty Wg Low (k.side St A)∧∃m,Goes P true (RPa ty Wg k.C k.vals) (DPi j8 Wg k.C Low) (AtKd P ty Wg k.C Low k.vals j8 A) m a w
end
section
variable {P:Program}{ty:TypeId}{Q Shun:Loc→Prop}{c ch Wg Low:Nat}{ro:Nat→Prop}{z:Value}{x y:sX Wg Low}{After:(Nat→Prop)→World→Goroutine→World→Prop}
def sX.Yu {Wg Low:Nat}(k:sX Wg Low)(ty:TypeId)(w:World):Prop:=letI:=k.pl;letI:=lH Wg k.C Low mY k.hW k.hC;Go.ConcX.KPa ty Wg k.C k.vals w
theorem Cv {k:sX Wg Low}{St A:Goroutine→World→Prop}{μ:Nat×Nat}{b:Goroutine}{w:World}{s:Trace}(h:(k.side St A).half P ty Low μ b w s):k.Yu ty w:=by
 replace h:@Half k.pl P ty Wg k.C Low (lH Wg k.C Low St k.hW k.hC) k.vals j8 μ b w s:=h;rcases h with⟨p,d1,rc,mc,rel,cl,sent,vs,e,hs,⟨b1,b2,b3,b4,b5,b6,b7⟩,hc⟩|⟨p,d1,q,e,⟨b1,b2,b3,b4,b5,b6,b7⟩,hq⟩
 ·exact .inl b1
 ·exact .inr ⟨b1,b2⟩
def M3 (P:Program)(ty:TypeId){Wg Low:Nat}(x y:sX Wg Low)(After:(Nat→Prop)→World→Goroutine→World→Prop)(own:Nat→Prop)(a:Goroutine)(w:World):Prop:=
 x.Yu ty w→y.Yu ty w→∃St Ax Ay,x.wait P ty St Ax a w∧y.wait P ty St Ay a w∧∀a' w',St a' w'→w.heap.size≤w'.heap.size∧After own w a' w'
def JE (P:Program)(ty:TypeId){Wg Low:Nat}(x y:sX Wg Low)(_own:Nat→Prop)(b:Goroutine)(w:World):Prop:=WgAt ty Wg w KK 0→x.fin P ty b w∧y.fin P ty b w
def Joined (P:Program)(Shun:Loc→Prop)(c ch Wg Low:Nat)(After:(Nat→Prop)→World→Goroutine→World→Prop)(w0:World)(m:Machine)(t:Trace):Prop:=
 ∃gs w' w sl q a own,m=crowd gs w sl∧gs.size=c+1∧gs[0]?=some a∧a.status=.running∧After own w' a w∧w'.heap.size≤w.heap.size∧Leavers P t gs q∧Past Shun w.heap.size t∧
  (∀b,own b→Low≤b∧b<w'.heap.size)∧Low≤w'.heap.size∧(∀b,b<Low→b≠ch→b≠Wg→w'.heap[b]?=w0.heap[b]?)∧w'.tape=w0.tape∧w'.os=w0.os∧w'.output=w0.output
theorem JF (hY:Cq Q Shun c ch Wg Low ro (λb=>b=ch∨b=Wg))(zj:x.C≠y.C)(Ys:∀a:Addr,a.block=x.C→¬Shun (.cell a))(Yt:∀a:Addr,a.block=y.C→¬Shun (.cell a))
 {vs:List Value}{gs:Array Goroutine}{w0:World}{sl:Option (Nat×Nat)}{t:Trace}{q:Nat→Nat}{bk aK:Nat→Prop}{a b:Goroutine}(hC:dW P c t gs q)(h0:gs[0]?=some a)(hc:gs[c]?=some b)
 (hM:kZ P ro ch z (M3 P ty x y After) vs bk a w0)(hG:jw P ro ch (JE P ty x y) vs aK b w0)(en:kI Q Shun c ch Low ro bk aK (λb=>b=ch) false w0 w0 t)(hw:WgAt ty Wg w0 KK 0):
 Reach P (crowd gs w0 sl) t (Joined P Shun c ch Wg Low After w0):=by
 refine(MS hY.toLay vs gs w0 sl t q bk aK a b hC h0 hc hM hG en).bind ?_;rintro m t ⟨gs,w,sl,q,bk,aK,a,b,t₁,fn,pos,rfl,hC,h0,hc,hb,hM,S0,en,_,hd⟩;have S1:WgAt ty Wg w KK 0:=hw.of_block (en.keep Wg hY.LI hY.wch);obtain⟨⟨n₁,hG1⟩,⟨n₂,Uz⟩⟩:=S0 S1;have hx0:(x.side mY mY).half P ty Low (7,n₁) b w JA:=@Half.init x.pl P ty Wg x.C Low (lH Wg x.C Low mY x.hW x.hC) x.vals j8 b w n₁ S1 hG1;have hy0:(y.side mY mY).half P ty Low (7,n₂) b w JA:=@Half.init y.pl P ty Wg y.C Low (lH Wg y.C Low mY y.hW y.hC) y.vals j8 b w n₂ S1 Uz;refine(Uv (x:=x.side mY mY) (y:=y.side mY mY) hY (HJ x) (HJ y) zj (cv.1 hM) (7,n₁) (7,n₂) aK b JA JA gs w sl t q hC h0 hc (bN.refl _ _ _) (en.weaken λb hb=> .inl hb) hx0 hy0 (GL.init en.d0 hd) (GL.init en.d0 hd)).bind ?_;rintro m t ⟨gs,w,sl,q,bk,aK,a,b,il,iQ,μ,ν,rfl,hC,h0,hc,hfm,en,hx,hy,hg1,hg2⟩;obtain⟨St,Ax,Ay,⟨sW,m₁,uG⟩,⟨wz,m₂,hk2⟩,sJ⟩:=hfm (Cv hx) (Cv hy);obtain⟨nL,hJx⟩:=@Half.inv x.pl P ty Wg x.C Low (lH Wg x.C Low St x.hW x.hC) x.vals j8 Ax (λ_ _=>True) μ a b w il none (wB x (WK:=St) (A':=Ax) hx) m₁ uG;obtain⟨FC,hJy⟩:=@Half.inv y.pl P ty Wg y.C Low (lH Wg y.C Low St y.hW y.hC) y.vals j8 Ay (λ_ _=>True) ν a b w iQ none (wB y (WK:=St) (A':=Ay) hy) m₂ hk2;refine(Ux (x:=x.side St Ax) (y:=y.side St Ay) hY sW wz zj en.big (λb hb=>(en.Fy b hb).1) (Go.ConcN.sumTo c q,nL) FC gs w sl t q a b il iQ rfl hC h0 hc en.ti hJx hJy hg1 hg2).bind ?_;intro m t h3;refine(Uy sW wz en.big (λa ha=>hY.QS _ (hY.wQ a ha)) Ys Yt h3).mono ?_;rintro m t ⟨gs,w',sl,q,a,rfl,h1,h2,h3,h4,h5,h6⟩;have h4':St a w':=h4.elim id id;obtain⟨k1,k2⟩:=sJ a w' h4';exact⟨gs,w,w',sl,q,a,bk,rfl,h1,h2,h3,k2,k1,h5,h6.mono k1,en.mlt,en.big,λb e1 e2 e3=>en.keep b e1 (λe=>e.elim e2 e3),en.tape,en.os,en.output⟩
end
end Go.Ren
namespace Go.Ren
open Go.Proofs.Tryz
open Go Go.Proofs Go.Conc.Lib
abbrev cg:WgLink:={ add:=68,done:=70,wait:=72,relMerge:=107,disable:=108,enable:=109,inBubble:=110,associate:=111,fatal:=112,uOr:=113,uAdd:=114,raceRead:=115,uLoad:=116,uStore:=117,disassociate:=118,semrelease:=119,acquire:=122,isAssociated:=123,uCas:=124,raceWrite:=125,semacquire:=126,orU64:=164,addU64:=165,loadU64:=166,storeU64:=167,casU64:=173,tWgP:=194,tUP:=196,tAssoc:=197,tWg:=142,tAU:=139,tU64:=137,tUint:=200,tU32:=140,tPU32:=201,tPAU:=240,tPU64:=242,tNoCopy:=134,tANoCopy:=135,tAlign64:=136 }
theorem M4:prog.funcs[68]?=some (addFn cg):=by kernel_rfl
theorem HY:prog.funcs[70]?=some (doneFn cg):=by kernel_rfl
theorem H8:prog.funcs[72]?=some (waitFn cg):=by kernel_rfl
theorem wgz:WgLib prog cg:=by
 refine⟨M4,HY,H8,?_,?_,?_,?_,?_,?_,?_,?_,?_,?_,?_,?_,?_,?_,?_,?_,?_,?_,?_,?_,?_,?_,?_,
  ?_,?_,?_,?_,?_,?_,?_,?_,?_,?_,?_,?_,?_,?_,?_,?_,?_,?_,?_,?_,?_,?_,?_,?_,?_,?_,?_,?_,?_,?_,?_,?_,?_,?_,?_,?_,?_,?_,?_,?_,?_,?_,?_,?_,?_,?_,?_,?_,?_,?_,?_,?_,?_,?_,?_,?_,?_,?_,?_,?_,?_,?_,?_,?_,?_,?_,?_,?_,?_,?_,?_,?_,?_,?_,?_,?_,?_,?_,?_,?_,?_,?_,?_,?_,?_,?_,?_⟩
 all_goals first
  |kernel_rfl
  |(intro w;kernel_rfl)
end Go.Ren
namespace Go.Ren
open Go Go.Conc
variable {P:Program}{main:Bool}{b:Frame}{a:Act}{k:List Item}{cs:List Frame}{w:World}
def fx (ch:Value)(ty rt:TypeId)(bs:Array Bool):Deferred:={ target:= .builtin .close #[ty] rt bs,args:=#[ch] }
theorem qU {ops:Array Oper}{i:Nat}{rest:List Nat}{o:Oper}{x:Tmp}{ty:TypeId}(ho:ops[i]?=some o)(hw:Region.wanted o (yielded ops a.tmps)=true)(hk:b.kind≠.early)
 (hop:o.op=.defer { callee:= .builtin .close,args:=#[.tmp x],argTypes:=#[ty] }):
 stepG P main (G (b.at a (.inRegion ops (i::rest)::k)) cs) w=.go (G (b.at (Act.put ⟨a.tmps,fx (a.eval (.tmp x)) ty o.type #[false]::a.defers⟩ o.dst undef) (.inRegion ops rest::k)) cs) w #[]:=by
 have hr:(execOp a.eval o).run P w=.ok (.defer (fx (a.eval (.tmp x)) ty o.type #[false])) w:=by
  unfold execOp;simp[hop,resolve,fx]
 have he:(execOp a.eval o).events P w #[]=#[]:=by
  unfold execOp;simp[hop,resolve]
 have sJ:(b.at ⟨a.tmps,fx (a.eval (.tmp x)) ty o.type #[false]::a.defers⟩ (.inRegion ops (i::rest)::k)).finish undef=b.at (Act.put ⟨a.tmps,fx (a.eval (.tmp x)) ty o.type #[false]::a.defers⟩ o.dst undef) (.inRegion ops rest::k):=by rw[Frame.finish_at,ho];rfl
 have hk':(b.kind==CallKind.early)=false:=by simpa using hk
 rw[stepG_oper ho hw,←sJ];simp[stepG.apply,hr,he,G,Frame.at,hk',GStep.after,seen_none]
theorem pT {todo:List Item}{ds:List Deferred}{c s r:Nat}{tm:Bool}{ty rt:TypeId}{bs:Array Bool}(hd:a.defers=fx (.chan (some c)) ty rt bs::ds)(hc:w.heap[c]?=some (.chan 0 #[] false s r tm))(hq:(P.funcs[b.fn]?).any (·.norace)=false):stepG P main (G { b.at a todo with mode:= .returning } cs) w=.go (G { b.at ⟨a.tmps,ds⟩ todo with mode:= .returning } cs) (w.setChan c 0 #[] true s r tm) (gw c):=by
 have h1:(builtin .close #[ty] rt bs #[.chan (some c)]).run P w=.ok (.value (.tuple #[])) (w.setChan c 0 #[] true s r tm):=by
  unfold builtin;simp[go_sem,run_close_open _ _ hc,World.setChan]
 have h2:(builtin .close #[ty] rt bs #[.chan (some c)]).events P w #[]=gw c:=by
  unfold builtin;simp[go_sem,events_close_open _ _ hc,gw]
 have h3:seen P b.fn ((builtin .close #[ty] rt bs #[.chan (some c)]).events P w #[])=gw c:=by
  rw[h2];exact seen_eq hq (by intro e he f;simp[gw]at he;rcases he with rfl|rfl<;>simp)
 simp[G,stepG,unwind,callDeferred,Frame.at,hd,fx,invoke,h1,GStep.after]at h3 ⊢;exact h3
end Go.Ren
namespace Go.Ren
open Go
section
variable {P:Program}{ρ:Rn}
theorem qW:∀(n:Nat) (a:Addr) (acc:ByteArray),ae P ρ Eq (Extern.Bytes.loadBytes a n acc) (Extern.Bytes.loadBytes (ra ρ a) n acc)
 |0,a,acc=>ae.pure rfl
 |n+1,a,acc=>by
  unfold Extern.Bytes.loadBytes;refine ae.bind (vu a) ?_;rintro v _ rfl;cases v with
  |int k b=>
   cases k with
   |u8=>rw[rv];simp only;rw[ju];exact qW n (a.add 1) _
   |_=>exact ae.stuck _
  |_=>exact ae.stuck _
theorem sY (v:Value):ae P ρ Eq (Extern.Bytes.bytesOf v) (Extern.Bytes.bytesOf (rv ρ v)):=by
 cases v with
 |string s=>rw[rv];exact ae.pure rfl
 |slice a l c=>
  cases a with
  |none=>rw[rv];exact ae.pure rfl
  |some a=>rw[rv];exact qW l a _
 |_=>exact ae.stuck _
theorem M5 (v:Value):ae P ρ Eq (Extern.Bytes.asByte v) (Extern.Bytes.asByte (rv ρ v)):=by
 cases v with
 |int k b=>
  rw[rv];cases k with
  |u8=>exact ae.pure rfl
  |_=>exact ae.stuck _
 |_=>exact ae.stuck _
theorem M6 (n:Int):VV ρ (goInt n) (goInt n):=by simp[VV,goInt,rv]
theorem tZ (args:Array Value):ae P ρ (VV ρ) (Extern.BytealgIndexByte.indexByte args) (Extern.BytealgIndexByte.indexByte (args.map (rv ρ))):=by
 obtain⟨l⟩:=args;rcases l with _|⟨b,_|⟨c,_|⟨d,l⟩⟩⟩
 ·exact ae.stuck "bytealg.IndexByte: two arguments expected"
 ·exact ae.stuck "bytealg.IndexByte: two arguments expected"
 ·have h:∀b c,Extern.BytealgIndexByte.indexByte #[b,c]=(do
   let b ←Extern.Bytes.bytesOf b;let c ←Extern.Bytes.asByte c
   match(List.range b.size).find? λi=>b[i]! ==c with
   |some i=>pure (goInt i)
   |none=>pure (goInt (-1))):=λ_ _=>rfl
  have e:(Array.map (rv ρ) { toList:=[b,c] })=#[rv ρ b,rv ρ c]:=by simp
  rw[e,h,h];refine ae.bind (sY b) ?_;rintro x _ rfl;refine ae.bind (M5 c) ?_;rintro y _ rfl;split
  ·exact ae.pure (M6 _)
  ·exact ae.pure (M6 _)
 ·exact ae.stuck "bytealg.IndexByte: two arguments expected"
theorem M7 (args:Array Value):ae P ρ (VV ρ) (Extern.AbiNoEscape.same args) (Extern.AbiNoEscape.same (args.map (rv ρ))):=by
 obtain⟨l⟩:=args;rcases l with _|⟨b,_|⟨c,l⟩⟩
 ·exact ae.stuck "abi.NoEscape, Escape: one argument expected"
 ·have h:∀b,Extern.AbiNoEscape.same #[b]=pure b:=λ_=>rfl;have e:(Array.map (rv ρ) { toList:=[b] })=#[rv ρ b]:=by simp
  rw[e,h,h];exact ae.pure rfl
 ·exact ae.stuck "abi.NoEscape, Escape: one argument expected"
theorem M8 (hx:∀g,g<P.globals.size→g<ρ.d∨ρ g=g):ae P ρ Eq Extern.BytealgIndex.maxLen Extern.BytealgIndex.maxLen:=by
 unfold Extern.BytealgIndex.maxLen globalAddr;refine ae.bind (R:=λ(a b:Addr)=>b=a∧(a.block<ρ.d∨ρ a.block=a.block)) (ae.bind cn ?_) ?_
 ·rintro p p' ⟨rfl,rfl⟩;split
  ·rename_i g hg;refine ae.pure ?_;have:=Array.findIdx?_eq_some_iff_getElem.1 hg;exact⟨rfl,hx g this.1⟩
  ·exact ae.stuck _
 ·rintro a b ⟨rfl,h⟩;refine ae.bind (R:=VV ρ) ?_ ?_
  ·rcases h with h|h
   ·exact .inl h
   ·have e:ra ρ b=b:=by unfold ra;rw[h]
    have:=vu (P:=P) (ρ:=ρ) b;rwa[e]at this
  ·rintro v _ rfl;exact ma v
theorem M9 (hx:∀g,g<P.globals.size→g<ρ.d∨ρ g=g)(args:Array Value):ae P ρ (VV ρ) (Extern.BytealgIndex.index args) (Extern.BytealgIndex.index (args.map (rv ρ))):=by
 obtain⟨l⟩:=args;rcases l with _|⟨b,_|⟨c,_|⟨d,l⟩⟩⟩
 ·exact ae.stuck "bytealg.Index: two arguments expected"
 ·exact ae.stuck "bytealg.Index: two arguments expected"
 ·have h:∀b c,Extern.BytealgIndex.index #[b,c]=(do
   let a ←Extern.Bytes.bytesOf b;let b ←Extern.Bytes.bytesOf c
   if b.size<2||(b.size:Int)>(←Extern.BytealgIndex.maxLen)then
    unsupported (.noEntry "extern/internal/bytealg.Index.length")
   if a.size≥2^32-15 then
    unsupported (.noEntry "extern/internal/bytealg.Index: a haystack of 2^32 - 15 bytes or more")
   match(List.range (a.size+1-b.size)).find? λi=>a.extract i (i+b.size)==b with
   |some i=>pure (goInt i)
   |none=>pure (goInt (-1))):=λ_ _=>rfl
  have e:(Array.map (rv ρ) { toList:=[b,c] })=#[rv ρ b,rv ρ c]:=by simp
  rw[e,h,h];refine ae.bind (sY b) ?_;rintro x _ rfl;refine ae.bind (sY c) ?_;rintro y _ rfl;refine ae.bind (M8 hx) ?_;rintro m _ rfl;dsimp only;refine ae.ar (λ_=>?_) (λ_=>?_)
  ·exact trivial
  ·refine ae.ar (λ_=>?_) (λ_=>?_)
   ·exact trivial
   ·split
    ·exact ae.pure (by simp[VV,goInt,rv])
    ·exact ae.pure (by simp[VV,goInt,rv])
 ·exact ae.stuck "bytealg.Index: two arguments expected"
end
end Go.Ren
