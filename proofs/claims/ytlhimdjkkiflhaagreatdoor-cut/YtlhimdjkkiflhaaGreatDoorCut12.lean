import Derived.Conc.FxMachine2
import Derived.Conc.FxFork
import Derived.Conc.FxFrame
import Derived.Test.YtlhimdjkkiflhaaGreatDoorCut11
set_option maxHeartbeats 8000000
set_option maxRecDepth 100000
namespace Go.Ren
open Go Go.Conc
open Go.ConcX (stA Acq)
theorem Ls {t:Trace}{g:Nat}{fn:FuncId}{pos:String}{es:Array Event}(j:Nat):(t++MemOp.ofEvents g fn pos es)[t.size+j]?=(es[j]?).map λe=>{ g:=g,fn:=fn,pos:=pos,act:= .ofEvent e }:=by
 rw[Array.getElem?_append_right (by omega),ofEvents_eq,zal]
 congr 2
 omega
theorem oa {t:Trace}{g:Nat}{fn:FuncId}{pos:String}{es:Array Event}(j:Nat):(t++MemOp.ofEvents g fn pos es).act? (t.size+j)=(es[j]?).map MemAct.ofEvent:=by
 unfold Trace.act?
 rw[Ls];cases es[j]?<;>rfl
theorem B5 {t:Trace}{g:Nat}{fn:FuncId}{pos:String}{es:Array Event}(j:Nat):(t++MemOp.ofEvents g fn pos es).g? (t.size+j)=(es[j]?).map λ_=>g:=by
 unfold Trace.g?
 rw[Ls];cases es[j]?<;>rfl
theorem B6 {t:Trace}{g:Nat}{fn:FuncId}{pos:String}{es:Array Event}{j:Nat}{e:Event}(he:es[j]?=some e):(t++MemOp.ofEvents g fn pos es).heard (t.size+j)↔deafBehind (Deaf t g) (es.extract 0 j)=0:=by
 have hj:j≤es.size:=by
  rcases zag j es.size with h|h
  ·omega
  ·rw[zaU h]at he;cases he
 unfold Trace.heard;rw[B5,he];simp only[zaM,zap,exists_eq_left'];rw[deaf_inside t g fn pos es j hj]
theorem sM {s T:Trace}{g g':Nat}{fn:FuncId}{pos:String}{es:Array Event}{j:Nat}{e:Event}(he:es[j]?=some e)(hd:Deaf T g'=Deaf s g):(T++MemOp.ofEvents g' fn pos es).heard (T.size+j)↔(s++MemOp.ofEvents g fn pos es).heard (s.size+j):=by
 rw[B6 he,B6 he,hd]
theorem EG {s T:Trace}{g g':Nat}{fn:FuncId}{pos:String}{es:Array Event}{j:Nat}(hd:Deaf T g'=Deaf s g):(T++MemOp.ofEvents g' fn pos es).counts (T.size+j)→(s++MemOp.ofEvents g fn pos es).counts (s.size+j):=by
 rintro ⟨x,hx,hm,hk⟩;rw[oa]at hx;cases he:es[j]? with
 |none=>rw[he]at hx;simp at hx
 |some e=>exact⟨x,by rw[oa];exact hx,hm,hk.imp id (sM he hd).1⟩
theorem l8 {t:Trace}{g:Nat}{fn:FuncId}{pos:String}{es:Array Event}{i:Nat}(hi:t.size≤i)(hlt:i<(t++MemOp.ofEvents g fn pos es).size):∃j e,i=t.size+j∧es[j]?=some e:=by
 rw[ofEvents_eq]at hlt;simp at hlt;exact⟨i-t.size,es[i-t.size]'(by omega),by omega,zar _⟩
theorem o7 {t:Trace}{i g:Nat}(h:t.g? i=some g):i<t.size:=by
 obtain⟨z,hz,_⟩:=zam.1 h;exact lt_size_of_getElem? hz
structure Iy (c Wg:Nat) (T:Trace) (R:Nat):Prop where
 act:T.act? R=some (.mark (.releaseMerge (stA Wg)))
 g:T.g? R=some c
 heard:T.heard R
 after:∀i,R<i→T.g? i=some c→¬T.counts i
 norel:∀i,R<i→T.act? i≠some (.mark (.release (stA Wg)))
 late:∀i a,R<i→T.g? i=some c→touchAt T i=some a→∃ad,a.loc=.cell ad∧ad.block=Wg
def OU (c Wg:Nat)(u:Trace):Prop:=∀op∈u,op.act≠.mark (.release (stA Wg))∧(op.g=c→∀x,op.act.touch? =some x→∃ad,x.loc=.cell ad∧ad.block=Wg)
theorem Iy.app {c Wg:Nat}{T u:Trace}{R:Nat}(h:Iy c Wg T R)(hu:OU c Wg u)(hc:∀i,T.size≤i→(T++u).g? i=some c→¬(T++u).counts i):Iy c Wg (T++u) R:=by
 have hR:=lt_of_act? h.act;refine⟨by rw[act?_old hR];exact h.act,by rw[g?_old hR];exact h.g,(heard_old hR).2 h.heard,λi hi hg Bn=>?_,λi hi e=>?_,λi a hi hg ha=>?_⟩
 ·rcases zag i T.size with hlt|js
  ·exact h.after i hi (by rw[←g?_old (u:=u) hlt];exact hg) ((counts_old hlt).1 Bn)
  ·exact hc i js hg Bn
 ·obtain⟨op,ho,OV⟩:=zam.1 e;rcases getElem?_append_cases ho with⟨_,ho'⟩|⟨_,TT⟩
  ·exact h.norel i hi (by rw[act?_of ho',OV])
  ·exact(hu op TT).1 OV
 ·obtain⟨op,ho,OV⟩:=touch_of ha;rcases getElem?_append_cases ho with⟨hlt,ho'⟩|⟨_,TT⟩
  ·exact h.late i a hi (by rw[←g?_old (u:=u) hlt];exact hg) (by rw[touchAt_of ho'];exact OV)
  ·exact(hu op TT).2 (by simpa[Trace.g?,ho]using hg) a OV
def Lt (c Wg:Nat)(T:Trace):Prop:=∃R Q,Iy c Wg T R∧T.act? Q=some (.mark (.acquire (stA Wg)))∧T.g? Q=some 0∧T.heard Q∧R<Q
structure GL (c Wg:Nat) (s T:Trace):Prop where
 d0:Deaf T 0=Deaf s 0
 dc:Deaf T c=Deaf s 1
 rel:∀r,Released (stA Wg) s r→∃R,Iy c Wg T R
 acq:Acq Wg s→Lt c Wg T
section
variable {c Wg:Nat}{s T u:Trace}
theorem Lt.app (h:Lt c Wg T)(hu:OU c Wg u)(hc:∀i,T.size≤i→(T++u).g? i=some c→¬(T++u).counts i):Lt c Wg (T++u):=by
 obtain⟨R,Q,h1,h2,h3,h4,h5⟩:=h;have hQ:=lt_of_act? h2;exact⟨R,Q,h1.app hu hc,by rw[act?_old hQ];exact h2,by rw[g?_old hQ];exact h3,(heard_old hQ).2 h4,h5⟩
theorem GL.other (h:GL c Wg s T)(hu:∀op∈u,op.act≠.mark (.release (stA Wg))∧(op.g=c→op.act.touch? =none))(h0:Deaf (T++u) 0=Deaf T 0)(hc:Deaf (T++u) c=Deaf T c):GL c Wg s (T++u):=by
 have k:∀i,T.size≤i→(T++u).g? i=some c→¬(T++u).counts i:=by
  rintro i hi hg ⟨x,hx,_⟩;obtain⟨op,ho,hog⟩:=zam.1 hg;rcases getElem?_append_cases ho with⟨hlt,_⟩|⟨_,TT⟩
  ·omega
  ·rw[act?_of ho]at hx;simp only[zbk]at hx;rw[(hu op TT).2 hog]at hx;cases hx
 have hm:OU c Wg u:=λop hop=>⟨(hu op hop).1,λe x hx=>by rw[(hu op hop).2 e]at hx;cases hx⟩;exact⟨h0.trans h.d0,hc.trans h.dc,λr hr=>let⟨R,hR⟩:=h.rel r hr;⟨R,hR.app hm k⟩,λha=>(h.acq ha).app hm k⟩
theorem Released.back {t u:Trace}{a:Addr}{r:Nat}(h:Released a (t++u) r)(hr:r<t.size):Released a t r:=
 ⟨by rw[←act?_old (u:=u) hr];exact h.act,by rw[←g?_old (u:=u) hr];exact h.g,(heard_old hr).1 h.heard,λi hi hg hc=>by
   have hlt:=o7 hg;exact h.after i hi (by rw[g?_old hlt];exact hg) ((counts_old hlt).2 hc)⟩
theorem uA {e:Event}(a:Addr)(h:MemAct.ofEvent e=.mark (.release a)):e.loc=.mark (.release a):=by
 obtain⟨loc,wr,sy⟩:=e;cases loc<;>cases wr<;>cases sy<;>simp_all [MemAct.ofEvent]
theorem GL.step (hc0:c≠0)(h:GL c Wg s T){g:Nat}(hg:g=0∨g=1){g':Nat}(p5:g'=if g=0 then 0 else c)(fn:FuncId)(pos:String)(es:Array Event)(hn:NoRelease (stA Wg) (s++MemOp.ofEvents g fn pos es))(hq:∀e∈es,∀x,(MemAct.ofEvent e).touch? =some x→∃ad,x.loc=.cell ad∧ad.block=Wg):GL c Wg (s++MemOp.ofEvents g fn pos es) (T++MemOp.ofEvents g' fn pos es):=by
 have hd:Deaf T g'=Deaf s g:=by
  rcases hg with rfl|rfl
  ·rw[p5];exact h.d0
  ·rw[p5];exact h.dc
 have Wx:g'=c↔g=1:=by
  rcases hg with rfl|rfl
  ·rw[p5];simp;exact Ne.symm hc0
  ·rw[p5];simp
 have hnu:OU c Wg (MemOp.ofEvents g' fn pos es):=by
  intro op hop;obtain⟨ev,gi,rfl⟩:=Conc.mem_ofEvents hop;refine⟨λe=>?_,λ_=>hq ev gi⟩;obtain⟨j,hj⟩:=Array.getElem?_of_mem gi;exact hn (s.size+j) (by rw[oa,hj];exact congrArg some e)
 have kc:∀r,Released (stA Wg) (s++MemOp.ofEvents g fn pos es) r→∀j e,es[j]?=some e→r<s.size+j→g'=c→¬(T++MemOp.ofEvents g' fn pos es).counts (T.size+j):=by
  intro r hr j e he hlt NW Bn;refine hr.after (s.size+j) hlt ?_ (EG hd Bn);rw[B5,he,Wx.1 NW];rfl
 have XX:∀r,Released (stA Wg) (s++MemOp.ofEvents g fn pos es) r→r<s.size→∀i,T.size≤i→(T++MemOp.ofEvents g' fn pos es).g? i=some c→¬(T++MemOp.ofEvents g' fn pos es).counts i:=by
  intro r hr hlt i hi EH;obtain⟨j,e,rfl,he⟩:=l8 hi (o7 EH);refine kc r hr j e he (by omega) ?_;rw[B5,he]at EH;simpa using EH
 have XY:∀r,Released (stA Wg) (s++MemOp.ofEvents g fn pos es) r→∃R,Iy c Wg (T++MemOp.ofEvents g' fn pos es) R∧(r<s.size→R<T.size):=by
  intro r hr;rcases zag r s.size with hlt|js
  ·obtain⟨R,hR⟩:=h.rel r (Released.back hr hlt);exact⟨R,hR.app hnu (XX r hr hlt),λ_=>lt_of_act? hR.act⟩
  ·obtain⟨j,e,rfl,he⟩:=l8 js (o7 hr.g);have h1:=hr.act;have h2:=hr.g;rw[oa,he]at h1;rw[B5,he]at h2;have hg1:g=1:=by simpa using h2
   refine⟨T.size+j,⟨by rw[oa,he];exact h1,by rw[B5,he,Wx.2 hg1];rfl,(sM he hd).2 hr.heard,λi hi EH=>?_,λi hi e'=>?_,λi a hi EH ha=>?_⟩,λhlt=>by omega⟩
   ·obtain⟨j',e',rfl,XZ⟩:=l8 (by omega) (o7 EH);exact kc _ hr j' e' XZ (by omega) (Wx.2 hg1)
   ·obtain⟨j',e'',rfl,X0⟩:=l8 (by omega) (lt_of_act? e');rw[oa,X0]at e';exact hn (s.size+j') (by rw[oa,X0];exact e')
   ·obtain⟨op,ho,OV⟩:=touch_of ha;rcases getElem?_append_cases ho with⟨hlt,_⟩|⟨_,TT⟩
    ·omega
    ·obtain⟨ev,gi,rfl⟩:=Conc.mem_ofEvents TT;exact hq ev gi a OV
 refine⟨?_,?_,λr hr=>let⟨R,hR,_⟩:=XY r hr;⟨R,hR⟩,?_⟩
 ·rcases hg with rfl|rfl
  ·rw[if_pos rfl]at p5;subst p5;rw[Deaf_own,Deaf_own,h.d0]
  ·rw[if_neg (by decide)]at p5;subst p5;rw[Deaf_other T hc0 _ ofEvents_g,Deaf_other s (by decide) _ ofEvents_g,h.d0]
 ·rcases hg with rfl|rfl
  ·rw[if_pos rfl]at p5;subst p5;rw[Deaf_other T (Ne.symm hc0) _ ofEvents_g,Deaf_other s (by decide) _ ofEvents_g,h.dc]
  ·rw[if_neg (by decide)]at p5;subst p5;rw[Deaf_own,Deaf_own,h.dc]
 ·rintro ⟨q,r,hr,hq,hgq,hh,hrq⟩;rcases zag q s.size with hlt|js
  ·have l4:=Released.back hr (by omega);exact(h.acq ⟨q,r,l4,by rw[←act?_old hlt];exact hq,by rw[←g?_old hlt];exact hgq,(heard_old hlt).1 hh,hrq⟩).app hnu (XX r hr (by omega))
  ·obtain⟨j,e,rfl,he⟩:=l8 js (o7 hgq);rw[B5,he]at hgq;have hg0:g=0:=by simpa using hgq
   have l4:r<s.size:=by
    rcases zag r s.size with hlt|aaC
    ·exact hlt
    ·obtain⟨j',e',rfl,XZ⟩:=l8 aaC (o7 hr.g);have:=hr.g;rw[B5,XZ,hg0]at this;simp at this
   obtain⟨R,hR,hlt⟩:=XY r hr;refine⟨R,T.size+j,hR,?_,?_,(sM he hd).2 hh,by have:=hlt l4;omega⟩
   ·rw[oa,he]at hq ⊢;exact hq
   ·rw[B5,he,p5];simp[hg0]
end
end Go.Ren
set_option linter.unusedSectionVars false
namespace Go.Ren
open Go Go.Conc
open Go.ConcX (Payload Shy stA smA Base CA JInv RCa RCd DCs AtR0 RPa DPi AtKd PA KK WgAt ChanAt Full Aside2 runTX JT CAOut)
section
variable [Payload] {P:Program}{ty:TypeId}{Wg C Low:Nat} [Shy Wg C] {vals:List Value}{Mine:Loc→Prop}
def Half (P:Program)(ty:TypeId)(Wg C Low:Nat) [Shy Wg C] (vals:List Value)(Mine:Loc→Prop)(μ:Nat×Nat)(b:Goroutine)(w:World)(s:Trace):Prop:=
 (∃p d1 rc mc rel cl sent vs,μ=(rc,mc)∧sent++vs=vals∧Base Mine ty Wg C vals.length KK 0 sent.toArray cl sent.length 0 0 d1 rel w s p∧CA P ty Wg C Low vals Mine rc d1 rel vs cl mc b w)∨
 (∃p d1 q,μ=(0,q)∧Base Mine ty Wg C vals.length 0 0 vals.toArray true vals.length 0 0 d1 true w s p∧QuitsD P q d1 b)
theorem wC {a b:Goroutine}{w:World}{m':Machine}{ops:Array MemOp}(h:runTX P (duo a b w none) 1=(.next m',ops)):∃b' w' es,stepG P false b w=.go b' w' es∧m'=duo (Conc.woken P b b' w' a) b' w' none∧ops=MemOp.ofEvents 1 b.frame.fn b.frame.place es:=by
 rw[duo_eq_crowd]at h;obtain⟨g,g',w',es,hg,hs,hm,ho⟩:=Go.ConcX.runTX_next h;obtain rfl:b=g:=by simpa using hg
 exact⟨g',w',es,hs,by rw[hm];simp[crowd,duo],ho⟩
theorem Half.status {μ:Nat×Nat}{b:Goroutine}{w:World}{s:Trace}(h:Half P ty Wg C Low vals Mine μ b w s):b.status=.running∨b.status=.finished:=by
 rcases h with⟨_,_,_,_,_,_,_,_,_,_,_,hc⟩|⟨_,_,_,_,_,hq⟩
 ·exact .inl hc.running
 ·exact hq.status
theorem Half.jt {μ:Nat×Nat}{b:Goroutine}{w:World}{s:Trace}(h:Half P ty Wg C Low vals Mine μ b w s):∃p,JT Mine Wg C s p:=by
 rcases h with⟨p,_,_,_,_,_,_,_,_,_,hB,_⟩|⟨p,_,_,_,hB,_⟩
 ·exact⟨p,hB.jt⟩
 ·exact⟨p,hB.jt⟩
theorem Half.woken {μ:Nat×Nat}{b:Goroutine}{w w':World}{s:Trace}(h:Half P ty Wg C Low vals Mine μ b w s)(x x':Goroutine):Conc.woken P x x' w' b=b:=by
 rcases h with⟨_,_,_,_,_,_,_,_,_,_,_,hc⟩|⟨_,_,_,_,_,hq⟩
 ·exact woken_run hc.running
 ·exact woken_quitsD hq
theorem Half.rely (hW:Wg<Low)(hC:C<Low){μ:Nat×Nat}{b:Goroutine}{w w':World}{s:Trace}(h:Half P ty Wg C Low vals Mine μ b w s)(hr:∀b,b<Low→w'.heap[b]?=w.heap[b]?):Half P ty Wg C Low vals Mine μ b w' s:=by
 rcases h with⟨p,d1,rc,mc,rel,cl,sent,vs,e,hs,hB,hc⟩|⟨p,d1,q,e,hB,hq⟩
 ·exact .inl ⟨p,d1,rc,mc,rel,cl,sent,vs,e,hs,⟨hB.wg.of_block (hr Wg hW),hB.ch.of_block (hr C hC),hB.jt,hB.deaf0,hB.deaf1,hB.noacq,hB.rel⟩,hc.rely (Go.ConcX.RCd.toA hW hr)⟩
 ·exact .inr ⟨p,d1,q,e,⟨hB.wg.of_block (hr Wg hW),hB.ch.of_block (hr C hC),hB.jt,hB.deaf0,hB.deaf1,hB.noacq,hB.rel⟩,hq⟩
theorem Half.move (hCW:C≠Wg){μ:Nat×Nat}{b:Goroutine}{w:World}{s:Trace}(h:Half P ty Wg C Low vals Mine μ b w s)(hb:b.status=.running):∃b' w' es oc,stepG P false b w=.go b' w' es∧Aside2 C Wg w w'∧Lt2 oc μ∧Half P ty Wg C Low vals Mine oc b' w' (s++MemOp.ofEvents 1 b.frame.fn b.frame.place es):=by
 rcases h with⟨p,d1,rc,mc,rel,cl,sent,vs,rfl,hs,hB,hc⟩|⟨p,d1,q,rfl,hB,hq⟩
 ·obtain⟨a',b',w',ops,hrun,_,hA,hout⟩:=Go.ConcX.CA.move hCW (a:=ph) (sl:=none) (.inl rfl) hs hB hc (.inl (by simp[ph]));obtain⟨b2,w2,es,hst,hm,rfl⟩:=wC hrun;obtain⟨_,rfl,rfl,_⟩:=Go.ConcX.duo_inj hm;cases hout with
  |stay rc' d1' rel' X1 vs' cl' mc' hl hs' OW hc'=>exact⟨b',w',es,(rc',mc'),hst,hA,hl,.inl ⟨p,d1',rc',mc',rel',cl',X1,vs',rfl,hs',OW,hc'⟩⟩
  |lone q _ OW hq=>exact⟨b',w',es,(0,q),hst,hA,.left _ _ (by have:=hc.rank_pos;omega),.inr ⟨p,1,q,rfl,OW,hq⟩⟩
  |met m e _ _=>exact absurd e Go.ConcX.kk1_ne
 ·obtain⟨b',ops,q',d1',hrun,hlt,OW,hq',_⟩:=Go.ConcX.cq_move (a:=ph) (sl:=none) hB hq hb;obtain⟨b2,w2,es,hst,hm,rfl⟩:=wC hrun;obtain⟨_,rfl,rfl,_⟩:=Go.ConcX.duo_inj hm;exact⟨b',w,es,(0,q'),hst,.refl w,.right _ hlt,.inr ⟨p,d1',q',rfl,OW,hq'⟩⟩
theorem Half.inv {AnchW:Goroutine→World→Prop}{Post:Value→World→Prop}{μ:Nat×Nat}{a b:Goroutine}{w:World}{s:Trace}{sl:Option (Nat×Nat)}(h:Half P ty Wg C Low vals Mine μ b w s){m:Nat}(hp:Goes P true (RPa ty Wg C vals) (DPi Mine Wg C Low) (AtKd P ty Wg C Low vals Mine AnchW) m a w):∃oc,JInv P ty Wg C Low vals Mine AnchW Post oc (duo a b w sl) s:=by
 rcases h with⟨p,d1,rc,mc,rel,cl,sent,vs,rfl,hs,hB,hc⟩|⟨p,d1,q,rfl,hB,hq⟩
 ·exact⟨_,.a a b w sl s p 0 d1 rc mc 4 m rel cl sent vs hs hB (.kd hp) hc⟩
 ·exact⟨_,.c a b w sl s p 0 d1 q 4 m hB (.kd hp) hq⟩
def Iz:Trace:=((#[]:Trace).push { g:=0,fn:=0,pos:= "",act:= .go 1 }).push { g:=1,fn:=0,pos:= "",act:= .start }
theorem Half.init {b:Goroutine}{w:World}{n:Nat}(hw:WgAt ty Wg w KK 0)(hG:Goes P false (RCa ty Wg Low) (DCs Mine Wg C) (AtR0 P ty Wg C Low vals) n b w):Half P ty Wg C Low vals Mine (7,n) b w Iz:=by
 obtain⟨h1,h2,h3,h4⟩:=Go.ConcX.JT.init (Mine:=Mine) (Go.ConcX.ST.nil (Wg:=Wg) (C:=C)) (x:={ g:=0,fn:=0,pos:= "",act:= .go 1 }) (y:={ g:=1,fn:=0,pos:= "",act:= .start }) ⟨rfl,rfl⟩ ⟨rfl,rfl⟩;exact .inl ⟨_,0,7,n,false,false,vals,[],rfl,by simp,⟨hw,(λe=>by cases e),h1,h2,h3,(λ_=>h4),(λe=>by cases e)⟩,.r0 hG⟩
end
theorem IB:Deaf Iz 0=0:=by simp[Iz,Deaf,Trace.deaf]
theorem IC:Deaf Iz 1=0:=by simp[Iz,Deaf,Trace.deaf]
theorem zb {a:Addr}{r:Nat}(h:Released a Iz r):False:=by
 have:=h.act;have hlt:=lt_of_act? this;have h2:r<2:=hlt
 match r,h2 with
 |0,_=>simp[Iz,Trace.act?]at this
 |1,_=>simp[Iz,Trace.act?]at this
theorem GL.init {c Wg:Nat}{T:Trace}(h0:Deaf T 0=0)(hc:Deaf T c=0):GL c Wg Iz T:=
 ⟨by rw[h0,IB],by rw[hc,IC],λr hr=>(zb hr).elim,λ⟨_,_,hr,_⟩=>(zb hr).elim⟩
end Go.Ren
set_option linter.unusedSectionVars false
namespace Go.Ren
open Go Go.Conc
open Go.ConcX (Payload Shy stA smA Base CA JInv RCa RCd DCs AtR0 RPa DPi AtKd PA KK WgAt ChanAt Full Aside2 runTX JT AtW1)
structure Side (Wg:Nat) where
 pl:Payload
 C:Nat
 sh:Shy Wg C
 vals:List Value
 Mine:Loc→Prop
 AnchW:Goroutine→World→Prop
 Post:Value→World→Prop
section
variable {Wg:Nat}
def Side.half (x:Side Wg)(P:Program)(ty:TypeId)(Low:Nat)(μ:Nat×Nat)(b:Goroutine)(w:World)(s:Trace):Prop:=@Half x.pl P ty Wg x.C Low x.sh x.vals x.Mine μ b w s
def Side.jt (x:Side Wg)(s:Trace)(p:Nat):Prop:=@JT x.Mine Wg x.C x.sh s p
theorem Side.kx {x:Side Wg}{P:Program}{ty:TypeId}{Low:Nat}(hW:Wg<Low)(hC:x.C<Low){μ:Nat×Nat}{b:Goroutine}{w w':World}{s:Trace}(h:x.half P ty Low μ b w s)(hr:∀b,b<Low→w'.heap[b]?=w.heap[b]?):x.half P ty Low μ b w' s:=
 @Half.rely x.pl P ty Wg x.C Low x.sh x.vals x.Mine hW hC μ b w w' s h hr
theorem Side.p8 {x:Side Wg}{P:Program}{ty:TypeId}{Low:Nat}{μ:Nat×Nat}{b:Goroutine}{w w':World}{s:Trace}(h:x.half P ty Low μ b w s)(u u':Goroutine):Conc.woken P u u' w' b=b:=
 @Half.woken x.pl P ty Wg x.C Low x.sh x.vals x.Mine μ b w w' s h u u'
theorem Side.norel {x:Side Wg}{s:Trace}{p:Nat}(h:x.jt s p):NoRelease (stA Wg) s:=@JT.norel x.Mine Wg x.C x.sh s p h
theorem Side.oks {x:Side Wg}{s:Trace}{p:Nat}(h:x.jt s p):∀op∈s,x.sh.ok op.act:=@JT.oks x.Mine Wg x.C x.sh s p h
theorem Side.quiet {x:Side Wg}{s:Trace}{p:Nat}(h:x.jt s p):Quiet (Go.ConcX.ShJ Wg x.C) s:=@JT.quiet x.Mine Wg x.C x.sh s p h
structure fG (P:Program) (ty:TypeId) (Wg Low:Nat) (x:Side Wg):Prop where
 hC:x.C<Low
 hCW:x.C≠Wg
 hAr:∀g w,x.AnchW g w→g.status=.running
 hAn:letI:=x.pl;letI:=x.sh;∀g w,x.AnchW g w→∃m,Goes P true (RPa ty Wg x.C x.vals) (DPi x.Mine Wg x.C Low) (AtW1 P ty Wg x.C Low x.vals x.Mine x.AnchW x.Post) m g w
 ok:∀act,x.sh.ok act→(∀t,act.touch? =some t→∃a,t.loc=.cell a∧(a.block=Wg∨a.block=x.C))∧act.low Low
end
section
variable {P:Program}{ty:TypeId}{Wg Low:Nat}{x y:Side Wg}{s s':Trace}{g:Nat}{fn:FuncId}{pos:String}{es:Array Event}{p p':Nat}
theorem GC (hx:fG P ty Wg Low x)(h:x.jt (s++MemOp.ofEvents g fn pos es) p):∀e∈es,(∀t,(MemAct.ofEvent e).touch? =some t→∃a,t.loc=.cell a∧((a.block=Wg∧t.kind≠.plain∧(t.kind=.said→g=0))∨a.block=x.C))∧(MemAct.ofEvent e).low Low:=by
 intro e he;obtain⟨j,hj⟩:=Array.getElem?_of_mem he;have hop:(s++MemOp.ofEvents g fn pos es)[s.size+j]?=some { g:=g,fn:=fn,pos:=pos,act:= .ofEvent e }:=by rw[Ls,hj];rfl
 obtain⟨k1,k2⟩:=hx.ok _ (Side.oks h _ (zaT hop));refine⟨λt ht=>?_,k2⟩;obtain⟨a,ha,hb⟩:=k1 t ht;refine⟨a,ha,hb.imp (λhb=>?_) id⟩;obtain⟨q1,q2⟩:=Side.quiet h _ _ t hop ht (.inl ⟨a,ha,hb⟩);exact⟨hb,q1,q2⟩
theorem sN (hx:fG P ty Wg Low x)(hy:fG P ty Wg Low y)(ze:x.C≠y.C)(h:x.jt (s++MemOp.ofEvents g fn pos es) p)(h':y.jt (s'++MemOp.ofEvents g fn pos es) p'):∀e∈es,(∀t,(MemAct.ofEvent e).touch? =some t→∃a,t.loc=.cell a∧a.block=Wg∧t.kind≠.plain∧(t.kind=.said→g=0))∧(MemAct.ofEvent e).low Low:=by
 intro e he;obtain⟨k1,k2⟩:=GC hx h e he;refine⟨λt ht=>?_,k2⟩;obtain⟨a,ha,hb⟩:=k1 t ht;obtain⟨a',ha',hb'⟩:=(GC hy h' e he).1 t ht;rw[ha]at ha';obtain rfl:a=a':=by simpa using ha'
 rcases hb with hb|hb
 ·exact⟨a,ha,hb⟩
 ·rcases hb' with hb'|hb'
  ·exact⟨a,ha,hb'⟩
  ·exact absurd (hb.symm.trans hb') ze
theorem Ap {w w':World}(ze:x.C≠y.C)(h:Aside2 x.C Wg w w')(h':Aside2 y.C Wg w w'):Aside Wg w w':=
 ⟨h.tape,h.os,h.output,h.size,λk hk=>by
   by_cases e:k=x.C
   ·exact h'.block k (by rw[e];exact ze) hk
   ·exact h.block k e hk⟩
end
section
variable {P:Program}{ty:TypeId}{Q Shun:Loc→Prop}{c ch Wg Low:Nat}{ro bC aS X:Nat→Prop}{w0 w w':World}{t u:Trace}{x y:Side Wg}
theorem kY.weaken {X':Nat→Prop}{cl:Bool}(h:kY Q Shun c ch Low ro bC aS X cl w0 w t)(hX:∀b,X b→X' b):kY Q Shun c ch Low ro bC aS X' cl w0 w t:=
 ⟨h.ti,h.d0,h.dc,h.mlt,h.EF,h.apart,h.big,h.chan,h.tape,h.os,h.output,λb h1 h2=>h.keep b h1 λe=>h2 (hX b e),hX _ h.OT⟩
structure B7 (Q Shun:Loc→Prop) (c ch Wg Low:Nat) (ro X:Nat→Prop):Prop extends Lay Q Shun c ch Low ro where
 Kh:Wg<Low
 wch:Wg≠ch
 wQ:∀a:Addr,a.block=Wg→Q (.cell a)
 wX:X Wg
theorem B7.wro (hY:B7 Q Shun c ch Wg Low ro X):¬ro Wg:=λh=>hY.rS (.cell ⟨Wg,0,none⟩) h (hY.QS _ (hY.wQ _ rfl))
theorem kY.Sl (hY:B7 Q Shun c ch Wg Low ro X)(h:kY Q Shun c ch Low ro bC aS X true w0 w t)(hA:Aside Wg w w'){g:Nat}(hg:g=0∨g=c)(hu:∀op∈u,op.g=g∧∀x,op.act.touch? =some x→Q x.loc∧x.kind≠.plain∧(x.kind=.said→g=0))(hl:∀op∈u,op.act.low w.heap.size)(hd:Deaf (t++u) 0=0):kY Q Shun c ch Low ro bC aS X true w0 w' (t++u)∧bV ro bC w w':=by
 have hs:=hA.size;refine⟨⟨?_,hd,(λe=>by cases e),λb hb=>by have:=h.mlt b hb;omega,λb hb=>by have:=h.EF b hb;omega,h.apart,by have:=h.big;omega,?_,hA.tape.trans h.tape,hA.os.trans h.os,hA.output.trans h.output,λb h1 h2=>?_,h.OT⟩,hA.tape,hA.os,hA.output,by omega,λb hb=>hA.block b ?_⟩
 ·rw[hs];exact h.ti.OJ hg hu hl hY.QS λl hl=>⟨λhi=>sL (λb hb'=>(h.EF b hb').1) hi (hY.qZ l (hY.QS l hl)),λhi=>hY.rS l hi (hY.QS l hl)⟩
 ·obtain⟨s,r,tm,e⟩:=h.chan;exact⟨s,r,tm,by rw[hA.block ch (Ne.symm hY.wch)];exact e⟩
 ·rw[hA.block b λe=>h2 (by rw[e];exact hY.wX)];exact h.keep b h1 h2
 ·rintro rfl;rcases hb with hb|hb
  ·have:=h.mlt _ hb;have:=hY.Kh;omega
  ·exact hY.wro hb
theorem uU {g g':Nat}{fn:FuncId}{pos:String}{es:Array Event}(hQ:∀a:Addr,a.block=Wg→Q (.cell a))(NW:g=0→g'=0)(h:∀e∈es,(∀t,(MemAct.ofEvent e).touch? =some t→∃a,t.loc=.cell a∧a.block=Wg∧t.kind≠.plain∧(t.kind=.said→g=0))∧(MemAct.ofEvent e).low Low):(∀op∈MemOp.ofEvents g' fn pos es,op.g=g'∧∀x,op.act.touch? =some x→Q x.loc∧x.kind≠.plain∧(x.kind=.said→g'=0))∧∀op∈MemOp.ofEvents g' fn pos es,op.act.low Low:=by
 refine⟨λop hop=>⟨ofEvents_g op hop,λx hx=>?_⟩,λop hop=>?_⟩
 ·obtain⟨e,he,rfl⟩:=Conc.mem_ofEvents hop;obtain⟨a,ha,hb,h1,h2⟩:=(h e he).1 x hx;exact⟨by rw[ha];exact hQ a hb,h1,λhs=>NW (h2 hs)⟩
 ·obtain⟨e,he,rfl⟩:=Conc.mem_ofEvents hop;exact(h e he).2
def aaD (P:Program)(ty:TypeId)(Q Shun:Loc→Prop)(c ch:Nat){Wg:Nat}(Low:Nat)(ro X:Nat→Prop)(x y:Side Wg)(Fin:(Nat→Prop)→Goroutine→World→Prop)(w0:World)(m:Machine)(t:Trace):Prop:=
 ∃gs w sl q bC aS a b iN jg μ ν,m=crowd gs w sl∧eJ P c t gs q∧gs[0]?=some a∧gs[c]?=some b∧Fin bC a w∧kY Q Shun c ch Low ro bC aS X true w0 w t∧x.half P ty Low μ b w iN∧y.half P ty Low ν b w jg∧GL c Wg iN t∧GL c Wg jg t
variable {z:Value}{Fin:(Nat→Prop)→Goroutine→World→Prop}
theorem Lu:WellFounded Lt2:=(Prod.lex Nat.lt_wfRel Nat.lt_wfRel).wf
theorem ID {ro own:Nat→Prop}{g:Nat}{fn:FuncId}{pos:String}{es:Array Event}{a:Addr}(h:∀e∈es,yO ro own e):∀op∈MemOp.ofEvents g fn pos es,op.act≠.mark (.release a):=by
 intro op hop e';obtain⟨e,he,rfl⟩:=Conc.mem_ofEvents hop;have hl:=uA a e';have:=h e he;unfold yO at this;rw[hl]at this;exact this.1
theorem B8 (sO:fG P ty Wg Low x)(wD:fG P ty Wg Low y)(ze:x.C≠y.C){μ ν:Nat×Nat}{b:Goroutine}{iN jg:Trace}(hx:x.half P ty Low μ b w iN)(hy:y.half P ty Low ν b w jg)(hb:b.status=.running):∃b' w' es oc EI,stepG P false b w=.go b' w' es∧Aside Wg w w'∧Lt2 oc μ∧x.half P ty Low oc b' w' (iN++MemOp.ofEvents 1 b.frame.fn b.frame.place es)∧y.half P ty Low EI b' w' (jg++MemOp.ofEvents 1 b.frame.fn b.frame.place es):=by
 obtain⟨b',w',es,oc,h1,h2,h3,h4⟩:=@Half.move x.pl P ty Wg x.C Low x.sh x.vals x.Mine sO.hCW μ b w iN hx hb;obtain⟨b'',w'',es',EI,k1,k2,k3,k4⟩:=@Half.move y.pl P ty Wg y.C Low y.sh y.vals y.Mine wD.hCW ν b w jg hy hb;rw[h1]at k1;obtain⟨rfl,rfl,rfl⟩:b'=b''∧w'=w''∧es=es':=by simpa using k1
 exact⟨b',w',es,oc,EI,h1,Ap ze h2 k2,h3,h4,k4⟩
theorem TU (hY:B7 Q Shun c ch Wg Low ro X)(sO:fG P ty Wg Low x)(wD:fG P ty Wg Low y)(ze:x.C≠y.C){a:Goroutine}{wM:World}
 (hM:aj P true ro (iM P ch z (yY P ro ch z Fin [])) bC a wM):∀(μ ν:Nat×Nat) (aS:Nat→Prop) (b:Goroutine) (iN jg:Trace) gs w sl t q,eJ P c t gs q→gs[0]?=some a→gs[c]?=some b→bV ro bC wM w→
   kY Q Shun c ch Low ro bC aS X true w0 w t→x.half P ty Low μ b w iN→y.half P ty Low ν b w jg→GL c Wg iN t→GL c Wg jg t→
   Reach P (crowd gs w sl) t (aaD P ty Q Shun c ch Low ro X x y Fin w0):=by
 induction hM with
 | @stop bC a wM hS=>
   intro μ
   induction μ using Lu.induction with
   |_ μ TV=>
   intro ν aS b iN jg gs w sl t q hC h0 hc hr eV hx hy hg1 hg2;have ha:a.status=.running:=(hS wM (bV.refl _ _ _)).1;have sf:=@Half.status x.pl P ty Wg x.C Low x.sh x.vals x.Mine μ b w iN hx;refine ix (J:=λw t=>bV ro bC wM w∧kY Q Shun c ch Low ro bC aS X true w0 w t∧x.half P ty Low μ b w iN∧y.half P ty Low ν b w jg∧GL c Wg iN t∧GL c Wg jg t) (fU ha) (awake_of (sf.elim .inl λh=> .inr (.inr h))) (.inl ha)
    (λw t d ops hj h1 h2 h3 h4=>⟨hj.1.trans (fF _ _ _ d),hj.2.1.still d (λop hop=>(h1 op hop).1) (h2 _) h3 h4,Side.kx hY.Kh sO.hC hj.2.2.1 (λ_ _=>rfl),Side.kx hY.Kh wD.hC hj.2.2.2.1 (λ_ _=>rfl),hj.2.2.2.2.1.other (λop hop=>⟨(h1 op hop).2 _,λ_=>(h1 op hop).1⟩) h3 h4,hj.2.2.2.2.2.other (λop hop=>⟨(h1 op hop).2 _,λ_=>(h1 op hop).1⟩) h3 h4⟩)
    (λw t hj=>⟨.run ha,λu u' d=>Side.p8 hj.2.2.1 u u'⟩)
    (λ_ gs w sl t q hC h0 hc hj=>?_) (λhb gs w sl t q hC h0 hc hj=>?_) gs w sl t q hC h0 hc ⟨hr,eV,hx,hy,hg1,hg2⟩
   ·obtain⟨hr,eV,hx,hy,hg1,hg2⟩:=hj;obtain⟨s,r,tm,hch⟩:=eV.chan;obtain⟨_,hst,rp⟩:=hS w hr;obtain⟨gs',fn,pos,e1,e2,e3,e4⟩:=sI (sl:=sl) hC h0 hc (by rcases sf with h|h<;>simp[h]) hst hch
    have hm:∀op∈(#[{ g:=0,fn:=fn,pos:=pos,act:= .recvClosed ch }]:Trace),∀m,op.act≠.mark m:=by intro op hop m;simp at hop;subst hop;simp
    have ht:∀op∈(#[{ g:=0,fn:=fn,pos:=pos,act:= .recvClosed ch }]:Trace),op.act.touch? =none:=by intro op hop;simp at hop;subst hop;rfl
    have fW:∀op∈(#[{ g:=0,fn:=fn,pos:=pos,act:= .recvClosed ch }]:Trace),op.act.low w.heap.size:=by
     intro op hop;simp at hop;subst hop;have:ch<w.heap.size:=by have:=hY.EE;have:=eV.big;omega
     exact this
    have aaE:=eV.still w.drawn ht fW (dK t 0 _ hm) (dK t c _ hm);exact⟨_,_,e1,.here ⟨gs',w,sl,q,bC,aS,_,b,iN,jg,μ,ν,rfl,e2,e3,e4,rp,aaE,hx,hy,hg1.other (λop hop=>⟨hm op hop _,λ_=>ht op hop⟩) (dK t 0 _ hm) (dK t c _ hm),hg2.other (λop hop=>⟨hm op hop _,λ_=>ht op hop⟩) (dK t 0 _ hm) (dK t c _ hm)⟩⟩
   ·obtain⟨hr,eV,hx,hy,hg1,hg2⟩:=hj;obtain⟨b',w',es,oc,EI,hst,hA,hlt,Ab,hy'⟩:=B8 sO wD ze hx hy hb;obtain⟨gs',e1,e2,e3,e4⟩:=kD (sl:=sl) hC h0 hc hst;rw[woken_run ha]at e3;obtain⟨p1,j1⟩:=@Half.jt x.pl P ty Wg x.C Low x.sh x.vals x.Mine _ _ _ _ Ab;obtain⟨p2,j2⟩:=@Half.jt y.pl P ty Wg y.C Low y.sh y.vals y.Mine _ _ _ _ hy';have zf:∀e∈es,∀x,(MemAct.ofEvent e).touch? =some x→∃ad,x.loc=.cell ad∧ad.block=Wg:=λe he x hx=>let⟨ad,h1,h2,_⟩:=(sN sO wD ze j1 j2 e he).1 x hx;⟨ad,h1,h2⟩;obtain⟨o1,o2⟩:=uU (Q:=Q) (g':=c) (fn:=b.frame.fn) (pos:=b.frame.place) hY.wQ (by simp) (sN sO wD ze j1 j2);obtain⟨k1,k2⟩:=eV.Sl hY hA (.inr rfl) o1 (λop hop=>MemAct.low_mono eV.big (o2 op hop)) (by rw[Deaf_other t hY.c0 _ ofEvents_g];exact eV.d0);exact⟨_,_,e1,TV oc hlt EI aS b' _ _ gs' w' sl _ q e2 e3 e4 (hr.trans k2) k1 Ab hy' (hg1.step hY.c0 (.inr rfl) (by simp) _ _ es (Side.norel j1) zf) (hg2.step hY.c0 (.inr rfl) (by simp) _ _ es (Side.norel j2) zf)⟩
 | @step bC a wM nx nw ne ha h1 h2 _ ih=>
   intro μ
   induction μ using Lu.induction with
   |_ μ TV=>
   intro ν aS b iN jg gs w sl t q hC h0 hc hr eV hx hy hg1 hg2;have sf:=@Half.status x.pl P ty Wg x.C Low x.sh x.vals x.Mine μ b w iN hx;refine ix (J:=λw t=>bV ro bC wM w∧kY Q Shun c ch Low ro bC aS X true w0 w t∧x.half P ty Low μ b w iN∧y.half P ty Low ν b w jg∧GL c Wg iN t∧GL c Wg jg t) (fU ha) (awake_of (sf.elim .inl λh=> .inr (.inr h))) (.inl ha)
    (λw t d ops hj h1 h2 h3 h4=>⟨hj.1.trans (fF _ _ _ d),hj.2.1.still d (λop hop=>(h1 op hop).1) (h2 _) h3 h4,Side.kx hY.Kh sO.hC hj.2.2.1 (λ_ _=>rfl),Side.kx hY.Kh wD.hC hj.2.2.2.1 (λ_ _=>rfl),hj.2.2.2.2.1.other (λop hop=>⟨(h1 op hop).2 _,λ_=>(h1 op hop).1⟩) h3 h4,hj.2.2.2.2.2.other (λop hop=>⟨(h1 op hop).2 _,λ_=>(h1 op hop).1⟩) h3 h4⟩)
    (λw t hj=>⟨.run ha,λu u' d=>Side.p8 hj.2.2.1 u u'⟩)
    (λ_ gs w sl t q hC h0 hc hj=>?_) (λhb gs w sl t q hC h0 hc hj=>?_) gs w sl t q hC h0 hc ⟨hr,eV,hx,hy,hg1,hg2⟩
   ·obtain⟨hr,eV,hx,hy,hg1,hg2⟩:=hj;have NR:=h2 w hr;obtain⟨gs',e1,e2,e3,e4⟩:=qY (sl:=sl) hC h0 hc (h1 w hr);rw[Side.p8 hx]at e4;obtain⟨k1,k2⟩:=eV.Ln (fn:=a.frame.fn) (pos:=a.frame.place) hY.toLay NR;have fW:∀b,b<Low→(nw w).heap[b]?=w.heap[b]?:=λb hlt=>NR.block b (by have:=eV.big;omega) λhm=>by have:=eV.mlt b hm;omega
    have Wy:Deaf (t++MemOp.ofEvents 0 a.frame.fn a.frame.place (ne w)) 0=Deaf t 0:=wB NR.evs;have hdc:Deaf (t++MemOp.ofEvents 0 a.frame.fn a.frame.place (ne w)) c=Deaf t c:=Deaf_other t (Ne.symm hY.c0) _ ofEvents_g;have X2:∀op∈MemOp.ofEvents 0 a.frame.fn a.frame.place (ne w),op.act≠.mark (.release (stA Wg))∧(op.g=c→op.act.touch? =none):=λop hop=>⟨ID NR.evs op hop,λe=>absurd ((ofEvents_g op hop).symm.trans e) (Ne.symm hY.c0)⟩;exact⟨_,_,e1,ih w hr μ ν aS b iN jg gs' _ sl _ q e2 e3 e4 (bV.refl _ _ _) k1 (Side.kx hY.Kh sO.hC hx fW) (Side.kx hY.Kh wD.hC hy fW) (hg1.other X2 Wy hdc) (hg2.other X2 Wy hdc)⟩
   ·obtain⟨hr,eV,hx,hy,hg1,hg2⟩:=hj;obtain⟨b',w',es,oc,EI,hst,hA,hlt,Ab,hy'⟩:=B8 sO wD ze hx hy hb;obtain⟨gs',e1,e2,e3,e4⟩:=kD (sl:=sl) hC h0 hc hst;rw[woken_run ha]at e3;obtain⟨p1,j1⟩:=@Half.jt x.pl P ty Wg x.C Low x.sh x.vals x.Mine _ _ _ _ Ab;obtain⟨p2,j2⟩:=@Half.jt y.pl P ty Wg y.C Low y.sh y.vals y.Mine _ _ _ _ hy';have zf:∀e∈es,∀x,(MemAct.ofEvent e).touch? =some x→∃ad,x.loc=.cell ad∧ad.block=Wg:=λe he x hx=>let⟨ad,h1,h2,_⟩:=(sN sO wD ze j1 j2 e he).1 x hx;⟨ad,h1,h2⟩;obtain⟨o1,o2⟩:=uU (Q:=Q) (g':=c) (fn:=b.frame.fn) (pos:=b.frame.place) hY.wQ (by simp) (sN sO wD ze j1 j2);obtain⟨k1,k2⟩:=eV.Sl hY hA (.inr rfl) o1 (λop hop=>MemAct.low_mono eV.big (o2 op hop)) (by rw[Deaf_other t hY.c0 _ ofEvents_g];exact eV.d0);exact⟨_,_,e1,TV oc hlt EI aS b' _ _ gs' w' sl _ q e2 e3 e4 (hr.trans k2) k1 Ab hy' (hg1.step hY.c0 (.inr rfl) (by simp) _ _ es (Side.norel j1) zf) (hg2.step hY.c0 (.inr rfl) (by simp) _ _ es (Side.norel j2) zf)⟩
end
end Go.Ren
set_option linter.unusedSectionVars false
namespace Go.Ren
open Go Go.Conc
open Go.ConcX (Payload Shy stA smA Base CA JInv RCa RCd DCs AtR0 RPa DPi AtKd PA KK WgAt ChanAt Full Aside2 runTX JT AtW1 Acquired Lt4 LtG ltG_wf AtRetJ DPj)
open Go.ConcN (sumTo upd sumTo_upd upd_ne upd_same)
section
variable {P:Program}{c:Nat}{t:Trace}{gs:Array Goroutine}{q:Nat→Nat}{a b:Goroutine}{w:World}{sl:Option (Nat×Nat)}
theorem B9 (hC:eJ P c t gs q)(h0:gs[0]?=some a)(hc:gs[c]?=some b)(NP:awake a)(XN:awake b)(hrun:a.status=.running∨b.status=.running):∃d sl',(a.status=.running∧stepT P (crowd gs w sl)=runT P (crowd gs (w.at d) sl') 0)∨
 (b.status=.running∧stepT P (crowd gs w sl)=runT P (crowd gs (w.at d) sl') c)∨
 (∃gs' ops q' x x',stepT P (crowd gs w sl)=(.next (crowd gs' (w.at d) sl'),ops)∧eJ P c (t++ops) gs' q'∧gs'[0]?=some (Conc.woken P x x' (w.at d) a)∧gs'[c]?=some (Conc.woken P x x' (w.at d) b)∧sumTo c q'<sumTo c q∧(∀op∈ops,op.act.touch? =none∧∀a,op.act≠.mark (.release a))∧(∀B,∀op∈ops,op.act.low B)∧Deaf (t++ops) 0=Deaf t 0∧Deaf (t++ops) c=Deaf t c):=by
 have jS:=hC.pos;have Tx:∀g∈gs,awake g:=by
  intro g hg;obtain⟨i,hi,rfl⟩:=zbp.1 hg;have hi':=zar hi;rcases hC.get hi' with rfl|rfl|⟨h1,h2⟩
  ·rw[h0]at hi';obtain rfl:=Option.some.inj hi';exact NP
  ·rw[hc]at hi';obtain rfl:=Option.some.inj hi';exact XN
  ·exact awake_of ((hC.old i _ h1 h2 hi').status.elim .inl λx=> .inr (.inr x))
 obtain⟨i,g,d,sl',hi,hg,hst⟩:=crowd_pick (P:=P) (w:=w) (sl:=sl) Tx (hrun.elim (λh=>⟨0,a,h0,h⟩) λh=>⟨c,b,hc,h⟩);refine⟨d,sl',?_⟩;rcases hC.get hi with rfl|rfl|⟨h1,h2⟩
 ·rw[h0]at hi;obtain rfl:=Option.some.inj hi;exact .inl ⟨hg,hst⟩
 ·rw[hc]at hi;obtain rfl:=Option.some.inj hi;exact .inr (.inl ⟨hg,hst⟩)
 ·right;right;have hq:=hC.old i g h1 h2 hi;have Ty:(i==0)=false:=by simp;omega
  have hlt:i<gs.size:=(zae.1 hi).1;cases Ep:q i with
  |zero=>rw[Ep]at hq;rw[hq.1]at hg;cases hg
  |succ k=>
   rw[Ep]at hq;rcases hq with⟨hf,_⟩|⟨_,g',es,hm,Er,hq'⟩
   ·rw[hf]at hg;cases hg
   have qX:=runT_crowd_go (P:=P) (sl:=sl') (i:=i) hi (by rw[Ty];exact Er (w.at d));have Tz:sumTo c (upd q i k)+(k+1)=sumTo c q+k:=by
    have:=sumTo_upd q k id h2;simpa[Ep]using this
   refine⟨_,_,upd q i k,g,g',hst.trans qX,⟨by simp[hC.size],jS,λj x hj TA hx=>?_,λj hj=>?_⟩,?_,?_,by omega,λop hop=>?_,λB op hop=>?_,Deaf_other t (by omega) _ ofEvents_g,Deaf_other t (by omega) _ ofEvents_g⟩
   ·by_cases Ac:i=j
    ·subst Ac;rw[zaV (by simpa using hlt)]at hx;obtain rfl:=Option.some.inj hx;rw[upd_same,Deaf_own];exact hq'
    ·rw[zan Ac,zal]at hx;obtain⟨y,hy,rfl⟩:=zam.1 hx;have K2:=hC.old j y hj TA hy;rw[woken_quitsD K2,upd_ne q k (Ne.symm Ac),Deaf_other t Ac _ ofEvents_g];exact K2
   ·rw[Deaf_other t (g':=i) (by omega) _ ofEvents_g];exact hC.above j hj
   ·rw[zan (by omega),zal,h0];rfl
   ·rw[zan (by omega),zal,hc];rfl
   ·obtain⟨e,he,rfl⟩:=Conc.mem_ofEvents hop;exact⟨touch_mute (hm e he),λa=>pX (hm e he) a⟩
   ·obtain⟨e,he,rfl⟩:=Conc.mem_ofEvents hop;exact low_mute (hm e he) B
end
section
variable {Wg:Nat}
def Side.J (x:Side Wg)(P:Program)(ty:TypeId)(Low:Nat)(μ:Nat×Nat×Nat×Nat)(a b:Goroutine)(w:World)(s:Trace):Prop:=@JInv x.pl P ty Wg x.C Low x.sh x.vals x.Mine x.AnchW x.Post μ (duo a b w none) s
def Side.acq (x:Side Wg)(P:Program)(ty:TypeId)(Low:Nat)(a b:Goroutine)(w:World)(s:Trace):Prop:=@Acquired x.pl P ty Wg x.C Low x.sh x.vals x.Mine x.Post (duo a b w none) s
end
theorem OX [Payload] {P:Program}{ty:TypeId}{Wg C Low:Nat} [Shy Wg C] {vals:List Value}{Mine:Loc→Prop}{AnchW:Goroutine→World→Prop}{Post:Value→World→Prop}{μ:Nat×Nat×Nat×Nat}{m:Machine}{s:Trace}
 (h:JInv P ty Wg C Low vals Mine AnchW Post μ m s):∃p,JT Mine Wg C s p:=by
 cases h with
 |a _ _ _ _ _ p _ _ _ _ _ _ _ _ _ _ _ hB=>exact⟨p,hB.jt⟩
 |b _ _ _ _ _ p _ _ _ _ _ _ _ _ _ _ hB=>exact⟨p,hB.jt⟩
 |c _ _ _ _ _ p _ _ _ _ _ hB=>exact⟨p,hB.jt⟩
 |d _ _ _ _ _ p _ _ _ _ _ hB=>exact⟨p,hB.jt⟩
 |f _ _ _ _ _ p _ _ _ hB=>exact⟨p,hB.jt⟩
 |j _ _ _ _ _ p _ _ _ _ _ _ _ _ _ hB=>exact⟨p,hB.jt⟩
section
variable {P:Program}{ty:TypeId}{Wg Low:Nat}{x:Side Wg}{μ:Nat×Nat×Nat×Nat}{a b:Goroutine}{w:World}{s:Trace}
theorem Side.OY (h:x.J P ty Low μ a b w s):∃p,x.jt s p:=@OX x.pl P ty Wg x.C Low x.sh x.vals x.Mine x.AnchW x.Post μ _ s h
theorem Side.GD (hx:fG P ty Wg Low x)(h:x.J P ty Low μ a b w s):awake a∧awake b∧(a.status=.running∨b.status=.running)∧∀d,x.J P ty Low μ a b (w.at d) s:=by
 obtain⟨a1,b1,w1,sl1,e,h1,h2,h3,h4⟩:=@Go.ConcX.JInv.shape x.pl P ty Wg x.C Low x.sh x.vals x.Mine x.AnchW x.Post hx.hAr μ _ s h;obtain⟨rfl,rfl,rfl,rfl⟩:=Go.ConcX.duo_inj e;exact⟨h1,h2,h3,λd=>h4 d none⟩
theorem Side.GF (hx:fG P ty Wg Low x)(h:x.J P ty Low μ a b w s)(g g':Goroutine):∃oc,x.J P ty Low oc (Conc.woken P g g' w a) (Conc.woken P g g' w b) w s:=by
 obtain⟨a1,b1,w1,sl1,e,oc,h1⟩:=@Go.ConcX.JInv.woken x.pl P ty Wg x.C Low x.sh x.vals x.Mine x.AnchW x.Post hx.hAr μ _ s h g g';obtain⟨rfl,rfl,rfl,rfl⟩:=Go.ConcX.duo_inj e;exact⟨oc,h1⟩
theorem Side.Aq (h:x.acq P ty Low a b w s)(d:Nat):x.acq P ty Low a b (w.at d) s:=@Go.ConcX.Acquired.at x.pl P ty Wg x.C Low x.sh x.vals x.Mine x.Post a b w none s h d none
theorem Side.GG (hW:Wg<Low)(hx:fG P ty Wg Low x)(h:x.J P ty Low μ a b w s)(ha:a.status=.running):x.acq P ty Low a b w s∨∃a' w' es oc,stepG P true a w=.go a' w' es∧Lt4 oc μ∧x.J P ty Low oc a' (Conc.woken P a a' w' b) w' (s++MemOp.ofEvents 0 a.frame.fn a.frame.place es):=by
 rcases @Go.ConcX.join_step x.pl P ty Wg x.C Low x.sh x.vals x.Mine x.AnchW x.Post hW hx.hC hx.hCW hx.hAr hx.hAn μ _ s h (runTX P (duo a b (w.at w.drawn) none) 0)
  (λa2 b2 w2 sl2 e2=>by obtain⟨rfl,rfl,rfl,rfl⟩:=Go.ConcX.duo_inj e2;exact⟨w.drawn,none,.inl ⟨ha,rfl⟩⟩)with wE|⟨m',ops,oc,hX,hlt,hJ'⟩
 ·exact .inl wE
 ·rw[duo_eq_crowd]at hX;obtain⟨g0,g',w',es,hg0,hgo,rfl,rfl⟩:=Go.ConcX.runTX_next hX;obtain rfl:a=g0:=by simpa using hg0
  have em:crowd ((#[a,b].map (Conc.woken P a g' w')).setIfInBounds 0 g') w' none=duo g' (Conc.woken P a g' w' b) w' none:=by simp[crowd,duo]
  rw[em]at hJ';exact .inr ⟨g',w',es,oc,hgo,hlt,hJ'⟩
theorem Side.GH (hW:Wg<Low)(hx:fG P ty Wg Low x)(h:x.J P ty Low μ a b w s)(hb:b.status=.running):x.acq P ty Low a b w s∨∃b' w' es oc,stepG P false b w=.go b' w' es∧Lt4 oc μ∧x.J P ty Low oc (Conc.woken P b b' w' a) b' w' (s++MemOp.ofEvents 1 b.frame.fn b.frame.place es):=by
 rcases @Go.ConcX.join_step x.pl P ty Wg x.C Low x.sh x.vals x.Mine x.AnchW x.Post hW hx.hC hx.hCW hx.hAr hx.hAn μ _ s h (runTX P (duo a b (w.at w.drawn) none) 1)
  (λa2 b2 w2 sl2 e2=>by obtain⟨rfl,rfl,rfl,rfl⟩:=Go.ConcX.duo_inj e2;exact⟨w.drawn,none,.inr ⟨hb,rfl⟩⟩)with wE|⟨m',ops,oc,hX,hlt,hJ'⟩
 ·exact .inl wE
 ·obtain⟨b',w',es,hgo,rfl,rfl⟩:=@wC x.pl P a b (w.at w.drawn) m' ops hX;exact .inr ⟨b',w',es,oc,hgo,hlt,hJ'⟩
end
section
variable {P:Program}{ty:TypeId}{Q Shun:Loc→Prop}{c ch Wg Low B:Nat}{ro aS X:Nat→Prop}{x y:Side Wg}
def X3 (P:Program)(ty:TypeId)(Q Shun:Loc→Prop)(c:Nat){Wg:Nat}(Low B:Nat)(ro aS:Nat→Prop)(x y:Side Wg)(m:Machine)(t:Trace):Prop:=
 ∃gs w sl q a b s,m=crowd gs w sl∧eJ P c t gs q∧gs[0]?=some a∧gs[c]?=some b∧TI Q Shun c aS ro B t∧GL c Wg s t∧(x.acq P ty Low a b w s∨y.acq P ty Low a b w s)
theorem TW (hY:B7 Q Shun c ch Wg Low ro X)(sO:fG P ty Wg Low x)(wD:fG P ty Wg Low y)(ze:x.C≠y.C)(hB:Low≤B)(hown:∀b,aS b→Low≤b):∀(M:Nat×(Nat×Nat×Nat×Nat)) (ν:Nat×Nat×Nat×Nat) (gs:Array Goroutine) (w:World) (sl:Option (Nat×Nat)) (t:Trace) (q:Nat→Nat) (a b:Goroutine) (iN jg:Trace),sumTo c q=M.1→eJ P c t gs q→gs[0]?=some a→gs[c]?=some b→TI Q Shun c aS ro B t→x.J P ty Low M.2 a b w iN→y.J P ty Low ν a b w jg→GL c Wg iN t→GL c Wg jg t→Reach P (crowd gs w sl) t (X3 P ty Q Shun c Low B ro aS x y):=by
 intro M
 induction M using ltG_wf.induction with
 |_ M ih=>
 intro ν gs w sl t q a b iN jg hM hC h0 hc hT hx hy hg1 hg2;obtain⟨awa,awb,hrun,aaF⟩:=Side.GD sO hx;obtain⟨_,_,_,aaG⟩:=Side.GD wD hy;have XL:∀l,Q l→¬jR aS l∧¬jR ro l:=λl hl=>⟨λhi=>sL hown hi (hY.qZ l (hY.QS l hl)),λhi=>hY.rS l hi (hY.QS l hl)⟩;obtain⟨d,sl',GI⟩:=B9 (w:=w) (sl:=sl) hC h0 hc awa awb hrun;have hx1:=aaF d;have hy1:=aaG d;rcases GI with⟨hr,hst⟩|⟨hr,hst⟩|⟨gs',ops,q',g,g',hst,hC',vV,hc',hlt,o1,o2,o3,o4⟩
 ·rcases Side.GG hY.Kh sO hx1 hr with wE|⟨a',w',es,oc,hgo,hl,Ab⟩
  ·exact .here ⟨gs,w,sl,q,a,b,iN,rfl,hC,h0,hc,hT,hg1,.inl (Side.Aq wE w.drawn)⟩
  rcases Side.GG hY.Kh wD hy1 hr with wE|⟨a2,w2,Xz,EI,Lv,_,hy'⟩
  ·exact .here ⟨gs,w,sl,q,a,b,jg,rfl,hC,h0,hc,hT,hg2,.inr (Side.Aq wE w.drawn)⟩
  rw[hgo]at Lv;obtain⟨rfl,rfl,rfl⟩:a'=a2∧w'=w2∧es=Xz:=by simpa using Lv
  obtain⟨p1,j1⟩:=Side.OY Ab;obtain⟨p2,j2⟩:=Side.OY hy';have gi:=sN sO wD ze j1 j2;have zf:∀e∈es,∀x,(MemAct.ofEvent e).touch? =some x→∃ad,x.loc=.cell ad∧ad.block=Wg:=λe he x hx=>let⟨ad,h1,h2,_⟩:=(gi e he).1 x hx;⟨ad,h1,h2⟩;obtain⟨k1,k2⟩:=uU (Q:=Q) (g':=0) (fn:=a.frame.fn) (pos:=a.frame.place) hY.wQ (λ_=>rfl) gi;obtain⟨gs',e1,e2,e3,e4⟩:=qY (sl:=sl') hC h0 hc hgo;exact Reach.step (hst.trans e1) (ih (M.1,oc) (.right _ hl) EI gs' w' sl' _ q a' _ _ _ hM e2 e3 e4 (hT.OJ (.inl rfl) k1 (λop hop=>MemAct.low_mono hB (k2 op hop)) hY.QS XL) Ab hy' (hg1.step hY.c0 (.inl rfl) (by simp) _ _ es (Side.norel j1) zf) (hg2.step hY.c0 (.inl rfl) (by simp) _ _ es (Side.norel j2) zf))
 ·rcases Side.GH hY.Kh sO hx1 hr with wE|⟨a',w',es,oc,hgo,hl,Ab⟩
  ·exact .here ⟨gs,w,sl,q,a,b,iN,rfl,hC,h0,hc,hT,hg1,.inl (Side.Aq wE w.drawn)⟩
  rcases Side.GH hY.Kh wD hy1 hr with wE|⟨a2,w2,Xz,EI,Lv,_,hy'⟩
  ·exact .here ⟨gs,w,sl,q,a,b,jg,rfl,hC,h0,hc,hT,hg2,.inr (Side.Aq wE w.drawn)⟩
  rw[hgo]at Lv;obtain⟨rfl,rfl,rfl⟩:a'=a2∧w'=w2∧es=Xz:=by simpa using Lv
  obtain⟨p1,j1⟩:=Side.OY Ab;obtain⟨p2,j2⟩:=Side.OY hy';have gi:=sN sO wD ze j1 j2;have zf:∀e∈es,∀x,(MemAct.ofEvent e).touch? =some x→∃ad,x.loc=.cell ad∧ad.block=Wg:=λe he x hx=>let⟨ad,h1,h2,_⟩:=(gi e he).1 x hx;⟨ad,h1,h2⟩;obtain⟨k1,k2⟩:=uU (Q:=Q) (g':=c) (fn:=b.frame.fn) (pos:=b.frame.place) hY.wQ (by simp) gi;obtain⟨gs',e1,e2,e3,e4⟩:=kD (sl:=sl') hC h0 hc hgo;exact Reach.step (hst.trans e1) (ih (M.1,oc) (.right _ hl) EI gs' w' sl' _ q _ a' _ _ hM e2 e3 e4 (hT.OJ (.inr rfl) k1 (λop hop=>MemAct.low_mono hB (k2 op hop)) hY.QS XL) Ab hy' (hg1.step hY.c0 (.inr rfl) (by simp) _ _ es (Side.norel j1) zf) (hg2.step hY.c0 (.inr rfl) (by simp) _ _ es (Side.norel j2) zf))
 ·obtain⟨oc,Ab⟩:=Side.GF sO hx1 g g';obtain⟨EI,hy'⟩:=Side.GF wD hy1 g g';exact Reach.step hst (ih (sumTo c q',oc) (.left _ _ (by omega)) EI gs' (w.at d) sl' _ q' _ _ iN jg rfl hC' vV hc' (hT.still (λop hop=>(o1 op hop).1) (o2 _)) Ab hy' (hg1.other (λop hop=>⟨(o1 op hop).2 _,λ_=>(o1 op hop).1⟩) o3 o4) (hg2.other (λop hop=>⟨(o1 op hop).2 _,λ_=>(o1 op hop).1⟩) o3 o4))
theorem Ca {t:Trace}(Sh:∀a:Addr,a.block=Wg→Shun (.cell a))(hT:TI Q Shun c aS ro B t)(hA:Lt c Wg t)(hd:Deaf t 0=0):Past Shun B t:=by
 obtain⟨R,K,hR,hK,hg,hh,hRK⟩:=hA;have X4:HappensBefore t R K:= .single (.inr ⟨.marked hRK (.inr hR.act) hK (λk h1 _=>hR.norel k h1),hR.heard,hh⟩);obtain⟨z,hz,hzg⟩:=zam.1 hg;have before:∀i,t.g? i=some c→i≤R→HappensBefore t i K:=λi hi hle=>by
  rcases zag i R with hlt|js
  ·exact .trans (.single (.inl ⟨hlt,c,hi,hR.g⟩)) X4
  ·obtain rfl:i=R:=by omega
   exact X4
 refine⟨hT.clean,λi a ha hm=>?_,λi g EH h0 Bn=>?_,hd,hT.seen⟩
 ·rcases hT.known i a ha hm with h|h|⟨h,_⟩
  ·exact .inl h
  ·exact .inr h
  ·rcases zag R i with hlt|hle
   ·obtain⟨ad,h1,h2⟩:=hR.late i a hlt h ha;refine .inr ⟨by rw[h1];exact Sh ad h2,?_⟩;by_cases hk:a.kind=.atomic
    ·exact hk
    ·exact absurd ⟨a,ha,hm,.inl hk⟩ (hR.after i hlt h)
   ·exact .inl ⟨K,z,hz,hzg,.inr (before i h hle)⟩
 ·by_cases Wx:g=c
  ·subst Wx;exact⟨K,hg,before i EH (Nat.le_of_not_lt λhlt=>hR.after i hlt EH Bn)⟩
  ·exact hT.over i g EH h0 Wx Bn
theorem Lx (sO:fG P ty Wg Low x)(hB:Low≤B)(hCS:∀a:Addr,a.block=x.C→¬Shun (.cell a)){e:Event}(h:@Go.ConcX.EvJ x.Mine Wg x.C x.sh e):EvL Shun B e:=by
 obtain⟨h1,h2,h3⟩:=h;obtain⟨_,ht,_,hk⟩:=h1 0 "";obtain⟨k1,k2⟩:=sO.ok _ hk;refine⟨λz hz hs=>?_,h2,h3,MemAct.low_mono hB k2⟩;obtain⟨a,ha,hb|hb⟩:=k1 z hz
 ·exact(ht z hz).2.1 (.inl ⟨a,ha,hb⟩)
 ·rw[ha]at hs;exact absurd hs (hCS a hb)
def aaH (P:Program)(Shun:Loc→Prop)(c:Nat){Wg:Nat}(B:Nat)(x y:Side Wg)(m:Machine)(t:Trace):Prop:=
 ∃gs w sl q a,m=crowd gs w sl∧gs.size=c+1∧gs[0]?=some a∧a.status=.running∧(x.sh.stop a w∨y.sh.stop a w)∧Leavers P t gs q∧Past Shun B t
theorem Cb {x:Side Wg}(sO:fG P ty Wg Low x)(hB:Low≤B)(Sh:∀a:Addr,a.block=Wg→Shun (.cell a))(hCS:∀a:Addr,a.block=x.C→¬Shun (.cell a)){gs:Array Goroutine}{w:World}{sl:Option (Nat×Nat)}{q:Nat→Nat}{a b:Goroutine}{s t:Trace}
 (hC:eJ P c t gs q)(h0:gs[0]?=some a)(hc:gs[c]?=some b)(hT:TI Q Shun c aS ro B t)(hg:GL c Wg s t)(hA:x.acq P ty Low a b w s):
 Reach P (crowd gs w sl) t λm t=>∃gs w sl q a,m=crowd gs w sl∧gs.size=c+1∧gs[0]?=some a∧a.status=.running∧x.sh.stop a w∧Leavers P t gs q∧Past Shun B t:=by
 letI:=x.pl
 letI:=x.sh
 obtain⟨a1,b1,w1,sl1,p,d1,k,mp,r,vs,e,Sm,hG,hAc,hq⟩:=hA;obtain⟨rfl,rfl,rfl,rfl⟩:=Go.ConcX.duo_inj e;have hP:=Ca Sh hT (hg.acq hAc) (hg.d0.trans Sm.deaf0);have hL:Leavers P t gs (upd q c k):=by
  refine⟨λi g hi EH=>?_,λj hj=>hC.above j (by have:=hC.size;omega)⟩;rcases hC.get EH with rfl|rfl|⟨h1,h2⟩
  ·omega
  ·rw[hc]at EH;obtain rfl:=Option.some.inj EH;rw[upd_same,hg.dc,Sm.deaf1];exact hq
  ·rw[upd_ne q k (by omega)];exact hC.old i g h1 h2 EH
 obtain⟨N,gs',a',w',sl',T',q',hr,hs',vV,hS,Eu,aaI⟩:=walk_beside (P:=P) (λ_ _ es hD e he=>Lx sO hB hCS (hD.2 e he)) _ mp gs a w sl t _ (zaa _) h0 hL hP hG;exact⟨N,_,_,hr,gs',w',sl',q',a',rfl,hs'.trans hC.size,vV,hS.1,hS.2,Eu,aaI⟩
theorem TX (sO:fG P ty Wg Low x)(wD:fG P ty Wg Low y)(hB:Low≤B)(Sh:∀a:Addr,a.block=Wg→Shun (.cell a))(X5:∀a:Addr,a.block=x.C→¬Shun (.cell a))(X6:∀a:Addr,a.block=y.C→¬Shun (.cell a)){m:Machine}{t:Trace}(h:X3 P ty Q Shun c Low B ro aS x y m t):Reach P m t (aaH P Shun c B x y):=by
 obtain⟨gs,w,sl,q,a,b,s,rfl,hC,h0,hc,hT,hg,hA|hA⟩:=h
 ·exact(Cb sO hB Sh X5 hC h0 hc hT hg hA).mono λm t ⟨gs,w,sl,q,a,e,h1,h2,h3,h4,h5,h6⟩=>⟨gs,w,sl,q,a,e,h1,h2,h3,.inl h4,h5,h6⟩
 ·exact(Cb wD hB Sh X6 hC h0 hc hT hg hA).mono λm t ⟨gs,w,sl,q,a,e,h1,h2,h3,h4,h5,h6⟩=>⟨gs,w,sl,q,a,e,h1,h2,h3,.inr h4,h5,h6⟩
end
end Go.Ren
