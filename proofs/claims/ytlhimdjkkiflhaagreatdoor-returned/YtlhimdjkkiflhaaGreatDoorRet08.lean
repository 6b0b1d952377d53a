import Derived.Conc.FxMachine2
import Derived.Conc.FxFork
import Derived.Conc.FxFrame
import Derived.Conc.DeferLaws
import GoSem.Extern.Table
import Derived.KernelRfl
import Derived.Test.YtlhimdjkkiflhaaGreatDoorRet07
set_option maxHeartbeats 8000000
set_option maxRecDepth 100000
open Go.MemOp renaming ofEvents→Γ
open Go renaming Goroutine→Δ,Trace→Θ,World→Λ,Program→Φ,TypeId→Ω,Value→ζ,Event→η,FuncId→θ,stepG→ξ,execOp→υ,Frame→φ
open Go.MemAct renaming ofEvent→Ξ
open Go.Conc renaming crowd→ι
open Go.Extern.BytealgIndexByte renaming indexByte→π
namespace Go.Ren
open Go Go.Conc
open Go.ConcX (stA Acq)
theorem OU {t:Θ}{g:Nat}{fn:θ}{pos:String}{es:Array η}(j:Nat):(t++Γ g fn pos es)[t.size+j]?=(es[j]?).map λe=>{ g:=g,fn:=fn,pos:=pos,act:= .ofEvent e }:=by
 rw[Array.getElem?_append_right (by omega),ofEvents_eq,zaz]
 congr 2
 omega
theorem oB {t:Θ}{g:Nat}{fn:θ}{pos:String}{es:Array η}(j:Nat):(t++Γ g fn pos es).act? (t.size+j)=(es[j]?).map Ξ:=by
 unfold Trace.act?
 rw[OU];cases es[j]?<;>rfl
theorem EE {t:Θ}{g:Nat}{fn:θ}{pos:String}{es:Array η}(j:Nat):(t++Γ g fn pos es).g? (t.size+j)=(es[j]?).map λ_=>g:=by
 unfold Trace.g?
 rw[OU];cases es[j]?<;>rfl
theorem EF {t:Θ}{g:Nat}{fn:θ}{pos:String}{es:Array η}{j:Nat}{e:η}(he:es[j]?=some e):(t++Γ g fn pos es).heard (t.size+j)↔deafBehind (Deaf t g) (es.extract 0 j)=0:=by
 have hj:j≤es.size:=by
  rcases zaw j es.size with h|h
  ·omega
  ·rw[zbQ h]at he;cases he
 unfold Trace.heard;rw[EE,he];simp only[zbp,zaE,exists_eq_left'];rw[deaf_inside t g fn pos es j hj]
theorem uf {s T:Θ}{g g':Nat}{fn:θ}{pos:String}{es:Array η}{j:Nat}{e:η}(he:es[j]?=some e)(hd:Deaf T g'=Deaf s g):(T++Γ g' fn pos es).heard (T.size+j)↔(s++Γ g fn pos es).heard (s.size+j):=by
 rw[EF he,EF he,hd]
theorem H5 {s T:Θ}{g g':Nat}{fn:θ}{pos:String}{es:Array η}{j:Nat}(hd:Deaf T g'=Deaf s g):(T++Γ g' fn pos es).counts (T.size+j)→(s++Γ g fn pos es).counts (s.size+j):=by
 rintro ⟨x,hx,hm,hk⟩;rw[oB]at hx;cases he:es[j]? with
 |none=>rw[he]at hx;simp at hx
 |some e=>exact⟨x,by rw[oB];exact hx,hm,hk.imp id (uf he hd).1⟩
theorem mj {t:Θ}{g:Nat}{fn:θ}{pos:String}{es:Array η}{i:Nat}(hi:t.size≤i)(hlt:i<(t++Γ g fn pos es).size):∃j e,i=t.size+j∧es[j]?=some e:=by
 rw[ofEvents_eq]at hlt;simp at hlt;exact⟨i-t.size,es[i-t.size]'(by omega),by omega,zaL _⟩
theorem pJ {t:Θ}{i g:Nat}(h:t.g? i=some g):i<t.size:=by
 obtain⟨z,hz,_⟩:=zas.1 h;exact lt_size_of_getElem? hz
structure LH (c Wg:Nat) (T:Θ) (R:Nat):Prop where
 act:T.act? R=some (.mark (.releaseMerge (stA Wg)))
 g:T.g? R=some c
 heard:T.heard R
 after:∀i,R<i→T.g? i=some c→¬T.counts i
 norel:∀i,R<i→T.act? i≠some (.mark (.release (stA Wg)))
 late:∀i a,R<i→T.g? i=some c→touchAt T i=some a→∃ad,a.loc=.cell ad∧ad.block=Wg
def TN (c Wg:Nat)(u:Θ):Prop:=∀op∈u,op.act≠.mark (.release (stA Wg))∧(op.g=c→∀x,op.act.touch? =some x→∃ad,x.loc=.cell ad∧ad.block=Wg)
theorem LH.app {c Wg:Nat}{T u:Θ}{R:Nat}(h:LH c Wg T R)(hu:TN c Wg u)(hc:∀i,T.size≤i→(T++u).g? i=some c→¬(T++u).counts i):LH c Wg (T++u) R:=by
 have hR:=lt_of_act? h.act;refine⟨by rw[act?_old hR];exact h.act,by rw[g?_old hR];exact h.g,(heard_old hR).2 h.heard,λi hi hg uS=>?_,λi hi e=>?_,λi a hi hg ha=>?_⟩
 ·rcases zaw i T.size with hlt|jB
  ·exact h.after i hi (by rw[←g?_old (u:=u) hlt];exact hg) ((counts_old hlt).1 uS)
  ·exact hc i jB hg uS
 ·obtain⟨op,ho,TP⟩:=zas.1 e;rcases getElem?_append_cases ho with⟨_,Nw⟩|⟨_,Yc⟩
  ·exact h.norel i hi (by rw[act?_of Nw,TP])
  ·exact(hu op Yc).1 TP
 ·obtain⟨op,ho,TP⟩:=touch_of ha;rcases getElem?_append_cases ho with⟨hlt,Nw⟩|⟨_,Yc⟩
  ·exact h.late i a hi (by rw[←g?_old (u:=u) hlt];exact hg) (by rw[touchAt_of Nw];exact TP)
  ·exact(hu op Yc).2 (by simpa[Trace.g?,ho]using hg) a TP
def OV (c Wg:Nat)(T:Θ):Prop:=∃R Q,LH c Wg T R∧T.act? Q=some (.mark (.acquire (stA Wg)))∧T.g? Q=some 0∧T.heard Q∧R<Q
structure GL (c Wg:Nat) (s T:Θ):Prop where
 d0:Deaf T 0=Deaf s 0
 dc:Deaf T c=Deaf s 1
 rel:∀r,Released (stA Wg) s r→∃R,LH c Wg T R
 acq:Acq Wg s→OV c Wg T
section
variable {c Wg:Nat}{s T u:Θ}
theorem OV.app (h:OV c Wg T)(hu:TN c Wg u)(hc:∀i,T.size≤i→(T++u).g? i=some c→¬(T++u).counts i):OV c Wg (T++u):=by
 obtain⟨R,Q,h1,h2,h3,h4,h5⟩:=h;have hQ:=lt_of_act? h2;exact⟨R,Q,h1.app hu hc,by rw[act?_old hQ];exact h2,by rw[g?_old hQ];exact h3,(heard_old hQ).2 h4,h5⟩
theorem GL.other (h:GL c Wg s T)(hu:∀op∈u,op.act≠.mark (.release (stA Wg))∧(op.g=c→op.act.touch? =none))(h0:Deaf (T++u) 0=Deaf T 0)(hc:Deaf (T++u) c=Deaf T c):GL c Wg s (T++u):=by
 have k:∀i,T.size≤i→(T++u).g? i=some c→¬(T++u).counts i:=by
  rintro i hi hg ⟨x,hx,_⟩;obtain⟨op,ho,hog⟩:=zas.1 hg;rcases getElem?_append_cases ho with⟨hlt,_⟩|⟨_,Yc⟩
  ·omega
  ·rw[act?_of ho]at hx;simp only[zce]at hx;rw[(hu op Yc).2 hog]at hx;cases hx
 have hm:TN c Wg u:=λop hop=>⟨(hu op hop).1,λe x hx=>by rw[(hu op hop).2 e]at hx;cases hx⟩;exact⟨h0.trans h.d0,hc.trans h.dc,λr hr=>let⟨R,hR⟩:=h.rel r hr;⟨R,hR.app hm k⟩,λha=>(h.acq ha).app hm k⟩
theorem Released.back {t u:Θ}{a:Addr}{r:Nat}(h:Released a (t++u) r)(hr:r<t.size):Released a t r:=
 ⟨by rw[←act?_old (u:=u) hr];exact h.act,by rw[←g?_old (u:=u) hr];exact h.g,(heard_old hr).1 h.heard,λi hi hg hc=>by
   have hlt:=pJ hg;exact h.after i hi (by rw[g?_old hlt];exact hg) ((counts_old hlt).2 hc)⟩
theorem vM {e:η}(a:Addr)(h:Ξ e=.mark (.release a)):e.loc=.mark (.release a):=by
 obtain⟨loc,wr,sy⟩:=e;cases loc<;>cases wr<;>cases sy<;>simp_all [Ξ]
theorem GL.step (hc0:c≠0)(h:GL c Wg s T){g:Nat}(hg:g=0∨g=1){g':Nat}(tK:g'=if g=0 then 0 else c)(fn:θ)(pos:String)(es:Array η)(hn:NoRelease (stA Wg) (s++Γ g fn pos es))(hq:∀e∈es,∀x,(Ξ e).touch? =some x→∃ad,x.loc=.cell ad∧ad.block=Wg):GL c Wg (s++Γ g fn pos es) (T++Γ g' fn pos es):=by
 have hd:Deaf T g'=Deaf s g:=by
  rcases hg with rfl|rfl
  ·rw[tK];exact h.d0
  ·rw[tK];exact h.dc
 have hgc:g'=c↔g=1:=by
  rcases hg with rfl|rfl
  ·rw[tK];simp;exact Ne.symm hc0
  ·rw[tK];simp
 have hnu:TN c Wg (Γ g' fn pos es):=by
  intro op hop;obtain⟨ev,iG,rfl⟩:=zbe hop;refine⟨λe=>?_,λ_=>hq ev iG⟩;obtain⟨j,hj⟩:=Array.getElem?_of_mem iG;exact hn (s.size+j) (by rw[oB,hj];exact zak some e)
 have kc:∀r,Released (stA Wg) (s++Γ g fn pos es) r→∀j e,es[j]?=some e→r<s.size+j→g'=c→¬(T++Γ g' fn pos es).counts (T.size+j):=by
  intro r hr j e he hlt SM uS;refine hr.after (s.size+j) hlt ?_ (H5 hd uS);rw[EE,he,hgc.1 SM];rfl
 have aav:∀r,Released (stA Wg) (s++Γ g fn pos es) r→r<s.size→∀i,T.size≤i→(T++Γ g' fn pos es).g? i=some c→¬(T++Γ g' fn pos es).counts i:=by
  intro r hr hlt i hi EG;obtain⟨j,e,rfl,he⟩:=mj hi (pJ EG);refine kc r hr j e he (by omega) ?_;rw[EE,he]at EG;simpa using EG
 have aaw:∀r,Released (stA Wg) (s++Γ g fn pos es) r→∃R,LH c Wg (T++Γ g' fn pos es) R∧(r<s.size→R<T.size):=by
  intro r hr;rcases zaw r s.size with hlt|jB
  ·obtain⟨R,hR⟩:=h.rel r (Released.back hr hlt);exact⟨R,hR.app hnu (aav r hr hlt),λ_=>lt_of_act? hR.act⟩
  ·obtain⟨j,e,rfl,he⟩:=mj jB (pJ hr.g);have h1:=hr.act;have h2:=hr.g;rw[oB,he]at h1;rw[EE,he]at h2;have hg1:g=1:=by simpa using h2
   refine⟨T.size+j,⟨by rw[oB,he];exact h1,by rw[EE,he,hgc.2 hg1];rfl,(uf he hd).2 hr.heard,λi hi EG=>?_,λi hi e'=>?_,λi a hi EG ha=>?_⟩,λhlt=>by omega⟩
   ·obtain⟨j',e',rfl,TQ⟩:=mj (by omega) (pJ EG);exact kc _ hr j' e' TQ (by omega) (hgc.2 hg1)
   ·obtain⟨j',e'',rfl,aax⟩:=mj (by omega) (lt_of_act? e');rw[oB,aax]at e';exact hn (s.size+j') (by rw[oB,aax];exact e')
   ·obtain⟨op,ho,TP⟩:=touch_of ha;rcases getElem?_append_cases ho with⟨hlt,_⟩|⟨_,Yc⟩
    ·omega
    ·obtain⟨ev,iG,rfl⟩:=zbe Yc;exact hq ev iG a TP
 refine⟨?_,?_,λr hr=>let⟨R,hR,_⟩:=aaw r hr;⟨R,hR⟩,?_⟩
 ·rcases hg with rfl|rfl
  ·rw[zab rfl]at tK;subst tK;rw[Deaf_own,Deaf_own,h.d0]
  ·rw[zaa (by decide)]at tK;subst tK;rw[zaN T hc0 _ ofEvents_g,zaN s (by decide) _ ofEvents_g,h.d0]
 ·rcases hg with rfl|rfl
  ·rw[zab rfl]at tK;subst tK;rw[zaN T (Ne.symm hc0) _ ofEvents_g,zaN s (by decide) _ ofEvents_g,h.dc]
  ·rw[zaa (by decide)]at tK;subst tK;rw[Deaf_own,Deaf_own,h.dc]
 ·rintro ⟨q,r,hr,hq,hgq,hh,hrq⟩;rcases zaw q s.size with hlt|jB
  ·have qy:=Released.back hr (by omega);exact(h.acq ⟨q,r,qy,by rw[←act?_old hlt];exact hq,by rw[←g?_old hlt];exact hgq,(heard_old hlt).1 hh,hrq⟩).app hnu (aav r hr (by omega))
  ·obtain⟨j,e,rfl,he⟩:=mj jB (pJ hgq);rw[EE,he]at hgq;have hg0:g=0:=by simpa using hgq
   have qy:r<s.size:=by
    rcases zaw r s.size with hlt|acR
    ·exact hlt
    ·obtain⟨j',e',rfl,TQ⟩:=mj acR (pJ hr.g);have:=hr.g;rw[EE,TQ,hg0]at this;simp at this
   obtain⟨R,hR,hlt⟩:=aaw r hr;refine⟨R,T.size+j,hR,?_,?_,(uf he hd).2 hh,by have:=hlt qy;omega⟩
   ·rw[oB,he]at hq ⊢;exact hq
   ·rw[EE,he,tK];simp[hg0]
end
end Go.Ren
set_option linter.unusedSectionVars false
namespace Go.Ren
open Go Go.Conc
open Go.ConcX (Payload Shy stA smA Base CA JInv RCa RCd DCs AtR0 RPa DPi AtKd PA KK WgAt ChanAt Full Aside2 runTX JT CAOut)
section
variable [Payload] {P:Φ}{ty:Ω}{Wg C Low:Nat} [Shy Wg C] {vals:List ζ}{Mine:Loc→Prop}
def Half (P:Φ)(ty:Ω)(Wg C Low:Nat) [Shy Wg C] (vals:List ζ)(Mine:Loc→Prop)(μ:Nat×Nat)(b:Δ)(w:Λ)(s:Θ):Prop:=
 (∃p d1 rc mc rel cl sent vs,μ=(rc,mc)∧sent++vs=vals∧Base Mine ty Wg C vals.length KK 0 sent.toArray cl sent.length 0 0 d1 rel w s p∧CA P ty Wg C Low vals Mine rc d1 rel vs cl mc b w)∨
 (∃p d1 q,μ=(0,q)∧Base Mine ty Wg C vals.length 0 0 vals.toArray true vals.length 0 0 d1 true w s p∧QuitsD P q d1 b)
theorem xT {a b:Δ}{w:Λ}{m':Machine}{ops:Array MemOp}(h:runTX P (duo a b w none) 1=(.next m',ops)):∃b' w' es,ξ P false b w=.go b' w' es∧m'=duo (Conc.woken P b b' w' a) b' w' none∧ops=Γ 1 b.frame.fn b.frame.place es:=by
 rw[duo_eq_crowd]at h;obtain⟨g,g',w',es,hg,hs,hm,ho⟩:=Go.ConcX.runTX_next h;obtain rfl:b=g:=by simpa using hg
 exact⟨g',w',es,hs,by rw[hm];simp[ι,duo],ho⟩
theorem Half.status {μ:Nat×Nat}{b:Δ}{w:Λ}{s:Θ}(h:Half P ty Wg C Low vals Mine μ b w s):b.status=.running∨b.status=.finished:=by
 rcases h with⟨_,_,_,_,_,_,_,_,_,_,_,hc⟩|⟨_,_,_,_,_,hq⟩
 ·exact .inl hc.running
 ·exact hq.status
theorem Half.jt {μ:Nat×Nat}{b:Δ}{w:Λ}{s:Θ}(h:Half P ty Wg C Low vals Mine μ b w s):∃p,JT Mine Wg C s p:=by
 rcases h with⟨p,_,_,_,_,_,_,_,_,_,hB,_⟩|⟨p,_,_,_,hB,_⟩
 ·exact⟨p,hB.jt⟩
 ·exact⟨p,hB.jt⟩
theorem Half.woken {μ:Nat×Nat}{b:Δ}{w w':Λ}{s:Θ}(h:Half P ty Wg C Low vals Mine μ b w s)(x x':Δ):Conc.woken P x x' w' b=b:=by
 rcases h with⟨_,_,_,_,_,_,_,_,_,_,_,hc⟩|⟨_,_,_,_,_,hq⟩
 ·exact woken_run hc.running
 ·exact woken_quitsD hq
theorem Half.rely (hW:Wg<Low)(hC:C<Low){μ:Nat×Nat}{b:Δ}{w w':Λ}{s:Θ}(h:Half P ty Wg C Low vals Mine μ b w s)(hr:∀b,b<Low→w'.heap[b]?=w.heap[b]?):Half P ty Wg C Low vals Mine μ b w' s:=by
 rcases h with⟨p,d1,rc,mc,rel,cl,sent,vs,e,hs,hB,hc⟩|⟨p,d1,q,e,hB,hq⟩
 ·exact .inl ⟨p,d1,rc,mc,rel,cl,sent,vs,e,hs,⟨hB.wg.of_block (hr Wg hW),hB.ch.of_block (hr C hC),hB.jt,hB.deaf0,hB.deaf1,hB.noacq,hB.rel⟩,hc.rely (Go.ConcX.RCd.toA hW hr)⟩
 ·exact .inr ⟨p,d1,q,e,⟨hB.wg.of_block (hr Wg hW),hB.ch.of_block (hr C hC),hB.jt,hB.deaf0,hB.deaf1,hB.noacq,hB.rel⟩,hq⟩
theorem Half.move (hCW:C≠Wg){μ:Nat×Nat}{b:Δ}{w:Λ}{s:Θ}(h:Half P ty Wg C Low vals Mine μ b w s)(hb:b.status=.running):∃b' w' es oC,ξ P false b w=.go b' w' es∧Aside2 C Wg w w'∧Lt2 oC μ∧Half P ty Wg C Low vals Mine oC b' w' (s++Γ 1 b.frame.fn b.frame.place es):=by
 rcases h with⟨p,d1,rc,mc,rel,cl,sent,vs,rfl,hs,hB,hc⟩|⟨p,d1,q,rfl,hB,hq⟩
 ·obtain⟨a',b',w',ops,hrun,_,hA,hout⟩:=Go.ConcX.CA.move hCW (a:=ph) (sl:=none) (.inl rfl) hs hB hc (.inl (by simp[ph]));obtain⟨b2,w2,es,hst,hm,rfl⟩:=xT hrun;obtain⟨_,rfl,rfl,_⟩:=Go.ConcX.duo_inj hm;cases hout with
  |stay rc' d1' rel' aay vs' cl' mc' hl hs' TR hc'=>exact⟨b',w',es,(rc',mc'),hst,hA,hl,.inl ⟨p,d1',rc',mc',rel',cl',aay,vs',rfl,hs',TR,hc'⟩⟩
  |lone q _ TR hq=>exact⟨b',w',es,(0,q),hst,hA,.left _ _ (by have:=hc.rank_pos;omega),.inr ⟨p,1,q,rfl,TR,hq⟩⟩
  |met m e _ _=>exact absurd e Go.ConcX.kk1_ne
 ·obtain⟨b',ops,q',d1',hrun,hlt,TR,hq',_⟩:=Go.ConcX.cq_move (a:=ph) (sl:=none) hB hq hb;obtain⟨b2,w2,es,hst,hm,rfl⟩:=xT hrun;obtain⟨_,rfl,rfl,_⟩:=Go.ConcX.duo_inj hm;exact⟨b',w,es,(0,q'),hst,.refl w,.right _ hlt,.inr ⟨p,d1',q',rfl,TR,hq'⟩⟩
theorem Half.inv {AnchW:Δ→Λ→Prop}{Post:ζ→Λ→Prop}{μ:Nat×Nat}{a b:Δ}{w:Λ}{s:Θ}{sl:Option (Nat×Nat)}(h:Half P ty Wg C Low vals Mine μ b w s){m:Nat}(hp:Goes P true (RPa ty Wg C vals) (DPi Mine Wg C Low) (AtKd P ty Wg C Low vals Mine AnchW) m a w):∃oC,JInv P ty Wg C Low vals Mine AnchW Post oC (duo a b w sl) s:=by
 rcases h with⟨p,d1,rc,mc,rel,cl,sent,vs,rfl,hs,hB,hc⟩|⟨p,d1,q,rfl,hB,hq⟩
 ·exact⟨_,.a a b w sl s p 0 d1 rc mc 4 m rel cl sent vs hs hB (.kd hp) hc⟩
 ·exact⟨_,.c a b w sl s p 0 d1 q 4 m hB (.kd hp) hq⟩
def LK:Θ:=((#[]:Θ).push { g:=0,fn:=0,pos:= "",act:= .go 1 }).push { g:=1,fn:=0,pos:= "",act:= .start }
theorem Half.init {b:Δ}{w:Λ}{n:Nat}(hw:WgAt ty Wg w KK 0)(hG:Goes P false (RCa ty Wg Low) (DCs Mine Wg C) (AtR0 P ty Wg C Low vals) n b w):Half P ty Wg C Low vals Mine (7,n) b w LK:=by
 obtain⟨h1,h2,h3,h4⟩:=Go.ConcX.JT.init (Mine:=Mine) (Go.ConcX.ST.nil (Wg:=Wg) (C:=C)) (x:={ g:=0,fn:=0,pos:= "",act:= .go 1 }) (y:={ g:=1,fn:=0,pos:= "",act:= .start }) ⟨rfl,rfl⟩ ⟨rfl,rfl⟩;exact .inl ⟨_,0,7,n,false,false,vals,[],rfl,by simp,⟨hw,(λe=>by cases e),h1,h2,h3,(λ_=>h4),(λe=>by cases e)⟩,.r0 hG⟩
end
theorem LL:Deaf LK 0=0:=by simp[LK,Deaf,Trace.deaf]
theorem LM:Deaf LK 1=0:=by simp[LK,Deaf,Trace.deaf]
theorem Bq {a:Addr}{r:Nat}(h:Released a LK r):False:=by
 have:=h.act;have hlt:=lt_of_act? this;have h2:r<2:=hlt
 match r,h2 with
 |0,_=>simp[LK,Trace.act?]at this
 |1,_=>simp[LK,Trace.act?]at this
theorem GL.init {c Wg:Nat}{T:Θ}(h0:Deaf T 0=0)(hc:Deaf T c=0):GL c Wg LK T:=
 ⟨by rw[h0,LL],by rw[hc,LM],λr hr=>(Bq hr).elim,λ⟨_,_,hr,_⟩=>(Bq hr).elim⟩
end Go.Ren
set_option linter.unusedSectionVars false
namespace Go.Ren
open Go Go.Conc
open Go.ConcX (Payload Shy stA smA Base CA JInv RCa RCd DCs AtR0 RPa DPi AtKd PA KK WgAt ChanAt Full Aside2 runTX JT AtW1)
structure Side (Wg:Nat) where
 pl:Payload
 C:Nat
 sh:Shy Wg C
 vals:List ζ
 Mine:Loc→Prop
 AnchW:Δ→Λ→Prop
 Post:ζ→Λ→Prop
section
variable {Wg:Nat}
def Side.half (x:Side Wg)(P:Φ)(ty:Ω)(Low:Nat)(μ:Nat×Nat)(b:Δ)(w:Λ)(s:Θ):Prop:=@Half x.pl P ty Wg x.C Low x.sh x.vals x.Mine μ b w s
def Side.jt (x:Side Wg)(s:Θ)(p:Nat):Prop:=@JT x.Mine Wg x.C x.sh s p
theorem Side.kA {x:Side Wg}{P:Φ}{ty:Ω}{Low:Nat}(hW:Wg<Low)(hC:x.C<Low){μ:Nat×Nat}{b:Δ}{w w':Λ}{s:Θ}(h:x.half P ty Low μ b w s)(hr:∀b,b<Low→w'.heap[b]?=w.heap[b]?):x.half P ty Low μ b w' s:=
 @Half.rely x.pl P ty Wg x.C Low x.sh x.vals x.Mine hW hC μ b w w' s h hr
theorem Side.qZ {x:Side Wg}{P:Φ}{ty:Ω}{Low:Nat}{μ:Nat×Nat}{b:Δ}{w w':Λ}{s:Θ}(h:x.half P ty Low μ b w s)(u u':Δ):Conc.woken P u u' w' b=b:=
 @Half.woken x.pl P ty Wg x.C Low x.sh x.vals x.Mine μ b w w' s h u u'
theorem Side.norel {x:Side Wg}{s:Θ}{p:Nat}(h:x.jt s p):NoRelease (stA Wg) s:=@JT.norel x.Mine Wg x.C x.sh s p h
theorem Side.oks {x:Side Wg}{s:Θ}{p:Nat}(h:x.jt s p):∀op∈s,x.sh.ok op.act:=@JT.oks x.Mine Wg x.C x.sh s p h
theorem Side.quiet {x:Side Wg}{s:Θ}{p:Nat}(h:x.jt s p):Quiet (Go.ConcX.ShJ Wg x.C) s:=@JT.quiet x.Mine Wg x.C x.sh s p h
structure fy (P:Φ) (ty:Ω) (Wg Low:Nat) (x:Side Wg):Prop where
 hC:x.C<Low
 hCW:x.C≠Wg
 hAr:∀g w,x.AnchW g w→g.status=.running
 hAn:letI:=x.pl;letI:=x.sh;∀g w,x.AnchW g w→∃m,Goes P true (RPa ty Wg x.C x.vals) (DPi x.Mine Wg x.C Low) (AtW1 P ty Wg x.C Low x.vals x.Mine x.AnchW x.Post) m g w
 ok:∀act,x.sh.ok act→(∀t,act.touch? =some t→∃a,t.loc=.cell a∧(a.block=Wg∨a.block=x.C))∧act.low Low
end
section
variable {P:Φ}{ty:Ω}{Wg Low:Nat}{x y:Side Wg}{s s':Θ}{g:Nat}{fn:θ}{pos:String}{es:Array η}{p p':Nat}
theorem J2 (hx:fy P ty Wg Low x)(h:x.jt (s++Γ g fn pos es) p):∀e∈es,(∀t,(Ξ e).touch? =some t→∃a,t.loc=.cell a∧((a.block=Wg∧t.kind≠.plain∧(t.kind=.said→g=0))∨a.block=x.C))∧(Ξ e).low Low:=by
 intro e he;obtain⟨j,hj⟩:=Array.getElem?_of_mem he;have hop:(s++Γ g fn pos es)[s.size+j]?=some { g:=g,fn:=fn,pos:=pos,act:= .ofEvent e }:=by rw[OU,hj];rfl
 obtain⟨k1,k2⟩:=hx.ok _ (Side.oks h _ (zbF hop));refine⟨λt ht=>?_,k2⟩;obtain⟨a,ha,hb⟩:=k1 t ht;refine⟨a,ha,hb.imp (λhb=>?_) id⟩;obtain⟨q1,q2⟩:=Side.quiet h _ _ t hop ht (.inl ⟨a,ha,hb⟩);exact⟨hb,q1,q2⟩
theorem ug (hx:fy P ty Wg Low x)(hy:fy P ty Wg Low y)(Br:x.C≠y.C)(h:x.jt (s++Γ g fn pos es) p)(h':y.jt (s'++Γ g fn pos es) p'):∀e∈es,(∀t,(Ξ e).touch? =some t→∃a,t.loc=.cell a∧a.block=Wg∧t.kind≠.plain∧(t.kind=.said→g=0))∧(Ξ e).low Low:=by
 intro e he;obtain⟨k1,k2⟩:=J2 hx h e he;refine⟨λt ht=>?_,k2⟩;obtain⟨a,ha,hb⟩:=k1 t ht;obtain⟨a',ha',hb'⟩:=(J2 hy h' e he).1 t ht;rw[ha]at ha';obtain rfl:a=a':=by simpa using ha'
 rcases hb with hb|hb
 ·exact⟨a,ha,hb⟩
 ·rcases hb' with hb'|hb'
  ·exact⟨a,ha,hb'⟩
  ·exact absurd (hb.symm.trans hb') Br
theorem CS {w w':Λ}(Br:x.C≠y.C)(h:Aside2 x.C Wg w w')(h':Aside2 y.C Wg w w'):Aside Wg w w':=
 ⟨h.tape,h.os,h.output,h.size,λk hk=>by
   by_cases e:k=x.C
   ·exact h'.block k (by rw[e];exact Br) hk
   ·exact h.block k e hk⟩
end
section
variable {P:Φ}{ty:Ω}{Q Shun:Loc→Prop}{c ch Wg Low:Nat}{ro bG aW X:Nat→Prop}{w0 w w':Λ}{t u:Θ}{x y:Side Wg}
theorem lu.weaken {X':Nat→Prop}{cl:Bool}(h:lu Q Shun c ch Low ro bG aW X cl w0 w t)(hX:∀b,X b→X' b):lu Q Shun c ch Low ro bG aW X' cl w0 w t:=
 ⟨h.ti,h.d0,h.dc,h.mlt,h.HY,h.apart,h.big,h.chan,h.tape,h.os,h.output,λb h1 h2=>h.keep b h1 λe=>h2 (hX b e),hX _ h.TM⟩
structure EH (Q Shun:Loc→Prop) (c ch Wg Low:Nat) (ro X:Nat→Prop):Prop extends Lay Q Shun c ch Low ro where
 Nx:Wg<Low
 wch:Wg≠ch
 wQ:∀a:Addr,a.block=Wg→Q (.cell a)
 wX:X Wg
theorem EH.wro (hY:EH Q Shun c ch Wg Low ro X):¬ro Wg:=λh=>hY.rS (.cell ⟨Wg,0,none⟩) h (hY.QS _ (hY.wQ _ rfl))
theorem lu.WD (hY:EH Q Shun c ch Wg Low ro X)(h:lu Q Shun c ch Low ro bG aW X true w0 w t)(hA:Aside Wg w w'){g:Nat}(hg:g=0∨g=c)(hu:∀op∈u,op.g=g∧∀x,op.act.touch? =some x→Q x.loc∧x.kind≠.plain∧(x.kind=.said→g=0))(hl:∀op∈u,op.act.low w.heap.size)(hd:Deaf (t++u) 0=0):lu Q Shun c ch Low ro bG aW X true w0 w' (t++u)∧cq ro bG w w':=by
 have hs:=hA.size;refine⟨⟨?_,hd,(λe=>by cases e),λb hb=>by have:=h.mlt b hb;omega,λb hb=>by have:=h.HY b hb;omega,h.apart,by have:=h.big;omega,?_,hA.tape.trans h.tape,hA.os.trans h.os,hA.output.trans h.output,λb h1 h2=>?_,h.TM⟩,hA.tape,hA.os,hA.output,by omega,λb hb=>hA.block b ?_⟩
 ·rw[hs];exact h.ti.TG hg hu hl hY.QS λl hl=>⟨λhi=>ue (λb hb'=>(h.HY b hb').1) hi (hY.sr l (hY.QS l hl)),λhi=>hY.rS l hi (hY.QS l hl)⟩
 ·obtain⟨s,r,tm,e⟩:=h.chan;exact⟨s,r,tm,by rw[hA.block ch (Ne.symm hY.wch)];exact e⟩
 ·rw[hA.block b λe=>h2 (by rw[e];exact hY.wX)];exact h.keep b h1 h2
 ·rintro rfl;rcases hb with hb|hb
  ·have:=h.mlt _ hb;have:=hY.Nx;omega
  ·exact hY.wro hb
theorem wI {g g':Nat}{fn:θ}{pos:String}{es:Array η}(hQ:∀a:Addr,a.block=Wg→Q (.cell a))(SM:g=0→g'=0)(h:∀e∈es,(∀t,(Ξ e).touch? =some t→∃a,t.loc=.cell a∧a.block=Wg∧t.kind≠.plain∧(t.kind=.said→g=0))∧(Ξ e).low Low):(∀op∈Γ g' fn pos es,op.g=g'∧∀x,op.act.touch? =some x→Q x.loc∧x.kind≠.plain∧(x.kind=.said→g'=0))∧∀op∈Γ g' fn pos es,op.act.low Low:=by
 refine⟨λop hop=>⟨ofEvents_g op hop,λx hx=>?_⟩,λop hop=>?_⟩
 ·obtain⟨e,he,rfl⟩:=zbe hop;obtain⟨a,ha,hb,h1,h2⟩:=(h e he).1 x hx;exact⟨by rw[ha];exact hQ a hb,h1,λhs=>SM (h2 hs)⟩
 ·obtain⟨e,he,rfl⟩:=zbe hop;exact(h e he).2
def acS (P:Φ)(ty:Ω)(Q Shun:Loc→Prop)(c ch:Nat){Wg:Nat}(Low:Nat)(ro X:Nat→Prop)(x y:Side Wg)(Fin:(Nat→Prop)→Δ→Λ→Prop)(w0:Λ)(m:Machine)(t:Θ):Prop:=
 ∃gs w sl q bG aW a b iN js μ ν,m=ι gs w sl∧eM P c t gs q∧gs[0]?=some a∧gs[c]?=some b∧Fin bG a w∧lu Q Shun c ch Low ro bG aW X true w0 w t∧x.half P ty Low μ b w iN∧y.half P ty Low ν b w js∧GL c Wg iN t∧GL c Wg js t
variable {z:ζ}{Fin:(Nat→Prop)→Δ→Λ→Prop}
theorem OW:WellFounded Lt2:=(Prod.lex Nat.lt_wfRel Nat.lt_wfRel).wf
theorem LN {ro own:Nat→Prop}{g:Nat}{fn:θ}{pos:String}{es:Array η}{a:Addr}(h:∀e∈es,DO ro own e):∀op∈Γ g fn pos es,op.act≠.mark (.release a):=by
 intro op hop e';obtain⟨e,he,rfl⟩:=zbe hop;have hl:=vM a e';have:=h e he;unfold DO at this;rw[hl]at this;exact this.1
theorem EI (pK:fy P ty Wg Low x)(xU:fy P ty Wg Low y)(Br:x.C≠y.C){μ ν:Nat×Nat}{b:Δ}{iN js:Θ}(hx:x.half P ty Low μ b w iN)(hy:y.half P ty Low ν b w js)(hb:b.status=.running):∃b' w' es oC H6,ξ P false b w=.go b' w' es∧Aside Wg w w'∧Lt2 oC μ∧x.half P ty Low oC b' w' (iN++Γ 1 b.frame.fn b.frame.place es)∧y.half P ty Low H6 b' w' (js++Γ 1 b.frame.fn b.frame.place es):=by
 obtain⟨b',w',es,oC,h1,h2,h3,h4⟩:=@Half.move x.pl P ty Wg x.C Low x.sh x.vals x.Mine pK.hCW μ b w iN hx hb;obtain⟨b'',w'',es',H6,k1,k2,k3,k4⟩:=@Half.move y.pl P ty Wg y.C Low y.sh y.vals y.Mine xU.hCW ν b w js hy hb;rw[h1]at k1;obtain⟨rfl,rfl,rfl⟩:b'=b''∧w'=w''∧es=es':=by simpa using k1
 exact⟨b',w',es,oC,H6,h1,CS Br h2 k2,h3,h4,k4⟩
theorem Yd (hY:EH Q Shun c ch Wg Low ro X)(pK:fy P ty Wg Low x)(xU:fy P ty Wg Low y)(Br:x.C≠y.C){a:Δ}{wM:Λ}
 (hM:af P true ro (iM P ch z (Bj P ro ch z Fin [])) bG a wM):∀(μ ν:Nat×Nat) (aW:Nat→Prop) (b:Δ) (iN js:Θ) gs w sl t q,eM P c t gs q→gs[0]?=some a→gs[c]?=some b→cq ro bG wM w→
   lu Q Shun c ch Low ro bG aW X true w0 w t→x.half P ty Low μ b w iN→y.half P ty Low ν b w js→GL c Wg iN t→GL c Wg js t→
   Reach P (ι gs w sl) t (acS P ty Q Shun c ch Low ro X x y Fin w0):=by
 induction hM with
 | @stop bG a wM hS=>
   intro μ
   induction μ using OW.induction with
   |_ μ Ye=>
   intro ν aW b iN js gs w sl t q hC h0 hc hr eW hx hy hg1 hg2;have ha:a.status=.running:=(hS wM (cq.refl _ _ _)).1;have Ny:=@Half.status x.pl P ty Wg x.C Low x.sh x.vals x.Mine μ b w iN hx;refine iq (J:=λw t=>cq ro bG wM w∧lu Q Shun c ch Low ro bG aW X true w0 w t∧x.half P ty Low μ b w iN∧y.half P ty Low ν b w js∧GL c Wg iN t∧GL c Wg js t) (fS ha) (awake_of (Ny.elim .inl λh=> .inr (.inr h))) (.inl ha)
    (λw t d ops hj h1 h2 h3 h4=>⟨hj.1.trans (fx _ _ _ d),hj.2.1.still d (λop hop=>(h1 op hop).1) (h2 _) h3 h4,Side.kA hY.Nx pK.hC hj.2.2.1 (λ_ _=>rfl),Side.kA hY.Nx xU.hC hj.2.2.2.1 (λ_ _=>rfl),hj.2.2.2.2.1.other (λop hop=>⟨(h1 op hop).2 _,λ_=>(h1 op hop).1⟩) h3 h4,hj.2.2.2.2.2.other (λop hop=>⟨(h1 op hop).2 _,λ_=>(h1 op hop).1⟩) h3 h4⟩)
    (λw t hj=>⟨.run ha,λu u' d=>Side.qZ hj.2.2.1 u u'⟩)
    (λ_ gs w sl t q hC h0 hc hj=>?_) (λhb gs w sl t q hC h0 hc hj=>?_) gs w sl t q hC h0 hc ⟨hr,eW,hx,hy,hg1,hg2⟩
   ·obtain⟨hr,eW,hx,hy,hg1,hg2⟩:=hj;obtain⟨s,r,tm,hch⟩:=eW.chan;obtain⟨_,hst,sw⟩:=hS w hr;obtain⟨gs',fn,pos,e1,e2,e3,e4⟩:=tZ (sl:=sl) hC h0 hc (by rcases Ny with h|h<;>simp[h]) hst hch
    have hm:∀op∈(#[{ g:=0,fn:=fn,pos:=pos,act:= .recvClosed ch }]:Θ),∀m,op.act≠.mark m:=by intro op hop m;simp at hop;subst hop;simp
    have ht:∀op∈(#[{ g:=0,fn:=fn,pos:=pos,act:= .recvClosed ch }]:Θ),op.act.touch? =none:=by intro op hop;simp at hop;subst hop;rfl
    have fV:∀op∈(#[{ g:=0,fn:=fn,pos:=pos,act:= .recvClosed ch }]:Θ),op.act.low w.heap.size:=by
     intro op hop;simp at hop;subst hop;have:ch<w.heap.size:=by have:=hY.Hz;have:=eW.big;omega
     exact this
    have acT:=eW.still w.drawn ht fV (dO t 0 _ hm) (dO t c _ hm);exact⟨_,_,e1,.here ⟨gs',w,sl,q,bG,aW,_,b,iN,js,μ,ν,rfl,e2,e3,e4,sw,acT,hx,hy,hg1.other (λop hop=>⟨hm op hop _,λ_=>ht op hop⟩) (dO t 0 _ hm) (dO t c _ hm),hg2.other (λop hop=>⟨hm op hop _,λ_=>ht op hop⟩) (dO t 0 _ hm) (dO t c _ hm)⟩⟩
   ·obtain⟨hr,eW,hx,hy,hg1,hg2⟩:=hj;obtain⟨b',w',es,oC,H6,hst,hA,hlt,tJ,hy'⟩:=EI pK xU Br hx hy hb;obtain⟨gs',e1,e2,e3,e4⟩:=kL (sl:=sl) hC h0 hc hst;rw[woken_run ha]at e3;obtain⟨p1,j1⟩:=@Half.jt x.pl P ty Wg x.C Low x.sh x.vals x.Mine _ _ _ _ tJ;obtain⟨p2,j2⟩:=@Half.jt y.pl P ty Wg y.C Low y.sh y.vals y.Mine _ _ _ _ hy';have Bt:∀e∈es,∀x,(Ξ e).touch? =some x→∃ad,x.loc=.cell ad∧ad.block=Wg:=λe he x hx=>let⟨ad,h1,h2,_⟩:=(ug pK xU Br j1 j2 e he).1 x hx;⟨ad,h1,h2⟩;obtain⟨o1,o2⟩:=wI (Q:=Q) (g':=c) (fn:=b.frame.fn) (pos:=b.frame.place) hY.wQ (by simp) (ug pK xU Br j1 j2);obtain⟨k1,k2⟩:=eW.WD hY hA (.inr rfl) o1 (λop hop=>MemAct.low_mono eW.big (o2 op hop)) (by rw[zaN t hY.c0 _ ofEvents_g];exact eW.d0);exact⟨_,_,e1,Ye oC hlt H6 aW b' _ _ gs' w' sl _ q e2 e3 e4 (hr.trans k2) k1 tJ hy' (hg1.step hY.c0 (.inr rfl) (by simp) _ _ es (Side.norel j1) Bt) (hg2.step hY.c0 (.inr rfl) (by simp) _ _ es (Side.norel j2) Bt)⟩
 | @step bG a wM nx nw ne ha h1 h2 _ ih=>
   intro μ
   induction μ using OW.induction with
   |_ μ Ye=>
   intro ν aW b iN js gs w sl t q hC h0 hc hr eW hx hy hg1 hg2;have Ny:=@Half.status x.pl P ty Wg x.C Low x.sh x.vals x.Mine μ b w iN hx;refine iq (J:=λw t=>cq ro bG wM w∧lu Q Shun c ch Low ro bG aW X true w0 w t∧x.half P ty Low μ b w iN∧y.half P ty Low ν b w js∧GL c Wg iN t∧GL c Wg js t) (fS ha) (awake_of (Ny.elim .inl λh=> .inr (.inr h))) (.inl ha)
    (λw t d ops hj h1 h2 h3 h4=>⟨hj.1.trans (fx _ _ _ d),hj.2.1.still d (λop hop=>(h1 op hop).1) (h2 _) h3 h4,Side.kA hY.Nx pK.hC hj.2.2.1 (λ_ _=>rfl),Side.kA hY.Nx xU.hC hj.2.2.2.1 (λ_ _=>rfl),hj.2.2.2.2.1.other (λop hop=>⟨(h1 op hop).2 _,λ_=>(h1 op hop).1⟩) h3 h4,hj.2.2.2.2.2.other (λop hop=>⟨(h1 op hop).2 _,λ_=>(h1 op hop).1⟩) h3 h4⟩)
    (λw t hj=>⟨.run ha,λu u' d=>Side.qZ hj.2.2.1 u u'⟩)
    (λ_ gs w sl t q hC h0 hc hj=>?_) (λhb gs w sl t q hC h0 hc hj=>?_) gs w sl t q hC h0 hc ⟨hr,eW,hx,hy,hg1,hg2⟩
   ·obtain⟨hr,eW,hx,hy,hg1,hg2⟩:=hj;have SK:=h2 w hr;obtain⟨gs',e1,e2,e3,e4⟩:=sk (sl:=sl) hC h0 hc (h1 w hr);rw[Side.qZ hx]at e4;obtain⟨k1,k2⟩:=eW.OP (fn:=a.frame.fn) (pos:=a.frame.place) hY.toLay SK;have fV:∀b,b<Low→(nw w).heap[b]?=w.heap[b]?:=λb hlt=>SK.block b (by have:=eW.big;omega) λhm=>by have:=eW.mlt b hm;omega
    have hd0:Deaf (t++Γ 0 a.frame.fn a.frame.place (ne w)) 0=Deaf t 0:=xS SK.evs;have hdc:Deaf (t++Γ 0 a.frame.fn a.frame.place (ne w)) c=Deaf t c:=zaN t (Ne.symm hY.c0) _ ofEvents_g;have aaz:∀op∈Γ 0 a.frame.fn a.frame.place (ne w),op.act≠.mark (.release (stA Wg))∧(op.g=c→op.act.touch? =none):=λop hop=>⟨LN SK.evs op hop,λe=>absurd ((ofEvents_g op hop).symm.trans e) (Ne.symm hY.c0)⟩;exact⟨_,_,e1,ih w hr μ ν aW b iN js gs' _ sl _ q e2 e3 e4 (cq.refl _ _ _) k1 (Side.kA hY.Nx pK.hC hx fV) (Side.kA hY.Nx xU.hC hy fV) (hg1.other aaz hd0 hdc) (hg2.other aaz hd0 hdc)⟩
   ·obtain⟨hr,eW,hx,hy,hg1,hg2⟩:=hj;obtain⟨b',w',es,oC,H6,hst,hA,hlt,tJ,hy'⟩:=EI pK xU Br hx hy hb;obtain⟨gs',e1,e2,e3,e4⟩:=kL (sl:=sl) hC h0 hc hst;rw[woken_run ha]at e3;obtain⟨p1,j1⟩:=@Half.jt x.pl P ty Wg x.C Low x.sh x.vals x.Mine _ _ _ _ tJ;obtain⟨p2,j2⟩:=@Half.jt y.pl P ty Wg y.C Low y.sh y.vals y.Mine _ _ _ _ hy';have Bt:∀e∈es,∀x,(Ξ e).touch? =some x→∃ad,x.loc=.cell ad∧ad.block=Wg:=λe he x hx=>let⟨ad,h1,h2,_⟩:=(ug pK xU Br j1 j2 e he).1 x hx;⟨ad,h1,h2⟩;obtain⟨o1,o2⟩:=wI (Q:=Q) (g':=c) (fn:=b.frame.fn) (pos:=b.frame.place) hY.wQ (by simp) (ug pK xU Br j1 j2);obtain⟨k1,k2⟩:=eW.WD hY hA (.inr rfl) o1 (λop hop=>MemAct.low_mono eW.big (o2 op hop)) (by rw[zaN t hY.c0 _ ofEvents_g];exact eW.d0);exact⟨_,_,e1,Ye oC hlt H6 aW b' _ _ gs' w' sl _ q e2 e3 e4 (hr.trans k2) k1 tJ hy' (hg1.step hY.c0 (.inr rfl) (by simp) _ _ es (Side.norel j1) Bt) (hg2.step hY.c0 (.inr rfl) (by simp) _ _ es (Side.norel j2) Bt)⟩
end
end Go.Ren
set_option linter.unusedSectionVars false
namespace Go.Ren
open Go Go.Conc
open Go.ConcX (Payload Shy stA smA Base CA JInv RCa RCd DCs AtR0 RPa DPi AtKd PA KK WgAt ChanAt Full Aside2 runTX JT AtW1 Acquired Lt4 LtG ltG_wf AtRetJ DPj)
open Go.ConcN (sumTo upd sumTo_upd upd_ne upd_same)
section
variable {P:Φ}{c:Nat}{t:Θ}{gs:Array Δ}{q:Nat→Nat}{a b:Δ}{w:Λ}{sl:Option (Nat×Nat)}
theorem EJ (hC:eM P c t gs q)(h0:gs[0]?=some a)(hc:gs[c]?=some b)(SJ:awake a)(hwb:awake b)(hrun:a.status=.running∨b.status=.running):∃d sl',(a.status=.running∧stepT P (ι gs w sl)=runT P (ι gs (w.at d) sl') 0)∨
 (b.status=.running∧stepT P (ι gs w sl)=runT P (ι gs (w.at d) sl') c)∨
 (∃gs' ops q' x x',stepT P (ι gs w sl)=(.next (ι gs' (w.at d) sl'),ops)∧eM P c (t++ops) gs' q'∧gs'[0]?=some (Conc.woken P x x' (w.at d) a)∧gs'[c]?=some (Conc.woken P x x' (w.at d) b)∧sumTo c q'<sumTo c q∧(∀op∈ops,op.act.touch? =none∧∀a,op.act≠.mark (.release a))∧(∀B,∀op∈ops,op.act.low B)∧Deaf (t++ops) 0=Deaf t 0∧Deaf (t++ops) c=Deaf t c):=by
 have jT:=hC.pos;have X3:∀g∈gs,awake g:=by
  intro g hg;obtain⟨i,hi,rfl⟩:=zcm.1 hg;have hi':=zaL hi;rcases hC.get hi' with rfl|rfl|⟨h1,h2⟩
  ·rw[h0]at hi';obtain rfl:=zaM hi';exact SJ
  ·rw[hc]at hi';obtain rfl:=zaM hi';exact hwb
  ·exact awake_of ((hC.old i _ h1 h2 hi').status.elim .inl λx=> .inr (.inr x))
 obtain⟨i,g,d,sl',hi,hg,hst⟩:=crowd_pick (P:=P) (w:=w) (sl:=sl) X3 (hrun.elim (λh=>⟨0,a,h0,h⟩) λh=>⟨c,b,hc,h⟩);refine⟨d,sl',?_⟩;rcases hC.get hi with rfl|rfl|⟨h1,h2⟩
 ·rw[h0]at hi;obtain rfl:=zaM hi;exact .inl ⟨hg,hst⟩
 ·rw[hc]at hi;obtain rfl:=zaM hi;exact .inr (.inl ⟨hg,hst⟩)
 ·right;right;have hq:=hC.old i g h1 h2 hi;have WB:(i==0)=false:=by simp;omega
  have hlt:i<gs.size:=(zaj.1 hi).1;cases Ho:q i with
  |zero=>rw[Ho]at hq;rw[hq.1]at hg;cases hg
  |succ k=>
   rw[Ho]at hq;rcases hq with⟨hf,_⟩|⟨_,g',es,hm,Hp,hq'⟩
   ·rw[hf]at hg;cases hg
   have sj:=runT_crowd_go (P:=P) (sl:=sl') (i:=i) hi (by rw[WB];exact Hp (w.at d));have Lv:sumTo c (upd q i k)+(k+1)=sumTo c q+k:=by
    have:=sumTo_upd q k id h2;simpa[Ho]using this
   refine⟨_,_,upd q i k,g,g',hst.trans sj,⟨by simp[hC.size],jT,λj x hj X5 hx=>?_,λj hj=>?_⟩,?_,?_,by omega,λop hop=>?_,λB op hop=>?_,zaN t (by omega) _ ofEvents_g,zaN t (by omega) _ ofEvents_g⟩
   ·by_cases xK:i=j
    ·subst xK;rw[zbG (by simpa using hlt)]at hx;obtain rfl:=zaM hx;rw[upd_same,Deaf_own];exact hq'
    ·rw[zaA xK,zaz]at hx;obtain⟨y,hy,rfl⟩:=zas.1 hx;have Hq:=hC.old j y hj X5 hy;rw[woken_quitsD Hq,upd_ne q k (Ne.symm xK),zaN t xK _ ofEvents_g];exact Hq
   ·rw[zaN t (g':=i) (by omega) _ ofEvents_g];exact hC.above j hj
   ·rw[zaA (by omega),zaz,h0];rfl
   ·rw[zaA (by omega),zaz,hc];rfl
   ·obtain⟨e,he,rfl⟩:=zbe hop;exact⟨touch_mute (hm e he),λa=>qX (hm e he) a⟩
   ·obtain⟨e,he,rfl⟩:=zbe hop;exact low_mute (hm e he) B
end
section
variable {Wg:Nat}
def Side.J (x:Side Wg)(P:Φ)(ty:Ω)(Low:Nat)(μ:Nat×Nat×Nat×Nat)(a b:Δ)(w:Λ)(s:Θ):Prop:=@JInv x.pl P ty Wg x.C Low x.sh x.vals x.Mine x.AnchW x.Post μ (duo a b w none) s
def Side.acq (x:Side Wg)(P:Φ)(ty:Ω)(Low:Nat)(a b:Δ)(w:Λ)(s:Θ):Prop:=@Acquired x.pl P ty Wg x.C Low x.sh x.vals x.Mine x.Post (duo a b w none) s
end
theorem TT [Payload] {P:Φ}{ty:Ω}{Wg C Low:Nat} [Shy Wg C] {vals:List ζ}{Mine:Loc→Prop}{AnchW:Δ→Λ→Prop}{Post:ζ→Λ→Prop}{μ:Nat×Nat×Nat×Nat}{m:Machine}{s:Θ}
 (h:JInv P ty Wg C Low vals Mine AnchW Post μ m s):∃p,JT Mine Wg C s p:=by
 cases h with
 |a _ _ _ _ _ p _ _ _ _ _ _ _ _ _ _ _ hB=>exact⟨p,hB.jt⟩
 |b _ _ _ _ _ p _ _ _ _ _ _ _ _ _ _ hB=>exact⟨p,hB.jt⟩
 |c _ _ _ _ _ p _ _ _ _ _ hB=>exact⟨p,hB.jt⟩
 |d _ _ _ _ _ p _ _ _ _ _ hB=>exact⟨p,hB.jt⟩
 |f _ _ _ _ _ p _ _ _ hB=>exact⟨p,hB.jt⟩
 |j _ _ _ _ _ p _ _ _ _ _ _ _ _ _ hB=>exact⟨p,hB.jt⟩
section
variable {P:Φ}{ty:Ω}{Wg Low:Nat}{x:Side Wg}{μ:Nat×Nat×Nat×Nat}{a b:Δ}{w:Λ}{s:Θ}
theorem Side.TU (h:x.J P ty Low μ a b w s):∃p,x.jt s p:=@TT x.pl P ty Wg x.C Low x.sh x.vals x.Mine x.AnchW x.Post μ _ s h
theorem Side.J3 (hx:fy P ty Wg Low x)(h:x.J P ty Low μ a b w s):awake a∧awake b∧(a.status=.running∨b.status=.running)∧∀d,x.J P ty Low μ a b (w.at d) s:=by
 obtain⟨a1,b1,w1,sl1,e,h1,h2,h3,h4⟩:=@Go.ConcX.JInv.shape x.pl P ty Wg x.C Low x.sh x.vals x.Mine x.AnchW x.Post hx.hAr μ _ s h;obtain⟨rfl,rfl,rfl,rfl⟩:=Go.ConcX.duo_inj e;exact⟨h1,h2,h3,λd=>h4 d none⟩
theorem Side.J4 (hx:fy P ty Wg Low x)(h:x.J P ty Low μ a b w s)(g g':Δ):∃oC,x.J P ty Low oC (Conc.woken P g g' w a) (Conc.woken P g g' w b) w s:=by
 obtain⟨a1,b1,w1,sl1,e,oC,h1⟩:=@Go.ConcX.JInv.woken x.pl P ty Wg x.C Low x.sh x.vals x.Mine x.AnchW x.Post hx.hAr μ _ s h g g';obtain⟨rfl,rfl,rfl,rfl⟩:=Go.ConcX.duo_inj e;exact⟨oC,h1⟩
theorem Side.CU (h:x.acq P ty Low a b w s)(d:Nat):x.acq P ty Low a b (w.at d) s:=@Go.ConcX.Acquired.at x.pl P ty Wg x.C Low x.sh x.vals x.Mine x.Post a b w none s h d none
theorem Side.J5 (hW:Wg<Low)(hx:fy P ty Wg Low x)(h:x.J P ty Low μ a b w s)(ha:a.status=.running):x.acq P ty Low a b w s∨∃a' w' es oC,ξ P true a w=.go a' w' es∧Lt4 oC μ∧x.J P ty Low oC a' (Conc.woken P a a' w' b) w' (s++Γ 0 a.frame.fn a.frame.place es):=by
 rcases @Go.ConcX.join_step x.pl P ty Wg x.C Low x.sh x.vals x.Mine x.AnchW x.Post hW hx.hC hx.hCW hx.hAr hx.hAn μ _ s h (runTX P (duo a b (w.at w.drawn) none) 0)
  (λa2 b2 w2 sl2 e2=>by obtain⟨rfl,rfl,rfl,rfl⟩:=Go.ConcX.duo_inj e2;exact⟨w.drawn,none,.inl ⟨ha,rfl⟩⟩)with xV|⟨m',ops,oC,hX,hlt,hJ'⟩
 ·exact .inl xV
 ·rw[duo_eq_crowd]at hX;obtain⟨g0,g',w',es,hg0,hgo,rfl,rfl⟩:=Go.ConcX.runTX_next hX;obtain rfl:a=g0:=by simpa using hg0
  have em:ι ((#[a,b].map (Conc.woken P a g' w')).setIfInBounds 0 g') w' none=duo g' (Conc.woken P a g' w' b) w' none:=by simp[ι,duo]
  rw[em]at hJ';exact .inr ⟨g',w',es,oC,hgo,hlt,hJ'⟩
theorem Side.J6 (hW:Wg<Low)(hx:fy P ty Wg Low x)(h:x.J P ty Low μ a b w s)(hb:b.status=.running):x.acq P ty Low a b w s∨∃b' w' es oC,ξ P false b w=.go b' w' es∧Lt4 oC μ∧x.J P ty Low oC (Conc.woken P b b' w' a) b' w' (s++Γ 1 b.frame.fn b.frame.place es):=by
 rcases @Go.ConcX.join_step x.pl P ty Wg x.C Low x.sh x.vals x.Mine x.AnchW x.Post hW hx.hC hx.hCW hx.hAr hx.hAn μ _ s h (runTX P (duo a b (w.at w.drawn) none) 1)
  (λa2 b2 w2 sl2 e2=>by obtain⟨rfl,rfl,rfl,rfl⟩:=Go.ConcX.duo_inj e2;exact⟨w.drawn,none,.inr ⟨hb,rfl⟩⟩)with xV|⟨m',ops,oC,hX,hlt,hJ'⟩
 ·exact .inl xV
 ·obtain⟨b',w',es,hgo,rfl,rfl⟩:=@xT x.pl P a b (w.at w.drawn) m' ops hX;exact .inr ⟨b',w',es,oC,hgo,hlt,hJ'⟩
end
section
variable {P:Φ}{ty:Ω}{Q Shun:Loc→Prop}{c ch Wg Low B:Nat}{ro aW X:Nat→Prop}{x y:Side Wg}
def aaA (P:Φ)(ty:Ω)(Q Shun:Loc→Prop)(c:Nat){Wg:Nat}(Low B:Nat)(ro aW:Nat→Prop)(x y:Side Wg)(m:Machine)(t:Θ):Prop:=
 ∃gs w sl q a b s,m=ι gs w sl∧eM P c t gs q∧gs[0]?=some a∧gs[c]?=some b∧TI Q Shun c aW ro B t∧GL c Wg s t∧(x.acq P ty Low a b w s∨y.acq P ty Low a b w s)
theorem Yf (hY:EH Q Shun c ch Wg Low ro X)(pK:fy P ty Wg Low x)(xU:fy P ty Wg Low y)(Br:x.C≠y.C)(hB:Low≤B)(hown:∀b,aW b→Low≤b):∀(M:Nat×(Nat×Nat×Nat×Nat)) (ν:Nat×Nat×Nat×Nat) (gs:Array Δ) (w:Λ) (sl:Option (Nat×Nat)) (t:Θ) (q:Nat→Nat) (a b:Δ) (iN js:Θ),sumTo c q=M.1→eM P c t gs q→gs[0]?=some a→gs[c]?=some b→TI Q Shun c aW ro B t→x.J P ty Low M.2 a b w iN→y.J P ty Low ν a b w js→GL c Wg iN t→GL c Wg js t→Reach P (ι gs w sl) t (aaA P ty Q Shun c Low B ro aW x y):=by
 intro M
 induction M using ltG_wf.induction with
 |_ M ih=>
 intro ν gs w sl t q a b iN js hM hC h0 hc hT hx hy hg1 hg2;obtain⟨awa,awb,hrun,acU⟩:=Side.J3 pK hx;obtain⟨_,_,_,acV⟩:=Side.J3 xU hy;have hQG:∀l,Q l→¬jS aW l∧¬jS ro l:=λl hl=>⟨λhi=>ue hown hi (hY.sr l (hY.QS l hl)),λhi=>hY.rS l hi (hY.QS l hl)⟩;obtain⟨d,sl',lA⟩:=EJ (w:=w) (sl:=sl) hC h0 hc awa awb hrun;have hx1:=acU d;have hy1:=acV d;rcases lA with⟨hr,hst⟩|⟨hr,hst⟩|⟨gs',ops,q',g,g',hst,hC',Au,hc',hlt,o1,o2,o3,o4⟩
 ·rcases Side.J5 hY.Nx pK hx1 hr with xV|⟨a',w',es,oC,hgo,hl,tJ⟩
  ·exact .here ⟨gs,w,sl,q,a,b,iN,rfl,hC,h0,hc,hT,hg1,.inl (Side.CU xV w.drawn)⟩
  rcases Side.J5 hY.Nx xU hy1 hr with xV|⟨a2,w2,es2,H6,OX,_,hy'⟩
  ·exact .here ⟨gs,w,sl,q,a,b,js,rfl,hC,h0,hc,hT,hg2,.inr (Side.CU xV w.drawn)⟩
  rw[hgo]at OX;obtain⟨rfl,rfl,rfl⟩:a'=a2∧w'=w2∧es=es2:=by simpa using OX
  obtain⟨p1,j1⟩:=Side.TU tJ;obtain⟨p2,j2⟩:=Side.TU hy';have iG:=ug pK xU Br j1 j2;have Bt:∀e∈es,∀x,(Ξ e).touch? =some x→∃ad,x.loc=.cell ad∧ad.block=Wg:=λe he x hx=>let⟨ad,h1,h2,_⟩:=(iG e he).1 x hx;⟨ad,h1,h2⟩;obtain⟨k1,k2⟩:=wI (Q:=Q) (g':=0) (fn:=a.frame.fn) (pos:=a.frame.place) hY.wQ (λ_=>rfl) iG;obtain⟨gs',e1,e2,e3,e4⟩:=sk (sl:=sl') hC h0 hc hgo;exact Reach.step (hst.trans e1) (ih (M.1,oC) (.right _ hl) H6 gs' w' sl' _ q a' _ _ _ hM e2 e3 e4 (hT.TG (.inl rfl) k1 (λop hop=>MemAct.low_mono hB (k2 op hop)) hY.QS hQG) tJ hy' (hg1.step hY.c0 (.inl rfl) (by simp) _ _ es (Side.norel j1) Bt) (hg2.step hY.c0 (.inl rfl) (by simp) _ _ es (Side.norel j2) Bt))
 ·rcases Side.J6 hY.Nx pK hx1 hr with xV|⟨a',w',es,oC,hgo,hl,tJ⟩
  ·exact .here ⟨gs,w,sl,q,a,b,iN,rfl,hC,h0,hc,hT,hg1,.inl (Side.CU xV w.drawn)⟩
  rcases Side.J6 hY.Nx xU hy1 hr with xV|⟨a2,w2,es2,H6,OX,_,hy'⟩
  ·exact .here ⟨gs,w,sl,q,a,b,js,rfl,hC,h0,hc,hT,hg2,.inr (Side.CU xV w.drawn)⟩
  rw[hgo]at OX;obtain⟨rfl,rfl,rfl⟩:a'=a2∧w'=w2∧es=es2:=by simpa using OX
  obtain⟨p1,j1⟩:=Side.TU tJ;obtain⟨p2,j2⟩:=Side.TU hy';have iG:=ug pK xU Br j1 j2;have Bt:∀e∈es,∀x,(Ξ e).touch? =some x→∃ad,x.loc=.cell ad∧ad.block=Wg:=λe he x hx=>let⟨ad,h1,h2,_⟩:=(iG e he).1 x hx;⟨ad,h1,h2⟩;obtain⟨k1,k2⟩:=wI (Q:=Q) (g':=c) (fn:=b.frame.fn) (pos:=b.frame.place) hY.wQ (by simp) iG;obtain⟨gs',e1,e2,e3,e4⟩:=kL (sl:=sl') hC h0 hc hgo;exact Reach.step (hst.trans e1) (ih (M.1,oC) (.right _ hl) H6 gs' w' sl' _ q _ a' _ _ hM e2 e3 e4 (hT.TG (.inr rfl) k1 (λop hop=>MemAct.low_mono hB (k2 op hop)) hY.QS hQG) tJ hy' (hg1.step hY.c0 (.inr rfl) (by simp) _ _ es (Side.norel j1) Bt) (hg2.step hY.c0 (.inr rfl) (by simp) _ _ es (Side.norel j2) Bt))
 ·obtain⟨oC,tJ⟩:=Side.J4 pK hx1 g g';obtain⟨H6,hy'⟩:=Side.J4 xU hy1 g g';exact Reach.step hst (ih (sumTo c q',oC) (.left _ _ (by omega)) H6 gs' (w.at d) sl' _ q' _ _ iN js rfl hC' Au hc' (hT.still (λop hop=>(o1 op hop).1) (o2 _)) tJ hy' (hg1.other (λop hop=>⟨(o1 op hop).2 _,λ_=>(o1 op hop).1⟩) o3 o4) (hg2.other (λop hop=>⟨(o1 op hop).2 _,λ_=>(o1 op hop).1⟩) o3 o4))
theorem EK {t:Θ}(WA:∀a:Addr,a.block=Wg→Shun (.cell a))(hT:TI Q Shun c aW ro B t)(hA:OV c Wg t)(hd:Deaf t 0=0):Past Shun B t:=by
 obtain⟨R,K,hR,hK,hg,hh,hRK⟩:=hA;have aaB:HappensBefore t R K:= .single (.inr ⟨.marked hRK (.inr hR.act) hK (λk h1 _=>hR.norel k h1),hR.heard,hh⟩);obtain⟨z,hz,hzg⟩:=zas.1 hg;have before:∀i,t.g? i=some c→i≤R→HappensBefore t i K:=λi hi hle=>by
  rcases zaw i R with hlt|jB
  ·exact .trans (.single (.inl ⟨hlt,c,hi,hR.g⟩)) aaB
  ·obtain rfl:i=R:=by omega
   exact aaB
 refine⟨hT.clean,λi a ha hm=>?_,λi g EG h0 uS=>?_,hd,hT.seen⟩
 ·rcases hT.known i a ha hm with h|h|⟨h,_⟩
  ·exact .inl h
  ·exact .inr h
  ·rcases zaw R i with hlt|hle
   ·obtain⟨ad,h1,h2⟩:=hR.late i a hlt h ha;refine .inr ⟨by rw[h1];exact WA ad h2,?_⟩;by_cases hk:a.kind=.atomic
    ·exact hk
    ·exact absurd ⟨a,ha,hm,.inl hk⟩ (hR.after i hlt h)
   ·exact .inl ⟨K,z,hz,hzg,.inr (before i h hle)⟩
 ·by_cases hgc:g=c
  ·subst hgc;exact⟨K,hg,before i EG (Nat.le_of_not_lt λhlt=>hR.after i hlt EG uS)⟩
  ·exact hT.over i g EG h0 hgc uS
theorem OY (pK:fy P ty Wg Low x)(hB:Low≤B)(hCS:∀a:Addr,a.block=x.C→¬Shun (.cell a)){e:η}(h:@Go.ConcX.EvJ x.Mine Wg x.C x.sh e):EvL Shun B e:=by
 obtain⟨h1,h2,h3⟩:=h;obtain⟨_,ht,_,hk⟩:=h1 0 "";obtain⟨k1,k2⟩:=pK.ok _ hk;refine⟨λz hz hs=>?_,h2,h3,MemAct.low_mono hB k2⟩;obtain⟨a,ha,hb|hb⟩:=k1 z hz
 ·exact(ht z hz).2.1 (.inl ⟨a,ha,hb⟩)
 ·rw[ha]at hs;exact absurd hs (hCS a hb)
def acW (P:Φ)(Shun:Loc→Prop)(c:Nat){Wg:Nat}(B:Nat)(x y:Side Wg)(m:Machine)(t:Θ):Prop:=
 ∃gs w sl q a,m=ι gs w sl∧gs.size=c+1∧gs[0]?=some a∧a.status=.running∧(x.sh.stop a w∨y.sh.stop a w)∧Leavers P t gs q∧Past Shun B t
theorem EL {x:Side Wg}(pK:fy P ty Wg Low x)(hB:Low≤B)(WA:∀a:Addr,a.block=Wg→Shun (.cell a))(hCS:∀a:Addr,a.block=x.C→¬Shun (.cell a)){gs:Array Δ}{w:Λ}{sl:Option (Nat×Nat)}{q:Nat→Nat}{a b:Δ}{s t:Θ}
 (hC:eM P c t gs q)(h0:gs[0]?=some a)(hc:gs[c]?=some b)(hT:TI Q Shun c aW ro B t)(hg:GL c Wg s t)(hA:x.acq P ty Low a b w s):
 Reach P (ι gs w sl) t λm t=>∃gs w sl q a,m=ι gs w sl∧gs.size=c+1∧gs[0]?=some a∧a.status=.running∧x.sh.stop a w∧Leavers P t gs q∧Past Shun B t:=by
 letI:=x.pl
 letI:=x.sh
 obtain⟨a1,b1,w1,sl1,p,d1,k,mp,r,vs,e,WE,hG,hAc,hq⟩:=hA;obtain⟨rfl,rfl,rfl,rfl⟩:=Go.ConcX.duo_inj e;have hP:=EK WA hT (hg.acq hAc) (hg.d0.trans WE.deaf0);have hL:Leavers P t gs (upd q c k):=by
  refine⟨λi g hi EG=>?_,λj hj=>hC.above j (by have:=hC.size;omega)⟩;rcases hC.get EG with rfl|rfl|⟨h1,h2⟩
  ·omega
  ·rw[hc]at EG;obtain rfl:=zaM EG;rw[upd_same,hg.dc,WE.deaf1];exact hq
  ·rw[upd_ne q k (by omega)];exact hC.old i g h1 h2 EG
 obtain⟨N,gs',a',w',sl',T',q',hr,hs',Au,hS,hL',acX⟩:=walk_beside (P:=P) (λ_ _ es hD e he=>OY pK hB hCS (hD.2 e he)) _ mp gs a w sl t _ (zac _) h0 hL hP hG;exact⟨N,_,_,hr,gs',w',sl',q',a',rfl,hs'.trans hC.size,Au,hS.1,hS.2,hL',acX⟩
theorem Yg (pK:fy P ty Wg Low x)(xU:fy P ty Wg Low y)(hB:Low≤B)(WA:∀a:Addr,a.block=Wg→Shun (.cell a))(hxS:∀a:Addr,a.block=x.C→¬Shun (.cell a))(hyS:∀a:Addr,a.block=y.C→¬Shun (.cell a)){m:Machine}{t:Θ}(h:aaA P ty Q Shun c Low B ro aW x y m t):Reach P m t (acW P Shun c B x y):=by
 obtain⟨gs,w,sl,q,a,b,s,rfl,hC,h0,hc,hT,hg,hA|hA⟩:=h
 ·exact(EL pK hB WA hxS hC h0 hc hT hg hA).mono λm t ⟨gs,w,sl,q,a,e,h1,h2,h3,h4,h5,h6⟩=>⟨gs,w,sl,q,a,e,h1,h2,h3,.inl h4,h5,h6⟩
 ·exact(EL xU hB WA hyS hC h0 hc hT hg hA).mono λm t ⟨gs,w,sl,q,a,e,h1,h2,h3,h4,h5,h6⟩=>⟨gs,w,sl,q,a,e,h1,h2,h3,.inr h4,h5,h6⟩
end
end Go.Ren
set_option linter.unusedSectionVars false
namespace Go.Ren
open Go Go.Conc
open Go.ConcX (Payload Shy stA smA Base CA JInv RCa RCd DCs AtR0 RPa DPi AtKd PA KK WgAt ChanAt Full Aside2 runTX JT AtW1)
def okR (Wg C Low:Nat)(act:MemAct):Prop:=(∀t,act.touch? =some t→∃a,t.loc=.cell a∧(a.block=Wg∨a.block=C))∧act.low Low
@[reducible] def ml (Wg C Low:Nat) (St:Δ→Λ→Prop) (hW:Wg<Low) (hC:C<Low):Shy Wg C where
  ok:=okR Wg C Low
  atomicWg a wr h:=⟨λx hx=>by simp only[MemAct.touch?,zaE]at hx;subst hx;exact⟨a,rfl,.inl h⟩,by show a.block<Low;omega⟩
  readWg a h:=⟨λx hx=>by simp only[MemAct.touch?,zaE]at hx;subst hx;exact⟨a,rfl,.inl h⟩,by show a.block<Low;omega⟩
  writeWg a h:=⟨λx hx=>by simp only[MemAct.touch?,zaE]at hx;subst hx;exact⟨a,rfl,.inl h⟩,by show a.block<Low;omega⟩
  theirs a wr h:=⟨λx hx=>by simp only[MemAct.touch?,zaE]at hx;subst hx;exact⟨a,rfl,.inr h⟩,by show a.block<Low;omega⟩
  disable:=⟨λx hx=>(by cases hx),trivial⟩
  enable:=⟨λx hx=>(by cases hx),trivial⟩
  relMerge:=⟨λx hx=>(by cases hx),hW⟩
  acquire:=⟨λx hx=>(by cases hx),hW⟩
  go1:=⟨λx hx=>(by cases hx),trivial⟩
  start:=⟨λx hx=>(by cases hx),trivial⟩
  stop:=St
structure uh (Wg Low:Nat) where
 pl:Payload
 C:Nat
 vals:List ζ
 hC:C<Low
 hCW:C≠Wg
 hW:Wg<Low
def kQ:Loc→Prop:=λ_=>False
def uh.side {Wg Low:Nat}(k:uh Wg Low)(St:Δ→Λ→Prop)(A:Δ→Λ→Prop):Side Wg:=⟨k.pl,k.C,ml Wg k.C Low St k.hW k.hC,k.vals,kQ,A,λ_ _=>True⟩
def nV:Δ→Λ→Prop:=λ_ _=>False
section
variable {P:Φ}{ty:Ω}{Wg Low:Nat}(k:uh Wg Low)
theorem xW {St A St' A':Δ→Λ→Prop}{μ:Nat×Nat}{b:Δ}{w:Λ}{s:Θ}(h:(k.side St A).half P ty Low μ b w s):(k.side St' A').half P ty Low μ b w s:=by
 change @Half k.pl P ty Wg k.C Low (ml Wg k.C Low St' k.hW k.hC) k.vals kQ μ b w s;replace h:@Half k.pl P ty Wg k.C Low (ml Wg k.C Low St k.hW k.hC) k.vals kQ μ b w s:=h;rcases h with⟨p,d1,rc,mc,rel,cl,sent,vs,e,hs,⟨b1,b2,⟨j1,j2,j3,j4,j5,j6,j7⟩,b4,b5,b6,b7⟩,hc⟩|⟨p,d1,q,e,⟨b1,b2,⟨j1,j2,j3,j4,j5,j6,j7⟩,b4,b5,b6,b7⟩,hq⟩
 ·letI:=k.pl
  letI:=ml Wg k.C Low St' k.hW k.hC
  refine .inl ⟨p,d1,rc,mc,rel,cl,sent,vs,e,hs,⟨b1,b2,⟨j1,j2,j3,j4,j5,j6,j7⟩,b4,b5,b6,b7⟩,?_⟩;cases hc with
  |r0 h=>exact .r0 h
  |k1 h=>exact .k1 h
  |d1 h=>exact .d1 h
 ·letI:=k.pl
  letI:=ml Wg k.C Low St' k.hW k.hC
  exact .inr ⟨p,d1,q,e,⟨b1,b2,⟨j1,j2,j3,j4,j5,j6,j7⟩,b4,b5,b6,b7⟩,hq⟩
theorem J7 {St:Δ→Λ→Prop}:fy P ty Wg Low (k.side St nV):=⟨k.hC,k.hCW,λ_ _ h=>h.elim,λ_ _ h=>h.elim,λ_ h=>h⟩
def uh.fin (k:uh Wg Low)(P:Φ)(ty:Ω)(b:Δ)(w:Λ):Prop:=
 letI:=k.pl;letI:=ml Wg k.C Low nV k.hW k.hC;∃n,Goes P false (RCa ty Wg Low) (DCs kQ Wg k.C) (AtR0 P ty Wg k.C Low k.vals) n b w
def uh.wait (k:uh Wg Low)(P:Φ)(ty:Ω)(St A:Δ→Λ→Prop)(a:Δ)(w:Λ):Prop:=
 letI:=k.pl;letI:=ml Wg k.C Low St k.hW k.hC;fy P ty Wg Low (k.side St A)∧∃m,Goes P true (RPa ty Wg k.C k.vals) (DPi kQ Wg k.C Low) (AtKd P ty Wg k.C Low k.vals kQ A) m a w
end
section
variable {P:Φ}{ty:Ω}{Q Shun:Loc→Prop}{c ch Wg Low:Nat}{ro:Nat→Prop}{z:ζ}{x y:uh Wg Low}{After:(Nat→Prop)→Λ→Δ→Λ→Prop}
def uh.kpa {Wg Low:Nat}(k:uh Wg Low)(ty:Ω)(w:Λ):Prop:=letI:=k.pl;letI:=ml Wg k.C Low nV k.hW k.hC;Go.ConcX.KPa ty Wg k.C k.vals w
theorem EM {k:uh Wg Low}{St A:Δ→Λ→Prop}{μ:Nat×Nat}{b:Δ}{w:Λ}{s:Θ}(h:(k.side St A).half P ty Low μ b w s):k.kpa ty w:=by
 replace h:@Half k.pl P ty Wg k.C Low (ml Wg k.C Low St k.hW k.hC) k.vals kQ μ b w s:=h;rcases h with⟨p,d1,rc,mc,rel,cl,sent,vs,e,hs,⟨b1,b2,b3,b4,b5,b6,b7⟩,hc⟩|⟨p,d1,q,e,⟨b1,b2,b3,b4,b5,b6,b7⟩,hq⟩
 ·exact .inl b1
 ·exact .inr ⟨b1,b2⟩
def OZ (P:Φ)(ty:Ω){Wg Low:Nat}(x y:uh Wg Low)(After:(Nat→Prop)→Λ→Δ→Λ→Prop)(own:Nat→Prop)(a:Δ)(w:Λ):Prop:=
 x.kpa ty w→y.kpa ty w→∃St Ax Ay,x.wait P ty St Ax a w∧y.wait P ty St Ay a w∧∀a' w',St a' w'→w.heap.size≤w'.heap.size∧After own w a' w'
def LO (P:Φ)(ty:Ω){Wg Low:Nat}(x y:uh Wg Low)(_own:Nat→Prop)(b:Δ)(w:Λ):Prop:=WgAt ty Wg w KK 0→x.fin P ty b w∧y.fin P ty b w
def Joined (P:Φ)(Shun:Loc→Prop)(c ch Wg Low:Nat)(After:(Nat→Prop)→Λ→Δ→Λ→Prop)(w0:Λ)(m:Machine)(t:Θ):Prop:=
 ∃gs w' w sl q a own,m=ι gs w sl∧gs.size=c+1∧gs[0]?=some a∧a.status=.running∧After own w' a w∧w'.heap.size≤w.heap.size∧Leavers P t gs q∧Past Shun w.heap.size t∧
  (∀b,own b→Low≤b∧b<w'.heap.size)∧Low≤w'.heap.size∧(∀b,b<Low→b≠ch→b≠Wg→w'.heap[b]?=w0.heap[b]?)∧w'.tape=w0.tape∧w'.os=w0.os∧w'.output=w0.output
theorem LP (hY:EH Q Shun c ch Wg Low ro (λb=>b=ch∨b=Wg))(Br:x.C≠y.C)(hxS:∀a:Addr,a.block=x.C→¬Shun (.cell a))(hyS:∀a:Addr,a.block=y.C→¬Shun (.cell a))
 {vs:List ζ}{gs:Array Δ}{w0:Λ}{sl:Option (Nat×Nat)}{t:Θ}{q:Nat→Nat}{bG aW:Nat→Prop}{a b:Δ}(hC:eM P c t gs q)(h0:gs[0]?=some a)(hc:gs[c]?=some b)
 (hM:lR P ro ch z (OZ P ty x y After) vs bG a w0)(hG:jU P ro ch (LO P ty x y) vs aW b w0)(eW:lu Q Shun c ch Low ro bG aW (λb=>b=ch) false w0 w0 t)(hw:WgAt ty Wg w0 KK 0):
 Reach P (ι gs w0 sl) t (Joined P Shun c ch Wg Low After w0):=by
 refine(OT hY.toLay vs gs w0 sl t q bG aW a b hC h0 hc hM hG eW).bind ?_;rintro m t ⟨gs,w,sl,q,bG,aW,a,b,t₁,fn,pos,rfl,hC,h0,hc,hb,hM,hfc,eW,_,hd⟩;have GZ:WgAt ty Wg w KK 0:=hw.of_block (eW.keep Wg hY.Nx hY.wch);obtain⟨⟨n₁,hG1⟩,⟨n₂,hG2⟩⟩:=hfc GZ;have hx0:(x.side nV nV).half P ty Low (7,n₁) b w LK:=@Half.init x.pl P ty Wg x.C Low (ml Wg x.C Low nV x.hW x.hC) x.vals kQ b w n₁ GZ hG1;have hy0:(y.side nV nV).half P ty Low (7,n₂) b w LK:=@Half.init y.pl P ty Wg y.C Low (ml Wg y.C Low nV y.hW y.hC) y.vals kQ b w n₂ GZ hG2;refine(Yd (x:=x.side nV nV) (y:=y.side nV nV) hY (J7 x) (J7 y) Br (cQ.1 hM) (7,n₁) (7,n₂) aW b LK LK gs w sl t q hC h0 hc (cq.refl _ _ _) (eW.weaken λb hb=> .inl hb) hx0 hy0 (GL.init eW.d0 hd) (GL.init eW.d0 hd)).bind ?_;rintro m t ⟨gs,w,sl,q,bG,aW,a,b,iN,js,μ,ν,rfl,hC,h0,hc,hfm,eW,hx,hy,hg1,hg2⟩;obtain⟨St,Ax,Ay,⟨pK,m₁,Yh⟩,⟨xU,m₂,hk2⟩,fU⟩:=hfm (EM hx) (EM hy);obtain⟨oC,hJx⟩:=@Half.inv x.pl P ty Wg x.C Low (ml Wg x.C Low St x.hW x.hC) x.vals kQ Ax (λ_ _=>True) μ a b w iN none (xW x (St':=St) (A':=Ax) hx) m₁ Yh;obtain⟨H6,hJy⟩:=@Half.inv y.pl P ty Wg y.C Low (ml Wg y.C Low St y.hW y.hC) y.vals kQ Ay (λ_ _=>True) ν a b w js none (xW y (St':=St) (A':=Ay) hy) m₂ hk2;refine(Yf (x:=x.side St Ax) (y:=y.side St Ay) hY pK xU Br eW.big (λb hb=>(eW.HY b hb).1) (Go.ConcN.sumTo c q,oC) H6 gs w sl t q a b iN js rfl hC h0 hc eW.ti hJx hJy hg1 hg2).bind ?_;intro m t h3;refine(Yg pK xU eW.big (λa ha=>hY.QS _ (hY.wQ a ha)) hxS hyS h3).mono ?_;rintro m t ⟨gs,w',sl,q,a,rfl,h1,h2,h3,h4,h5,h6⟩;have h4':St a w':=h4.elim id id;obtain⟨k1,k2⟩:=fU a w' h4';exact⟨gs,w,w',sl,q,a,bG,rfl,h1,h2,h3,k2,k1,h5,h6.mono k1,eW.mlt,eW.big,λb e1 e2 e3=>eW.keep b e1 (λe=>e.elim e2 e3),eW.tape,eW.os,eW.output⟩
end
end Go.Ren
namespace Go.Ren
open Go Go.Conc
variable {P:Φ}{main:Bool}{b:φ}{a:Act}{k:List Item}{cs:List φ}{w:Λ}
def fW (ch:ζ)(ty rt:Ω)(bs:Array Bool):Deferred:={ target:= .builtin .close #[ty] rt bs,args:=#[ch] }
theorem sx {ops:Array Oper}{i:Nat}{rest:List Nat}{o:Oper}{x:Tmp}{ty:Ω}(ho:ops[i]?=some o)(hw:Region.wanted o (yielded ops a.tmps)=true)(hk:b.kind≠.early)
 (hop:o.op=.defer { callee:= .builtin .close,args:=#[.tmp x],argTypes:=#[ty] }):
 ξ P main (G (b.at a (.inRegion ops (i::rest)::k)) cs) w=.go (G (b.at (Act.put ⟨a.tmps,fW (a.eval (.tmp x)) ty o.type #[false]::a.defers⟩ o.dst undef) (.inRegion ops rest::k)) cs) w #[]:=by
 have hr:(υ a.eval o).run P w=.ok (.defer (fW (a.eval (.tmp x)) ty o.type #[false])) w:=by
  unfold υ;simp[hop,resolve,fW]
 have he:(υ a.eval o).events P w #[]=#[]:=by
  unfold υ;simp[hop,resolve]
 have fU:(b.at ⟨a.tmps,fW (a.eval (.tmp x)) ty o.type #[false]::a.defers⟩ (.inRegion ops (i::rest)::k)).finish undef=b.at (Act.put ⟨a.tmps,fW (a.eval (.tmp x)) ty o.type #[false]::a.defers⟩ o.dst undef) (.inRegion ops rest::k):=by rw[zcj,ho];rfl
 have O1:(b.kind==CallKind.early)=false:=by simpa using hk
 rw[stepG_oper ho hw,←fU];simp[stepG.apply,hr,he,G,φ.at,O1,GStep.after,seen_none]
theorem rb {todo:List Item}{ds:List Deferred}{c s r:Nat}{tm:Bool}{ty rt:Ω}{bs:Array Bool}(hd:a.defers=fW (.chan (some c)) ty rt bs::ds)(hc:w.heap[c]?=some (.chan 0 #[] false s r tm))(hq:(P.funcs[b.fn]?).any (·.norace)=false):ξ P main (G { b.at a todo with mode:= .returning } cs) w=.go (G { b.at ⟨a.tmps,ds⟩ todo with mode:= .returning } cs) (w.setChan c 0 #[] true s r tm) (gV c):=by
 have h1:(builtin .close #[ty] rt bs #[.chan (some c)]).run P w=.ok (.value (.tuple #[])) (w.setChan c 0 #[] true s r tm):=by
  unfold builtin;simp[go_sem,run_close_open _ _ hc,Λ.setChan]
 have h2:(builtin .close #[ty] rt bs #[.chan (some c)]).events P w #[]=gV c:=by
  unfold builtin;simp[go_sem,events_close_open _ _ hc,gV]
 have h3:seen P b.fn ((builtin .close #[ty] rt bs #[.chan (some c)]).events P w #[])=gV c:=by
  rw[h2];exact seen_eq hq (by intro e he f;simp[gV]at he;rcases he with rfl|rfl<;>simp)
 simp[G,ξ,unwind,callDeferred,φ.at,hd,fW,invoke,h1,GStep.after]at h3 ⊢;exact h3
end Go.Ren
namespace Go.Ren
open Go
section
variable {P:Φ}{ρ:Rn}
theorem sA:∀(n:Nat) (a:Addr) (acc:ByteArray),ae P ρ Eq (Extern.Bytes.loadBytes a n acc) (Extern.Bytes.loadBytes (ra ρ a) n acc)
 |0,a,acc=>ae.pure rfl
 |n+1,a,acc=>by
  unfold Extern.Bytes.loadBytes;refine ae.bind (xc a) ?_;rintro v _ rfl;cases v with
  |int k b=>
   cases k with
   |u8=>rw[rv];simp only;rw[jQ];exact sA n (a.add 1) _
   |_=>exact ae.stuck _
  |_=>exact ae.stuck _
theorem ui (v:ζ):ae P ρ Eq (Extern.Bytes.bytesOf v) (Extern.Bytes.bytesOf (rv ρ v)):=by
 cases v with
 |string s=>rw[rv];exact ae.pure rfl
 |slice a l c=>
  cases a with
  |none=>rw[rv];exact ae.pure rfl
  |some a=>rw[rv];exact sA l a _
 |_=>exact ae.stuck _
theorem O2 (v:ζ):ae P ρ Eq (Extern.Bytes.asByte v) (Extern.Bytes.asByte (rv ρ v)):=by
 cases v with
 |int k b=>
  rw[rv];cases k with
  |u8=>exact ae.pure rfl
  |_=>exact ae.stuck _
 |_=>exact ae.stuck _
theorem O3 (n:Int):VV ρ (goInt n) (goInt n):=by simp[VV,goInt,rv]
theorem uW (args:Array ζ):ae P ρ (VV ρ) (π args) (π (args.map (rv ρ))):=by
 obtain⟨l⟩:=args;rcases l with _|⟨b,_|⟨c,_|⟨d,l⟩⟩⟩
 ·exact ae.stuck "bytealg.IndexByte: two arguments expected"
 ·exact ae.stuck "bytealg.IndexByte: two arguments expected"
 ·have h:∀b c,π #[b,c]=(do
   let b ←Extern.Bytes.bytesOf b;let c ←Extern.Bytes.asByte c
   match(List.range b.size).find? λi=>b[i]! ==c with
   |some i=>pure (goInt i)
   |none=>pure (goInt (-1))):=λ_ _=>rfl
  have e:(Array.map (rv ρ) { toList:=[b,c] })=#[rv ρ b,rv ρ c]:=by simp
  rw[e,h,h];refine ae.bind (ui b) ?_;rintro x _ rfl;refine ae.bind (O2 c) ?_;rintro y _ rfl;split
  ·exact ae.pure (O3 _)
  ·exact ae.pure (O3 _)
 ·exact ae.stuck "bytealg.IndexByte: two arguments expected"
theorem O4 (args:Array ζ):ae P ρ (VV ρ) (Extern.AbiNoEscape.same args) (Extern.AbiNoEscape.same (args.map (rv ρ))):=by
 obtain⟨l⟩:=args;rcases l with _|⟨b,_|⟨c,l⟩⟩
 ·exact ae.stuck "abi.NoEscape, Escape: one argument expected"
 ·have h:∀b,Extern.AbiNoEscape.same #[b]=pure b:=λ_=>rfl;have e:(Array.map (rv ρ) { toList:=[b] })=#[rv ρ b]:=by simp
  rw[e,h,h];exact ae.pure rfl
 ·exact ae.stuck "abi.NoEscape, Escape: one argument expected"
theorem O5 (hx:∀g,g<P.globals.size→g<ρ.d∨ρ g=g):ae P ρ Eq Extern.BytealgIndex.maxLen Extern.BytealgIndex.maxLen:=by
 unfold Extern.BytealgIndex.maxLen globalAddr;refine ae.bind (R:=λ(a b:Addr)=>b=a∧(a.block<ρ.d∨ρ a.block=a.block)) (ae.bind cL ?_) ?_
 ·rintro p p' ⟨rfl,rfl⟩;split
  ·rename_i g hg;refine ae.pure ?_;have:=Array.findIdx?_eq_some_iff_getElem.1 hg;exact⟨rfl,hx g this.1⟩
  ·exact ae.stuck _
 ·rintro a b ⟨rfl,h⟩;refine ae.bind (R:=VV ρ) ?_ ?_
  ·rcases h with h|h
   ·exact .inl h
   ·have e:ra ρ b=b:=by unfold ra;rw[h]
    have:=xc (P:=P) (ρ:=ρ) b;rwa[e]at this
  ·rintro v _ rfl;exact mI v
theorem O6 (hx:∀g,g<P.globals.size→g<ρ.d∨ρ g=g)(args:Array ζ):ae P ρ (VV ρ) (Extern.BytealgIndex.index args) (Extern.BytealgIndex.index (args.map (rv ρ))):=by
 obtain⟨l⟩:=args;rcases l with _|⟨b,_|⟨c,_|⟨d,l⟩⟩⟩
 ·exact ae.stuck "bytealg.Index: two arguments expected"
 ·exact ae.stuck "bytealg.Index: two arguments expected"
 ·have h:∀b c,Extern.BytealgIndex.index #[b,c]=(do
   let a ←Extern.Bytes.bytesOf b;let b ←Extern.Bytes.bytesOf c
   if b.size<2||(b.size:Int)>(←Extern.BytealgIndex.maxLen)then
    unsupported (.noEntry "extern/internal/bytealg.Index.length")
   if a.size≥2^32-15 then
    unsupported (.noEntry "extern/internal/bytealg.Index: a haystack of 2^32 - 15 bytes or more")
   match(List.range (a.size+1-b.size)).find? λi=>a.extract i (i+b.size)==b with
   |some i=>pure (goInt i)
   |none=>pure (goInt (-1))):=λ_ _=>rfl
  have e:(Array.map (rv ρ) { toList:=[b,c] })=#[rv ρ b,rv ρ c]:=by simp
  rw[e,h,h];refine ae.bind (ui b) ?_;rintro x _ rfl;refine ae.bind (ui c) ?_;rintro y _ rfl;refine ae.bind (O5 hx) ?_;rintro m _ rfl;dsimp only;refine ae.aj (λ_=>?_) (λ_=>?_)
  ·exact trivial
  ·refine ae.aj (λ_=>?_) (λ_=>?_)
   ·exact trivial
   ·split
    ·exact ae.pure (by simp[VV,goInt,rv])
    ·exact ae.pure (by simp[VV,goInt,rv])
 ·exact ae.stuck "bytealg.Index: two arguments expected"
end
end Go.Ren
