import Derived.Conc.FxFrame
import Derived.Test.YtlhimdjkkiflhaaGreatDoorProg
import Derived.Conc.FxGenDone
import Derived.Conc.FxGenWait
import Derived.Conc.FxGenLone
import Derived.KernelRfl
import Derived.Conc.DeferLaws
import GoSem.Extern.Table
import Derived.Conc.BesideWords
import Derived.Deep.DeepAppendWide
import Derived.OneCell
import Derived.Test.YtlhimdjkkiflhaaGreatDoorAdded03
set_option maxHeartbeats 8000000
set_option maxRecDepth 100000
set_option linter.unusedSectionVars false
open Go.Value renaming int→Γ
open Go.IntKind renaming i64→Δ
open Go renaming undef→Θ,Goroutine→Λ,World→Ξ,Value→Φ,Program→ζ,TypeId→η,execOp→θ,Trace→ι,Frame→π,stepG→ψ,FuncId→ϊ,TypeInfo→ϋ,typeInfo→ό,zeroValue→ϐ,Event→ϕ,yielded→ϗ,Operand→Ϙ,Calls→Ϛ
open Go.MemOp renaming ofEvents→Ω
open Go.MemAct renaming ofEvent→ξ
open Go.Extern.BytealgIndexByte renaming indexByte→υ
open Go.Instr renaming loadAt→φ,sureAddr→χ
open Go.Conc renaming crowd→ω,Leavers→ώ
open Go.Extern.AbiNoEscape renaming same→ύ
open Go.Act renaming eval→ϑ,put→ϛ
open Int renaming gcd→ϖ
open Go.Region renaming wanted→ϙ
open List renaming length→Ϝ
namespace Go.Ren
open Go Go.Conc
open Go.ConcX (Payload Shy stA smA Base CA JInv RCa RCd DCs AtR0 RPa DPi AtKd PA KK WgAt ChanAt Full Aside2 runTX JT AtW1)
structure Side (Wg:Nat) where
 pl:Payload
 C:Nat
 sh:Shy Wg C
 vals:List Φ
 Mine:Loc→Prop
 AnchW:Λ→Ξ→Prop
 Post:Φ→Ξ→Prop
section
variable {Wg:Nat}
def Side.half (x:Side Wg)(P:ζ)(ty:η)(Low:Nat)(μ:Nat×Nat)(b:Λ)(w:Ξ)(s:ι):Prop:=@Half x.pl P ty Wg x.C Low x.sh x.vals x.Mine μ b w s
def Side.jt (x:Side Wg)(s:ι)(p:Nat):Prop:=@JT x.Mine Wg x.C x.sh s p
theorem Side.kX {x:Side Wg}{P:ζ}{ty:η}{Low:Nat}(hW:Wg<Low)(hC:x.C<Low){μ:Nat×Nat}{b:Λ}{w w':Ξ}{s:ι}(h:x.half P ty Low μ b w s)(hr:∀b,b<Low→w'.heap[b]?=w.heap[b]?):x.half P ty Low μ b w' s:=
 @Half.rely x.pl P ty Wg x.C Low x.sh x.vals x.Mine hW hC μ b w w' s h hr
theorem Side.r7 {x:Side Wg}{P:ζ}{ty:η}{Low:Nat}{μ:Nat×Nat}{b:Λ}{w w':Ξ}{s:ι}(h:x.half P ty Low μ b w s)(u u':Λ):Conc.woken P u u' w' b=b:=
 @Half.woken x.pl P ty Wg x.C Low x.sh x.vals x.Mine μ b w w' s h u u'
theorem Side.norel {x:Side Wg}{s:ι}{p:Nat}(h:x.jt s p):NoRelease (stA Wg) s:=@JT.norel x.Mine Wg x.C x.sh s p h
theorem Side.oks {x:Side Wg}{s:ι}{p:Nat}(h:x.jt s p):∀op∈s,x.sh.ok op.act:=@JT.oks x.Mine Wg x.C x.sh s p h
theorem Side.quiet {x:Side Wg}{s:ι}{p:Nat}(h:x.jt s p):Quiet (Go.ConcX.ShJ Wg x.C) s:=@JT.quiet x.Mine Wg x.C x.sh s p h
structure fA (P:ζ) (ty:η) (Wg Low:Nat) (x:Side Wg):Prop where
 hC:x.C<Low
 hCW:x.C≠Wg
 hAr:∀g w,x.AnchW g w→g.status=.running
 hAn:letI:=x.pl;letI:=x.sh;∀g w,x.AnchW g w→∃m,Goes P true (RPa ty Wg x.C x.vals) (DPi x.Mine Wg x.C Low) (AtW1 P ty Wg x.C Low x.vals x.Mine x.AnchW x.Post) m g w
 ok:∀act,x.sh.ok act→(∀t,act.touch? =some t→∃a,t.loc=.cell a∧(a.block=Wg∨a.block=x.C))∧act.low Low
end
section
variable {P:ζ}{ty:η}{Wg Low:Nat}{x y:Side Wg}{s s':ι}{g:Nat}{fn:ϊ}{pos:String}{es:Array ϕ}{p p':Nat}
theorem L4 (hx:fA P ty Wg Low x)(h:x.jt (s++Ω g fn pos es) p):∀e∈es,(∀t,(ξ e).touch? =some t→∃a,t.loc=.cell a∧((a.block=Wg∧t.kind≠.plain∧(t.kind=.said→g=0))∨a.block=x.C))∧(ξ e).low Low:=by
 intro e he;obtain⟨j,hj⟩:=Array.getElem?_of_mem he;have hop:(s++Ω g fn pos es)[s.size+j]?=some { g:=g,fn:=fn,pos:=pos,act:= .ofEvent e }:=by rw[QE,hj];rfl
 obtain⟨k1,k2⟩:=hx.ok _ (Side.oks h _ (zbI hop));refine⟨λt ht=>?_,k2⟩;obtain⟨a,ha,hb⟩:=k1 t ht;refine⟨a,ha,hb.imp (λhb=>?_) id⟩;obtain⟨q1,q2⟩:=Side.quiet h _ _ t hop ht (.inl ⟨a,ha,hb⟩);exact⟨hb,q1,q2⟩
theorem vG (hx:fA P ty Wg Low x)(hy:fA P ty Wg Low y)(Cs:x.C≠y.C)(h:x.jt (s++Ω g fn pos es) p)(h':y.jt (s'++Ω g fn pos es) p'):∀e∈es,(∀t,(ξ e).touch? =some t→∃a,t.loc=.cell a∧a.block=Wg∧t.kind≠.plain∧(t.kind=.said→g=0))∧(ξ e).low Low:=by
 intro e he;obtain⟨k1,k2⟩:=L4 hx h e he;refine⟨λt ht=>?_,k2⟩;obtain⟨a,ha,hb⟩:=k1 t ht;obtain⟨a',ha',hb'⟩:=(L4 hy h' e he).1 t ht;rw[ha]at ha';obtain rfl:a=a':=by simpa using ha'
 rcases hb with hb|hb
 ·exact⟨a,ha,hb⟩
 ·rcases hb' with hb'|hb'
  ·exact⟨a,ha,hb'⟩
  ·exact absurd (hb.symm.trans hb') Cs
theorem D9 {w w':Ξ}(Cs:x.C≠y.C)(h:Aside2 x.C Wg w w')(h':Aside2 y.C Wg w w'):Aside Wg w w':=
 ⟨h.tape,h.os,h.output,h.size,λk hk=>by
   by_cases e:k=x.C
   ·exact h'.block k (by rw[e];exact Cs) hk
   ·exact h.block k e hk⟩
end
section
variable {P:ζ}{ty:η}{Q Shun:Loc→Prop}{c ch Wg Low:Nat}{ro bk aK X:Nat→Prop}{w0 w w':Ξ}{t u:ι}{x y:Side Wg}
theorem lY.weaken {X':Nat→Prop}{cl:Bool}(h:lY Q Shun c ch Low ro bk aK X cl w0 w t)(hX:∀b,X b→X' b):lY Q Shun c ch Low ro bk aK X' cl w0 w t:=
 ⟨h.ti,h.d0,h.dc,h.mlt,h.J2,h.apart,h.big,h.chan,h.tape,h.os,h.output,λb h1 h2=>h.keep b h1 λe=>h2 (hX b e),hX _ h.VT⟩
structure Gc (Q Shun:Loc→Prop) (c ch Wg Low:Nat) (ro X:Nat→Prop):Prop extends Lay Q Shun c ch Low ro where
 PD:Wg<Low
 wch:Wg≠ch
 wQ:∀a:Addr,a.block=Wg→Q (.cell a)
 wX:X Wg
theorem Gc.wro (hY:Gc Q Shun c ch Wg Low ro X):¬ro Wg:=λh=>hY.rS (.cell ⟨Wg,0,none⟩) h (hY.QS _ (hY.wQ _ rfl))
theorem lY.np (hY:Gc Q Shun c ch Wg Low ro X)(h:lY Q Shun c ch Low ro bk aK X true w0 w t)(hA:Aside Wg w w'){g:Nat}(hg:g=0∨g=c)(hu:∀op∈u,op.g=g∧∀x,op.act.touch? =some x→Q x.loc∧x.kind≠.plain∧(x.kind=.said→g=0))(hl:∀op∈u,op.act.low w.heap.size)(hd:Deaf (t++u) 0=0):lY Q Shun c ch Low ro bk aK X true w0 w' (t++u)∧bI ro bk w w':=by
 have hs:=hA.size;refine⟨⟨?_,hd,(λe=>by cases e),λb hb=>by have:=h.mlt b hb;omega,λb hb=>by have:=h.J2 b hb;omega,h.apart,by have:=h.big;omega,?_,hA.tape.trans h.tape,hA.os.trans h.os,hA.output.trans h.output,λb h1 h2=>?_,h.VT⟩,hA.tape,hA.os,hA.output,by omega,λb hb=>hA.block b ?_⟩
 ·rw[hs];exact h.ti.VM hg hu hl hY.QS λl hl=>⟨λhi=>vE (λb hb'=>(h.J2 b hb').1) hi (hY.tF l (hY.QS l hl)),λhi=>hY.rS l hi (hY.QS l hl)⟩
 ·obtain⟨s,r,tm,e⟩:=h.chan;exact⟨s,r,tm,by rw[hA.block ch (Ne.symm hY.wch)];exact e⟩
 ·rw[hA.block b λe=>h2 (by rw[e];exact hY.wX)];exact h.keep b h1 h2
 ·rintro rfl;rcases hb with hb|hb
  ·have:=h.mlt _ hb;have:=hY.PD;omega
  ·exact hY.wro hb
theorem xP {g g':Nat}{fn:ϊ}{pos:String}{es:Array ϕ}(hQ:∀a:Addr,a.block=Wg→Q (.cell a))(UY:g=0→g'=0)(h:∀e∈es,(∀t,(ξ e).touch? =some t→∃a,t.loc=.cell a∧a.block=Wg∧t.kind≠.plain∧(t.kind=.said→g=0))∧(ξ e).low Low):(∀op∈Ω g' fn pos es,op.g=g'∧∀x,op.act.touch? =some x→Q x.loc∧x.kind≠.plain∧(x.kind=.said→g'=0))∧∀op∈Ω g' fn pos es,op.act.low Low:=by
 refine⟨λop hop=>⟨ofEvents_g op hop,λx hx=>?_⟩,λop hop=>?_⟩
 ·obtain⟨e,he,rfl⟩:=zbe hop;obtain⟨a,ha,hb,h1,h2⟩:=(h e he).1 x hx;exact⟨by rw[ha];exact hQ a hb,h1,λhs=>UY (h2 hs)⟩
 ·obtain⟨e,he,rfl⟩:=zbe hop;exact(h e he).2
def adH (P:ζ)(ty:η)(Q Shun:Loc→Prop)(c ch:Nat){Wg:Nat}(Low:Nat)(ro X:Nat→Prop)(x y:Side Wg)(Fin:(Nat→Prop)→Λ→Ξ→Prop)(w0:Ξ)(m:Machine)(t:ι):Prop:=
 ∃gs w sl q bk aK a b iL jA μ ν,m=ω gs w sl∧ez P c t gs q∧gs[0]?=some a∧gs[c]?=some b∧Fin bk a w∧lY Q Shun c ch Low ro bk aK X true w0 w t∧x.half P ty Low μ b w iL∧y.half P ty Low ν b w jA∧GL c Wg iL t∧GL c Wg jA t
variable {z:Φ}{Fin:(Nat→Prop)→Λ→Ξ→Prop}
theorem QI:WellFounded Lt2:=(Prod.lex Nat.lt_wfRel Nat.lt_wfRel).wf
theorem Nx {ro own:Nat→Prop}{g:Nat}{fn:ϊ}{pos:String}{es:Array ϕ}{a:Addr}(h:∀e∈es,DK ro own e):∀op∈Ω g fn pos es,op.act≠.mark (.release a):=by
 intro op hop e';obtain⟨e,he,rfl⟩:=zbe hop;have hl:=xv a e';have:=h e he;unfold DK at this;rw[hl]at this;exact this.1
theorem Gd (vH:fA P ty Wg Low x)(zn:fA P ty Wg Low y)(Cs:x.C≠y.C){μ ν:Nat×Nat}{b:Λ}{iL jA:ι}(hx:x.half P ty Low μ b w iL)(hy:y.half P ty Low ν b w jA)(hb:b.status=.running):∃b' w' es pX J5,ψ P false b w=.go b' w' es∧Aside Wg w w'∧Lt2 pX μ∧x.half P ty Low pX b' w' (iL++Ω 1 b.frame.fn b.frame.place es)∧y.half P ty Low J5 b' w' (jA++Ω 1 b.frame.fn b.frame.place es):=by
 obtain⟨b',w',es,pX,h1,h2,h3,h4⟩:=@Half.move x.pl P ty Wg x.C Low x.sh x.vals x.Mine vH.hCW μ b w iL hx hb;obtain⟨b'',w'',es',J5,k1,k2,k3,k4⟩:=@Half.move y.pl P ty Wg y.C Low y.sh y.vals y.Mine zn.hCW ν b w jA hy hb;rw[h1]at k1;obtain⟨rfl,rfl,rfl⟩:b'=b''∧w'=w''∧es=es':=by simpa using k1
 exact⟨b',w',es,pX,J5,h1,D9 Cs h2 k2,h3,h4,k4⟩
theorem Zs (hY:Gc Q Shun c ch Wg Low ro X)(vH:fA P ty Wg Low x)(zn:fA P ty Wg Low y)(Cs:x.C≠y.C){a:Λ}{wM:Ξ}
 (hM:af P true ro (iK P ch z (Cm P ro ch z Fin [])) bk a wM):∀(μ ν:Nat×Nat) (aK:Nat→Prop) (b:Λ) (iL jA:ι) gs w sl t q,ez P c t gs q→gs[0]?=some a→gs[c]?=some b→bI ro bk wM w→
   lY Q Shun c ch Low ro bk aK X true w0 w t→x.half P ty Low μ b w iL→y.half P ty Low ν b w jA→GL c Wg iL t→GL c Wg jA t→
   Reach P (ω gs w sl) t (adH P ty Q Shun c ch Low ro X x y Fin w0):=by
 induction hM with
 | @stop bk a wM hS=>
   intro μ
   induction μ using QI.induction with
   |_ μ Zt=>
   intro ν aK b iL jA gs w sl t q hC h0 hc hr eM hx hy hg1 hg2;have ha:a.status=.running:=(hS wM (bI.refl _ _ _)).1;have PE:=@Half.status x.pl P ty Wg x.C Low x.sh x.vals x.Mine μ b w iL hx;refine ir (J:=λw t=>bI ro bk wM w∧lY Q Shun c ch Low ro bk aK X true w0 w t∧x.half P ty Low μ b w iL∧y.half P ty Low ν b w jA∧GL c Wg iL t∧GL c Wg jA t) (fM ha) (awake_of (PE.elim .inl λh=> .inr (.inr h))) (.inl ha)
    (λw t d ops hj h1 h2 h3 h4=>⟨hj.1.trans (fy _ _ _ d),hj.2.1.still d (λop hop=>(h1 op hop).1) (h2 _) h3 h4,Side.kX hY.PD vH.hC hj.2.2.1 (λ_ _=>rfl),Side.kX hY.PD zn.hC hj.2.2.2.1 (λ_ _=>rfl),hj.2.2.2.2.1.other (λop hop=>⟨(h1 op hop).2 _,λ_=>(h1 op hop).1⟩) h3 h4,hj.2.2.2.2.2.other (λop hop=>⟨(h1 op hop).2 _,λ_=>(h1 op hop).1⟩) h3 h4⟩)
    (λw t hj=>⟨.run ha,λu u' d=>Side.r7 hj.2.2.1 u u'⟩)
    (λ_ gs w sl t q hC h0 hc hj=>?_) (λhb gs w sl t q hC h0 hc hj=>?_) gs w sl t q hC h0 hc ⟨hr,eM,hx,hy,hg1,hg2⟩
   ·obtain⟨hr,eM,hx,hy,hg1,hg2⟩:=hj;obtain⟨s,r,tm,hch⟩:=eM.chan;obtain⟨_,hst,oX⟩:=hS w hr;obtain⟨gs',fn,pos,e1,e2,e3,e4⟩:=vA (sl:=sl) hC h0 hc (by rcases PE with h|h<;>simp[h]) hst hch
    have hm:∀op∈(#[{ g:=0,fn:=fn,pos:=pos,act:= .recvClosed ch }]:ι),∀m,op.act≠.mark m:=by intro op hop m;simp at hop;subst hop;simp
    have ht:∀op∈(#[{ g:=0,fn:=fn,pos:=pos,act:= .recvClosed ch }]:ι),op.act.touch? =none:=by intro op hop;simp at hop;subst hop;rfl
    have dP:∀op∈(#[{ g:=0,fn:=fn,pos:=pos,act:= .recvClosed ch }]:ι),op.act.low w.heap.size:=by
     intro op hop;simp at hop;subst hop;have:ch<w.heap.size:=by have:=hY.J1;have:=eM.big;omega
     exact this
    have adI:=eM.still w.drawn ht dP (dt t 0 _ hm) (dt t c _ hm);exact⟨_,_,e1,.here ⟨gs',w,sl,q,bk,aK,_,b,iL,jA,μ,ν,rfl,e2,e3,e4,oX,adI,hx,hy,hg1.other (λop hop=>⟨hm op hop _,λ_=>ht op hop⟩) (dt t 0 _ hm) (dt t c _ hm),hg2.other (λop hop=>⟨hm op hop _,λ_=>ht op hop⟩) (dt t 0 _ hm) (dt t c _ hm)⟩⟩
   ·obtain⟨hr,eM,hx,hy,hg1,hg2⟩:=hj;obtain⟨b',w',es,pX,J5,hst,hA,hlt,DM,hy'⟩:=Gd vH zn Cs hx hy hb;obtain⟨gs',e1,e2,e3,e4⟩:=lz (sl:=sl) hC h0 hc hst;rw[woken_run ha]at e3;obtain⟨p1,j1⟩:=@Half.jt x.pl P ty Wg x.C Low x.sh x.vals x.Mine _ _ _ _ DM;obtain⟨p2,j2⟩:=@Half.jt y.pl P ty Wg y.C Low y.sh y.vals y.Mine _ _ _ _ hy';have xw:∀e∈es,∀x,(ξ e).touch? =some x→∃ad,x.loc=.cell ad∧ad.block=Wg:=λe he x hx=>let⟨ad,h1,h2,_⟩:=(vG vH zn Cs j1 j2 e he).1 x hx;⟨ad,h1,h2⟩;obtain⟨o1,o2⟩:=xP (Q:=Q) (g':=c) (fn:=b.frame.fn) (pos:=b.frame.place) hY.wQ (by simp) (vG vH zn Cs j1 j2);obtain⟨k1,k2⟩:=eM.np hY hA (.inr rfl) o1 (λop hop=>MemAct.low_mono eM.big (o2 op hop)) (by rw[zaN t hY.c0 _ ofEvents_g];exact eM.d0);exact⟨_,_,e1,Zt pX hlt J5 aK b' _ _ gs' w' sl _ q e2 e3 e4 (hr.trans k2) k1 DM hy' (hg1.step hY.c0 (.inr rfl) (by simp) _ _ es (Side.norel j1) xw) (hg2.step hY.c0 (.inr rfl) (by simp) _ _ es (Side.norel j2) xw)⟩
 | @step bk a wM nx nw ne ha h1 h2 _ ih=>
   intro μ
   induction μ using QI.induction with
   |_ μ Zt=>
   intro ν aK b iL jA gs w sl t q hC h0 hc hr eM hx hy hg1 hg2;have PE:=@Half.status x.pl P ty Wg x.C Low x.sh x.vals x.Mine μ b w iL hx;refine ir (J:=λw t=>bI ro bk wM w∧lY Q Shun c ch Low ro bk aK X true w0 w t∧x.half P ty Low μ b w iL∧y.half P ty Low ν b w jA∧GL c Wg iL t∧GL c Wg jA t) (fM ha) (awake_of (PE.elim .inl λh=> .inr (.inr h))) (.inl ha)
    (λw t d ops hj h1 h2 h3 h4=>⟨hj.1.trans (fy _ _ _ d),hj.2.1.still d (λop hop=>(h1 op hop).1) (h2 _) h3 h4,Side.kX hY.PD vH.hC hj.2.2.1 (λ_ _=>rfl),Side.kX hY.PD zn.hC hj.2.2.2.1 (λ_ _=>rfl),hj.2.2.2.2.1.other (λop hop=>⟨(h1 op hop).2 _,λ_=>(h1 op hop).1⟩) h3 h4,hj.2.2.2.2.2.other (λop hop=>⟨(h1 op hop).2 _,λ_=>(h1 op hop).1⟩) h3 h4⟩)
    (λw t hj=>⟨.run ha,λu u' d=>Side.r7 hj.2.2.1 u u'⟩)
    (λ_ gs w sl t q hC h0 hc hj=>?_) (λhb gs w sl t q hC h0 hc hj=>?_) gs w sl t q hC h0 hc ⟨hr,eM,hx,hy,hg1,hg2⟩
   ·obtain⟨hr,eM,hx,hy,hg1,hg2⟩:=hj;have UW:=h2 w hr;obtain⟨gs',e1,e2,e3,e4⟩:=tE (sl:=sl) hC h0 hc (h1 w hr);rw[Side.r7 hx]at e4;obtain⟨k1,k2⟩:=eM.QA (fn:=a.frame.fn) (pos:=a.frame.place) hY.toLay UW;have dP:∀b,b<Low→(nw w).heap[b]?=w.heap[b]?:=λb hlt=>UW.block b (by have:=eM.big;omega) λhm=>by have:=eM.mlt b hm;omega
    have QJ:Deaf (t++Ω 0 a.frame.fn a.frame.place (ne w)) 0=Deaf t 0:=zl UW.evs;have hdc:Deaf (t++Ω 0 a.frame.fn a.frame.place (ne w)) c=Deaf t c:=zaN t (Ne.symm hY.c0) _ ofEvents_g;have abA:∀op∈Ω 0 a.frame.fn a.frame.place (ne w),op.act≠.mark (.release (stA Wg))∧(op.g=c→op.act.touch? =none):=λop hop=>⟨Nx UW.evs op hop,λe=>absurd ((ofEvents_g op hop).symm.trans e) (Ne.symm hY.c0)⟩;exact⟨_,_,e1,ih w hr μ ν aK b iL jA gs' _ sl _ q e2 e3 e4 (bI.refl _ _ _) k1 (Side.kX hY.PD vH.hC hx dP) (Side.kX hY.PD zn.hC hy dP) (hg1.other abA QJ hdc) (hg2.other abA QJ hdc)⟩
   ·obtain⟨hr,eM,hx,hy,hg1,hg2⟩:=hj;obtain⟨b',w',es,pX,J5,hst,hA,hlt,DM,hy'⟩:=Gd vH zn Cs hx hy hb;obtain⟨gs',e1,e2,e3,e4⟩:=lz (sl:=sl) hC h0 hc hst;rw[woken_run ha]at e3;obtain⟨p1,j1⟩:=@Half.jt x.pl P ty Wg x.C Low x.sh x.vals x.Mine _ _ _ _ DM;obtain⟨p2,j2⟩:=@Half.jt y.pl P ty Wg y.C Low y.sh y.vals y.Mine _ _ _ _ hy';have xw:∀e∈es,∀x,(ξ e).touch? =some x→∃ad,x.loc=.cell ad∧ad.block=Wg:=λe he x hx=>let⟨ad,h1,h2,_⟩:=(vG vH zn Cs j1 j2 e he).1 x hx;⟨ad,h1,h2⟩;obtain⟨o1,o2⟩:=xP (Q:=Q) (g':=c) (fn:=b.frame.fn) (pos:=b.frame.place) hY.wQ (by simp) (vG vH zn Cs j1 j2);obtain⟨k1,k2⟩:=eM.np hY hA (.inr rfl) o1 (λop hop=>MemAct.low_mono eM.big (o2 op hop)) (by rw[zaN t hY.c0 _ ofEvents_g];exact eM.d0);exact⟨_,_,e1,Zt pX hlt J5 aK b' _ _ gs' w' sl _ q e2 e3 e4 (hr.trans k2) k1 DM hy' (hg1.step hY.c0 (.inr rfl) (by simp) _ _ es (Side.norel j1) xw) (hg2.step hY.c0 (.inr rfl) (by simp) _ _ es (Side.norel j2) xw)⟩
end
end Go.Ren
set_option linter.unusedSectionVars false
namespace Go.Ren
open Go Go.Conc
open Go.ConcX (Payload Shy stA smA Base CA JInv RCa RCd DCs AtR0 RPa DPi AtKd PA KK WgAt ChanAt Full Aside2 runTX JT AtW1 Acquired Lt4 LtG ltG_wf AtRetJ DPj)
open Go.ConcN (sumTo upd sumTo_upd upd_ne upd_same)
section
variable {P:ζ}{c:Nat}{t:ι}{gs:Array Λ}{q:Nat→Nat}{a b:Λ}{w:Ξ}{sl:Option (Nat×Nat)}
theorem Ge (hC:ez P c t gs q)(h0:gs[0]?=some a)(hc:gs[c]?=some b)(UR:awake a)(hwb:awake b)(hrun:a.status=.running∨b.status=.running):∃d sl',(a.status=.running∧stepT P (ω gs w sl)=runT P (ω gs (w.at d) sl') 0)∨
 (b.status=.running∧stepT P (ω gs w sl)=runT P (ω gs (w.at d) sl') c)∨
 (∃gs' ops q' x x',stepT P (ω gs w sl)=(.next (ω gs' (w.at d) sl'),ops)∧ez P c (t++ops) gs' q'∧gs'[0]?=some (Conc.woken P x x' (w.at d) a)∧gs'[c]?=some (Conc.woken P x x' (w.at d) b)∧sumTo c q'<sumTo c q∧(∀op∈ops,op.act.touch? =none∧∀a,op.act≠.mark (.release a))∧(∀B,∀op∈ops,op.act.low B)∧Deaf (t++ops) 0=Deaf t 0∧Deaf (t++ops) c=Deaf t c):=by
 have jy:=hC.pos;have Zd:∀g∈gs,awake g:=by
  intro g hg;obtain⟨i,hi,rfl⟩:=zci.1 hg;have hi':=zaH hi;rcases hC.get hi' with rfl|rfl|⟨h1,h2⟩
  ·rw[h0]at hi';obtain rfl:=zaF hi';exact UR
  ·rw[hc]at hi';obtain rfl:=zaF hi';exact hwb
  ·exact awake_of ((hC.old i _ h1 h2 hi').status.elim .inl λx=> .inr (.inr x))
 obtain⟨i,g,d,sl',hi,hg,hst⟩:=crowd_pick (P:=P) (w:=w) (sl:=sl) Zd (hrun.elim (λh=>⟨0,a,h0,h⟩) λh=>⟨c,b,hc,h⟩);refine⟨d,sl',?_⟩;rcases hC.get hi with rfl|rfl|⟨h1,h2⟩
 ·rw[h0]at hi;obtain rfl:=zaF hi;exact .inl ⟨hg,hst⟩
 ·rw[hc]at hi;obtain rfl:=zaF hi;exact .inr (.inl ⟨hg,hst⟩)
 ·right;right;have hq:=hC.old i g h1 h2 hi;have UT:(i==0)=false:=by simp;omega
  have hlt:i<gs.size:=(zaf.1 hi).1;cases JM:q i with
  |zero=>rw[JM]at hq;rw[hq.1]at hg;cases hg
  |succ k=>
   rw[JM]at hq;rcases hq with⟨hf,_⟩|⟨_,g',es,hm,JN,hq'⟩
   ·rw[hf]at hg;cases hg
   have tD:=runT_crowd_go (P:=P) (sl:=sl') (i:=i) hi (by rw[UT];exact JN (w.at d));have Ze:sumTo c (upd q i k)+(k+1)=sumTo c q+k:=by
    have:=sumTo_upd q k id h2;simpa[JM]using this
   refine⟨_,_,upd q i k,g,g',hst.trans tD,⟨by simp[hC.size],jy,λj x hj Zf hx=>?_,λj hj=>?_⟩,?_,?_,by omega,λop hop=>?_,λB op hop=>?_,zaN t (by omega) _ ofEvents_g,zaN t (by omega) _ ofEvents_g⟩
   ·by_cases xo:i=j
    ·subst xo;rw[zbv (by simpa using hlt)]at hx;obtain rfl:=zaF hx;rw[upd_same,Deaf_own];exact hq'
    ·rw[zaB xo,zaE]at hx;obtain⟨y,hy,rfl⟩:=zaz.1 hx;have Ql:=hC.old j y hj Zf hy;rw[woken_quitsD Ql,upd_ne q k (Ne.symm xo),zaN t xo _ ofEvents_g];exact Ql
   ·rw[zaN t (g':=i) (by omega) _ ofEvents_g];exact hC.above j hj
   ·rw[zaB (by omega),zaE,h0];rfl
   ·rw[zaB (by omega),zaE,hc];rfl
   ·obtain⟨e,he,rfl⟩:=zbe hop;exact⟨touch_mute (hm e he),λa=>rY (hm e he) a⟩
   ·obtain⟨e,he,rfl⟩:=zbe hop;exact low_mute (hm e he) B
end
section
variable {Wg:Nat}
def Side.J (x:Side Wg)(P:ζ)(ty:η)(Low:Nat)(μ:Nat×Nat×Nat×Nat)(a b:Λ)(w:Ξ)(s:ι):Prop:=@JInv x.pl P ty Wg x.C Low x.sh x.vals x.Mine x.AnchW x.Post μ (duo a b w none) s
def Side.acq (x:Side Wg)(P:ζ)(ty:η)(Low:Nat)(a b:Λ)(w:Ξ)(s:ι):Prop:=@Acquired x.pl P ty Wg x.C Low x.sh x.vals x.Mine x.Post (duo a b w none) s
end
theorem VX [Payload] {P:ζ}{ty:η}{Wg C Low:Nat} [Shy Wg C] {vals:List Φ}{Mine:Loc→Prop}{AnchW:Λ→Ξ→Prop}{Post:Φ→Ξ→Prop}{μ:Nat×Nat×Nat×Nat}{m:Machine}{s:ι}
 (h:JInv P ty Wg C Low vals Mine AnchW Post μ m s):∃p,JT Mine Wg C s p:=by
 cases h with
 |a _ _ _ _ _ p _ _ _ _ _ _ _ _ _ _ _ hB=>exact⟨p,hB.jt⟩
 |b _ _ _ _ _ p _ _ _ _ _ _ _ _ _ _ hB=>exact⟨p,hB.jt⟩
 |c _ _ _ _ _ p _ _ _ _ _ hB=>exact⟨p,hB.jt⟩
 |d _ _ _ _ _ p _ _ _ _ _ hB=>exact⟨p,hB.jt⟩
 |f _ _ _ _ _ p _ _ _ hB=>exact⟨p,hB.jt⟩
 |j _ _ _ _ _ p _ _ _ _ _ _ _ _ _ hB=>exact⟨p,hB.jt⟩
section
variable {P:ζ}{ty:η}{Wg Low:Nat}{x:Side Wg}{μ:Nat×Nat×Nat×Nat}{a b:Λ}{w:Ξ}{s:ι}
theorem Side.VY (h:x.J P ty Low μ a b w s):∃p,x.jt s p:=@VX x.pl P ty Wg x.C Low x.sh x.vals x.Mine x.AnchW x.Post μ _ s h
theorem Side.L5 (hx:fA P ty Wg Low x)(h:x.J P ty Low μ a b w s):awake a∧awake b∧(a.status=.running∨b.status=.running)∧∀d,x.J P ty Low μ a b (w.at d) s:=by
 obtain⟨a1,b1,w1,sl1,e,h1,h2,h3,h4⟩:=@Go.ConcX.JInv.shape x.pl P ty Wg x.C Low x.sh x.vals x.Mine x.AnchW x.Post hx.hAr μ _ s h;obtain⟨rfl,rfl,rfl,rfl⟩:=Go.ConcX.duo_inj e;exact⟨h1,h2,h3,λd=>h4 d none⟩
theorem Side.L6 (hx:fA P ty Wg Low x)(h:x.J P ty Low μ a b w s)(g g':Λ):∃pX,x.J P ty Low pX (Conc.woken P g g' w a) (Conc.woken P g g' w b) w s:=by
 obtain⟨a1,b1,w1,sl1,e,pX,h1⟩:=@Go.ConcX.JInv.woken x.pl P ty Wg x.C Low x.sh x.vals x.Mine x.AnchW x.Post hx.hAr μ _ s h g g';obtain⟨rfl,rfl,rfl,rfl⟩:=Go.ConcX.duo_inj e;exact⟨pX,h1⟩
theorem Side.Ea (h:x.acq P ty Low a b w s)(d:Nat):x.acq P ty Low a b (w.at d) s:=@Go.ConcX.Acquired.at x.pl P ty Wg x.C Low x.sh x.vals x.Mine x.Post a b w none s h d none
theorem Side.L9 (hW:Wg<Low)(hx:fA P ty Wg Low x)(h:x.J P ty Low μ a b w s)(ha:a.status=.running):x.acq P ty Low a b w s∨∃a' w' es pX,ψ P true a w=.go a' w' es∧Lt4 pX μ∧x.J P ty Low pX a' (Conc.woken P a a' w' b) w' (s++Ω 0 a.frame.fn a.frame.place es):=by
 rcases @Go.ConcX.join_step x.pl P ty Wg x.C Low x.sh x.vals x.Mine x.AnchW x.Post hW hx.hC hx.hCW hx.hAr hx.hAn μ _ s h (runTX P (duo a b (w.at w.drawn) none) 0)
  (λa2 b2 w2 sl2 e2=>by obtain⟨rfl,rfl,rfl,rfl⟩:=Go.ConcX.duo_inj e2;exact⟨w.drawn,none,.inl ⟨ha,rfl⟩⟩)with zo|⟨m',ops,pX,hX,hlt,hJ'⟩
 ·exact .inl zo
 ·rw[duo_eq_crowd]at hX;obtain⟨g0,g',w',es,hg0,hgo,rfl,rfl⟩:=Go.ConcX.runTX_next hX;obtain rfl:a=g0:=by simpa using hg0
  have em:ω ((#[a,b].map (Conc.woken P a g' w')).setIfInBounds 0 g') w' none=duo g' (Conc.woken P a g' w' b) w' none:=by simp[ω,duo]
  rw[em]at hJ';exact .inr ⟨g',w',es,pX,hgo,hlt,hJ'⟩
theorem Side.Ma (hW:Wg<Low)(hx:fA P ty Wg Low x)(h:x.J P ty Low μ a b w s)(hb:b.status=.running):x.acq P ty Low a b w s∨∃b' w' es pX,ψ P false b w=.go b' w' es∧Lt4 pX μ∧x.J P ty Low pX (Conc.woken P b b' w' a) b' w' (s++Ω 1 b.frame.fn b.frame.place es):=by
 rcases @Go.ConcX.join_step x.pl P ty Wg x.C Low x.sh x.vals x.Mine x.AnchW x.Post hW hx.hC hx.hCW hx.hAr hx.hAn μ _ s h (runTX P (duo a b (w.at w.drawn) none) 1)
  (λa2 b2 w2 sl2 e2=>by obtain⟨rfl,rfl,rfl,rfl⟩:=Go.ConcX.duo_inj e2;exact⟨w.drawn,none,.inr ⟨hb,rfl⟩⟩)with zo|⟨m',ops,pX,hX,hlt,hJ'⟩
 ·exact .inl zo
 ·obtain⟨b',w',es,hgo,rfl,rfl⟩:=@zm x.pl P a b (w.at w.drawn) m' ops hX;exact .inr ⟨b',w',es,pX,hgo,hlt,hJ'⟩
end
section
variable {P:ζ}{ty:η}{Q Shun:Loc→Prop}{c ch Wg Low B:Nat}{ro aK X:Nat→Prop}{x y:Side Wg}
def abB (P:ζ)(ty:η)(Q Shun:Loc→Prop)(c:Nat){Wg:Nat}(Low B:Nat)(ro aK:Nat→Prop)(x y:Side Wg)(m:Machine)(t:ι):Prop:=
 ∃gs w sl q a b s,m=ω gs w sl∧ez P c t gs q∧gs[0]?=some a∧gs[c]?=some b∧TI Q Shun c aK ro B t∧GL c Wg s t∧(x.acq P ty Low a b w s∨y.acq P ty Low a b w s)
theorem Zu (hY:Gc Q Shun c ch Wg Low ro X)(vH:fA P ty Wg Low x)(zn:fA P ty Wg Low y)(Cs:x.C≠y.C)(hB:Low≤B)(hown:∀b,aK b→Low≤b):∀(M:Nat×(Nat×Nat×Nat×Nat)) (ν:Nat×Nat×Nat×Nat) (gs:Array Λ) (w:Ξ) (sl:Option (Nat×Nat)) (t:ι) (q:Nat→Nat) (a b:Λ) (iL jA:ι),sumTo c q=M.1→ez P c t gs q→gs[0]?=some a→gs[c]?=some b→TI Q Shun c aK ro B t→x.J P ty Low M.2 a b w iL→y.J P ty Low ν a b w jA→GL c Wg iL t→GL c Wg jA t→Reach P (ω gs w sl) t (abB P ty Q Shun c Low B ro aK x y):=by
 intro M
 induction M using ltG_wf.induction with
 |_ M ih=>
 intro ν gs w sl t q a b iL jA hM hC h0 hc hT hx hy hg1 hg2;obtain⟨awa,awb,hrun,adJ⟩:=Side.L5 vH hx;obtain⟨_,_,_,adK⟩:=Side.L5 zn hy;have hQG:∀l,Q l→¬kx aK l∧¬kx ro l:=λl hl=>⟨λhi=>vE hown hi (hY.tF l (hY.QS l hl)),λhi=>hY.rS l hi (hY.QS l hl)⟩;obtain⟨d,sl',Ct⟩:=Ge (w:=w) (sl:=sl) hC h0 hc awa awb hrun;have hx1:=adJ d;have hy1:=adK d;rcases Ct with⟨hr,hst⟩|⟨hr,hst⟩|⟨gs',ops,q',g,g',hst,hC',xM,hc',hlt,o1,o2,o3,o4⟩
 ·rcases Side.L9 hY.PD vH hx1 hr with zo|⟨a',w',es,pX,hgo,hl,DM⟩
  ·exact .here ⟨gs,w,sl,q,a,b,iL,rfl,hC,h0,hc,hT,hg1,.inl (Side.Ea zo w.drawn)⟩
  rcases Side.L9 hY.PD zn hy1 hr with zo|⟨a2,w2,es2,J5,QK,_,hy'⟩
  ·exact .here ⟨gs,w,sl,q,a,b,jA,rfl,hC,h0,hc,hT,hg2,.inr (Side.Ea zo w.drawn)⟩
  rw[hgo]at QK;obtain⟨rfl,rfl,rfl⟩:a'=a2∧w'=w2∧es=es2:=by simpa using QK
  obtain⟨p1,j1⟩:=Side.VY DM;obtain⟨p2,j2⟩:=Side.VY hy';have gf:=vG vH zn Cs j1 j2;have xw:∀e∈es,∀x,(ξ e).touch? =some x→∃ad,x.loc=.cell ad∧ad.block=Wg:=λe he x hx=>let⟨ad,h1,h2,_⟩:=(gf e he).1 x hx;⟨ad,h1,h2⟩;obtain⟨k1,k2⟩:=xP (Q:=Q) (g':=0) (fn:=a.frame.fn) (pos:=a.frame.place) hY.wQ (λ_=>rfl) gf;obtain⟨gs',e1,e2,e3,e4⟩:=tE (sl:=sl') hC h0 hc hgo;exact Reach.step (hst.trans e1) (ih (M.1,pX) (.right _ hl) J5 gs' w' sl' _ q a' _ _ _ hM e2 e3 e4 (hT.VM (.inl rfl) k1 (λop hop=>MemAct.low_mono hB (k2 op hop)) hY.QS hQG) DM hy' (hg1.step hY.c0 (.inl rfl) (by simp) _ _ es (Side.norel j1) xw) (hg2.step hY.c0 (.inl rfl) (by simp) _ _ es (Side.norel j2) xw))
 ·rcases Side.Ma hY.PD vH hx1 hr with zo|⟨a',w',es,pX,hgo,hl,DM⟩
  ·exact .here ⟨gs,w,sl,q,a,b,iL,rfl,hC,h0,hc,hT,hg1,.inl (Side.Ea zo w.drawn)⟩
  rcases Side.Ma hY.PD zn hy1 hr with zo|⟨a2,w2,es2,J5,QK,_,hy'⟩
  ·exact .here ⟨gs,w,sl,q,a,b,jA,rfl,hC,h0,hc,hT,hg2,.inr (Side.Ea zo w.drawn)⟩
  rw[hgo]at QK;obtain⟨rfl,rfl,rfl⟩:a'=a2∧w'=w2∧es=es2:=by simpa using QK
  obtain⟨p1,j1⟩:=Side.VY DM;obtain⟨p2,j2⟩:=Side.VY hy';have gf:=vG vH zn Cs j1 j2;have xw:∀e∈es,∀x,(ξ e).touch? =some x→∃ad,x.loc=.cell ad∧ad.block=Wg:=λe he x hx=>let⟨ad,h1,h2,_⟩:=(gf e he).1 x hx;⟨ad,h1,h2⟩;obtain⟨k1,k2⟩:=xP (Q:=Q) (g':=c) (fn:=b.frame.fn) (pos:=b.frame.place) hY.wQ (by simp) gf;obtain⟨gs',e1,e2,e3,e4⟩:=lz (sl:=sl') hC h0 hc hgo;exact Reach.step (hst.trans e1) (ih (M.1,pX) (.right _ hl) J5 gs' w' sl' _ q _ a' _ _ hM e2 e3 e4 (hT.VM (.inr rfl) k1 (λop hop=>MemAct.low_mono hB (k2 op hop)) hY.QS hQG) DM hy' (hg1.step hY.c0 (.inr rfl) (by simp) _ _ es (Side.norel j1) xw) (hg2.step hY.c0 (.inr rfl) (by simp) _ _ es (Side.norel j2) xw))
 ·obtain⟨pX,DM⟩:=Side.L6 vH hx1 g g';obtain⟨J5,hy'⟩:=Side.L6 zn hy1 g g';exact Reach.step hst (ih (sumTo c q',pX) (.left _ _ (by omega)) J5 gs' (w.at d) sl' _ q' _ _ iL jA rfl hC' xM hc' (hT.still (λop hop=>(o1 op hop).1) (o2 _)) DM hy' (hg1.other (λop hop=>⟨(o1 op hop).2 _,λ_=>(o1 op hop).1⟩) o3 o4) (hg2.other (λop hop=>⟨(o1 op hop).2 _,λ_=>(o1 op hop).1⟩) o3 o4))
theorem Gf {t:ι}(XU:∀a:Addr,a.block=Wg→Shun (.cell a))(hT:TI Q Shun c aK ro B t)(hA:QF c Wg t)(hd:Deaf t 0=0):Past Shun B t:=by
 obtain⟨R,K,hR,hK,hg,hh,hRK⟩:=hA;have abC:HappensBefore t R K:= .single (.inr ⟨.marked hRK (.inr hR.act) hK (λk h1 _=>hR.norel k h1),hR.heard,hh⟩);obtain⟨z,hz,hzg⟩:=zaz.1 hg;have before:∀i,t.g? i=some c→i≤R→HappensBefore t i K:=λi hi hle=>by
  rcases zay i R with hlt|jN
  ·exact .trans (.single (.inl ⟨hlt,c,hi,hR.g⟩)) abC
  ·obtain rfl:i=R:=by omega
   exact abC
 refine⟨hT.clean,λi a ha hm=>?_,λi g J4 h0 Fj=>?_,hd,hT.seen⟩
 ·rcases hT.known i a ha hm with h|h|⟨h,_⟩
  ·exact .inl h
  ·exact .inr h
  ·rcases zay R i with hlt|hle
   ·obtain⟨ad,h1,h2⟩:=hR.late i a hlt h ha;refine .inr ⟨by rw[h1];exact XU ad h2,?_⟩;by_cases hk:a.kind=.atomic
    ·exact hk
    ·exact absurd ⟨a,ha,hm,.inl hk⟩ (hR.after i hlt h)
   ·exact .inl ⟨K,z,hz,hzg,.inr (before i h hle)⟩
 ·by_cases hgc:g=c
  ·subst hgc;exact⟨K,hg,before i J4 (Nat.le_of_not_lt λhlt=>hR.after i hlt J4 Fj)⟩
  ·exact hT.over i g J4 h0 hgc Fj
theorem QL (vH:fA P ty Wg Low x)(hB:Low≤B)(hCS:∀a:Addr,a.block=x.C→¬Shun (.cell a)){e:ϕ}(h:@Go.ConcX.EvJ x.Mine Wg x.C x.sh e):EvL Shun B e:=by
 obtain⟨h1,h2,h3⟩:=h;obtain⟨_,ht,_,hk⟩:=h1 0 "";obtain⟨k1,k2⟩:=vH.ok _ hk;refine⟨λz hz hs=>?_,h2,h3,MemAct.low_mono hB k2⟩;obtain⟨a,ha,hb|hb⟩:=k1 z hz
 ·exact(ht z hz).2.1 (.inl ⟨a,ha,hb⟩)
 ·rw[ha]at hs;exact absurd hs (hCS a hb)
def adL (P:ζ)(Shun:Loc→Prop)(c:Nat){Wg:Nat}(B:Nat)(x y:Side Wg)(m:Machine)(t:ι):Prop:=
 ∃gs w sl q a,m=ω gs w sl∧gs.size=c+1∧gs[0]?=some a∧a.status=.running∧(x.sh.stop a w∨y.sh.stop a w)∧ώ P t gs q∧Past Shun B t
theorem Gg {x:Side Wg}(vH:fA P ty Wg Low x)(hB:Low≤B)(XU:∀a:Addr,a.block=Wg→Shun (.cell a))(hCS:∀a:Addr,a.block=x.C→¬Shun (.cell a)){gs:Array Λ}{w:Ξ}{sl:Option (Nat×Nat)}{q:Nat→Nat}{a b:Λ}{s t:ι}
 (hC:ez P c t gs q)(h0:gs[0]?=some a)(hc:gs[c]?=some b)(hT:TI Q Shun c aK ro B t)(hg:GL c Wg s t)(hA:x.acq P ty Low a b w s):
 Reach P (ω gs w sl) t λm t=>∃gs w sl q a,m=ω gs w sl∧gs.size=c+1∧gs[0]?=some a∧a.status=.running∧x.sh.stop a w∧ώ P t gs q∧Past Shun B t:=by
 letI:=x.pl
 letI:=x.sh
 obtain⟨a1,b1,w1,sl1,p,d1,k,mp,r,vs,e,XV,hG,hAc,hq⟩:=hA;obtain⟨rfl,rfl,rfl,rfl⟩:=Go.ConcX.duo_inj e;have hP:=Gf XU hT (hg.acq hAc) (hg.d0.trans XV.deaf0);have hL:ώ P t gs (upd q c k):=by
  refine⟨λi g hi J4=>?_,λj hj=>hC.above j (by have:=hC.size;omega)⟩;rcases hC.get J4 with rfl|rfl|⟨h1,h2⟩
  ·omega
  ·rw[hc]at J4;obtain rfl:=zaF J4;rw[upd_same,hg.dc,XV.deaf1];exact hq
  ·rw[upd_ne q k (by omega)];exact hC.old i g h1 h2 J4
 obtain⟨N,gs',a',w',sl',T',q',hr,hs',xM,hS,JQ,adM⟩:=walk_beside (P:=P) (λ_ _ es hD e he=>QL vH hB hCS (hD.2 e he)) _ mp gs a w sl t _ (zab _) h0 hL hP hG;exact⟨N,_,_,hr,gs',w',sl',q',a',rfl,hs'.trans hC.size,xM,hS.1,hS.2,JQ,adM⟩
theorem Zv (vH:fA P ty Wg Low x)(zn:fA P ty Wg Low y)(hB:Low≤B)(XU:∀a:Addr,a.block=Wg→Shun (.cell a))(hxS:∀a:Addr,a.block=x.C→¬Shun (.cell a))(hyS:∀a:Addr,a.block=y.C→¬Shun (.cell a)){m:Machine}{t:ι}(h:abB P ty Q Shun c Low B ro aK x y m t):Reach P m t (adL P Shun c B x y):=by
 obtain⟨gs,w,sl,q,a,b,s,rfl,hC,h0,hc,hT,hg,hA|hA⟩:=h
 ·exact(Gg vH hB XU hxS hC h0 hc hT hg hA).mono λm t ⟨gs,w,sl,q,a,e,h1,h2,h3,h4,h5,h6⟩=>⟨gs,w,sl,q,a,e,h1,h2,h3,.inl h4,h5,h6⟩
 ·exact(Gg zn hB XU hyS hC h0 hc hT hg hA).mono λm t ⟨gs,w,sl,q,a,e,h1,h2,h3,h4,h5,h6⟩=>⟨gs,w,sl,q,a,e,h1,h2,h3,.inr h4,h5,h6⟩
end
end Go.Ren
set_option linter.unusedSectionVars false
namespace Go.Ren
open Go Go.Conc
open Go.ConcX (Payload Shy stA smA Base CA JInv RCa RCd DCs AtR0 RPa DPi AtKd PA KK WgAt ChanAt Full Aside2 runTX JT AtW1)
def okR (Wg C Low:Nat)(act:MemAct):Prop:=(∀t,act.touch? =some t→∃a,t.loc=.cell a∧(a.block=Wg∨a.block=C))∧act.low Low
@[reducible] def nt (Wg C Low:Nat) (St:Λ→Ξ→Prop) (hW:Wg<Low) (hC:C<Low):Shy Wg C where
  ok:=okR Wg C Low
  atomicWg a wr h:=⟨λx hx=>by simp only[MemAct.touch?,zaG]at hx;subst hx;exact⟨a,rfl,.inl h⟩,by show a.block<Low;omega⟩
  readWg a h:=⟨λx hx=>by simp only[MemAct.touch?,zaG]at hx;subst hx;exact⟨a,rfl,.inl h⟩,by show a.block<Low;omega⟩
  writeWg a h:=⟨λx hx=>by simp only[MemAct.touch?,zaG]at hx;subst hx;exact⟨a,rfl,.inl h⟩,by show a.block<Low;omega⟩
  theirs a wr h:=⟨λx hx=>by simp only[MemAct.touch?,zaG]at hx;subst hx;exact⟨a,rfl,.inr h⟩,by show a.block<Low;omega⟩
  disable:=⟨λx hx=>(by cases hx),trivial⟩
  enable:=⟨λx hx=>(by cases hx),trivial⟩
  relMerge:=⟨λx hx=>(by cases hx),hW⟩
  acquire:=⟨λx hx=>(by cases hx),hW⟩
  go1:=⟨λx hx=>(by cases hx),trivial⟩
  start:=⟨λx hx=>(by cases hx),trivial⟩
  stop:=St
structure vI (Wg Low:Nat) where
 pl:Payload
 C:Nat
 vals:List Φ
 hC:C<Low
 hCW:C≠Wg
 hW:Wg<Low
def lD:Loc→Prop:=λ_=>False
def vI.side {Wg Low:Nat}(k:vI Wg Low)(St:Λ→Ξ→Prop)(A:Λ→Ξ→Prop):Side Wg:=⟨k.pl,k.C,nt Wg k.C Low St k.hW k.hC,k.vals,lD,A,λ_ _=>True⟩
def pq:Λ→Ξ→Prop:=λ_ _=>False
section
variable {P:ζ}{ty:η}{Wg Low:Nat}(k:vI Wg Low)
theorem zq {St A St' A':Λ→Ξ→Prop}{μ:Nat×Nat}{b:Λ}{w:Ξ}{s:ι}(h:(k.side St A).half P ty Low μ b w s):(k.side St' A').half P ty Low μ b w s:=by
 change @Half k.pl P ty Wg k.C Low (nt Wg k.C Low St' k.hW k.hC) k.vals lD μ b w s;replace h:@Half k.pl P ty Wg k.C Low (nt Wg k.C Low St k.hW k.hC) k.vals lD μ b w s:=h;rcases h with⟨p,d1,rc,mc,rel,cl,sent,vs,e,hs,⟨b1,b2,⟨j1,j2,j3,j4,j5,j6,j7⟩,b4,b5,b6,b7⟩,hc⟩|⟨p,d1,q,e,⟨b1,b2,⟨j1,j2,j3,j4,j5,j6,j7⟩,b4,b5,b6,b7⟩,hq⟩
 ·letI:=k.pl
  letI:=nt Wg k.C Low St' k.hW k.hC
  refine .inl ⟨p,d1,rc,mc,rel,cl,sent,vs,e,hs,⟨b1,b2,⟨j1,j2,j3,j4,j5,j6,j7⟩,b4,b5,b6,b7⟩,?_⟩;cases hc with
  |r0 h=>exact .r0 h
  |k1 h=>exact .k1 h
  |d1 h=>exact .d1 h
 ·letI:=k.pl
  letI:=nt Wg k.C Low St' k.hW k.hC
  exact .inr ⟨p,d1,q,e,⟨b1,b2,⟨j1,j2,j3,j4,j5,j6,j7⟩,b4,b5,b6,b7⟩,hq⟩
theorem Mb {St:Λ→Ξ→Prop}:fA P ty Wg Low (k.side St pq):=⟨k.hC,k.hCW,λ_ _ h=>h.elim,λ_ _ h=>h.elim,λ_ h=>h⟩
def vI.fin (k:vI Wg Low)(P:ζ)(ty:η)(b:Λ)(w:Ξ):Prop:=
 letI:=k.pl;letI:=nt Wg k.C Low pq k.hW k.hC;∃n,Goes P false (RCa ty Wg Low) (DCs lD Wg k.C) (AtR0 P ty Wg k.C Low k.vals) n b w
def vI.wait (k:vI Wg Low)(P:ζ)(ty:η)(St A:Λ→Ξ→Prop)(a:Λ)(w:Ξ):Prop:=
 letI:=k.pl;letI:=nt Wg k.C Low St k.hW k.hC;fA P ty Wg Low (k.side St A)∧∃m,Goes P true (RPa ty Wg k.C k.vals) (DPi lD Wg k.C Low) (AtKd P ty Wg k.C Low k.vals lD A) m a w
end
section
variable {P:ζ}{ty:η}{Q Shun:Loc→Prop}{c ch Wg Low:Nat}{ro:Nat→Prop}{z:Φ}{x y:vI Wg Low}{After:(Nat→Prop)→Ξ→Λ→Ξ→Prop}
def vI.kpa {Wg Low:Nat}(k:vI Wg Low)(ty:η)(w:Ξ):Prop:=letI:=k.pl;letI:=nt Wg k.C Low pq k.hW k.hC;Go.ConcX.KPa ty Wg k.C k.vals w
theorem Gh {k:vI Wg Low}{St A:Λ→Ξ→Prop}{μ:Nat×Nat}{b:Λ}{w:Ξ}{s:ι}(h:(k.side St A).half P ty Low μ b w s):k.kpa ty w:=by
 replace h:@Half k.pl P ty Wg k.C Low (nt Wg k.C Low St k.hW k.hC) k.vals lD μ b w s:=h;rcases h with⟨p,d1,rc,mc,rel,cl,sent,vs,e,hs,⟨b1,b2,b3,b4,b5,b6,b7⟩,hc⟩|⟨p,d1,q,e,⟨b1,b2,b3,b4,b5,b6,b7⟩,hq⟩
 ·exact .inl b1
 ·exact .inr ⟨b1,b2⟩
def QM (P:ζ)(ty:η){Wg Low:Nat}(x y:vI Wg Low)(After:(Nat→Prop)→Ξ→Λ→Ξ→Prop)(own:Nat→Prop)(a:Λ)(w:Ξ):Prop:=
 x.kpa ty w→y.kpa ty w→∃St Ax Ay,x.wait P ty St Ax a w∧y.wait P ty St Ay a w∧∀a' w',St a' w'→w.heap.size≤w'.heap.size∧After own w a' w'
def Ny (P:ζ)(ty:η){Wg Low:Nat}(x y:vI Wg Low)(_own:Nat→Prop)(b:Λ)(w:Ξ):Prop:=WgAt ty Wg w KK 0→x.fin P ty b w∧y.fin P ty b w
def Joined (P:ζ)(Shun:Loc→Prop)(c ch Wg Low:Nat)(After:(Nat→Prop)→Ξ→Λ→Ξ→Prop)(w0:Ξ)(m:Machine)(t:ι):Prop:=
 ∃gs w' w sl q a own,m=ω gs w sl∧gs.size=c+1∧gs[0]?=some a∧a.status=.running∧After own w' a w∧w'.heap.size≤w.heap.size∧ώ P t gs q∧Past Shun w.heap.size t∧
  (∀b,own b→Low≤b∧b<w'.heap.size)∧Low≤w'.heap.size∧(∀b,b<Low→b≠ch→b≠Wg→w'.heap[b]?=w0.heap[b]?)∧w'.tape=w0.tape∧w'.os=w0.os∧w'.output=w0.output
theorem Nz (hY:Gc Q Shun c ch Wg Low ro (λb=>b=ch∨b=Wg))(Cs:x.C≠y.C)(hxS:∀a:Addr,a.block=x.C→¬Shun (.cell a))(hyS:∀a:Addr,a.block=y.C→¬Shun (.cell a))
 {vs:List Φ}{gs:Array Λ}{w0:Ξ}{sl:Option (Nat×Nat)}{t:ι}{q:Nat→Nat}{bk aK:Nat→Prop}{a b:Λ}(hC:ez P c t gs q)(h0:gs[0]?=some a)(hc:gs[c]?=some b)
 (hM:mC P ro ch z (QM P ty x y After) vs bk a w0)(hG:ky P ro ch (Ny P ty x y) vs aK b w0)(eM:lY Q Shun c ch Low ro bk aK (λb=>b=ch) false w0 w0 t)(hw:WgAt ty Wg w0 KK 0):
 Reach P (ω gs w0 sl) t (Joined P Shun c ch Wg Low After w0):=by
 refine(QD hY.toLay vs gs w0 sl t q bk aK a b hC h0 hc hM hG eM).bind ?_;rintro m t ⟨gs,w,sl,q,bk,aK,a,b,t₁,fn,pos,rfl,hC,h0,hc,hb,hM,XW,eM,_,hd⟩;have UZ:WgAt ty Wg w KK 0:=hw.of_block (eM.keep Wg hY.PD hY.wch);obtain⟨⟨n₁,hG1⟩,⟨n₂,Zw⟩⟩:=XW UZ;have hx0:(x.side pq pq).half P ty Low (7,n₁) b w Nu:=@Half.init x.pl P ty Wg x.C Low (nt Wg x.C Low pq x.hW x.hC) x.vals lD b w n₁ UZ hG1;have hy0:(y.side pq pq).half P ty Low (7,n₂) b w Nu:=@Half.init y.pl P ty Wg y.C Low (nt Wg y.C Low pq y.hW y.hC) y.vals lD b w n₂ UZ Zw;refine(Zs (x:=x.side pq pq) (y:=y.side pq pq) hY (Mb x) (Mb y) Cs (cH.1 hM) (7,n₁) (7,n₂) aK b Nu Nu gs w sl t q hC h0 hc (bI.refl _ _ _) (eM.weaken λb hb=> .inl hb) hx0 hy0 (GL.init eM.d0 hd) (GL.init eM.d0 hd)).bind ?_;rintro m t ⟨gs,w,sl,q,bk,aK,a,b,iL,jA,μ,ν,rfl,hC,h0,hc,hfm,eM,hx,hy,hg1,hg2⟩;obtain⟨St,Ax,Ay,⟨vH,m₁,wR⟩,⟨zn,m₂,hk2⟩,pK⟩:=hfm (Gh hx) (Gh hy);obtain⟨pX,hJx⟩:=@Half.inv x.pl P ty Wg x.C Low (nt Wg x.C Low St x.hW x.hC) x.vals lD Ax (λ_ _=>True) μ a b w iL none (zq x (St':=St) (A':=Ax) hx) m₁ wR;obtain⟨J5,hJy⟩:=@Half.inv y.pl P ty Wg y.C Low (nt Wg y.C Low St y.hW y.hC) y.vals lD Ay (λ_ _=>True) ν a b w jA none (zq y (St':=St) (A':=Ay) hy) m₂ hk2;refine(Zu (x:=x.side St Ax) (y:=y.side St Ay) hY vH zn Cs eM.big (λb hb=>(eM.J2 b hb).1) (Go.ConcN.sumTo c q,pX) J5 gs w sl t q a b iL jA rfl hC h0 hc eM.ti hJx hJy hg1 hg2).bind ?_;intro m t h3;refine(Zv vH zn eM.big (λa ha=>hY.QS _ (hY.wQ a ha)) hxS hyS h3).mono ?_;rintro m t ⟨gs,w',sl,q,a,rfl,h1,h2,h3,h4,h5,h6⟩;have h4':St a w':=h4.elim id id;obtain⟨k1,k2⟩:=pK a w' h4';exact⟨gs,w,w',sl,q,a,bk,rfl,h1,h2,h3,k2,k1,h5,h6.mono k1,eM.mlt,eM.big,λb e1 e2 e3=>eM.keep b e1 (λe=>e.elim e2 e3),eM.tape,eM.os,eM.output⟩
end
end Go.Ren
namespace Go.Ren
open Go.Proofs.Tryz
open Go Go.Proofs Go.Conc.Lib
abbrev cv:WgLink:={ add:=68,done:=70,wait:=72,relMerge:=107,disable:=108,enable:=109,inBubble:=110,associate:=111,fatal:=112,uOr:=113,uAdd:=114,raceRead:=115,uLoad:=116,uStore:=117,disassociate:=118,semrelease:=119,acquire:=122,isAssociated:=123,uCas:=124,raceWrite:=125,semacquire:=126,orU64:=164,addU64:=165,loadU64:=166,storeU64:=167,casU64:=173,tWgP:=194,tUP:=196,tAssoc:=197,tWg:=142,tAU:=139,tU64:=137,tUint:=200,tU32:=140,tPU32:=201,tPAU:=240,tPU64:=242,tNoCopy:=134,tANoCopy:=135,tAlign64:=136 }
theorem QN:prog.funcs[68]?=some (addFn cv):=by kernel_rfl
theorem Mc:prog.funcs[70]?=some (doneFn cv):=by kernel_rfl
theorem Md:prog.funcs[72]?=some (waitFn cv):=by kernel_rfl
theorem wgz:WgLib prog cv:=by
 refine⟨QN,Mc,Md,?_,?_,?_,?_,?_,?_,?_,?_,?_,?_,?_,?_,?_,?_,?_,?_,?_,?_,?_,?_,?_,?_,?_,
  ?_,?_,?_,?_,?_,?_,?_,?_,?_,?_,?_,?_,?_,?_,?_,?_,?_,?_,?_,?_,?_,?_,?_,?_,?_,?_,?_,?_,?_,?_,?_,?_,?_,?_,?_,?_,?_,?_,?_,?_,?_,?_,?_,?_,?_,?_,?_,?_,?_,?_,?_,?_,?_,?_,?_,?_,?_,?_,?_,?_,?_,?_,?_,?_,?_,?_,?_,?_,?_,?_,?_,?_,?_,?_,?_,?_,?_,?_,?_,?_,?_,?_,?_,?_,?_,?_,?_⟩
 all_goals first
  |kernel_rfl
  |(intro w;kernel_rfl)
end Go.Ren
namespace Go.Ren
open Go Go.Conc
variable {P:ζ}{main:Bool}{b:π}{a:Act}{k:List Item}{cs:List π}{w:Ξ}
def fP (ch:Φ)(ty rt:η)(bs:Array Bool):Deferred:={ target:= .builtin .close #[ty] rt bs,args:=#[ch] }
theorem tH {ops:Array Oper}{i:Nat}{rest:List Nat}{o:Oper}{x:Tmp}{ty:η}(ho:ops[i]?=some o)(hw:ϙ o (ϗ ops a.tmps)=true)(hk:b.kind≠.early)
 (hop:o.op=.defer { callee:= .builtin .close,args:=#[.tmp x],argTypes:=#[ty] }):
 ψ P main (G (b.at a (.inRegion ops (i::rest)::k)) cs) w=.go (G (b.at (ϛ ⟨a.tmps,fP (a.eval (.tmp x)) ty o.type #[false]::a.defers⟩ o.dst Θ) (.inRegion ops rest::k)) cs) w #[]:=by
 have hr:(θ a.eval o).run P w=.ok (.defer (fP (a.eval (.tmp x)) ty o.type #[false])) w:=by
  unfold θ;simp[hop,resolve,fP]
 have he:(θ a.eval o).events P w #[]=#[]:=by
  unfold θ;simp[hop,resolve]
 have pK:(b.at ⟨a.tmps,fP (a.eval (.tmp x)) ty o.type #[false]::a.defers⟩ (.inRegion ops (i::rest)::k)).finish Θ=b.at (ϛ ⟨a.tmps,fP (a.eval (.tmp x)) ty o.type #[false]::a.defers⟩ o.dst Θ) (.inRegion ops rest::k):=by rw[zbY,ho];rfl
 have hk':(b.kind==CallKind.early)=false:=by simpa using hk
 rw[stepG_oper ho hw,←pK];simp[stepG.apply,hr,he,G,π.at,hk',GStep.after,seen_none]
theorem r8 {todo:List Item}{ds:List Deferred}{c s r:Nat}{tm:Bool}{ty rt:η}{bs:Array Bool}(hd:a.defers=fP (.chan (some c)) ty rt bs::ds)(hc:w.heap[c]?=some (.chan 0 #[] false s r tm))(hq:(P.funcs[b.fn]?).any (·.norace)=false):ψ P main (G { b.at a todo with mode:= .returning } cs) w=.go (G { b.at ⟨a.tmps,ds⟩ todo with mode:= .returning } cs) (w.setChan c 0 #[] true s r tm) (gY c):=by
 have h1:(builtin .close #[ty] rt bs #[.chan (some c)]).run P w=.ok (.value (.tuple #[])) (w.setChan c 0 #[] true s r tm):=by
  unfold builtin;simp[go_sem,run_close_open _ _ hc,Ξ.setChan]
 have h2:(builtin .close #[ty] rt bs #[.chan (some c)]).events P w #[]=gY c:=by
  unfold builtin;simp[go_sem,events_close_open _ _ hc,gY]
 have h3:seen P b.fn ((builtin .close #[ty] rt bs #[.chan (some c)]).events P w #[])=gY c:=by
  rw[h2];exact seen_eq hq (by intro e he f;simp[gY]at he;rcases he with rfl|rfl<;>simp)
 simp[G,ψ,unwind,callDeferred,π.at,hd,fP,invoke,h1,GStep.after]at h3 ⊢;exact h3
end Go.Ren
namespace Go.Ren
open Go
section
variable {P:ζ}{ρ:Rn}
theorem tI:∀(n:Nat) (a:Addr) (acc:ByteArray),aa P ρ Eq (Extern.Bytes.loadBytes a n acc) (Extern.Bytes.loadBytes (ra ρ a) n acc)
 |0,a,acc=>aa.pure rfl
 |n+1,a,acc=>by
  unfold Extern.Bytes.loadBytes;refine aa.bind (yz a) ?_;rintro v _ rfl;cases v with
  |int k b=>
   cases k with
   |u8=>rw[rv];simp only;rw[ku];exact tI n (a.add 1) _
   |_=>exact aa.stuck _
  |_=>exact aa.stuck _
theorem vJ (v:Φ):aa P ρ Eq (Extern.Bytes.bytesOf v) (Extern.Bytes.bytesOf (rv ρ v)):=by
 cases v with
 |string s=>rw[rv];exact aa.pure rfl
 |slice a l c=>
  cases a with
  |none=>rw[rv];exact aa.pure rfl
  |some a=>rw[rv];exact tI l a _
 |_=>exact aa.stuck _
theorem QO (v:Φ):aa P ρ Eq (Extern.Bytes.asByte v) (Extern.Bytes.asByte (rv ρ v)):=by
 cases v with
 |int k b=>
  rw[rv];cases k with
  |u8=>exact aa.pure rfl
  |_=>exact aa.stuck _
 |_=>exact aa.stuck _
theorem QP (n:Int):VV ρ (goInt n) (goInt n):=by simp[VV,goInt,rv]
theorem wS (args:Array Φ):aa P ρ (VV ρ) (υ args) (υ (args.map (rv ρ))):=by
 obtain⟨l⟩:=args;rcases l with _|⟨b,_|⟨c,_|⟨d,l⟩⟩⟩
 ·exact aa.stuck "bytealg.IndexByte: two arguments expected"
 ·exact aa.stuck "bytealg.IndexByte: two arguments expected"
 ·have h:∀b c,υ #[b,c]=(do
   let b ←Extern.Bytes.bytesOf b;let c ←Extern.Bytes.asByte c
   match(List.range b.size).find? λi=>b[i]! ==c with
   |some i=>pure (goInt i)
   |none=>pure (goInt (-1))):=λ_ _=>rfl
  have e:(Array.map (rv ρ) { toList:=[b,c] })=#[rv ρ b,rv ρ c]:=by simp
  rw[e,h,h];refine aa.bind (vJ b) ?_;rintro x _ rfl;refine aa.bind (QO c) ?_;rintro y _ rfl;split
  ·exact aa.pure (QP _)
  ·exact aa.pure (QP _)
 ·exact aa.stuck "bytealg.IndexByte: two arguments expected"
theorem QQ (args:Array Φ):aa P ρ (VV ρ) (ύ args) (ύ (args.map (rv ρ))):=by
 obtain⟨l⟩:=args;rcases l with _|⟨b,_|⟨c,l⟩⟩
 ·exact aa.stuck "abi.NoEscape, Escape: one argument expected"
 ·have h:∀b,ύ #[b]=pure b:=λ_=>rfl;have e:(Array.map (rv ρ) { toList:=[b] })=#[rv ρ b]:=by simp
  rw[e,h,h];exact aa.pure rfl
 ·exact aa.stuck "abi.NoEscape, Escape: one argument expected"
theorem QR (hx:∀g,g<P.globals.size→g<ρ.d∨ρ g=g):aa P ρ Eq Extern.BytealgIndex.maxLen Extern.BytealgIndex.maxLen:=by
 unfold Extern.BytealgIndex.maxLen globalAddr;refine aa.bind (R:=λ(a b:Addr)=>b=a∧(a.block<ρ.d∨ρ a.block=a.block)) (aa.bind cz ?_) ?_
 ·rintro p p' ⟨rfl,rfl⟩;split
  ·rename_i g hg;refine aa.pure ?_;have:=Array.findIdx?_eq_some_iff_getElem.1 hg;exact⟨rfl,hx g this.1⟩
  ·exact aa.stuck _
 ·rintro a b ⟨rfl,h⟩;refine aa.bind (R:=VV ρ) ?_ ?_
  ·rcases h with h|h
   ·exact .inl h
   ·have e:ra ρ b=b:=by unfold ra;rw[h]
    have:=yz (P:=P) (ρ:=ρ) b;rwa[e]at this
  ·rintro v _ rfl;exact nW v
theorem QT (hx:∀g,g<P.globals.size→g<ρ.d∨ρ g=g)(args:Array Φ):aa P ρ (VV ρ) (Extern.BytealgIndex.index args) (Extern.BytealgIndex.index (args.map (rv ρ))):=by
 obtain⟨l⟩:=args;rcases l with _|⟨b,_|⟨c,_|⟨d,l⟩⟩⟩
 ·exact aa.stuck "bytealg.Index: two arguments expected"
 ·exact aa.stuck "bytealg.Index: two arguments expected"
 ·have h:∀b c,Extern.BytealgIndex.index #[b,c]=(do
   let a ←Extern.Bytes.bytesOf b;let b ←Extern.Bytes.bytesOf c
   if b.size<2||(b.size:Int)>(←Extern.BytealgIndex.maxLen)then
    unsupported (.noEntry "extern/internal/bytealg.Index.length")
   if a.size≥2^32-15 then
    unsupported (.noEntry "extern/internal/bytealg.Index: a haystack of 2^32 - 15 bytes or more")
   match(List.range (a.size+1-b.size)).find? λi=>a.extract i (i+b.size)==b with
   |some i=>pure (goInt i)
   |none=>pure (goInt (-1))):=λ_ _=>rfl
  have e:(Array.map (rv ρ) { toList:=[b,c] })=#[rv ρ b,rv ρ c]:=by simp
  rw[e,h,h];refine aa.bind (vJ b) ?_;rintro x _ rfl;refine aa.bind (vJ c) ?_;rintro y _ rfl;refine aa.bind (QR hx) ?_;rintro m _ rfl;dsimp only;refine aa.aj (λ_=>?_) (λ_=>?_)
  ·exact trivial
  ·refine aa.aj (λ_=>?_) (λ_=>?_)
   ·exact trivial
   ·split
    ·exact aa.pure (by simp[VV,goInt,rv])
    ·exact aa.pure (by simp[VV,goInt,rv])
 ·exact aa.stuck "bytealg.Index: two arguments expected"
end
theorem pY {cs:Array Φ}(h:∀x∈cs,gq x):gq (.agg cs):=λρ=>by
 rw[rv];have h':∀x∈cs,rv ρ x=id x:=λx hx=>h x hx ρ;rw[dA h',Array.map_id]
theorem zr {v:Φ}(h:gq v):∀x∈v.cells,gq x:=by
 intro x hx;cases v with
 |agg cs=>
  intro ρ;have:=h ρ;rw[rv]at this;simp only[Φ.agg.injEq]at this;obtain⟨i,hi,rfl⟩:=zci.1 (show x∈cs from hx);have h2:=zal (λa=>a[i]?) this;simp only[zaE,zaH hi,zbk,zaG]at h2;exact h2
 |_=>simp only[Φ.cells,zbR,zav,zbz,or_false]at hx;subst hx;exact h
theorem Cu {α β:Type}(I:β→Prop){f:α→β→Option (ForInStep β)}(hs:∀a b s,I b→f a b=some s→I s.value):∀(l:List α) (init r:β),I init→forIn l init f=some r→I r
 |[],init,r,h0,h=>by
  simp only[List.forIn_nil,pure,zaG]at h;exact h▸h0
 |a::l,init,r,h0,h=>by
  simp only[List.forIn_cons,bind,zbf]at h;obtain⟨s,h1,h2⟩:=h;have hI:=hs a init s h0 h1;cases s with
  |done b=>simp only[pure,zaG]at h2;exact h2▸hI
  |yield b=>exact Cu I hs l b r hI h2
theorem tJ {info:η→Option ϋ}(hi:∀t i v,info t=some i→i.zero=some v→gq v){fs:Array Field}{i:ϋ}(h:Made.reckonStruct info fs=some i){v:Φ}(hz:i.zero=some v):gq v:=by
 unfold Made.reckonStruct at h;simp only[bind,zbf,pure,←zbP]at h;obtain⟨a,ha,h⟩:=h;have key:∀arr,a.2.2.2.2.2.2.2.1=some arr→∀x∈arr,gq x:=by
  refine Cu (λs=>∀arr,s.2.2.2.2.2.2.2.1=some arr→∀x∈arr,gq x) ?_ _ _ _ ?_ ha
  ·intro f b s hb hf;simp only[zbf]at hf;obtain⟨j,hj,hf⟩:=hf;have fin:∀arr,(if b.2.1+j.size>Made.mostCells then none else b.2.2.2.2.2.2.2.1.bind λy=>j.zero.bind λz=>some (y++z.cells))=some arr→∀x∈arr,gq x:=by
    intro arr mB x hx;split at mB
    ·cases mB
    ·simp only[zbf]at mB;obtain⟨y,hy,z,hz,e⟩:=mB;cases e;rcases Array.mem_append.1 hx with h1|h1
     ·exact hb y hy x h1
     ·exact zr (hi _ _ _ hj hz) x h1
   by_cases c1:j.str.isEmpty=true
   ·rw[zac c1]at hf;cases hf
   rw[zaa c1]at hf;by_cases c2:f.embedded=true
   ·rw[zac c2]at hf;cases hf
   rw[zaa c2]at hf;by_cases c3:f.tag.isEmpty=true
   ·rw[zac c3]at hf;by_cases c4:j.bytes=0
    ·simp only[zbS,zac c4]at hf;cases hf;exact fin
    ·simp only[zbS,zaa c4]at hf;cases hf;exact fin
   ·rw[zaa c3]at hf;rw[zbf]at hf;obtain⟨tag,_,hf⟩:=hf;by_cases c4:j.bytes=0
    ·rw[zac c4]at hf;cases hf;exact fin
    ·rw[zaa c4]at hf;cases hf;exact fin
  ·intro arr mB x hx;simp only[zaG]at mB;subst mB;simp at hx
 split at h
 all_goals
  cases h;simp only[zaz]at hz;obtain⟨arr,mB,rfl⟩:=hz;exact pY (key arr mB)
theorem Gi {info:η→Option ϋ}(hi:∀t i v,info t=some i→i.zero=some v→gq v){d:TypeDesc}{i:ϋ}(h:Made.reckon info d=some i){v:Φ}(hz:i.zero=some v):gq v:=by
 have w0:∀(d:TypeDesc) (s:String) (z:Φ) (c:Bool) (n:Nat),gq z→some (Made.word d s z c n)=some i→gq v:=by
  intro d s z c n hb e;cases e;simp only[Made.word]at hz;cases hz;exact hb
 unfold Made.reckon at h;split at h
 ·simp only[bind,zbf,pure]at h;obtain⟨j,_,h⟩:=h;split at h
  ·cases h
  ·split at h
   ·cases h
   ·simp only[zbf]at h;obtain⟨s,_,h⟩:=h;exact w0 _ _ _ _ _ (λρ=>by simp[rv]) h
  ·simp only[zbf]at h;obtain⟨s,_,h⟩:=h;exact w0 _ _ _ _ _ (λρ=>by simp[rv]) h
 ·simp only[bind,zbf,pure]at h;obtain⟨j,_,s,_,h⟩:=h;exact w0 _ _ _ _ _ (λρ=>by simp[rv]) h
 ·simp only[bind,zbf,pure]at h;obtain⟨_,_,_,_,_,_,_,_,h⟩:=h;exact w0 _ _ _ _ _ (λρ=>by simp[rv]) h
 ·simp only[bind,zbf,pure]at h;obtain⟨_,_,_,_,h⟩:=h;exact w0 _ _ _ _ _ (λρ=>by simp[rv]) h
 ·simp only[bind,zbf,pure]at h;obtain⟨_,_,h⟩:=h;exact w0 _ _ _ _ _ (λρ=>by simp[rv]) h
 ·simp only[bind,zbf,pure]at h;obtain⟨j,hj,s,_,h⟩:=h;cases h;simp only at hz;split at hz
  ·cases hz
  ·split at hz
   ·cases hz;exact pY λx hx=>by simp at hx
   ·simp only[zaz]at hz;obtain⟨zz,hzz,rfl⟩:=hz;refine pY λx hx=>?_;rw[Array.mem_flatten]at hx;obtain⟨ys,h1,h2⟩:=hx;rw[Array.mem_replicate]at h1;obtain⟨_,rfl⟩:=h1;exact zr (hi _ _ _ hj hzz) x h2
 ·exact tJ hi h hz
 ·cases h
theorem wU {T:Tables}(hT:∀(t:η) (i:ϋ) (v:Φ),T.types[t]?=some i→i.zero=some v→gq v):∀(n:Nat) (t:η) (i:ϋ) (v:Φ),Made.infoAt T n t=some i→i.zero=some v→gq v
 |0,t,i,v,h,_=>by simp[Made.infoAt]at h
 |n+1,t,i,v,h,hz=>by
  unfold Made.infoAt at h;split at h
  ·exact hT t i v h hz
  ·simp only[zbf]at h;obtain⟨d,_,h⟩:=h;exact Gi (wU hT n) h hz
def Cv:Φ→Bool
 |.agg cs=>cs.toList.all lu
 |v=>lu v
def QU:Φ→Bool
 |.tuple cs=>cs.toList.all Cv
 |v=>Cv v
def tyB (i:ϋ):Bool:=match i.zero with|some v=>QU v|none=>true
theorem zt {v:Φ}(h:Cv v=true):gq v:=by
 unfold Cv at h;split at h
 ·rename_i cs;rw[zaI]at h;exact pY λx hx=>il (h x (Array.mem_toList_iff.2 hx))
 ·exact il h
theorem J6 {v:Φ}(h:QU v=true):gq v:=by
 unfold QU at h;split at h
 ·rename_i cs;rw[zaI]at h;intro ρ;rw[rv];have h':∀x∈cs,rv ρ x=id x:=λx hx=>zt (h x (Array.mem_toList_iff.2 hx)) ρ;rw[dA h',Array.map_id]
 ·exact zt h
theorem Me {P:ζ}(h:P.types.toList.all tyB=true):∀(t:η) (i:ϋ) (v:Φ),P.info? t=some i→i.zero=some v→∀ρ:Rn,rv ρ v=v:=by
 have hT:∀(t:η) (i:ϋ) (v:Φ),P.types[t]?=some i→i.zero=some v→gq v:=by
  intro t i v hi hz;rw[zaI]at h;have:=h i (Array.mem_toList_iff.2 (zbI hi));unfold tyB at this;rw[hz]at this;exact J6 this
 intro t i v hi hz;unfold Tables.info? at hi;split at hi
 ·exact hT t i v hi hz
 ·exact wU hT _ t i v hi hz
end Go.Ren
namespace Go.Ren
open Go.Proofs.Tryz
open Go Go.Proofs
theorem NA:prog.globals.size=4:=by kernel_rfl
def Lc:List Nat:=[44,63,73,74,75,76,120,121,127,128,147,148,149,150,151,152,168,169,170,171,172,174,186,187,188,189,191,197,198,199,200,201,202,214,215,223,224,225,226,227,243,247,248,249,250,251]
def Fc:ϊ→Bool:=λf=>Lc.any (·==f)
def Sc:Sd:=⟨λf=>f==149||f==187||f==186,4,4⟩
def Lz:List Nat:=[17,19,21,22,24,26,27,28,29,30,38,39,40,41,42,44,45,46,47,48,60,61,62,63,64,65,66,67,73,74,75,76,77,78,79,80,81,82,83,95,96,97,98,99,100,101,102,103,104,105,106,127,128,129,130,147,148,149,150,151,152,153,154,155,156,157,158,159,160,161,162,163,174,175,176,177,178,179,180,186,187,188,189,190,191,192,193,194,195,196,202,203,204,205,214,215,216,217,218,219,220,221,222,228,229,230,231,232,238,239,240,241,242,244,245,246]
def Fz:ϊ→Bool:=λf=>Lz.any (·==f)
def Sz:Sd:=⟨λf=>f==149||f==187||f==186,0,4⟩
instance afy:Shut prog Sc:=⟨NA.symm,by rw[NA];exact zab _⟩
theorem VZ:Two prog Sz Sc:=⟨NA.symm,by rw[NA];decide,λ_ h=>h⟩
def Qz (F:ϊ→Bool)(S:Sd)(f:ϊ):Prop:=LF prog S f∧∀fn c,prog.funcs[f]?=some fn→fn.body=some c→bp prog F S c=true
def qB (P:ζ)(F:ϊ→Bool)(S:Sd):Option Func→Bool
 |some g=>!(g.name== "runtime.NumGoroutine")&&(match g.body with|some c=>bp P F S c|none=>false)
 |none=>false
theorem XX {F:ϊ→Bool}{S:Sd}{f:ϊ}(h:qB prog F S prog.funcs[f]?=true):Qz F S f:=by
 cases hg:prog.funcs[f]? with
 |none=>rw[hg]at h;cases h
 |some g=>
  rw[hg]at h;simp only[qB,zaj,Bool.not_eq_true']at h;obtain⟨hn,hc⟩:=h;cases hb:g.body with
  |none=>rw[hb]at hc;cases hc
  |some c0=>
   rw[hb]at hc;refine⟨⟨g,hg,hn,.inl (by rw[hb];rfl)⟩,λfn c h1 h2=>?_⟩;rw[hg]at h1;cases h1;rw[hb]at h2;cases h2;exact hc
theorem zu {F:ϊ→Bool}{S:Sd}{f:ϊ}{g:Func}{e:Array Φ→Sem Φ}(h:prog.funcs[f]?=some g)(hn:(g.name== "runtime.NumGoroutine")=false)(hb:g.body.isNone=true)(hx:Extern.findNext g=none)(hf:Extern.find g=some e)(he:∀(ρ:Rn) (args:Array Φ),s7 S ρ→aa prog ρ (VV ρ) (e args) (e (args.map (rv ρ)))):Qz F S f:=by
 refine⟨⟨g,h,hn,.inr ⟨hb,hx,e,hf,λρ args _ XY=>he ρ args XY⟩⟩,λfn c h1 h2=>?_⟩;rw[h]at h1;cases h1;rw[h2]at hb;cases hb
theorem abD:Qz Fc Sc 202:=zu (g:=f202) (e:=υ) (by kernel_rfl) (by kernel_rfl) (by kernel_rfl) (by kernel_rfl) (by kernel_rfl) λ_ args hx=>wS args
theorem abE:Qz Fc Sc 215:=zu (g:=f215) (e:=ύ) (by kernel_rfl) (by kernel_rfl) (by kernel_rfl) (by kernel_rfl) (by kernel_rfl) λ_ args hx=>QQ args
theorem abF:Qz Fc Sc 248:=zu (g:=f248) (e:=Extern.BytealgIndex.index) (by kernel_rfl) (by kernel_rfl) (by kernel_rfl) (by kernel_rfl) (by kernel_rfl) λ_ args hx=>QT (λg hg=>hx.l g (by rw[NA]at hg;exact hg)) args
theorem abG:Qz Fz Sz 202:=zu (g:=f202) (e:=υ) (by kernel_rfl) (by kernel_rfl) (by kernel_rfl) (by kernel_rfl) (by kernel_rfl) λ_ args hx=>wS args
theorem abH:Qz Fz Sz 215:=zu (g:=f215) (e:=ύ) (by kernel_rfl) (by kernel_rfl) (by kernel_rfl) (by kernel_rfl) (by kernel_rfl) λ_ args hx=>QQ args
theorem XZ:prog.types.toList.all tyB=true:=by kernel_rfl
theorem adN:(Lc.all λf=>f==202||f==215||f==248||qB prog Fc Sc prog.funcs[f]?)=true:=by kernel_rfl
theorem X0 (f:Nat)(hf:f∈Lc):Qz Fc Sc f:=by
 have h:=zaI.1 adN f hf;by_cases QV:f=202
 ·subst QV;exact abD
 by_cases QW:f=215
 ·subst QW;exact abE
 by_cases abI:f=248
 ·subst abI;exact abF
 simp only[beq_eq_false_iff_ne.2 QV,beq_eq_false_iff_ne.2 QW,beq_eq_false_iff_ne.2 abI,Bool.false_or]at h;exact XX h
theorem X1 {f:ϊ}(h:Fc f=true):f∈Lc:=by
 unfold Fc at h;rw[zcl]at h;obtain⟨x,hx,e⟩:=h;rw[←(beq_iff_eq.1 e)];exact hx
theorem nu:jM prog Fc Sc:=by
 refine⟨λg hg=>?_,λf hf=>(X0 f (X1 hf)).1,λf fn c hf h1 h2=>(X0 f (X1 hf)).2 fn c h1 h2,Me XZ⟩;have uZ:(g==149||g==187||g==186)=true:=hg;simp only[Bool.or_eq_true,zaJ]at uZ;rcases uZ with(rfl|rfl)|rfl<;>rfl
theorem adO:(Lz.all λf=>f==202||f==215||qB prog Fz Sz prog.funcs[f]?)=true:=by kernel_rfl
theorem X2 (f:Nat)(hf:f∈Lz):Qz Fz Sz f:=by
 have h:=zaI.1 adO f hf;by_cases QV:f=202
 ·subst QV;exact abG
 by_cases QW:f=215
 ·subst QW;exact abH
 simp only[beq_eq_false_iff_ne.2 QV,beq_eq_false_iff_ne.2 QW,Bool.false_or]at h;exact XX h
theorem X3 {f:ϊ}(h:Fz f=true):f∈Lz:=by
 unfold Fz at h;rw[zcl]at h;obtain⟨x,hx,e⟩:=h;rw[←(beq_iff_eq.1 e)];exact hx
theorem cj:jM prog Fz Sz:=by
 refine⟨λg hg=>?_,λf hf=>(X2 f (X3 hf)).1,λf fn c hf h1 h2=>(X2 f (X3 hf)).2 fn c h1 h2,Me XZ⟩;have uZ:(g==149||g==187||g==186)=true:=hg;simp only[Bool.or_eq_true,zaJ]at uZ;rcases uZ with(rfl|rfl)|rfl<;>rfl
end Go.Ren
set_option linter.unusedSectionVars false
namespace Go.Ren
open Go.Proofs.Tryz
open Go Go.Conc Go.ConcX Go.RowKit Go.Conc.Lib Go.ConcX.Gen Go.Proofs
theorem abJ:prog.funcs[71]?=some f71:=by kernel_rfl
def QX:π:=baseD 69
def tK (n:Nat):π:={ (default:π)with fn:=n,defers:=[],mode:= .panicking [goexitEntry] }
theorem J7 (T:Array Φ):QuitsD prog 2 0 (G { QX.at ⟨T,[]⟩ []with mode:= .returning } [(tK prog.funcs.size)]):=by
 refine QuitsD.ctl (g':=G (tK prog.funcs.size) []) rfl (λw=>?_) ?_
 ·simp[G,ψ,unwind,doReturn,results,π.at,QX,baseD,tK,f69,seen,GStep.after,goexitEntry]
 refine QuitsD.ctl (g':={ G (tK prog.funcs.size) []with status:= .finished }) rfl (λw=>?_) ⟨rfl,rfl⟩;simp[G,ψ,unwind,tK,goexitEntry,π.catches];rfl
def zv (f:Func):Array Oper:=match f.body with|some (.seq _ (.region _ ops _))=>ops|_=>#[]
theorem Gj [Payload] {Wg C Low:Nat} [Shy Wg C] {vals:List Φ}(hW:Wg<Low)(hC:C<Low)(hCW:C≠Wg)(T T':Array Φ)(todo:List Item)(w:Ξ)(hF:KCa cv.tWg Wg w∧Full C vals w):Goes prog false (RCa cv.tWg Wg Low) (DCs lD Wg C) (AtR0 prog cv.tWg Wg C Low vals) (4+23)
  (G { (base 71).at ⟨T',[]⟩ todo with mode:= .returning } [QX.at ⟨T,[dcall 70 #[.pointer (some ⟨Wg,0,none⟩)]]⟩ [.inRegion (zv f69) [2]],(tK prog.funcs.size)]) w:=by
 u_leave0 abJ (ka_rely hC hCW) hF
 u_c zaZ (ka_rely hC hCW) hF
 u_c stepG_end (ka_rely hC hCW) hF
 u_in (ka_rely hC hCW) hF
 rw[stepG_unwind_enter rfl Mc (nm_done cv) rfl];simp only[goes_go];refine⟨by u_nil,?_⟩;have hA:=@doneD _ cv prog wgz lD Wg C Low _ vals hW hC hCW;exact hA rfl (J7 _) _ hF
theorem QY:(prog.funcs[71]?).any (·.norace)=false:=by kernel_rfl
theorem BF {Wg Low ch:Nat}{x y:vI Wg Low}{own:Nat→Prop}(V0:x.C≠ch)(NB:y.C≠ch)(T T':Array Φ)(todo:List Item)(ty rt:η)(bs:Array Bool)(w:Ξ)
 (hx:w.heap[x.C]?=some (.cells x.vals.toArray x.pl.ety))(hy:w.heap[y.C]?=some (.cells y.vals.toArray y.pl.ety)):
 zi prog ch (Ny prog cv.tWg x y) own (G { (base 71).at ⟨T',[fP (.chan (some ch)) ty rt bs]⟩ todo with mode:= .returning } [QX.at ⟨T,[dcall 70 #[.pointer (some ⟨Wg,0,none⟩)]]⟩ [.inRegion (zv f69) [2]],(tK prog.funcs.size)]) w:=by
 refine⟨rfl,rfl,G { (base 71).at ⟨T',[]⟩ todo with mode:= .returning } [QX.at ⟨T,[dcall 70 #[.pointer (some ⟨Wg,0,none⟩)]]⟩ [.inRegion (zv f69) [2]],(tK prog.funcs.size)],rfl,λs r tm hc=>⟨r8 rfl hc QY,λJK=>⟨?_,?_⟩⟩⟩
 ·exact⟨_,@Gj x.pl Wg x.C Low (nt Wg x.C Low pq x.hW x.hC) x.vals x.hW x.hC x.hCW T T' todo _ ⟨.inl JK,λ_=>(lC V0).trans hx⟩⟩
 ·exact⟨_,@Gj y.pl Wg y.C Low (nt Wg y.C Low pq y.hW y.hC) y.vals y.hW y.hC y.hCW T T' todo _ ⟨.inl JK,λ_=>(lC NB).trans hy⟩⟩
theorem QZ {Wg Low ch:Nat}{x y:vI Wg Low}{ro own:Nat→Prop}(V0:x.C≠ch)(NB:y.C≠ch)(BG:ro x.C)(Gk:ro y.C)(T T':Array Φ)(k:List Item)(ty rt:η)(bs:Array Bool)(w:Ξ)
 (hx:w.heap[x.C]?=some (.cells x.vals.toArray x.pl.ety))(hy:w.heap[y.C]?=some (.cells y.vals.toArray y.pl.ety)):
 ky prog ro ch (Ny prog cv.tWg x y) [] own (G ((base 71).at ⟨T',[fP (.chan (some ch)) ty rt bs]⟩ (.code .ret::k)) [QX.at ⟨T,[dcall 70 #[.pointer (some ⟨Wg,0,none⟩)]]⟩ [.inRegion (zv f69) [2]],(tK prog.funcs.size)]) w:=
 af.silent rfl (λ_=>stepG_ret') (.stop λw₁ hr=>BF V0 NB T T' _ ty rt bs w₁ ((hr.block _ (.inr BG)).trans hx) ((hr.block _ (.inr Gk)).trans hy))
end Go.Ren
namespace Go.Loop
def dD (c:Int):Bool:=decide (48≤c∧c≤57)
def mD (c:Int):Bool:=decide ((97≤c∧c≤122)∨(65≤c∧c≤90))
def X4 (c:Int):Bool:=decide (c=43∨c=45∨c=42∨c=47∨c=60∨c=62∨c=61∨c=63∨c=33∨c=46∨c=95)
def bz (c:Int):Bool:=mD c||dD c||X4 c
def zw (c:UInt8):Bool:=bz (c.toNat:Int)
def br (p:Int→Bool):List UInt8→Nat
 |[]=>0
 |c::r=>if p (c.toNat:Int)then br p r+1 else 0
def cy:List UInt8→Bool
 |[]=>false
 |c::r=>if c.toNat=43∨c.toNat=45 then(match r with|[]=>false|d::_=>dD (d.toNat:Int))else dD (c.toNat:Int)
def oY (l:List UInt8):Bool:=!l.isEmpty&&!(l==[46])&&!cy l&&l.all zw
def xx (n d:Int):Bool:=decide (1≤d∧d≤1000000∧-1000000≤n∧n≤1000000∧ϖ n d=1)
theorem Gl (n d:Int)(hd:1≤d):(d/((ϖ n d:Nat):Int)==d)=decide (ϖ n d=1):=by
 have hp:0<ϖ n d:=zct _ (by omega);rw[zaP,zaJ,decide_eq_true_iff];constructor
 ·intro h;by_cases h1:ϖ n d=1
  ·exact h1
  ·exfalso;have h2:(2:Int)≤((ϖ n d:Nat):Int):=by omega
   have:d/((ϖ n d:Nat):Int)<d:=Int.ediv_lt_self_of_pos_of_ne_one (by omega) (by omega);omega
 ·intro h;rw[h];simp
theorem BH (c:UInt8)(r:List UInt8)(h1:¬(c.toNat:Int)=43)(h2:¬(c.toNat:Int)=45):cy (c::r)=dD (c.toNat:Int):=by
 simp only[cy];rw[zaa (by omega)]
theorem rJ (c:UInt8)(h:(c.toNat:Int)=43∨(c.toNat:Int)=45):cy [c]=false:=by
 simp only[cy];rw[zac (by omega)]
theorem rK (c d:UInt8)(r:List UInt8)(h:(c.toNat:Int)=43∨(c.toNat:Int)=45):cy (c::d::r)=dD (d.toNat:Int):=by
 simp only[cy];rw[zac (by omega)]
theorem Gm (p:Int→Bool)(l:List UInt8):decide (br p l=l.length)=l.all (λc=>p (c.toNat:Int)):=by
 induction l with
 |nil=>rfl
 |cons c r ih=>
  simp only[br,zat,zar];by_cases h:p (c.toNat:Int)=true
  ·simp only[h,if_true,zbL,←ih];rw[zaP];simp
  ·simp[h]
def nameOf (n:Int):List UInt8:=
 if n=32 then[115,112,97,99,101]else if n=10 then[110,101,119,108,105,110,101]else if n=9 then[116,97,98]
 else if n=0 then[110,117,108]else if n=127 then[100,101,108,101,116,101]else if n=27 then[101,115,99,97,112,101]else[]
def hasName (n:Int):Bool:=decide (n=32∨n=10∨n=9∨n=0∨n=127∨n=27)
def tL (n:Int):Bool:=hasName n||decide (33≤n∧n≤126)
def kz (l:List UInt8):Int:=
 if l=[115,112,97,99,101]then 32 else if l=[110,101,119,108,105,110,101]then 10 else if l=[116,97,98]then 9
 else if l=[110,117,108]then 0 else if l=[100,101,108,101,116,101]then 127 else if l=[101,115,99,97,112,101]then 27 else -1
structure Tok where
 kind:Nat
 from_:Nat
 ic:Nat
 text:List UInt8
 n:Int
 d:Int
 fault:Int
deriving DecidableEq
def ax (k a e:Nat):Tok:=⟨k,a,e,[],0,0,0⟩
def bQ (a:Nat):Tok:=ax 1 a a
def mE (s:List UInt8):Tok:=ax 0 s.length s.length
def Tok.lastB (t:Tok):Bool:=decide (t.kind=0∨t.kind=1)
def fQ (c:UInt8):Bool:=decide (c.toNat=32∨c.toNat=9∨c.toNat=10)
def fT:List UInt8→Nat
 |[]=>0
 |c::r=>if c=10 then 0 else fT r+1
def bX:Nat→List UInt8→Nat×Bool
 |o,c::d::r=>
  if c=35∧d=124 then((bX (o+1) r).1+2,(bX (o+1) r).2)
  else if c=124∧d=35 then(if o≤1 then(2,true)else((bX (o-1) r).1+2,(bX (o-1) r).2))
  else((bX o (d::r)).1+1,(bX o (d::r)).2)
 |_,[_]=>(1,false)
 |_,[]=>(0,false)
def fU:List UInt8→Bool
 |c::d::_=>decide (c=35∧d=124)
 |_=>false
def cF:Nat→Bool→List UInt8→Nat×Bool
 |0,b,_=>(0,b)
 |_+1,b,[]=>(0,b)
 |n+1,b,c::r=>
  if fQ c then((cF n b r).1+1,(cF n b r).2)
  else if c.toNat=59 then((cF n b (r.drop (fT r))).1+(fT r+1),(cF n b (r.drop (fT r))).2)
  else if fU (c::r)then((cF n (bX 0 (c::r)).2 ((c::r).drop (bX 0 (c::r)).1)).1+(bX 0 (c::r)).1,(cF n (bX 0 (c::r)).2 ((c::r).drop (bX 0 (c::r)).1)).2)
  else(0,b)
def pZ (s:List UInt8)(a:Nat):Nat:=a+(cF (s.drop a).length true (s.drop a)).1
def Gn (c:UInt8):Option UInt8:=if c=92∨c=34 then some c else if c=110 then some 10 else if c=116 then some 9 else none
inductive Q0 where
 |fin
 |bad
 |ok (e:Nat) (b:List UInt8)
def ft:Nat→List UInt8→List UInt8→Q0
 |_,_,[]=> .fin
 |i,acc,[c]=>if c=34 then .ok (i+1) acc else .fin
 |i,acc,c::e::r=>if c=34 then .ok (i+1) acc else if c=92 then(match Gn e with|none=> .bad |some b=>ft (i+2) (acc++[b]) r)else ft (i+1) (acc++[c]) (e::r)
def oZ (s:List UInt8)(a:Nat):Tok:=
 match ft (a+1) [] (s.drop (a+1))with
 |.fin=>mE s
 |.bad=>bQ a
 |.ok e b=>{ ax 8 a e with text:=b }
def tM (l:List UInt8):Option Int:=if 0≤kz l then some (kz l)else none
def fX (s:List UInt8)(a b:Nat):List UInt8:=(s.drop a).take (b-a)
def ny (s:List UInt8)(a:Nat):Tok:=
 if 1<br mD (s.drop (a+2))then
  (match tM (fX s (a+2) (a+2+br mD (s.drop (a+2))))with
   |none=>bQ a
   |some k=>{ ax 9 a (a+2+br mD (s.drop (a+2)))with n:=k })
 else match s.drop (a+2)with
  |[]=>bQ a
  |c::_=>if 33≤c.toNat∧c.toNat≤126 then { ax 9 a (a+3)with n:=(c.toNat:Int) } else bQ a
def eK (n:Int)(l:List UInt8):Int:=l.foldl (λn c=>min (n*10+((c.toNat:Int)-48)) 1000001) n
def aD (l:List UInt8):Int:=eK 0 l
def eQ (s:List UInt8)(a:Nat):Option Tok:=
 let k:=br dD (s.drop (a+1))
 if k=0∨3<k then none
 else match s.drop (a+1+k)with
  |[]=>none
  |c::_=>if c.toNat=61 then some { ax 10 a (a+1+k+1)with n:=aD (fX s (a+1) (a+1+k)) } else if c.toNat=35 then some { ax 11 a (a+1+k+1)with n:=aD (fX s (a+1) (a+1+k)) } else none
def eR (s:List UInt8)(a:Nat):Tok:=
 let e:=a+1+br bz (s.drop (a+1));let w:=fX s (a+1) e
 if w=[116]∨w=[116,114,117,101]then { ax 12 a e with n:=1 } else if w=[102]∨w=[102,97,108,115,101]then ax 12 a e else bQ a
def iM (s:List UInt8)(a:Nat):Tok:=
 match s.drop (a+1)with
 |[]=>(eQ s a).getD (eR s a)
 |c::_=>if c.toNat=40 then ax 5 a (a+2)else if c.toNat=59 then ax 6 a (a+2)else if c.toNat=92 then ny s a else(eQ s a).getD (eR s a)
def oh:List UInt8→Option (List UInt8×List UInt8)
 |[]=>none
 |c::r=>if c.toNat=47 then some ([],r)else(oh r).map λp=>(c::p.1,p.2)
def dE (l:List UInt8):Bool:=!l.isEmpty&&l.all λc=>dD (c.toNat:Int)
def numberOf (neg:Bool)(l:List UInt8):Option (Int×Int×Int):=
 let p:=(oh l).getD (l,[49])
 if dE p.1&&dE p.2 then
  (let n:=aD p.1
   let d:=aD p.2
   if 1000000<n∨1000000<d then some (0,0,7)
   else if d=0 then some (0,0,3)
   else let m:=if neg then -n else n
    some (m.tdiv (ϖ m d),d/(ϖ m d),0))
 else none
def fC:List UInt8→Option (Int×Int×Int)
 |[]=>none
 |c::r=>if c.toNat=45 then numberOf true r else if c.toNat=43 then numberOf false r else numberOf false (c::r)
def l7 (s:List UInt8)(a:Nat):Tok:=
 let e:=a+br bz (s.drop a);let w:=fX s a e
 if w=[46]then ax 7 a e
 else if !cy w then { ax 14 a e with text:=w }
 else match fC w with
  |none=>bQ a
  |some (n,d,f)=>{ ax 13 a e with n:=n,d:=d,fault:=f }
def jX (s:List UInt8)(a:Nat):Tok:=
 match s.drop a with
 |[]=>mE s
 |c::_=>
  if c.toNat=40 then ax 2 a (a+1)else if c.toNat=41 then ax 3 a (a+1)else if c.toNat=39 then ax 4 a (a+1)
  else if c.toNat=34 then oZ s a else if c.toNat=35 then iM s a else if bz (c.toNat:Int)then l7 s a else bQ a
def aL (s:List UInt8)(a:Nat):Tok:=jX s (pZ s a)
def aG:Nat→List UInt8→Nat→List Tok
 |0,_,_=>[]
 |n+1,s,a=>if(aL s a).lastB then[aL s a]else aL s a::aG n s (aL s a).ic
theorem tN:∀l:List UInt8,fT l≤l.length
 |[]=>zab _
 |c::r=>by
  have:=tN r;unfold fT;split<;>simp<;>omega
theorem Gp (o:Nat)(l:List UInt8):(bX o l).1≤l.length:=by
 fun_induction bX o l<;>simp_all<;>omega
theorem Cw (o:Nat)(l:List UInt8)(h:fU l=true):2≤(bX o l).1:=by
 match l,h with
 |c::d::r,h=>
  simp only[fU,zaQ]at h;unfold bX;simp[h]
theorem tO:∀(n:Nat) (b:Bool) (l:List UInt8),(cF n b l).1≤l.length
 |0,b,l=>by simp[cF]
 |n+1,b,[]=>by simp[cF]
 |n+1,b,c::r=>by
  have h1:=tO n b r;have h2:=tO n b (r.drop (fT r));have h3:=tO n (bX 0 (c::r)).2 ((c::r).drop (bX 0 (c::r)).1);have h4:=tN r;have h5:=Gp 0 (c::r);unfold cF;split
  ·simp;omega
  ·split
   ·simp at h2 ⊢;omega
   ·split
    ·simp only[zax]at h3 ⊢;omega
    ·simp
theorem Gq {s:List UInt8}{a:Nat}(h:a≤s.length):a≤pZ s a∧pZ s a≤s.length:=by
 have:=tO (s.drop a).length true (s.drop a);unfold pZ;simp only[zax]at this ⊢;omega
theorem jP (p:Int→Bool):∀l:List UInt8,br p l≤l.length
 |[]=>zab _
 |c::r=>by
  have:=jP p r;unfold br;split<;>simp<;>omega
theorem zx:∀(i:Nat) (acc l:List UInt8) (e:Nat) (b:List UInt8),ft i acc l=.ok e b→i<e∧e≤i+l.length
 |i,acc,[],e,b,h=>by simp[ft]at h
 |i,acc,[c],e,b,h=>by
  unfold ft at h;split at h
  ·simp only[Q0.ok.injEq]at h;obtain⟨rfl,_⟩:=h;simp
  ·simp at h
 |i,acc,c::x::r,e,b,h=>by
  unfold ft at h;split at h
  ·simp only[Q0.ok.injEq]at h;obtain⟨rfl,_⟩:=h;simp
  ·split at h
   ·split at h
    ·simp at h
    ·have:=zx _ _ _ _ _ h;simp at this ⊢;omega
   ·have:=zx _ _ _ _ _ h;simp at this ⊢;omega
def zy (s:List UInt8)(a:Nat)(t:Tok):Prop:=t.from_≤s.length∧t.ic≤s.length∧(t.lastB=false→a<t.ic∧a≤t.from_)
theorem ie {s:List UInt8}{a b:Nat}(h:b≤s.length):zy s a (bQ b):=⟨h,h,λe=>by simp[bQ,ax,Tok.lastB]at e⟩
theorem Gr {s:List UInt8}{a:Nat}:zy s a (mE s):=⟨zab _,zab _,λe=>by simp[mE,ax,Tok.lastB]at e⟩
theorem fD {s:List UInt8}{a:Nat}{t:Tok}(h1:t.from_=a)(h2:a<t.ic)(h3:t.ic≤s.length):zy s a t:=⟨by omega,h3,λ_=>⟨h2,by omega⟩⟩
theorem J8 {s:List UInt8}{a:Nat}(h:a<s.length):zy s a (eR s a):=by
 have:=jP bz (s.drop (a+1));simp only[zax]at this;unfold eR;simp only;split
 ·exact fD rfl (by simp[ax];omega) (by simp[ax];omega)
 ·split
  ·exact fD rfl (by simp[ax];omega) (by simp[ax];omega)
  ·exact ie (by omega)
theorem J9 {s:List UInt8}{a:Nat}(h:a<s.length):zy s a ((eQ s a).getD (eR s a)):=by
 have:=jP dD (s.drop (a+1));simp only[zax]at this;have ht:=J8 h;unfold eQ;simp only;split
 ·exact ht
 ·split
  ·exact ht
  ·rename_i hd;have hl:a+1+br dD (s.drop (a+1))<s.length:=by
    have h2:=zal Ϝ hd;simp only[zax,zar]at h2;omega
   split
   ·exact fD rfl (by simp[ax];omega) (by simp[ax];omega)
   ·split
    ·exact fD rfl (by simp[ax];omega) (by simp[ax];omega)
    ·exact ht
theorem NC {s:List UInt8}{a:Nat}(h:a+1<s.length):zy s a (ny s a):=by
 have:=jP mD (s.drop (a+2));simp only[zax]at this;unfold ny;split
 ·split
  ·exact ie (by omega)
  ·exact fD rfl (by simp[ax];omega) (by simp[ax];omega)
 ·split
  ·exact ie (by omega)
  ·rename_i hd;have h2:=zal Ϝ hd;simp only[zax,zar]at h2;split
   ·exact fD rfl (by simp[ax]) (by simp[ax];omega)
   ·exact ie (by omega)
theorem ND {s:List UInt8}{a:Nat}(h:a<s.length):zy s a (iM s a):=by
 have hl:=J9 h;unfold iM;split
 ·exact hl
 ·rename_i hd;have h2:=zal Ϝ hd;simp only[zax,zar]at h2;split
  ·exact fD rfl (by simp[ax]) (by simp[ax];omega)
  ·split
   ·exact fD rfl (by simp[ax]) (by simp[ax];omega)
   ·split
    ·exact NC (by omega)
    ·exact hl
theorem NF {s:List UInt8}{a:Nat}(h:a<s.length):zy s a (oZ s a):=by
 unfold oZ;split
 ·exact Gr
 ·exact ie (by omega)
 ·rename_i e b he;have:=zx _ _ _ _ _ he;simp only[zax]at this;exact fD rfl (by simp[ax];omega) (by simp[ax];omega)
theorem NG {s:List UInt8}{a:Nat}(h:a<s.length)(hp:0<br bz (s.drop a)):zy s a (l7 s a):=by
 have:=jP bz (s.drop a);simp only[zax]at this;unfold l7;simp only;split
 ·exact fD rfl (by simp[ax];omega) (by simp[ax];omega)
 ·split
  ·exact fD rfl (by simp[ax];omega) (by simp[ax];omega)
  ·split
   ·exact ie (by omega)
   ·exact fD rfl (by simp[ax];omega) (by simp[ax];omega)
theorem V1 {s:List UInt8}{a:Nat}:zy s a (jX s a):=by
 unfold jX;split
 ·exact Gr
 ·rename_i c r hd;have h2:=zal Ϝ hd;simp only[zax,zar]at h2;have hlt:a<s.length:=by omega
  split
  ·exact fD rfl (by simp[ax]) (by simp[ax];omega)
  ·split
   ·exact fD rfl (by simp[ax]) (by simp[ax];omega)
   ·split
    ·exact fD rfl (by simp[ax]) (by simp[ax];omega)
    ·split
     ·exact NF hlt
     ·split
      ·exact ND hlt
      ·split
       ·rename_i hw;exact NG hlt (by rw[hd];simp[br,hw])
       ·exact ie (by omega)
theorem Cx {s:List UInt8}{a:Nat}(h:a≤s.length):zy s a (aL s a):=by
 have h1:=Gq h;obtain⟨f1,f2,f3⟩:=V1 (s:=s) (a:=pZ s a);exact⟨f1,f2,λe=>by have:=f3 e;unfold aL at *;omega⟩
end Go.Loop
set_option linter.unusedSectionVars false
namespace Go.Ren
open Go.Proofs.Tryz
open Go Go.Conc Go.ConcX Go.RowKit Go.Conc.Lib Go.ConcX.Gen Go.Proofs Go.Loop
def ed (t:Tok):Array Φ:=#[Γ Δ t.kind,Γ Δ t.from_,Γ Δ t.ic,.string ⟨⟨t.text⟩⟩,Γ Δ t.n,Γ Δ t.d,Γ Δ t.fault]
def bR (t:Tok):Φ:= .agg (ed t)
theorem eU (t:Tok):gq (bR t):=pY λx hx=>by
 simp only[ed,zbR,zav,zbz,or_false]at hx;rcases hx with rfl|rfl|rfl|rfl|rfl|rfl|rfl<;>intro ρ<;>simp[rv]
theorem Q1 (s:ByteArray):gq (.string s):=λρ=>by simp[rv]
theorem Gs (k:IntKind)(n:Int):gq (.int k n):=λρ=>by simp[rv]
theorem NH (t:Bool):gq (.bool t):=λρ=>by simp[rv]
theorem r9:(prog.info? 131).map (λi=>(i.size,i.zero))=some (7,some (bR ⟨0,0,0,[],0,0,0⟩)):=by kernel_rfl
theorem zA (t:Tok):(prog.info? 131).map (·.size)=some (ed t).size:=by
 obtain⟨i,hi,he⟩:=zaz.1 r9;simp only[zag]at he;rw[hi];simp[he.1,ed]
theorem Q2 (t:Tok):(ed t).all (·.oneCell')=true:=by simp[ed,Φ.oneCell']
theorem V2 (w:Ξ)(r:Nat):(Instr.fieldAt 131 (.pointer (some ⟨r,0,none⟩)) 2).run prog w=.ok (.pointer (some ⟨r,2,none⟩)) w:=by
 simp[go_sem,Instr.fieldAt,χ,fieldPlace,Addr.add]
theorem abK (w:Ξ)(a:Addr){v:Φ}(h:w.cell? a=some v):(φ 3 (.pointer (some a))).run prog w=.ok v w:=by
 simp[go_sem,φ,χ,loadVar,isAgg,h]
theorem adP:Fc 120=true:=by kernel_rfl
theorem adQ:Fc 121=true:=by kernel_rfl
def aZ:Code→Code|.seq _ c=>c|_=> .skip
def bD:Code→Code|.seq c _=>c|_=> .skip
def V3:Code→Code|.block _ c=>c|_=> .skip
def abL:Code→Code|.loop c=>c|_=> .skip
def fh:Code→Array Oper|.region _ o _=>o|_=>#[]
def Gt (f:Func):Code:=abL (V3 (aZ (aZ (f.body.getD .skip))))
def inS (f:Func):Code:=V3 (Gt f)
def r2 (f:Func):Array Oper:=fh (bD (inS f))
def in3 (f:Func):Code:=aZ (inS f)
def r3 (f:Func):Array Oper:=fh (bD (in3 f))
def Zx (f:Func):Code:=aZ (in3 f)
def r4 (f:Func):Array Oper:=fh (bD (bD (Zx f)))
def c4 (f:Func):Code:=aZ (bD (Zx f))
def r5 (f:Func):Array Oper:=fh (aZ (Zx f))
def kS (f:Func):List Item:=[.inBlock 1,.inLoop (Gt f),.inBlock 0]
variable {Wg Low ch:Nat}{x y:vI Wg Low}{ro own:Nat→Prop}
def csF (n:Nat)(f:Func)(Wg:Nat)(T:Array Φ):List π:=[QX.at ⟨T,[dcall 70 #[.pointer (some ⟨Wg,0,none⟩)]]⟩ [.inRegion (zv f) [2]],tK n]
structure SA (a:Act) (ch:Nat) (s:List UInt8) (n:Nat) (ty rt:η) (bs:Array Bool):Prop where
 size:a.tmps.size=16
 txt:a.eval (.tmp 0)=.string ⟨⟨s⟩⟩
 chan:a.eval (.tmp 1)=.chan (some ch)
 here:a.eval (.tmp 4)=Γ Δ n
 defers:a.defers=[fP (.chan (some ch)) ty rt bs]
theorem SA.put {a:Act}{s:List UInt8}{n:Nat}{ty rt:η}{bs:Array Bool}(h:SA a ch s n ty rt bs){t:Tmp}{v:Φ}(h0:t≠0)(h1:t≠1)(h4:t≠4):SA (a.put (some t) v) ch s n ty rt bs:=
 ⟨by rw[size_put];exact h.size,by rw[aF h0];exact h.txt,by rw[aF h1];exact h.chan,by rw[aF h4];exact h.here,by rw[cG];exact h.defers⟩
def Hx (x y:vI Wg Low)(W:Ξ):Prop:=W.heap[x.C]?=some (.cells x.vals.toArray x.pl.ety)∧W.heap[y.C]?=some (.cells y.vals.toArray y.pl.ety)
theorem Hx.on {W W':Ξ}(h:Hx x y W)(hx:ro x.C)(hy:ro y.C)(h':∀b,ro b→W'.heap[b]?=W.heap[b]?):Hx x y W':=⟨(h' _ hx).trans h.1,(h' _ hy).trans h.2⟩
section
variable (V0:x.C≠ch)(NB:y.C≠ch)(BG:ro x.C)(Gk:ro y.C){s:List UInt8}{T:Array Φ}{ty rt:η}{bs:Array Bool}
 (hN:∀(n:Nat) (w:Ξ),n≤s.length→Ϛ prog 120 #[.string ⟨⟨s⟩⟩,Γ Δ n] w λe _=>∃v,e=.returned v∧v=bR (aL s n))
 (hL:∀(t:Tok) (w:Ξ),Ϛ prog 121 #[bR t] w λe _=>∃v,e=.returned v∧v=.bool t.lastB)
theorem jY {main:Bool}{b:π}{a:Act}{ops:Array Oper}{i:Nat}{rest:List Nat}{o:Oper}{kk:List Item}{cs:List π}{w:Ξ}(ho:ops[i]?=some o)(hw:ϙ o (ϗ ops a.tmps)=true)(hk:b.kind≠.early){f:ϊ}{xs:Array Ϙ}{ats:Array η}{args:Array Φ}(hop:o.op=.call { callee:= .value (.func f),args:=xs,argTypes:=ats })(ha:xs.map a.eval=args)(kV:((prog.funcs[f]?).any λfn=>fn.body.isSome)=true:=by kernel_rfl)(FU:((prog.funcs[f]?).any λfn=>fn.name== "runtime.NumGoroutine")=false:=by kernel_rfl):ψ prog main (G (b.at a (.inRegion ops (i::rest)::kk)) cs) w=.go (G (π.enter prog f args .normal) (b.at a (.inRegion ops (i::rest)::kk)::cs)) w #[]:=by
 subst ha;cases hf:prog.funcs[f]? with
 |none=>rw[hf]at kV;simp at kV
 |some fn=>
  rw[hf]at kV FU;simp only[Option.any_some]at kV FU;obtain⟨cc,hcc⟩:=zcy.1 kV;have hne:¬fn.name= "runtime.NumGoroutine" :=by simpa using FU
  have hr:(θ a.eval o).run prog w=.ok (.enter f (xs.map a.eval)) w:=by
   unfold θ;simp[hop,resolve,invoke,callFunc,hf,hcc,hne,ϑ,Deferred.ofValue,go_sem]
  have he:(θ a.eval o).events prog w #[]=#[]:=by
   unfold θ;simp[hop,resolve,invoke,callFunc,hf,hcc,hne,ϑ,Deferred.ofValue,go_sem]
  rw[stepG_enter ho hw hk hr,listed_none he]
theorem adR (w:Ξ):prog.globals.size≤(JI prog w).heap.size:=by rw[pO];exact zab _
include V0 NB BG Gk hN hL in
theorem NI (m:Nat):∀(n:Nat) (a:Act) (W:Ξ) (own:Nat→Prop),n≤s.length→s.length-n<m→SA a ch s n ty rt bs→pn ro own W→prog.globals.size≤W.heap.size→Hx x y W→ky prog ro ch (Ny prog cv.tWg x y) ((aG m s n).map bR) own (G ((base 71).at a [.code (Gt f71),.inLoop (Gt f71),.inBlock 0]) (csF prog.funcs.size f69 Wg T)) W:=by
 induction m with
 |zero=>intro n a W own _ h;omega
 |succ m ih=>
  intro n a W own hn hm hS hH hb hP;obtain⟨rest,hgp,Cy⟩:∃rest,(aG (m+1) s n).map bR=bR (aL s n)::rest∧rest=if(aL s n).lastB then[]else(aG m s (aL s n).ic).map bR:=by
   refine⟨_,?_,rfl⟩;rw[aG];split<;>simp
  rw[hgp,dB];refine af.silent rfl (λ_=>stepG_block (id:=1) (c:=inS f71)) ?_;refine af.silent rfl (λ_=>zaU (x:= .region 2 (r2 f71) false) (y:=in3 f71)) ?_;refine af.silent rfl (λ_=>zaX) ?_;refine af.mv (ops:=r2 f71) (i:=0) (rest:=[1,2,3,4]) rfl rfl (by decide) (dd:=some 7) rfl (.inl rfl) hS.txt ?_;have hS1:=hS.put (t:=7) (v:= .string ⟨⟨s⟩⟩) (by decide) (by decide) (by decide);have h7:(a.put (some 7) (.string ⟨⟨s⟩⟩)).eval (.tmp 7)=.string ⟨⟨s⟩⟩:=aU (by rw[hS.size];decide);generalize a.put (some 7) (.string ⟨⟨s⟩⟩)=a1 at *;refine af.mv (ops:=r2 f71) (i:=1) (rest:=[2,3,4]) rfl rfl (by decide) (dd:=some 8) rfl (.inl rfl) hS1.here ?_;have rX:=hS1.put (t:=8) (v:= Γ Δ n) (by decide) (by decide) (by decide);have h8:(a1.put (some 8) (Γ Δ n)).eval (.tmp 8)=Γ Δ n:=aU (by rw[hS1.size];decide);have h7':(a1.put (some 8) (Γ Δ n)).eval (.tmp 7)=.string ⟨⟨s⟩⟩:=(aF (by decide)).trans h7;generalize a1.put (some 8) (Γ Δ n)=a2 at *;refine af.call' nu (cs:=csF prog.funcs.size f69 Wg T) (f:=120) (args:=#[.string ⟨⟨s⟩⟩,Γ Δ n]) adP (λv hv=>?_) (Qv:=λv=>v=bR (aL s n)) (λv hv=>hv▸eU _) (c:=(base 71).at a2 (.inRegion (r2 f71) [2,3,4]::.code (in3 f71)::kS f71)) rfl (λw₁=>?_) hb hH (λw' _=>hN n w' hn) ?_
  ·simp only[zbR,zav,zbz,or_false]at hv;rcases hv with rfl|rfl
   ·exact Q1 _
   ·exact Gs _ _
  ·exact jY (ops:=r2 f71) (i:=2) rfl rfl (by decide) rfl (by simp[h7',h8])
  rintro _ W1 afJ rfl Zy hH1 adS Zz;rw[zbY];change af _ _ _ _ _ (G ((base 71).at (a2.put (some 9) (bR (aL s n))) _) _) _;have hS3:=rX.put (t:=9) (v:=bR (aL s n)) (by decide) (by decide) (by decide);have h9:(a2.put (some 9) (bR (aL s n))).eval (.tmp 9)=bR (aL s n):=aU (by rw[rX.size];decide);generalize a2.put (some 9) (bR (aL s n))=a3 at *;have hb1:prog.globals.size≤W1.heap.size:=zah hb Zz;have hP1:Hx x y W1:=hP.on BG Gk λb hb=>adS b (.inr hb);have hA0:=At.empty (S:=Sc) hH1 hb1;obtain⟨i76,ZA,Q3⟩:=zaz.1 r9;simp only[zag]at Q3;have hg0:=adR W1;generalize cN jW prog.globals.size W1.heap.size=ρ0 at hA0;generalize JI prog W1=w0 at hA0 hg0;refine af.Qi nu (ops:=r2 f71) (i:=3) (rest:=[4]) rfl rfl (by decide) (dd:=some 5) rfl rfl ZA Q3.2 hA0 ?_;intro w1 sP W2 adT e1 V4 PF;have hs1:w1.heap.size=w0.heap.size:=by rw[e1]
  rw[←hs1];have hS4:=hS3.put (t:=5) (v:= .pointer (some ⟨sP w1.heap.size,0,none⟩)) (by decide) (by decide) (by decide);have h5:(a3.put (some 5) (.pointer (some ⟨sP w1.heap.size,0,none⟩))).eval (.tmp 5)=.pointer (some ⟨sP w1.heap.size,0,none⟩):=aU (by rw[hS3.size];decide);have h9':(a3.put (some 5) (.pointer (some ⟨sP w1.heap.size,0,none⟩))).eval (.tmp 9)=bR (aL s n):=(aF (by decide)).trans h9;generalize a3.put (some 5) (.pointer (some ⟨sP w1.heap.size,0,none⟩))=a4 at *;have hg1:prog.globals.size≤w1.heap.size:=by omega
  refine af.storeT nu (ops:=r2 f71) (i:=4) (rest:=[]) rfl rfl (by decide) (dd:=none) rfl (s:=5) (t:=9) (by decide) rfl (c:=ed ⟨0,0,0,[],0,0,0⟩) (c':=ed (aL s n)) (zA _) rfl (Q2 _) V4 h5 (by rw[h9'];exact(eU _ _).symm) (eU _ _) hg1 ?_;intro w2 za W3 adU e2 se PG;rw[y8];have hs2:w2.heap.size=w1.heap.size:=by rw[e2]
  have hr2:za w2.heap.size=sP w1.heap.size:=by rw[hs2];exact PG.agree _ (by rw[bM];omega)
  rw[←hr2]at h5;have hP3:Hx x y W3:=(hP1.on BG Gk PF.ro).on BG Gk PG.ro;have hg2:prog.globals.size≤w2.heap.size:=by omega
  refine af.silent rfl (λ_=>zaZ) ?_;refine af.silent rfl (λ_=>zaU (x:= .region 3 (r3 f71) false) (y:=Zx f71)) ?_;refine af.silent rfl (λ_=>zaX) ?_;refine af.mv (ops:=r3 f71) (i:=0) (rest:=[1,2]) rfl rfl (by decide) (dd:=some 10) rfl (.inl rfl) hS4.chan ?_;have hS5:=hS4.put (t:=10) (v:= .chan (some ch)) (by decide) (by decide) (by decide);have h10:(a4.put (some 10) (.chan (some ch))).eval (.tmp 10)=.chan (some ch):=aU (by rw[hS4.size];decide);have h5':(a4.put (some 10) (.chan (some ch))).eval (.tmp 5)=.pointer (some ⟨za w2.heap.size,0,none⟩):=(aF (by decide)).trans h5;generalize a4.put (some 10) (.chan (some ch))=a5 at *;refine af.loadT nu (ops:=r3 f71) (i:=1) (rest:=[2]) rfl rfl (by decide) (dd:=some 11) rfl (s:=5) rfl underlying131 rfl (zA _) se h5' hg2 ?_;intro w3 Q4 W4 adV e3 xQ hO3;have hs3:w3.heap.size=w2.heap.size:=by rw[e3]
  have hr3:Q4 w3.heap.size=za w2.heap.size:=by rw[hs3];exact hO3.agree _ (by rw[bM];omega)
  rw[←hr3]at h5';have Q5:Hx x y W4:=hP3.on BG Gk hO3.ro;have hg3:prog.globals.size≤w3.heap.size:=by omega
  rw[show rv Q4 (.agg (ed (aL s n)))=bR (aL s n) from eU _ _];have hS6:=hS5.put (t:=11) (v:=bR (aL s n)) (by decide) (by decide) (by decide);have h11:(a5.put (some 11) (bR (aL s n))).eval (.tmp 11)=bR (aL s n):=aU (by rw[hS5.size];decide);have adW:(a5.put (some 11) (bR (aL s n))).eval (.tmp 10)=.chan (some ch):=(aF (by decide)).trans h10;have V5:(a5.put (some 11) (bR (aL s n))).eval (.tmp 5)=.pointer (some ⟨Q4 w3.heap.size,0,none⟩):=(aF (by decide)).trans h5';generalize a5.put (some 11) (bR (aL s n))=a6 at *;refine .stop λaC hr=>?_;refine⟨rfl,.tuple #[],?_,?_⟩
  ·have px:(θ a6.eval (r3 f71)[2]).run prog aC=.ok (.comm #[scase ch (bR (aL s n)) (.tuple #[])] true .send) aC:=by
    show(pure (.comm #[{ chan:=a6.eval (.tmp 10),send:=some (a6.eval (.tmp 11)),zero:= .tuple #[] }] true .send):Sem Next).run prog aC=_;rw[adW,h11];rfl
   rw[stepG_comm (ops:=r3 f71) (i:=2) rfl rfl (by decide) px,listed_none rfl];rfl
  show ky _ _ _ _ _ _ (G (((base 71).at a6 (.inRegion (r3 f71) [2]::.code (Zx f71)::kS f71)).finish Θ) (csF prog.funcs.size f69 Wg T)) aC;rw[zbY];change ky _ _ _ _ _ _ (G ((base 71).at a6 (.inRegion (r3 f71) []::.code (Zx f71)::kS f71)) (csF prog.funcs.size f69 Wg T)) aC;obtain⟨hA4,hO4⟩:=xQ.rely hr;generalize cN Q4 (w3.alloc (Obj.cells (ed (aL s n)) 131)).heap.size aC.heap.size=ρ4 at hA4 hO4;have hr4:ρ4 w3.heap.size=Q4 w3.heap.size:=hO4.agree _ (by rw[bM];omega);rw[←hr4]at V5;have hP5:Hx x y aC:=Q5.on BG Gk hO4.ro;have mF:prog.globals.size≤aC.heap.size:=hA4.xn.ry;clear hA0 V4 se xQ PF PG hO3 hO4 hP hP1 hP3 Q5;rw[dB];refine af.silent rfl (λ_=>zaZ) ?_;refine af.silent rfl (λ_=>zaU (x:=bD (Zx f71)) (y:= .region 5 (r5 f71) false)) ?_;refine af.silent rfl (λ_=>zaU (x:= .region 4 (r4 f71) false) (y:=c4 f71)) ?_;refine af.silent rfl (λ_=>zaX) ?_;refine af.loadT nu (ops:=r4 f71) (i:=0) (rest:=[1]) rfl rfl (by decide) (dd:=some 12) rfl (s:=5) rfl underlying131 rfl (zA _) hA4 V5 hg3 ?_;intro w5 Mf W5 adX e5 V6 hO5;have hs5:w5.heap.size=w3.heap.size:=by rw[e5]
  have ZB:Mf w5.heap.size=ρ4 w3.heap.size:=by rw[hs5];exact hO5.agree _ (by rw[bM];omega)
  rw[←ZB]at V5;have hP6:Hx x y W5:=hP5.on BG Gk hO5.ro;have hg5:prog.globals.size≤w5.heap.size:=by omega
  rw[show rv Mf (.agg (ed (aL s n)))=bR (aL s n) from eU _ _];have hS7:=hS6.put (t:=12) (v:=bR (aL s n)) (by decide) (by decide) (by decide);have xR:(a6.put (some 12) (bR (aL s n))).eval (.tmp 12)=bR (aL s n):=aU (by rw[hS6.size];decide);have h5c:(a6.put (some 12) (bR (aL s n))).eval (.tmp 5)=.pointer (some ⟨Mf w5.heap.size,0,none⟩):=(aF (by decide)).trans V5;generalize a6.put (some 12) (bR (aL s n))=a7 at *;refine af.call' nu (cs:=csF prog.funcs.size f69 Wg T) (f:=121) (args:=#[bR (aL s n)]) adQ (λv hv=>?_) (Qv:=λv=>v=.bool (aL s n).lastB) (λv hv=>hv▸NH _) (c:=(base 71).at a7 (.inRegion (r4 f71) [1]::.code (c4 f71)::.code (.region 5 (r5 f71) false)::kS f71)) rfl (λw₁=>?_) V6.xn.ry V6.hold (λw' _=>hL _ w') ?_
  ·simp only[zbR,zav,zbz,or_false]at hv;subst hv;exact eU _
  ·exact jY (ops:=r4 f71) (i:=1) rfl rfl (by decide) rfl (by simp[xR])
  rintro _ W6 afK rfl ho6 hH6 adY abM;rw[zbY];change af _ _ _ _ _ (G ((base 71).at (a7.put (some 13) (.bool (aL s n).lastB)) _) _) _;obtain⟨hA6,hO6⟩:=V6.call adY abM ho6 hH6;generalize cN Mf (w5.alloc (Obj.cells (ed (aL s n)) 131)).heap.size W6.heap.size=ρ6 at hA6 hO6;have BI:ρ6 w5.heap.size=Mf w5.heap.size:=hO6.agree _ (by rw[bM];omega);rw[←BI]at h5c;have hP7:Hx x y W6:=hP6.on BG Gk hO6.ro;have hS8:=hS7.put (t:=13) (v:= .bool (aL s n).lastB) (by decide) (by decide) (by decide);have h13:(a7.put (some 13) (.bool (aL s n).lastB)).eval (.tmp 13)=.bool (aL s n).lastB:=aU (by rw[hS7.size];decide);have h5d:(a7.put (some 13) (.bool (aL s n).lastB)).eval (.tmp 5)=.pointer (some ⟨ρ6 w5.heap.size,0,none⟩):=(aF (by decide)).trans h5c;generalize a7.put (some 13) (.bool (aL s n).lastB)=a8 at *;refine af.silent rfl (λ_=>zaZ) ?_;refine af.silent rfl (λ_=>stepG_cond (c:= .tmp 13) (x:= .ret) (y:= .skip) h13) ?_;by_cases zB:(aL s n).lastB=true
  ·rw[zac zB]at Cy;rw[Cy,zB,←dB];obtain⟨T8,D8⟩:=a8;have hD:D8=[fP (.chan (some ch)) ty rt bs]:=hS8.defers;subst hD;exact QZ V0 NB BG Gk T T8 _ ty rt bs W6 hP7.1 hP7.2
  have Q6:(aL s n).lastB=false:=by simpa using zB
  rw[zaa zB]at Cy;rw[Cy,Q6];refine af.silent rfl (λ_=>stepG_skip) ?_;refine af.silent rfl (λ_=>zaX) ?_;refine af.Zc nu (ops:=r5 f71) (i:=0) (rest:=[1,2]) rfl rfl (by decide) (dd:=some 14) rfl (s:=5) (j:=2) (off:=2) rfl V2 hA6 h5d hg5 ?_;intro w7 ρ7 W7 afL e7 hA7 hO7;have hs7:w7.heap.size=w5.heap.size:=by rw[e7]
  rw[←hs7];have hS9:=hS8.put (t:=14) (v:= .pointer (some ⟨ρ7 w7.heap.size,2,none⟩)) (by decide) (by decide) (by decide);have Jm:(a8.put (some 14) (.pointer (some ⟨ρ7 w7.heap.size,2,none⟩))).eval (.tmp 14)=.pointer (some ⟨ρ7 w7.heap.size,2,none⟩):=aU (by rw[hS8.size];decide);generalize a8.put (some 14) (.pointer (some ⟨ρ7 w7.heap.size,2,none⟩))=a9 at *;have hP8:Hx x y W7:=hP7.on BG Gk hO7.ro;refine af.abm nu (ops:=r5 f71) (i:=1) (rest:=[2]) rfl rfl (by decide) (dd:=some 15) rfl (s:=14) (off:=2) rfl (v:= Γ Δ (aL s n).ic) (λw a h=>abK w a h) rfl hA7 Jm (by omega) ?_;intro w8 ρ8 W8 adZ e8 hA8 hO8;have hP9:Hx x y W8:=hP8.on BG Gk hO8.ro;rw[Gs];have Q7:=hS9.put (t:=15) (v:= Γ Δ (aL s n).ic) (by decide) (by decide) (by decide);have h15:(a9.put (some 15) (Γ Δ (aL s n).ic)).eval (.tmp 15)=Γ Δ (aL s n).ic:=aU (by rw[hS9.size];decide);generalize a9.put (some 15) (Γ Δ (aL s n).ic)=a10 at *;refine af.mv (ops:=r5 f71) (i:=2) (rest:=[]) rfl rfl (by decide) (dd:=some 4) rfl (.inr rfl) h15 ?_;have ad0:SA (a10.put (some 4) (Γ Δ (aL s n).ic)) ch s (aL s n).ic ty rt bs:=⟨by rw[size_put];exact Q7.size,by rw[aF (by decide)];exact Q7.txt,by rw[aF (by decide)];exact Q7.chan,aU (by rw[Q7.size];decide),by rw[cG];exact Q7.defers⟩;generalize a10.put (some 4) (Γ Δ (aL s n).ic)=a11 at *;refine af.silent rfl (λ_=>zaZ) ?_;refine af.silent rfl (λ_=>stepG_inBlock) ?_;refine af.silent rfl (λ_=>stepG_inLoop) ?_;obtain⟨f1,f2,f3⟩:=Cx hn;have f4:=f3 Q6;have:=ih (aL s n).ic a11 W8 adZ f2 (by omega) ad0 hA8.hold hA8.xn.ry hP9;rw[dB]at this;exact this
end
end Go.Ren
set_option linter.unusedSectionVars false
namespace Go.Ren
open Go.Proofs.Tryz
open Go Go.Conc Go.ConcX Go.RowKit Go.Conc.Lib Go.ConcX.Gen Go.Proofs Go.Loop
theorem Q8 {e:η}(he:e=9∨e=132)(w:Ξ)(ad:Addr){v:Φ}(h:w.cell? ad=some v):(φ e (.pointer (some ad))).run prog w=.ok v w∧∀ev∈(φ e (.pointer (some ad))).events prog w #[],ev.loc=.cell ad∧ev.write=false:=by
 rcases he with rfl|rfl
 ·refine⟨by simp[go_sem,φ,χ,loadVar,isAgg,h],λev he=>?_⟩;have:(φ 9 (.pointer (some ad))).events prog w #[]=(load ad).events prog w #[]:=by simp[go_sem,φ,χ,loadVar,isAgg]
  rw[this]at he;exact(events_load_at w ad _ #[] h ev he).resolve_left (by simp)
 ·refine⟨by simp[go_sem,φ,χ,loadVar,isAgg,h],λev he=>?_⟩;have:(φ 132 (.pointer (some ad))).events prog w #[]=(load ad).events prog w #[]:=by simp[go_sem,φ,χ,loadVar,isAgg]
  rw[this]at he;exact(events_load_at w ad _ #[] h ev he).resolve_left (by simp)
def vK (Wg X Y:Nat):Deferred:={ target:= .fn (.func 69) #[.pointer (some ⟨Wg,0,none⟩),.pointer (some ⟨X,0,none⟩),.pointer (some ⟨Y,0,none⟩)],args:=#[] }
def X5 (Wg X Y:Nat):Array Φ:=#[.pointer (some ⟨Wg,0,none⟩),.pointer (some ⟨X,0,none⟩),.pointer (some ⟨Y,0,none⟩),Θ,Θ,Θ]
def BJ (f:Func):Code:=f.body.getD .skip
theorem NJ (Wg X Y:Nat)(w:Ξ):ψ prog false (born prog (vK Wg X Y)) w=.go (G (QX.at ⟨X5 Wg X Y,[]⟩ [.code (BJ f69)]) [(tK prog.funcs.size)]) w #[]:=by
 simp[born,ψ,unwind,callDeferred,vK,invoke,callFunc,f69,GStep.after,G,π.enter,QX,baseD,π.at,X5,BJ,tK,seen]
def r24 (f:Func):Array Oper:=fh (bD (BJ f))
def a26 (s:List UInt8)(ch:Nat):Act:=⟨#[.string ⟨⟨s⟩⟩,.chan (some ch)]++Array.replicate 14 Θ,[]⟩
variable {Wg Low ch:Nat}{x y:vI Wg Low}{ro:Nat→Prop}
section
variable (V0:x.C≠ch)(NB:y.C≠ch)(BG:ro x.C)(Gk:ro y.C){s:List UInt8}
 (hN:∀(n:Nat) (w:Ξ),n≤s.length→Ϛ prog 120 #[.string ⟨⟨s⟩⟩,Γ Δ n] w λe _=>∃v,e=.returned v∧v=bR (aL s n))
 (hL:∀(t:Tok) (w:Ξ),Ϛ prog 121 #[bR t] w λe _=>∃v,e=.returned v∧v=.bool t.lastB)
include V0 NB BG Gk hN hL in
theorem Ka (W:Ξ)(hH:pn ro (λ_=>False) W)(hb:prog.globals.size≤W.heap.size)(hP:Hx x y W)(hx:W.cell? ⟨x.C,0,none⟩=some (.string ⟨⟨s⟩⟩))(hy:W.cell? ⟨y.C,0,none⟩=some (.chan (some ch))):ky prog ro ch (Ny prog cv.tWg x y) ((aG (s.length+1) s 0).map bR) (λ_=>False) (born prog (vK Wg x.C y.C)) W:=by
 rw[dB];refine af.silent rfl (λ_=>NJ _ _ _ _) ?_;refine af.silent rfl (λ_=>zaU (x:= .region 0 (r24 f69) false) (y:= .region 1 (zv f69) false)) ?_;refine af.silent rfl (λ_=>zaX) ?_;refine af.silent rfl (λ_=>stepG_defer (ops:=r24 f69) (i:=0) (rest:=[]) rfl rfl (by decide) rfl) ?_;refine af.silent rfl (λ_=>zaZ) ?_;refine af.silent rfl (λ_=>zaX) ?_;have hm:Array.map (⟨X5 Wg x.C y.C,[]⟩:Act).eval #[Ϙ.tmp 0]=#[.pointer (some ⟨Wg,0,none⟩)]:=by simp[ϑ,X5]
 rw[hm];change af _ _ _ _ _ (G (QX.at ⟨X5 Wg x.C y.C,[dcall 70 #[.pointer (some ⟨Wg,0,none⟩)]]⟩ [.inRegion (zv f69) [0,1,2]]) [(tK prog.funcs.size)]) W;refine af.DX (ops:=(zv f69)) (i:=0) (rest:=[1,2]) rfl rfl (by decide) (dd:=some 3) rfl (e:=9) (x:= .tmp 1) rfl (ad:=⟨x.C,0,none⟩) rfl BG hx (λw h=>Q8 (.inl rfl) w _ h) ?_;refine af.DX (ops:=(zv f69)) (i:=1) (rest:=[2]) rfl rfl (by decide) (dd:=some 4) rfl (e:=132) (x:= .tmp 2) rfl (ad:=⟨y.C,0,none⟩) rfl Gk hy (λw h=>Q8 (.inr rfl) w _ h) ?_;refine af.silent rfl (λ_=>jY (ops:=(zv f69)) (i:=2) (rest:=[]) (f:=71) (args:=#[.string ⟨⟨s⟩⟩,.chan (some ch)]) rfl rfl (by decide) rfl (by simp[ϑ,ϛ,X5])) ?_;have he:=enter_at (P:=prog) (f:=71) (c:=BJ f71) #[.string ⟨⟨s⟩⟩,.chan (some ch)] abJ rfl;rw[he];obtain⟨T,hT⟩:∃T:Array Φ,T=(ϛ (ϛ ⟨X5 Wg x.C y.C,[dcall 70 #[.pointer (some ⟨Wg,0,none⟩)]]⟩ (some 3) (.string ⟨⟨s⟩⟩)) (some 4) (.chan (some ch))).tmps:=⟨_,rfl⟩;change af _ _ _ _ _ (G ((base 71).at (a26 s ch) [.code (BJ f71)]) [QX.at ⟨(ϛ (ϛ ⟨X5 Wg x.C y.C,[dcall 70 #[.pointer (some ⟨Wg,0,none⟩)]]⟩ (some 3) (.string ⟨⟨s⟩⟩)) (some 4) (.chan (some ch))).tmps,[dcall 70 #[.pointer (some ⟨Wg,0,none⟩)]]⟩ [.inRegion (zv f69) [2]],(tK prog.funcs.size)]) W;rw[←hT];change af _ _ _ _ _ (G ((base 71).at (a26 s ch) [.code (BJ f71)]) (csF prog.funcs.size f69 Wg T)) W;refine af.silent rfl (λ_=>zaU (x:= .region 0 (r24 f71) false) (y:=aZ (BJ f71))) ?_;refine af.silent rfl (λ_=>zaX) ?_;have q0:(a26 s ch).eval (.tmp 0)=.string ⟨⟨s⟩⟩:=by simp[a26,ϑ]
 have q1:(a26 s ch).eval (.tmp 1)=.chan (some ch):=by simp[a26,ϑ]
 have qs:(a26 s ch).tmps.size=16:=by simp[a26]
 have qd:(a26 s ch).defers=[]:=rfl;generalize a26 s ch=a at *;refine af.mv (ops:=r24 f71) (i:=0) (rest:=[1]) rfl rfl (by decide) (dd:=some 6) rfl (.inl rfl) q1 ?_;have q6:(a.put (some 6) (.chan (some ch))).eval (.tmp 6)=.chan (some ch):=aU (by rw[qs];decide);have q0':(a.put (some 6) (.chan (some ch))).eval (.tmp 0)=.string ⟨⟨s⟩⟩:=(aF (by decide)).trans q0;have q1':(a.put (some 6) (.chan (some ch))).eval (.tmp 1)=.chan (some ch):=(aF (by decide)).trans q1;have qs':(a.put (some 6) (.chan (some ch))).tmps.size=16:=size_put.trans qs;have qd':(a.put (some 6) (.chan (some ch))).defers=[]:=cG.trans qd;generalize a.put (some 6) (.chan (some ch))=a1 at *;refine af.silent rfl (λ_=>tH (ops:=r24 f71) (i:=1) (rest:=[]) (x:=6) (ty:=206) rfl rfl (by decide) rfl) ?_;rw[q6,qd'];change af _ _ _ _ _ (G ((base 71).at ⟨a1.tmps,[fP (.chan (some ch)) 206 0 #[false]]⟩ _) _) _;have p0:(⟨a1.tmps,[fP (.chan (some ch)) 206 0 #[false]]⟩:Act).eval (.tmp 0)=.string ⟨⟨s⟩⟩:=q0';have p1:(⟨a1.tmps,[fP (.chan (some ch)) 206 0 #[false]]⟩:Act).eval (.tmp 1)=.chan (some ch):=q1';have ps:(⟨a1.tmps,[fP (.chan (some ch)) 206 0 #[false]]⟩:Act).tmps.size=16:=qs';have pd:(⟨a1.tmps,[fP (.chan (some ch)) 206 0 #[false]]⟩:Act).defers=[fP (.chan (some ch)) 206 0 #[false]]:=rfl;generalize (⟨a1.tmps,[fP (.chan (some ch)) 206 0 #[false]]⟩:Act)=a2 at *;refine af.silent rfl (λ_=>zaZ) ?_;refine af.silent rfl (λ_=>zaU (x:= .region 1 (fh (bD (aZ (BJ f71)))) false) (y:=aZ (aZ (BJ f71)))) ?_;refine af.silent rfl (λ_=>zaX) ?_;refine af.mv (ops:=fh (bD (aZ (BJ f71)))) (i:=0) (rest:=[]) rfl rfl (by decide) (dd:=some 4) rfl (.inr rfl) (v:= Γ Δ 0) rfl ?_;have hSA:SA (a2.put (some 4) (Γ Δ 0)) ch s 0 206 0 #[false]:=⟨size_put.trans ps,(aF (by decide)).trans p0,(aF (by decide)).trans p1,aU (by rw[ps];decide),cG.trans pd⟩;generalize a2.put (some 4) (Γ Δ 0)=a3 at *;refine af.silent rfl (λ_=>zaZ) ?_;refine af.silent rfl (λ_=>stepG_block (id:=0) (c:= .loop (Gt f71))) ?_;refine af.silent rfl (λ_=>stepG_loop) ?_;have:=NI V0 NB BG Gk (T:=T) hN hL (s.length+1) 0 a3 W (λ_=>False) (zaw _) (by omega) hSA hH hb hP;rw[dB]at this;exact this
end
end Go.Ren
set_option linter.unusedSectionVars false
namespace Go.Ren
open Go.Proofs.Tryz
open Go Go.Conc Go.ConcX Go.RowKit Go.Conc.Lib Go.ConcX.Gen Go.Proofs Go.Loop
theorem ZC (t:Tok):Instr.fill (λi=>some (i*7,7)) (Array.map (λx=>(bR ⟨0,0,0,[],0,0,0⟩).cells[x%(bR ⟨0,0,0,[],0,0,0⟩).cells.size]!) (Array.range 7)) [(0,bR t)]=some (ed t):=by kernel_rfl
theorem V7 (t:Tok)(w:Ξ):(Instr.buildSlice 85 1 #[(0,bR t)]).run prog w=.ok (.slice (some ⟨w.heap.size,0,none⟩) 1 1) (w.alloc (.cells (ed t) 131)):=by
 obtain⟨i,hi,he⟩:=zaz.1 r9;simp only[zag]at he;have hu:prog.underlying 85=some (.slice 131):=by kernel_rfl
 simp[Instr.buildSlice,run_underlying hu,sizeOf,ό,hi,he.1,he.2,ϐ,newRow,ZC]
theorem V8:(prog.info? 131).map (λi=>i.bytes)=some 64:=by kernel_rfl
theorem Q9 {o:Oper}{x y:Ϙ}(hop:o.op=.call { callee:= .builtin .append,args:=#[x,y],argTypes:=#[85,85] }){ev:Ϙ→Φ}{w:Ξ}{v:Φ}{n:Nat}{xs:List Φ}(hown:w.ownsRow prog.globals.size 131 7 v n xs)(hb:prog.globals.size≤w.heap.size)(hn:n+1≤1000000)
 {t:Tok}{r:Nat}(hr:w.heap[r]?=some (.cells (ed t) 131))(hx:ev x=v)(hy:ev y=.slice (some ⟨r,0,none⟩) 1 1):
 ∃v' w',(θ ev o).run prog w=.ok (.value v') w'∧w'.ownsRow prog.globals.size 131 7 v' (n+1) (xs++(ed t).toList):=by
 obtain⟨i,hi,he⟩:=zaz.1 r9;simp only[zag]at he;have hu:prog.underlying 85=some (.slice 131):=by kernel_rfl
 have hby:i.bytes=64:=by have:=V8;rw[hi]at this;simpa using this
 obtain⟨v',w',h1,h2,_⟩:=run_append_own_wide (P:=prog) (w:=w) prog.globals.size 85 o.type 131 i _ 7 64 hu hi he.2 he.1 hby rfl (by decide) v n xs hown ⟨r,0,none⟩ 1 1 (ed t).toList rfl (λj u hj=>by
  rw[Addr.add_mid];simp only[Ξ.cell?,hr];simpa using hj) (λu hu=>by
   have:=Q2 t;rw[zbK]at this;exact this u (by simpa using hu)) (by simp only[maxLen];omega) (by omega) hb
 refine⟨v',w',?_,h2⟩;unfold θ;simp only[hop,resolve,invoke,builtin,zaV,zbb,zaW,zbT,zaD,zbu,hx,hy,h1]
def dC:Nat→Code→Code
 |0,c=>c
 |n+1,c=>dC n (aZ c)
def D5 (f:Func):Code:=dC 5 (BJ f)
def D6 (f:Func):Code:=dC 6 (BJ f)
def D10 (f:Func):Code:=dC 7 (BJ f)
def D11 (f:Func):Code:=dC 8 (BJ f)
def g5 (f:Func):Array Oper:=fh (bD (D5 f))
def g6 (f:Func):Array Oper:=fh (bD (bD (D6 f)))
def Lg (f:Func):Code:=abL (V3 (aZ (bD (D6 f))))
def g7 (f:Func):Array Oper:=fh (bD (Lg f))
def Mg (f:Func):Code:=V3 (aZ (aZ (Lg f)))
def g8 (f:Func):Array Oper:=fh (bD (Mg f))
def g9 (f:Func):Array Oper:=fh (aZ (Mg f))
def g10 (f:Func):Array Oper:=fh (bD (D10 f))
def g11 (f:Func):Array Oper:=fh (bD (D11 f))
def kG (f:Func):List Item:=[.inLoop (Lg f),.inBlock 0,.code (D10 f)]
def vL:Tok:=⟨0,0,0,[],0,0,0⟩
structure GtA (a:Act) (X Y Wg ch:Nat):Prop where
 size:a.tmps.size=20
 s1:a.eval (.tmp 1)=.pointer (some ⟨X,0,none⟩)
 s3:a.eval (.tmp 3)=.pointer (some ⟨Y,0,none⟩)
 s4:a.eval (.tmp 4)=.pointer (some ⟨Wg,0,none⟩)
 s10:a.eval (.tmp 10)=.chan (some ch)
 defers:a.defers=[]
variable {Wg Low ch X Y:Nat}{x y:vI Wg Low}{ro own:Nat→Prop}{cs:List π}
theorem GtA.put {a:Act}(h:GtA a X Y Wg ch){t:Tmp}{v:Φ}(h1:t≠1)(h3:t≠3)(h4:t≠4)(h10:t≠10):GtA (a.put (some t) v) X Y Wg ch:=
 ⟨size_put.trans h.size,(aF h1).trans h.s1,(aF h3).trans h.s3,(aF h4).trans h.s4,(aF h10).trans h.s10,cG.trans h.defers⟩
structure GR (ro:Nat→Prop) (X Y Wg ch:Nat) (xs:List Tok) (own:Nat→Prop) (a:Act) (W:Ξ):Prop where
 ga:GtA a X Y Wg ch
 row:∃ρ w v,At prog Sc ro ρ w W own∧a.eval (.tmp 5)=rv ρ v∧Cl prog Sc w v∧w.ownsRow prog.globals.size 131 7 v xs.length (xs.flatMap λt=>(ed t).toList)
theorem V9 (xs:List Tok)(t:Tok):(xs++[t]).flatMap (λt=>(ed t).toList)=xs.flatMap (λt=>(ed t).toList)++(ed t).toList:=by simp
theorem Wa (a:Act)(W:Ξ)(h:a.eval (.tmp 10)=.chan (some ch)):(θ a.eval (g7 f43)[0]).run prog W=.ok (.comm #[rcase ch (bR vL)] true (.recv true)) W∧(θ a.eval (g7 f43)[0]).events prog W #[]=#[]:=by
 obtain⟨i,hi,he⟩:=zaz.1 r9;simp only[zag]at he;obtain⟨dir,hu⟩:∃dir,prog.underlying 132=some (.chan dir 131):=⟨_,underlying132⟩;have hop:(g7 f43)[0].op=.recv 132 (.tmp 10) true:=rfl;constructor
 ·unfold θ;simp[hop,run_underlying hu,ϐ,ό,hi,he.2,h,rcase,vL]
 ·unfold θ;simp[hop,run_underlying hu,ϐ,ό,hi,he.2]
theorem Mh (a:Act)(W:Ξ)(h:a.eval (.tmp 10)=.chan (some ch)):ψ prog true (G ((base 43).at a (.inRegion (g7 f43) [0,1]::.code (aZ (Lg f43))::kG f43)) cs) W=.comm (core (G ((base 43).at a (.inRegion (g7 f43) [0,1]::.code (aZ (Lg f43))::kG f43)) cs)) #[rcase ch (bR vL)] true (.recv true) W #[]:=by
 obtain⟨h1,h2⟩:=Wa a W h;rw[stepG_comm (ops:=g7 f43) (i:=0) (rest:=[1]) rfl rfl (by decide) h1,listed_none h2];rfl
theorem GR.rely {W aC:Ξ}{xs:List Tok}{a:Act}(h:GR ro X Y Wg ch xs own a W)(hr:bI ro own W aC):GR ro X Y Wg ch xs own a aC:=by
 obtain⟨ρ,w,v,hA,h5,dY,hrow⟩:=h.row;obtain⟨V4,PF⟩:=hA.rely hr;exact⟨h.ga,_,w,v,V4,by rw[h5];exact(dY.agree PF.agree (DL hA.xn V4.xn)).symm,dY,hrow⟩
theorem NK {Fin:(Nat→Prop)→Λ→Ξ→Prop}(ts:List Tok)
 :∀(xs:List Tok) (own:Nat→Prop) (a:Act) (W:Ξ),GR ro X Y Wg ch xs own a W→xs.length+ts.length≤1000000→
  (∀own a W,GR ro X Y Wg ch (xs++ts) own a W→Fin own (G ((base 43).at (a.put (some 11) (.tuple #[bR vL,.bool false])) (.inRegion (g7 f43) [1]::.code (aZ (Lg f43))::kG f43)) cs) W)→
  mC prog ro ch (bR vL) Fin (ts.map bR) own (G ((base 43).at a (.code (Lg f43)::kG f43)) cs) W:=by
 induction ts with
 |nil=>
  intro xs own a W h _ hF;rw[cH];refine af.silent rfl (λ_=>zaU (x:= .region 7 (g7 f43) false) (y:=aZ (Lg f43))) ?_;refine af.silent rfl (λ_=>zaX) ?_;refine .stop λaC hr=>?_;have h1:=h.rely hr;refine⟨rfl,Mh a aC h.ga.s10,?_⟩;show Fin own (G (((base 43).at a (.inRegion (g7 f43) [0,1]::.code (aZ (Lg f43))::kG f43)).finish _) cs) aC;rw[zbY];exact hF own a aC (by simpa using h1)
 |cons t ts ih=>
  intro xs own a W h hlen hF;rw[cH];refine af.silent rfl (λ_=>zaU (x:= .region 7 (g7 f43) false) (y:=aZ (Lg f43))) ?_;refine af.silent rfl (λ_=>zaX) ?_;refine .stop λaC hr=>?_;have h1:=h.rely hr;refine⟨rfl,Mh a aC h.ga.s10,?_⟩;show mC _ _ _ _ _ _ own (G (((base 43).at a (.inRegion (g7 f43) [0,1]::.code (aZ (Lg f43))::kG f43)).finish _) cs) aC;rw[zbY,cH];change af _ _ _ _ _ (G ((base 43).at (a.put (some 11) (.tuple #[bR t,.bool true])) (.inRegion (g7 f43) [1]::.code (aZ (Lg f43))::kG f43)) cs) aC;clear h hr;obtain⟨hg,ρ,w,v,hA,h5,dY,hrow⟩:=h1;have hg1:=hg.put (t:=11) (v:= .tuple #[bR t,.bool true]) (by decide) (by decide) (by decide) (by decide);have PH:(a.put (some 11) (.tuple #[bR t,.bool true])).eval (.tmp 11)=.tuple #[bR t,.bool true]:=aU (by rw[hg.size];decide);have k5:(a.put (some 11) (.tuple #[bR t,.bool true])).eval (.tmp 5)=rv ρ v:=(aF (by decide)).trans h5;generalize a.put (some 11) (.tuple #[bR t,.bool true])=a1 at *;refine af.abl (ops:=g7 f43) (i:=1) (rest:=[]) rfl rfl (by decide) (dd:=some 12) rfl rfl PH (v:= .bool true) rfl ?_;have hg2:=hg1.put (t:=12) (v:= .bool true) (by decide) (by decide) (by decide) (by decide);have k12:(a1.put (some 12) (.bool true)).eval (.tmp 12)=.bool true:=aU (by rw[hg1.size];decide);replace PH:(a1.put (some 12) (.bool true)).eval (.tmp 11)=.tuple #[bR t,.bool true]:=(aF (by decide)).trans PH;replace k5:(a1.put (some 12) (.bool true)).eval (.tmp 5)=rv ρ v:=(aF (by decide)).trans k5;generalize a1.put (some 12) (.bool true)=a2 at *;refine af.silent rfl (λ_=>zaZ) ?_;refine af.silent rfl (λ_=>zaU (x:= .cond (.tmp 12) .skip (.exit 0)) (y:= .block 1 (Mg f43))) ?_;refine af.silent rfl (λ_=>stepG_cond k12) ?_;refine af.silent rfl (λ_=>stepG_skip) ?_;refine af.silent rfl (λ_=>stepG_block) ?_;refine af.silent rfl (λ_=>zaU (x:= .region 8 (g8 f43) false) (y:= .region 9 (g9 f43) false)) ?_;refine af.silent rfl (λ_=>zaX) ?_;refine af.abl (ops:=g8 f43) (i:=0) (rest:=[1,2]) rfl rfl (by decide) (dd:=some 13) rfl rfl PH (v:=bR t) rfl ?_;have hg3:=hg2.put (t:=13) (v:=bR t) (by decide) (by decide) (by decide) (by decide);have k13:(a2.put (some 13) (bR t)).eval (.tmp 13)=bR t:=aU (by rw[hg2.size];decide);replace k5:(a2.put (some 13) (bR t)).eval (.tmp 5)=rv ρ v:=(aF (by decide)).trans k5;generalize a2.put (some 13) (bR t)=a3 at *;obtain⟨i76,ZA,Q3⟩:=zaz.1 r9;simp only[zag]at Q3;have hgw:prog.globals.size≤w.heap.size:=hA.xn.wr.big.p;refine af.Qi nu (ops:=g8 f43) (i:=1) (rest:=[2]) rfl rfl (by decide) (dd:=some 6) rfl rfl ZA Q3.2 hA ?_;intro w1 sP W2 adT e1 V4 PF;have hs1:w1.heap.size=w.heap.size:=by rw[e1]
  have Mi:rv sP v=rv ρ v:=dY.agree PF.agree (DL hA.xn V4.xn);have P9:Cl prog Sc w1 v:=by unfold Cl at dY ⊢;rw[hs1];exact dY
  have X6:w1.ownsRow prog.globals.size 131 7 v xs.length (xs.flatMap λt=>(ed t).toList):=by unfold Ξ.ownsRow at hrow ⊢;rw[e1];exact hrow
  rw[←hs1];have hg4:=hg3.put (t:=6) (v:= .pointer (some ⟨sP w1.heap.size,0,none⟩)) (by decide) (by decide) (by decide) (by decide);have k6:(a3.put (some 6) (.pointer (some ⟨sP w1.heap.size,0,none⟩))).eval (.tmp 6)=.pointer (some ⟨sP w1.heap.size,0,none⟩):=aU (by rw[hg3.size];decide);replace k13:(a3.put (some 6) (.pointer (some ⟨sP w1.heap.size,0,none⟩))).eval (.tmp 13)=bR t:=(aF (by decide)).trans k13;replace k5:(a3.put (some 6) (.pointer (some ⟨sP w1.heap.size,0,none⟩))).eval (.tmp 5)=rv sP v:=((aF (by decide)).trans k5).trans Mi.symm;generalize a3.put (some 6) (.pointer (some ⟨sP w1.heap.size,0,none⟩))=a4 at *;have ad1:prog.globals.size≤w1.heap.size:=by omega
  refine af.storeT nu (ops:=g8 f43) (i:=2) (rest:=[]) rfl rfl (by decide) (dd:=none) rfl (s:=6) (t:=13) (by decide) rfl (c:=ed ⟨0,0,0,[],0,0,0⟩) (c':=ed t) (zA _) rfl (Q2 _) V4 k6 (by rw[k13];exact(eU _ _).symm) (eU _ _) ad1 ?_;intro w2 za W3 adU e2 se PG;rw[y8];have hs2:w2.heap.size=w1.heap.size:=by rw[e2]
  have hr2:za w2.heap.size=sP w1.heap.size:=by rw[hs2];exact PG.agree _ (by rw[bM];omega)
  have hv2:rv za v=rv sP v:=P9.agree (λr hr=>PG.agree r (by rw[bM];omega)) (DL V4.xn se.xn);have Qa:Cl prog Sc w2 v:=by unfold Cl at P9 ⊢;rw[hs2];exact P9
  have hrow2:w2.ownsRow prog.globals.size 131 7 v xs.length (xs.flatMap λt=>(ed t).toList):=by unfold Ξ.ownsRow at X6 ⊢;rw[e2];exact X6
  rw[←hr2]at k6;rw[←hv2]at k5;have ad2:prog.globals.size≤w2.heap.size:=by omega
  refine af.silent rfl (λ_=>zaZ) ?_;refine af.silent rfl (λ_=>zaX) ?_;refine af.mv (ops:=g9 f43) (i:=0) (rest:=[1,2,3,4]) rfl rfl (by decide) (dd:=some 14) rfl (.inl rfl) k5 ?_;have hg5:=hg4.put (t:=14) (v:=rv za v) (by decide) (by decide) (by decide) (by decide);have ZE:(a4.put (some 14) (rv za v)).eval (.tmp 14)=rv za v:=aU (by rw[hg4.size];decide);replace k6:(a4.put (some 14) (rv za v)).eval (.tmp 6)=.pointer (some ⟨za w2.heap.size,0,none⟩):=(aF (by decide)).trans k6;generalize a4.put (some 14) (rv za v)=a5 at *;refine af.loadT nu (ops:=g9 f43) (i:=1) (rest:=[2,3,4]) rfl rfl (by decide) (dd:=some 15) rfl (s:=6) rfl underlying131 rfl (zA _) se k6 ad2 ?_;intro w3 Q4 W4 adV e3 xQ hO3;have hs3:w3.heap.size=w2.heap.size:=by rw[e3]
  have hv3:rv Q4 v=rv za v:=Qa.agree (λr hr=>hO3.agree r (by rw[bM];omega)) (DL se.xn xQ.xn);have ZF:Cl prog Sc w3 v:=by unfold Cl at Qa ⊢;rw[hs3];exact Qa
  have hrow3:w3.ownsRow prog.globals.size 131 7 v xs.length (xs.flatMap λt=>(ed t).toList):=by unfold Ξ.ownsRow at hrow2 ⊢;rw[e3];exact hrow2
  rw[←hv3]at ZE;have afM:prog.globals.size≤w3.heap.size:=by omega
  rw[show rv Q4 (.agg (ed t))=bR t from eU _ _];have hg6:=hg5.put (t:=15) (v:=bR t) (by decide) (by decide) (by decide) (by decide);have k15:(a5.put (some 15) (bR t)).eval (.tmp 15)=bR t:=aU (by rw[hg5.size];decide);replace ZE:(a5.put (some 15) (bR t)).eval (.tmp 14)=rv Q4 v:=(aF (by decide)).trans ZE;generalize a5.put (some 15) (bR t)=a6 at *;have hrow4:(w3.alloc (.cells (ed t) 131)).ownsRow prog.globals.size 131 7 v xs.length (xs.flatMap λt=>(ed t).toList):=hrow3.alloc _;have ZG:Cl prog Sc (w3.alloc (.cells (ed t) 131)) v:=ZF.mono (by rw[bM];omega);have ad3:prog.globals.size≤(w3.alloc (.cells (ed t) 131)).heap.size:=by rw[bM];omega
  generalize w3.alloc (.cells (ed t) 131)=w4 at xQ hrow4 ZG ad3;refine af.Qh nu (ops:=g9 f43) (i:=2) (rest:=[3,4]) (by rw[show(g9 f43)[2].op=.buildSlice 85 1 #[(0,.tmp 15)] from rfl];simp[gw,gG]) rfl rfl (by decide) (T:=λ_=>bR t) (λ_=>eU _ _) xQ ?_ (v:=λw₀=> .slice (some ⟨w₀.heap.size,0,none⟩) 1 1) (o':=λw₀=>w₀.alloc (.cells (ed t) 131)) ?_ ?_
  ·have hop:(g9 f43)[2].op=.buildSlice 85 1 #[(0,.tmp 15)]:=rfl;unfold θ;rw[hop];simp only[zbT,zaD,zbu,fx,k15,eU t Q4]
  ·intro τ d;have hop:(g9 f43)[2].op=.buildSlice 85 1 #[(0,.tmp 15)]:=rfl;unfold θ;simp only[hop,zbT,zaD,zbu,fx,zaV,V7,zaW,zbb]
  intro w5 Mf W5 adX e5 V6 hO5 abN;have hs5:w5.heap.size=w4.heap.size:=by rw[e5]
  have hv5:rv Mf v=rv Q4 v:=ZG.agree hO5.agree (DL xQ.xn V6.xn);have X7:(w5.alloc (.cells (ed t) 131)).ownsRow prog.globals.size 131 7 v xs.length (xs.flatMap λt=>(ed t).toList):=by
   refine zcw ?_ _;unfold Ξ.ownsRow at hrow4 ⊢;rw[e5];exact hrow4
  have abO:Cl prog Sc (w5.alloc (.cells (ed t) 131)) v:=ZG.mono (by rw[bM];omega);rw[←hv5]at ZE;change af _ _ _ _ _ (G ((base 43).at (a6.put (some 16) (rv Mf (.slice (some ⟨w5.heap.size,0,none⟩) 1 1))) _) _) _;have hg7:=hg6.put (t:=16) (v:=rv Mf (.slice (some ⟨w5.heap.size,0,none⟩) 1 1)) (by decide) (by decide) (by decide) (by decide);have k16:(a6.put (some 16) (rv Mf (.slice (some ⟨w5.heap.size,0,none⟩) 1 1))).eval (.tmp 16)=rv Mf (.slice (some ⟨w5.heap.size,0,none⟩) 1 1):=aU (by rw[hg6.size];decide);replace ZE:(a6.put (some 16) (rv Mf (.slice (some ⟨w5.heap.size,0,none⟩) 1 1))).eval (.tmp 14)=rv Mf v:=(aF (by decide)).trans ZE;generalize a6.put (some 16) (rv Mf (.slice (some ⟨w5.heap.size,0,none⟩) 1 1))=a7 at *;have zB:(w5.alloc (.cells (ed t) 131)).heap[w5.heap.size]?=some (.cells (ed t) 131):=by
   show(w5.heap.push _)[w5.heap.size]?=_;simp
  have abP:prog.globals.size≤(w5.alloc (.cells (ed t) 131)).heap.size:=by rw[bM];omega
  generalize wP:w5.heap.size=r0 at *;generalize w5.alloc (.cells (ed t) 131)=w6 at V6 X7 abO zB abN abP;have afz:xs.length+(ts.length+1)≤1000000:=by simpa using hlen
  refine af.Jk nu (ops:=g9 f43) (i:=3) (rest:=[4]) (by rw[show(g9 f43)[3].op=.call { callee:= .builtin .append,args:=#[.tmp 14,.tmp 16],argTypes:=#[85,85] } from rfl];simp[gw,gG,qR]) rfl rfl (by decide) (T:=λs=>if s=14 then v else .slice (some ⟨r0,0,none⟩) 1 1) (λs=>?_) V6.xn V6.XT ?_ (Q:=λv' w'=>w'.ownsRow prog.globals.size 131 7 v' (xs.length+1) (xs.flatMap (λt=>(ed t).toList)++(ed t).toList)) (λτ d=>?_) ?_ V6.hold
  ·by_cases h:s=14
   ·simp only[h,if_true];exact abO
   ·simp only[h,if_false];exact abN
  ·have hop:(g9 f43)[3].op=.call { callee:= .builtin .append,args:=#[.tmp 14,.tmp 16],argTypes:=#[85,85] }:=rfl;unfold θ;simp only[hop,resolve,zbT,zaD,zbu,fx,ZE,k16,if_true,show ¬(16=14) by decide,if_false]
  ·exact Q9 (x:= .tmp 14) (y:= .tmp 16) rfl (w:=w6.re τ d) X7 abP (by omega) zB rfl rfl
  intro v' w' ρ' W' own' hq FR _ _ hc' ht' _ _ hH';change af _ _ _ _ _ (G ((base 43).at (a7.put (some 17) (rv ρ' v')) _) _) _;have hg8:=hg7.put (t:=17) (v:=rv ρ' v') (by decide) (by decide) (by decide) (by decide);have k17:(a7.put (some 17) (rv ρ' v')).eval (.tmp 17)=rv ρ' v':=aU (by rw[hg7.size];decide);generalize a7.put (some 17) (rv ρ' v')=a8 at *;refine af.mv (ops:=g9 f43) (i:=4) (rest:=[]) rfl rfl (by decide) (dd:=some 5) rfl (.inr rfl) k17 ?_;have hg9:=hg8.put (t:=5) (v:=rv ρ' v') (by decide) (by decide) (by decide) (by decide);have k5':(a8.put (some 5) (rv ρ' v')).eval (.tmp 5)=rv ρ' v':=aU (by rw[hg8.size];decide);generalize a8.put (some 5) (rv ρ' v')=a9 at *;refine af.silent rfl (λ_=>zaZ) ?_;refine af.silent rfl (λ_=>stepG_inBlock) ?_;refine af.silent rfl (λ_=>stepG_inLoop) ?_;have hGR:GR ro X Y Wg ch (xs++[t]) own' a9 W':=⟨hg9,ρ',w',v',⟨FR,ht',hH'⟩,k5',hc',by rw[V9];simpa using hq⟩;have:=ih (xs++[t]) own' a9 W' hGR (by simp;omega) (by simpa using hF);rw[cH]at this;exact this
end Go.Ren
set_option linter.unusedSectionVars false
namespace Go.Ren
open Go.Proofs.Tryz
open Go Go.Conc Go.ConcX Go.RowKit Go.Conc.Lib Go.ConcX.Gen Go.Proofs Go.Loop
section
variable {P:ζ}{main:Bool}{b:π}{a:Act}{ops:Array Oper}{i:Nat}{rest:List Nat}{o:Oper}{kk:List Item}{cs:List π}
theorem Kb (ho:ops[i]?=some o)(hw:ϙ o (ϗ ops a.tmps)=true)(hk:b.kind≠.early){dd:Option Tmp}(hdd:o.dst=dd){x:Ϙ}{j:Nat}(hop:o.op=.extract x j){vs:Array Φ}{v:Φ}(hx:a.eval x=.tuple vs)(hv:vs[j]?=some v)(w:Ξ):ψ P main (G (b.at a (.inRegion ops (i::rest)::kk)) cs) w=.go (G (b.at (a.put dd v) (.inRegion ops rest::kk)) cs) w #[]:=by
 subst hdd;have hr:(θ a.eval o).run P w=.ok (.value v) w:=by
  unfold θ;simp[hop,hx,Instr.extract,hv]
 have he:(θ a.eval o).events P w #[]=#[]:=by
  unfold θ;simp[hop,hx,Instr.extract,hv]
 rw[stepG_value ho hw hk hr,listed_none he]
theorem Goes.silent {R:Ξ→Ξ→Prop}{D:Ξ→Ξ→Array ϕ→Prop}{Stop:Λ→Ξ→Prop}(tr:∀a b c,R a b→R b c→R a c)(hd:∀w,D w w #[]){n:Nat}{g g':Λ}{w:Ξ}(hs:g.status=.running)(h:∀w₁,ψ P main g w₁=.go g' w₁ #[])(k:Goes P main R D Stop n g' w):Goes P main R D Stop (n+1) g w:=
 Goes.step hs λw₁ h₁=>by rw[h w₁];exact⟨hd w₁,k.rely tr h₁⟩
end
variable {Wg Low ch X Y:Nat}{x y:vI Wg Low}{ro own:Nat→Prop}{cs:List π}
structure Off (Wg X Y:Nat) (w w':Ξ):Prop where
 tape:w'.tape=w.tape
 os:w'.os=w.os
 output:w'.output=w.output
 size:w'.heap.size=w.heap.size
 block:∀k,k≠X→k≠Y→k≠Wg→w'.heap[k]?=w.heap[k]?
def Cz (f:Func)(a:Act)(cs:List π):Λ:=G ((base 43).at (a.put (some 18) (.tuple #[])) (.inRegion (g10 f) []::.code (D11 f)::[])) cs
def Eb (f:Func)(a:Act):π:=(base 43).at a (.inRegion (g10 f) [0]::.code (D11 f)::[])
theorem CB {pl:Payload}{ty:η}{C:Nat} [Shy Wg C] {vals:List Φ}(a b c:Ξ)(h:RPa ty Wg C vals a b)(k:RPa ty Wg C vals b c):RPa ty Wg C vals a c:=
 RPa.trans h k
theorem Kc (Wg:Nat):π.enter prog 72 #[.pointer (some ⟨Wg,0,none⟩)] .normal=(base cv.wait).at ⟨#[.pointer (some ⟨Wg,0,none⟩),Θ,Θ,Θ,Θ,Θ,Θ,Θ,Θ,Θ,Θ,Θ,Θ,Θ,Θ,Θ,Θ,Θ,Θ,Θ,Θ,Θ,Θ,Θ,Θ,Θ,Θ,Θ,Θ,Θ,Θ,Θ,Θ,Θ,Θ,Θ,Θ,Θ,Θ,Θ,Θ,Θ,Θ,Θ,Θ,Θ,Θ,Θ,Θ,Θ,Θ,Θ,Θ,Θ,Θ,Θ,Θ,Θ,Θ,Θ,Θ,Θ,Θ,Θ,Θ,Θ,Θ,Θ,Θ,Θ,Θ,Θ,Θ,Θ,Θ,Θ,Θ,Θ,Θ,Θ,Θ,Θ,Θ,Θ],[]⟩ [.code (body_wait cv)]:=by
 rw[enter_at (P:=prog) (f:=72) (c:=body_wait cv) #[.pointer (some ⟨Wg,0,none⟩)] Md (by kernel_rfl)];have:(#[Φ.pointer (some ⟨Wg,0,none⟩)]++Array.replicate ((waitFn cv).ntmps - (#[Φ.pointer (some ⟨Wg,0,none⟩)]:Array Φ).size) Θ)=#[.pointer (some ⟨Wg,0,none⟩),Θ,Θ,Θ,Θ,Θ,Θ,Θ,Θ,Θ,Θ,Θ,Θ,Θ,Θ,Θ,Θ,Θ,Θ,Θ,Θ,Θ,Θ,Θ,Θ,Θ,Θ,Θ,Θ,Θ,Θ,Θ,Θ,Θ,Θ,Θ,Θ,Θ,Θ,Θ,Θ,Θ,Θ,Θ,Θ,Θ,Θ,Θ,Θ,Θ,Θ,Θ,Θ,Θ,Θ,Θ,Θ,Θ,Θ,Θ,Θ,Θ,Θ,Θ,Θ,Θ,Θ,Θ,Θ,Θ,Θ,Θ,Θ,Θ,Θ,Θ,Θ,Θ,Θ,Θ,Θ,Θ,Θ,Θ]:=by kernel_rfl
 rw[this]
theorem Ra (k:vI Wg Low){X Y:Nat}(hk:k.C=X∨k.C=Y)(a:Act)(h4:a.eval (.tmp 4)=.pointer (some ⟨Wg,0,none⟩))(W:Ξ)(hK:k.kpa cv.tWg W):∃A,k.wait prog cv.tWg (λg w=>g=Cz f43 a cs∧Off Wg X Y W w) A (G (Eb f43 a) cs) W:=by
 letI:=k.pl
 letI:=nt Wg k.C Low (λg w=>g=Cz f43 a cs∧Off Wg X Y W w) k.hW k.hC
 let F:Ξ→Prop:=λw=>(∀b,b≠k.C→b≠Wg→w.heap[b]?=W.heap[b]?)∧w.heap.size=W.heap.size∧w.tape=W.tape∧w.os=W.os∧w.output=W.output;have hF2:∀w w',Aside2 k.C Wg w w'→F w→F w':=λw w' h f=>⟨λb h1 h2=>(h.block b h1 h2).trans (f.1 b h1 h2),h.size.trans f.2.1,h.tape.trans f.2.2.1,h.os.trans f.2.2.2.1,h.output.trans f.2.2.2.2⟩;refine⟨AnchW7 cv F Wg k.C k.vals (Eb f43 a) cs,⟨k.hC,k.hCW,?_,?_,λ_ h=>h⟩,4,?_⟩
 ·rintro g w ⟨T,rfl,_⟩;rfl
 ·intro g w h;exact waitRound (L:=cv) (Low:=Low) (Mine:=lD) (Post:=λ_ _=>True) (mT:=0) (b₀:=base 43) (a₀:=a) (ops₀:=g10 f43) (i₀:=0) (rest₀:=[]) (k₀:=[.code (D11 f43)]) wgz k.hCW hF2 (λw f _ _=>Goes.stop λw₁ h₁=>by
   obtain⟨d,rfl⟩:=h₁;refine⟨rfl,rfl,f.2.2.1,f.2.2.2.1,f.2.2.2.2,f.2.1,λb h1 h2 h3=>f.1 b ?_ h3⟩;rcases hk with e|e<;>rw[e]<;>assumption) g w h
 ·refine Goes.silent (g':=G (π.enter prog 72 #[.pointer (some ⟨Wg,0,none⟩)] .normal) (Eb f43 a::cs)) (λa b c=>CB a b c) (λw=>⟨λ_ _=>rfl,by simp⟩) rfl (λw₁=>jY (ops:=g10 f43) (i:=0) (rest:=[]) (f:=72) rfl rfl (by decide) rfl (by simp[h4])) ?_;rw[Kc];exact waitStart (L:=cv) (Low:=Low) (F:=F) (Mine:=lD) (b₀:=base 43) (a₀:=a) (ops₀:=g10 f43) (i₀:=0) (rest₀:=[]) (k₀:=[.code (D11 f43)]) (cs:=cs) wgz hF2 W ⟨⟨λ_ _ _=>rfl,rfl,rfl,rfl,rfl⟩,hK⟩
theorem jB {k:vI Wg Low}{St A:Λ→Ξ→Prop}{g g':Λ}{W:Ξ}(hs:g.status=.running)(h:∀w₁,ψ prog true g w₁=.go g' w₁ #[])(hw:k.wait prog cv.tWg St A g' W):k.wait prog cv.tWg St A g W:=by
 letI:=k.pl
 letI:=nt Wg k.C Low St k.hW k.hC
 obtain⟨h1,m,h2⟩:=hw;exact⟨h1,m+1,Goes.silent (λa b c=>CB a b c) (λw=>⟨λ_ _=>rfl,by simp⟩) hs h h2⟩
def Ec (ro:Nat→Prop)(X Y Wg ch:Nat)(ts:List Tok)(cs:List π)(own:Nat→Prop)(w':Ξ)(g:Λ)(w:Ξ):Prop:=
 ∃a,GR ro X Y Wg ch ts own a w'∧g=Cz f43 a cs∧Off Wg X Y w' w
theorem Kd {ts:List Tok}{a:Act}{W:Ξ}(h:GR ro x.C y.C Wg ch ts own a W):QM prog cv.tWg x y (Ec ro x.C y.C Wg ch ts cs) own (G ((base 43).at (a.put (some 11) (.tuple #[bR vL,.bool false])) (.inRegion (g7 f43) [1]::.code (aZ (Lg f43))::kG f43)) cs) W:=by
 intro hx hy;obtain⟨hg,ρ,w,v,hA,h5,dY,hrow⟩:=h;have hg1:=hg.put (t:=11) (v:= .tuple #[bR vL,.bool false]) (by decide) (by decide) (by decide) (by decide);have PH:(a.put (some 11) (.tuple #[bR vL,.bool false])).eval (.tmp 11)=.tuple #[bR vL,.bool false]:=aU (by rw[hg.size];decide);have k5:(a.put (some 11) (.tuple #[bR vL,.bool false])).eval (.tmp 5)=rv ρ v:=(aF (by decide)).trans h5;generalize a.put (some 11) (.tuple #[bR vL,.bool false])=a1 at *;have hg2:=hg1.put (t:=12) (v:= .bool false) (by decide) (by decide) (by decide) (by decide);have k12:(a1.put (some 12) (.bool false)).eval (.tmp 12)=.bool false:=aU (by rw[hg1.size];decide);have k5':(a1.put (some 12) (.bool false)).eval (.tmp 5)=rv ρ v:=(aF (by decide)).trans k5;have step:∀(k:vI Wg Low),(k.C=x.C∨k.C=y.C)→k.kpa cv.tWg W→∃A,k.wait prog cv.tWg (λg w=>g=Cz f43 (a1.put (some 12) (.bool false)) cs∧Off Wg x.C y.C W w) A (G ((base 43).at a1 (.inRegion (g7 f43) [1]::.code (aZ (Lg f43))::kG f43)) cs) W:=λk hk hK=>by
  obtain⟨A,hw⟩:=Ra (cs:=cs) k hk (a1.put (some 12) (.bool false)) hg2.s4 W hK;refine⟨A,?_⟩;refine jB rfl (λw₁=>Kb (ops:=g7 f43) (i:=1) (rest:=[]) rfl rfl (by decide) (dd:=some 12) rfl rfl PH (v:= .bool false) rfl w₁) ?_;generalize a1.put (some 12) (.bool false)=a2 at *;refine jB rfl (λ_=>zaZ) ?_;refine jB rfl (λ_=>zaU (x:= .cond (.tmp 12) .skip (.exit 0)) (y:= .block 1 (Mg f43))) ?_;refine jB rfl (λ_=>stepG_cond k12) ?_;refine jB rfl (λ_=>stepG_exit (id:=0) (k':=[.code (D10 f43)]) rfl) ?_;refine jB rfl (λ_=>zaU (x:= .region 10 (g10 f43) false) (y:=D11 f43)) ?_;refine jB rfl (λ_=>zaX) ?_;exact hw
 obtain⟨Ax,hwx⟩:=step x (.inl rfl) hx;obtain⟨Ay,hwy⟩:=step y (.inr rfl) hy;exact⟨_,Ax,Ay,hwx,hwy,λa' w' hst=>⟨Nat.le_of_eq hst.2.size.symm,_,⟨hg2,ρ,w,v,hA,k5',dY,hrow⟩,hst.1,hst.2⟩⟩
end Go.Ren
set_option linter.unusedSectionVars false
namespace Go.Ren
open Go.Proofs.Tryz
open Go Go.Conc Go.ConcX Go.RowKit Go.Conc.Lib Go.ConcX.Gen Go.Proofs Go.Loop
theorem Rb:(prog.info? 132).map (λi=>(i.size,i.zero))=some (1,some (.chan none)):=by kernel_rfl
theorem ZH:(prog.info? 142).map (λi=>i.zero.map λz=>Obj.cells z.cells 142)=some (some (wgBlock cv.tWg 0 0)):=by kernel_rfl
theorem bx (s:ByteArray)(w:Ξ):(Instr.box 9 (.string s)).run prog w=.ok (.pointer (some ⟨w.heap.size,0,none⟩)) (w.alloc (.cells #[.string s] 9))∧(Instr.box 9 (.string s)).events prog w #[]=#[]:=by
 constructor
 ·simp[Instr.box,newVar,newRow,go_sem,Φ.cells]
 ·simp[Instr.box,newVar,newRow,go_sem,Φ.cells]
theorem mkc (w:Ξ):(Instr.makeChan 132 (Γ Δ 0)).run prog w=.ok (.chan (some w.heap.size)) (w.alloc (.chan 0 #[] false 0 0 false))∧(Instr.makeChan 132 (Γ Δ 0)).events prog w #[]=#[]:=by
 obtain⟨i,hi,he⟩:=zaz.1 r9;obtain⟨dir,hu⟩:∃dir,prog.underlying 132=some (.chan dir 131):=⟨_,underlying132⟩;have h1:¬(IntKind.i64.max<0):=by decide
 constructor
 ·simp[Instr.makeChan,run_underlying hu,asInt,asIntOf,ό,hi]
 ·simp[Instr.makeChan,run_underlying hu,asInt,asIntOf,ό,hi]
theorem alz {e:η}{i:ϋ}{z:Φ}(hi:prog.info? e=some i)(hz:i.zero=some z)(w:Ξ):(Instr.alloc e true (.tuple #[])).run prog w=.ok (.pointer (some ⟨w.heap.size,0,none⟩)) (w.alloc (.cells z.cells e))∧(Instr.alloc e true (.tuple #[])).events prog w #[]=#[]:=by
 constructor
 ·simp[Instr.alloc,ϐ,ό,hi,hz,newVar,newRow]
 ·simp[Instr.alloc,ϐ,ό,hi,hz,newVar,newRow]
theorem stz {w:Ξ}{r c:Nat}(h:w.heap[r]?=some (.cells #[.chan none] 132)):(Instr.storeAt 132 (.pointer (some ⟨r,0,none⟩)) (.chan (some c))).run prog w=.ok () (w.setCell ⟨r,0,none⟩ (.chan (some c)))∧(Instr.storeAt 132 (.pointer (some ⟨r,0,none⟩)) (.chan (some c))).events prog w #[]=#[⟨.cell ⟨r,0,none⟩,true,false⟩]:=by
 obtain⟨i,hi,he⟩:=zaz.1 Rb;simp only[zag]at he;have hc:w.cell? ⟨r,0,none⟩=some (.chan none):=by simp[Ξ.cell?,h]
 have hf:w.frozen? ⟨r,0,none⟩=false:=by simp[Ξ.frozen?,h]
 constructor
 ·simp[Instr.storeAt,χ,storeVar,sizeOf,ό,hi,he.1,Φ.cells,storeCells,go_sem,hc,hf,Addr.add]
 ·simp[Instr.storeAt,χ,storeVar,sizeOf,ό,hi,he.1,Φ.cells,storeCells,go_sem,hc,hf,Addr.add]
section
variable {P:ζ}{Stop:Λ→Ξ→Prop}{Z:Loc→Prop}{B n:Nat}{w:Ξ}{b:π}{a:Act}{ops:Array Oper}{i:Nat}{rest:List Nat}{o:Oper}{kk:List Item}{cs:List π}
def DZ (Z:Loc→Prop)(B:Nat)(_ _:Ξ)(es:Array ϕ):Prop:=∀e∈es,EvL Z B e
theorem Goes.ctl {g g':Λ}(hs:g.status=.running)(h:∀w₁,ψ P true g w₁=.go g' w₁ #[])(k:Goes P true AtRel (DZ Z B) Stop n g' w):Goes P true AtRel (DZ Z B) Stop (n+1) g w:=
 Goes.silent atRel_trans (λ_=>by intro e he;simp at he) hs h k
theorem Goes.Jk (ho:ops[i]?=some o)(hw:ϙ o (ϗ ops a.tmps)=true)(hk:b.kind≠.early){dd:Option Tmp}(hdd:o.dst=dd){v:Φ}{nw:Ξ→Ξ}(hr:∀d,(θ a.eval o).run P (w.at d)=.ok (.value v) (nw (w.at d)))(he:∀d,(θ a.eval o).events P (w.at d) #[]=#[])
 (k:∀d,Goes P true AtRel (DZ Z B) Stop n (G (b.at (a.put dd v) (.inRegion ops rest::kk)) cs) (nw (w.at d))):Goes P true AtRel (DZ Z B) Stop (n+1) (G (b.at a (.inRegion ops (i::rest)::kk)) cs) w:=by
 subst hdd;refine Goes.step rfl λw₁ h₁=>?_;obtain⟨d,rfl⟩:=h₁;rw[stepG_value ho hw hk (hr d),listed_none (he d)];exact⟨λe he=>by simp at he,k d⟩
theorem Goes.opn (ho:ops[i]?=some o)(hw:ϙ o (ϗ ops a.tmps)=true)(hk:b.kind≠.early){dd:Option Tmp}(hdd:o.dst=dd){nw:Ξ→Ξ}{es:Array ϕ}(hr:∀d,(θ a.eval o).run P (w.at d)=.ok .skip (nw (w.at d)))(he:∀d,(θ a.eval o).events P (w.at d) #[]=es)(hes:∀e∈es,EvL Z B e)
 (k:∀d,Goes P true AtRel (DZ Z B) Stop n (G (b.at (a.put dd Θ) (.inRegion ops rest::kk)) cs) (nw (w.at d))):Goes P true AtRel (DZ Z B) Stop (n+1) (G (b.at a (.inRegion ops (i::rest)::kk)) cs) w:=by
 subst hdd;refine Goes.step rfl λw₁ h₁=>?_;obtain⟨d,rfl⟩:=h₁;rw[stepG_none ho hw hk (hr d)];refine⟨λe hm=>hes e ?_,k d⟩;unfold listed at hm;rw[he d]at hm;exact mem_seen hm
end
structure Laid (s:List UInt8) (w0 w:Ξ):Prop where
 size:w.heap.size=w0.heap.size+4
 old:∀b,b<w0.heap.size→w.heap[b]?=w0.heap[b]?
 txt:w.heap[w0.heap.size]?=some (.cells #[.string ⟨⟨s⟩⟩] 9)
 chan:w.heap[w0.heap.size+1]?=some (.chan 0 #[] false 0 0 false)
 box:w.heap[w0.heap.size+2]?=some (.cells #[.chan (some (w0.heap.size+1))] 132)
 tape:w.tape=w0.tape
 os:w.os=w0.os
 output:w.output=w0.output
structure GB (a:Act) (N:Nat):Prop where
 size:a.tmps.size=20
 s1:a.eval (.tmp 1)=.pointer (some ⟨N,0,none⟩)
 s3:a.eval (.tmp 3)=.pointer (some ⟨N+2,0,none⟩)
 s4:a.eval (.tmp 4)=.pointer (some ⟨N+3,0,none⟩)
 defers:a.defers=[]
def D1 (f:Func):Code:=dC 1 (BJ f)
def D2 (f:Func):Code:=dC 2 (BJ f)
def D3 (f:Func):Code:=dC 3 (BJ f)
def D4 (f:Func):Code:=dC 4 (BJ f)
def g0 (f:Func):Array Oper:=fh (bD (BJ f))
def g1 (f:Func):Array Oper:=fh (bD (D1 f))
def g2 (f:Func):Array Oper:=fh (bD (D2 f))
def g3 (f:Func):Array Oper:=fh (bD (D3 f))
def g4 (f:Func):Array Oper:=fh (bD (D4 f))
def ZI (f:Func)(a:Act):π:=(base 43).at a (.inRegion (g3 f) [0]::.code (D4 f)::[])
def X8 (s:List UInt8)(w0:Ξ)(cs:List π)(g:Λ)(w:Ξ):Prop:=
 ∃a,GB a w0.heap.size∧g=G (π.enter prog 68 #[.pointer (some ⟨w0.heap.size+3,0,none⟩),Γ Δ 1] .normal) (ZI f43 a::cs)∧Laid s w0 w∧WgAt cv.tWg (w0.heap.size+3) w 0 0
theorem abQ:prog.funcs[43]?=some f43:=by kernel_rfl
def ZJ (s:List UInt8):Act:=⟨#[.string ⟨⟨s⟩⟩]++Array.replicate 19 Θ,[]⟩
theorem gO {H:Array Obj}{o:Obj}{b:Nat}(h:b<H.size):(H.push o)[b]?=H[b]?:=by rw[zcc,zaa (by omega)]
theorem tP {H:Array Obj}{o:Obj}{b:Nat}(h:b=H.size):(H.push o)[b]?=some o:=by subst h;simp
variable {cs:List π}
theorem Ke {Z:Loc→Prop}{B:Nat}(s:List UInt8)(w0:Ξ)(hZ:¬Z (.cell ⟨w0.heap.size+2,0,none⟩))(hB:w0.heap.size+2<B):Goes prog true AtRel (DZ Z B) (X8 s w0 cs) 19 (G (π.enter prog 43 #[.string ⟨⟨s⟩⟩] .normal) cs) w0:=by
 rw[enter_at (P:=prog) (f:=43) (c:=BJ f43) #[.string ⟨⟨s⟩⟩] abQ rfl];change Goes _ _ _ _ _ _ (G ((base 43).at (ZJ s) [.code (BJ f43)]) cs) _;have q0:(ZJ s).eval (.tmp 0)=.string ⟨⟨s⟩⟩:=by simp[ZJ,ϑ]
 have qs:(ZJ s).tmps.size=20:=by simp[ZJ]
 have qd:(ZJ s).defers=[]:=rfl;generalize ZJ s=a at *;refine Goes.ctl rfl (λ_=>zaU (x:= .region 0 (g0 f43) false) (y:=D1 f43)) ?_;refine Goes.ctl rfl (λ_=>zaX) ?_;refine Goes.Jk (ops:=g0 f43) (i:=0) (rest:=[1]) rfl rfl (by decide) (dd:=some 1) rfl (v:= .pointer (some ⟨w0.heap.size,0,none⟩)) (nw:=λw=>w.alloc (.cells #[.string ⟨⟨s⟩⟩] 9)) (λd=>?_) (λd=>?_) (λd=>?_)
 ·have hop:(g0 f43)[0].op=.box 9 (.tmp 0):=rfl;unfold θ;simp only[hop,q0,zaV,(bx _ _).1,zaW,zbb];rfl
 ·have hop:(g0 f43)[0].op=.box 9 (.tmp 0):=rfl;unfold θ;simp only[hop,q0,Sem.events_bind,(bx _ _).1,(bx _ _).2,Result.evThen_ok,Sem.events_pure]
 have hs1:((w0.at d).alloc (.cells #[.string ⟨⟨s⟩⟩] 9)).heap.size=w0.heap.size+1:=bM _ _;have Zy:∀b,b<w0.heap.size→((w0.at d).alloc (.cells #[.string ⟨⟨s⟩⟩] 9)).heap[b]?=w0.heap[b]?:=λb h=>gO (H:=w0.heap) h;have hx1:((w0.at d).alloc (.cells #[.string ⟨⟨s⟩⟩] 9)).heap[w0.heap.size]?=some (.cells #[.string ⟨⟨s⟩⟩] 9):=tP (H:=w0.heap) rfl;have oo:((w0.at d).alloc (.cells #[.string ⟨⟨s⟩⟩] 9)).tape=w0.tape∧((w0.at d).alloc (.cells #[.string ⟨⟨s⟩⟩] 9)).os=w0.os∧((w0.at d).alloc (.cells #[.string ⟨⟨s⟩⟩] 9)).output=w0.output:=⟨rfl,rfl,rfl⟩;generalize (w0.at d).alloc (.cells #[.string ⟨⟨s⟩⟩] 9)=w1 at *;have p1:(a.put (some 1) (.pointer (some ⟨w0.heap.size,0,none⟩))).eval (.tmp 1)=.pointer (some ⟨w0.heap.size,0,none⟩):=aU (by rw[qs];decide);have qs1:(a.put (some 1) (.pointer (some ⟨w0.heap.size,0,none⟩))).tmps.size=20:=size_put.trans qs;have qd1:(a.put (some 1) (.pointer (some ⟨w0.heap.size,0,none⟩))).defers=[]:=cG.trans qd;generalize a.put (some 1) (.pointer (some ⟨w0.heap.size,0,none⟩))=a1 at *;refine Goes.Jk (ops:=g0 f43) (i:=1) (rest:=[]) rfl rfl (by decide) (dd:=some 2) rfl (v:= .slice none 0 0) (nw:=λw=>w) (λd=>rfl) (λd=>rfl) (λd1=>?_);have p1':(a1.put (some 2) (.slice none 0 0)).eval (.tmp 1)=.pointer (some ⟨w0.heap.size,0,none⟩):=(aF (by decide)).trans p1;have qs2:(a1.put (some 2) (.slice none 0 0)).tmps.size=20:=size_put.trans qs1;have qd2:(a1.put (some 2) (.slice none 0 0)).defers=[]:=cG.trans qd1;generalize a1.put (some 2) (.slice none 0 0)=a2 at *;replace hs1:(w1.at d1).heap.size=w0.heap.size+1:=hs1;replace Zy:∀b,b<w0.heap.size→(w1.at d1).heap[b]?=w0.heap[b]?:=Zy;replace hx1:(w1.at d1).heap[w0.heap.size]?=some (.cells #[.string ⟨⟨s⟩⟩] 9):=hx1;replace oo:(w1.at d1).tape=w0.tape∧(w1.at d1).os=w0.os∧(w1.at d1).output=w0.output:=oo;generalize w1.at d1=w2 at *;refine Goes.ctl rfl (λ_=>zaZ) ?_;refine Goes.ctl rfl (λ_=>zaU (x:= .region 1 (g1 f43) false) (y:=D2 f43)) ?_;refine Goes.ctl rfl (λ_=>zaX) ?_;refine Goes.Jk (ops:=g1 f43) (i:=0) (rest:=[1,2]) rfl rfl (by decide) (dd:=some 7) rfl (v:= .chan (some w2.heap.size)) (nw:=λw=>w.alloc (.chan 0 #[] false 0 0 false)) (λd=>?_) (λd=>?_) (λd2=>?_)
 ·have hop:(g1 f43)[0].op=.makeChan 132 (.const (Γ Δ 0)):=rfl;unfold θ;simp only[hop,ϑ,zaV,(mkc _).1,zaW,zbb];rfl
 ·have hop:(g1 f43)[0].op=.makeChan 132 (.const (Γ Δ 0)):=rfl;unfold θ;simp only[hop,ϑ,Sem.events_bind,(mkc _).1,(mkc _).2,Result.evThen_ok,Sem.events_pure]
 rw[hs1];have p7:(a2.put (some 7) (.chan (some (w0.heap.size+1)))).eval (.tmp 7)=.chan (some (w0.heap.size+1)):=aU (by rw[qs2];decide);have p1a:(a2.put (some 7) (.chan (some (w0.heap.size+1)))).eval (.tmp 1)=.pointer (some ⟨w0.heap.size,0,none⟩):=(aF (by decide)).trans p1';have qs3:(a2.put (some 7) (.chan (some (w0.heap.size+1)))).tmps.size=20:=size_put.trans qs2;have qd3:(a2.put (some 7) (.chan (some (w0.heap.size+1)))).defers=[]:=cG.trans qd2;generalize a2.put (some 7) (.chan (some (w0.heap.size+1)))=a3 at *;have hs2:((w2.at d2).alloc (.chan 0 #[] false 0 0 false)).heap.size=w0.heap.size+2:=(bM _ _).trans (zal (· + 1) hs1);have ho2:∀b,b<w0.heap.size→((w2.at d2).alloc (.chan 0 #[] false 0 0 false)).heap[b]?=w0.heap[b]?:=λb h=>(gO (H:=w2.heap) (by omega)).trans (Zy b h);have hx2:((w2.at d2).alloc (.chan 0 #[] false 0 0 false)).heap[w0.heap.size]?=some (.cells #[.string ⟨⟨s⟩⟩] 9):=(gO (H:=w2.heap) (by omega)).trans hx1;have hc2:((w2.at d2).alloc (.chan 0 #[] false 0 0 false)).heap[w0.heap.size+1]?=some (.chan 0 #[] false 0 0 false):=tP (H:=w2.heap) hs1.symm;have Wb:((w2.at d2).alloc (.chan 0 #[] false 0 0 false)).tape=w0.tape∧((w2.at d2).alloc (.chan 0 #[] false 0 0 false)).os=w0.os∧((w2.at d2).alloc (.chan 0 #[] false 0 0 false)).output=w0.output:=oo;generalize (w2.at d2).alloc (.chan 0 #[] false 0 0 false)=w3 at *;obtain⟨i77,ZK,Wc⟩:=zaz.1 Rb;simp only[zag]at Wc;refine Goes.Jk (ops:=g1 f43) (i:=1) (rest:=[2]) rfl rfl (by decide) (dd:=some 3) rfl (v:= .pointer (some ⟨w3.heap.size,0,none⟩)) (nw:=λw=>w.alloc (.cells #[.chan none] 132)) (λd=>?_) (λd=>?_) (λd3=>?_)
 ·have hop:(g1 f43)[1].op=.alloc 132:=rfl;unfold θ;simp only[hop,zaV,(alz ZK Wc.2 _).1,zaW,zbb];rfl
 ·have hop:(g1 f43)[1].op=.alloc 132:=rfl;unfold θ;simp only[hop,Sem.events_bind,(alz ZK Wc.2 _).1,(alz ZK Wc.2 _).2,Result.evThen_ok,Sem.events_pure]
 rw[hs2];have p3:(a3.put (some 3) (.pointer (some ⟨w0.heap.size+2,0,none⟩))).eval (.tmp 3)=.pointer (some ⟨w0.heap.size+2,0,none⟩):=aU (by rw[qs3];decide);have p7b:(a3.put (some 3) (.pointer (some ⟨w0.heap.size+2,0,none⟩))).eval (.tmp 7)=.chan (some (w0.heap.size+1)):=(aF (by decide)).trans p7;have p1b:(a3.put (some 3) (.pointer (some ⟨w0.heap.size+2,0,none⟩))).eval (.tmp 1)=.pointer (some ⟨w0.heap.size,0,none⟩):=(aF (by decide)).trans p1a;have qs4:(a3.put (some 3) (.pointer (some ⟨w0.heap.size+2,0,none⟩))).tmps.size=20:=size_put.trans qs3;have qd4:(a3.put (some 3) (.pointer (some ⟨w0.heap.size+2,0,none⟩))).defers=[]:=cG.trans qd3;generalize a3.put (some 3) (.pointer (some ⟨w0.heap.size+2,0,none⟩))=a4 at *;have hs3:((w3.at d3).alloc (.cells #[.chan none] 132)).heap.size=w0.heap.size+3:=(bM _ _).trans (zal (· + 1) hs2);have ho3:∀b,b<w0.heap.size→((w3.at d3).alloc (.cells #[.chan none] 132)).heap[b]?=w0.heap[b]?:=λb h=>(gO (H:=w3.heap) (by omega)).trans (ho2 b h);have hx3:((w3.at d3).alloc (.cells #[.chan none] 132)).heap[w0.heap.size]?=some (.cells #[.string ⟨⟨s⟩⟩] 9):=(gO (H:=w3.heap) (by omega)).trans hx2;have hc3:((w3.at d3).alloc (.cells #[.chan none] 132)).heap[w0.heap.size+1]?=some (.chan 0 #[] false 0 0 false):=(gO (H:=w3.heap) (by omega)).trans hc2;have hy3:((w3.at d3).alloc (.cells #[.chan none] 132)).heap[w0.heap.size+2]?=some (.cells #[.chan none] 132):=tP (H:=w3.heap) hs2.symm;have ht3:((w3.at d3).alloc (.cells #[.chan none] 132)).tape=w0.tape∧((w3.at d3).alloc (.cells #[.chan none] 132)).os=w0.os∧((w3.at d3).alloc (.cells #[.chan none] 132)).output=w0.output:=Wb;generalize (w3.at d3).alloc (.cells #[.chan none] 132)=w4 at *;refine Goes.opn (ops:=g1 f43) (i:=2) (rest:=[]) rfl rfl (by decide) (dd:=none) rfl (nw:=λw=>w.setCell ⟨w0.heap.size+2,0,none⟩ (.chan (some (w0.heap.size+1)))) (es:=#[⟨.cell ⟨w0.heap.size+2,0,none⟩,true,false⟩]) (λd=>?_) (λd=>?_) (λe he=>?_) (λd4=>?_)
 ·have hop:(g1 f43)[2].op=.store 132 (.tmp 3) (.tmp 7):=rfl;have hq:(w4.at d).heap[w0.heap.size+2]?=some (.cells #[.chan none] 132):=hy3;unfold θ;simp only[hop,p3,p7b,zaV,(stz hq).1,zaW,zbb]
 ·have hop:(g1 f43)[2].op=.store 132 (.tmp 3) (.tmp 7):=rfl;have hq:(w4.at d).heap[w0.heap.size+2]?=some (.cells #[.chan none] 132):=hy3;unfold θ;simp only[hop,p3,p7b,Sem.events_bind,(stz hq).1,(stz hq).2,Result.evThen_ok,Sem.events_pure]
 ·simp only[zbR,zav,zbz,or_false]at he;subst he;refine⟨λx hx hz=>?_,by simp,by simp,?_⟩
  ·simp only[ξ,MemAct.touch?]at hx;cases hx;exact absurd hz hZ
  ·exact hB
 rw[y8];have Re:((w4.at d4).setCell ⟨w0.heap.size+2,0,none⟩ (.chan (some (w0.heap.size+1)))).heap.size=w0.heap.size+3:=by
  show(Array.modify w4.heap _ _).size=_;rw[Array.size_modify];exact hs3
 have ho4:∀b,b<w0.heap.size→((w4.at d4).setCell ⟨w0.heap.size+2,0,none⟩ (.chan (some (w0.heap.size+1)))).heap[b]?=w0.heap[b]?:=λb h=>(zau _ _ _ b (by show b≠w0.heap.size+2;omega)).trans (ho3 b h);have hx4:((w4.at d4).setCell ⟨w0.heap.size+2,0,none⟩ (.chan (some (w0.heap.size+1)))).heap[w0.heap.size]?=some (.cells #[.string ⟨⟨s⟩⟩] 9):=(zau _ _ _ _ (by show w0.heap.size≠w0.heap.size+2;omega)).trans hx3;have hc4:((w4.at d4).setCell ⟨w0.heap.size+2,0,none⟩ (.chan (some (w0.heap.size+1)))).heap[w0.heap.size+1]?=some (.chan 0 #[] false 0 0 false):=(zau _ _ _ _ (by show w0.heap.size+1≠w0.heap.size+2;omega)).trans hc3;have hy4:((w4.at d4).setCell ⟨w0.heap.size+2,0,none⟩ (.chan (some (w0.heap.size+1)))).heap[w0.heap.size+2]?=some (.cells #[.chan (some (w0.heap.size+1))] 132):=one_setCell (w:=w4.at d4) hy3;have ht4:((w4.at d4).setCell ⟨w0.heap.size+2,0,none⟩ (.chan (some (w0.heap.size+1)))).tape=w0.tape∧((w4.at d4).setCell ⟨w0.heap.size+2,0,none⟩ (.chan (some (w0.heap.size+1)))).os=w0.os∧((w4.at d4).setCell ⟨w0.heap.size+2,0,none⟩ (.chan (some (w0.heap.size+1)))).output=w0.output:=ht3;generalize (w4.at d4).setCell ⟨w0.heap.size+2,0,none⟩ (.chan (some (w0.heap.size+1)))=w5 at *;refine Goes.ctl rfl (λ_=>zaZ) ?_;refine Goes.ctl rfl (λ_=>zaU (x:= .region 2 (g2 f43) false) (y:=D3 f43)) ?_;refine Goes.ctl rfl (λ_=>zaX) ?_;obtain⟨i87,ZL,ad4⟩:=zaz.1 ZH;obtain⟨z87,ZM,abR⟩:=zaz.1 ad4;refine Goes.Jk (ops:=g2 f43) (i:=0) (rest:=[]) rfl rfl (by decide) (dd:=some 4) rfl (v:= .pointer (some ⟨w5.heap.size,0,none⟩)) (nw:=λw=>w.alloc (wgBlock cv.tWg 0 0)) (λd=>?_) (λd=>?_) (λd5=>?_)
 ·have hop:(g2 f43)[0].op=.alloc 142:=rfl;unfold θ;simp only[hop,zaV,(alz ZL ZM _).1,zaW,zbb,abR];rfl
 ·have hop:(g2 f43)[0].op=.alloc 142:=rfl;unfold θ;simp only[hop,Sem.events_bind,(alz ZL ZM _).1,(alz ZL ZM _).2,Result.evThen_ok,Sem.events_pure]
 rw[Re];have gb:GB (a4.put (some 4) (.pointer (some ⟨w0.heap.size+3,0,none⟩))) w0.heap.size:=⟨size_put.trans qs4,(aF (by decide)).trans p1b,(aF (by decide)).trans p3,aU (by rw[qs4];decide),cG.trans qd4⟩;generalize a4.put (some 4) (.pointer (some ⟨w0.heap.size+3,0,none⟩))=a5 at *;have hl:Laid s w0 ((w5.at d5).alloc (wgBlock cv.tWg 0 0)):=⟨(bM _ _).trans (zal (· + 1) Re),λb h=>(gO (H:=w5.heap) (by omega)).trans (ho4 b h),(gO (H:=w5.heap) (by omega)).trans hx4,(gO (H:=w5.heap) (by omega)).trans hc4,(gO (H:=w5.heap) (by omega)).trans hy4,ht4.1,ht4.2.1,ht4.2.2⟩;have JK:WgAt cv.tWg (w0.heap.size+3) ((w5.at d5).alloc (wgBlock cv.tWg 0 0)) 0 0:=tP (H:=w5.heap) Re.symm;generalize (w5.at d5).alloc (wgBlock cv.tWg 0 0)=w6 at *;refine Goes.ctl rfl (λ_=>zaZ) ?_;refine Goes.ctl rfl (λ_=>zaU (x:= .region 3 (g3 f43) false) (y:=D4 f43)) ?_;refine Goes.ctl rfl (λ_=>zaX) ?_;refine Goes.ctl rfl (λ_=>jY (ops:=g3 f43) (i:=0) (rest:=[]) (f:=68) (args:=#[.pointer (some ⟨w0.heap.size+3,0,none⟩),Γ Δ 1]) rfl rfl (by decide) rfl (by have h4:=gb.s4;simp only[zbT,zaD,zbu,h4];rfl)) ?_;refine Goes.stop λw₁ h₁=>?_;obtain⟨d6,rfl⟩:=h₁;exact⟨a5,gb,rfl,⟨hl.size,hl.old,hl.txt,hl.chan,hl.box,hl.tape,hl.os,hl.output⟩,JK⟩
end Go.Ren
namespace Go.Ren
open Go Go.Conc
open Go.ConcN (sumTo upd sumTo_upd upd_ne upd_same)
structure fK (Q Shun:Loc→Prop) (B d:Nat) (t:ι):Prop where
 clean:∀said,¬Race said t
 known:∀i a,touchAt t i=some a→a.loc.isMemory=true→Knows t 0 i∨(Shun a.loc∧a.kind=.atomic)
 over:t.HandedOver
 deaf:Deaf t 0=d
 seen:∀op∈t,op.act.low B
 quiet:∀i a,touchAt t i=some a→Q a.loc→a.kind≠.plain∧(a.kind=.said→t.g? i=some 0)
section
variable {Q Shun:Loc→Prop}{B d d':Nat}{t u:ι}
theorem fK.past (h:fK Q Shun B 0 t):Past Shun B t:=⟨h.clean,h.known,h.over,h.deaf,h.seen⟩
theorem fK.Mj (h:Past Shun B t)(hq:∀i a,touchAt t i=some a→¬Q a.loc):fK Q Shun B 0 t:=⟨h.clean,h.known,h.over,h.hears,h.seen,λi a ha hl=>absurd hl (hq i a ha)⟩
theorem fK.app0 (h:fK Q Shun B d t)(hu:∀op∈u,op.g=0)(hs:∀op∈u,∀b,op.act.touch? =some b→(Shun b.loc∨Q b.loc)→b.kind≠.plain)(hd:Deaf (t++u) 0=d')(hl:∀op∈u,op.act.low B):fK Q Shun B d' (t++u):=by
 refine⟨λsaid=>noRace_append (h.clean said) hu λi a ha op hop b hb hc=>?_,λi a ha hm=>?_,handedOver_app h.over λop hop=> .inl (hu op hop),hd,seen_app h.seen hl,λi a ha hq=>?_⟩
 ·rcases h.known i a ha hc.2.1 with hk|⟨Fw,hka⟩
  ·exact hk
  ·have hkb:=hs op hop b hb (.inl (hc.1▸Fw));obtain⟨_,_,_,Ct⟩:=hc;rw[hka]at Ct;rcases Ct with x|x|⟨_,x,_⟩
   ·cases x
   ·exact absurd x hkb
   ·cases x
 ·rcases bH ha with⟨_,ha'⟩|⟨_,op,hop,hx,_⟩
  ·exact(h.known i a ha' hm).imp (·.app u) id
  ·have:=knows_own hx;rw[hu op hop]at this;exact .inl this
 ·rcases bH ha with⟨hi,ha'⟩|⟨_,op,hop,hx,hb⟩
  ·rw[g?_old hi];exact h.quiet i a ha' hq
  ·exact⟨hs op hop a hb (.inr hq),λ_=>by simp[Trace.g?,hx,hu op hop]⟩
theorem fK.appMute {g:Nat}(h:fK Q Shun B d t)(hg:g≠0)(hu:∀op∈u,op.g=g)(hn:∀op∈u,op.act.touch? =none)(hl:∀op∈u,op.act.low B):fK Q Shun B d (t++u):=by
 have old:∀{i a},touchAt (t++u) i=some a→i<t.size∧touchAt t i=some a:=λha=>by
  rcases bH ha with h|⟨_,op,hop,_,hx⟩
  ·exact h
  ·rw[hn op hop]at hx;cases hx
 refine⟨λsaid=>noRace_append (h.clean said) hu λi a _ op hop b hb _=>(by rw[hn op hop]at hb;cases hb),λi a ha hm=>?_,handedOver_app h.over λop hop=> .inr (hn op hop),(zaN t hg u hu).trans h.deaf,seen_app h.seen hl,λi a ha hq=>?_⟩
 ·exact(h.known i a (old ha).2 hm).imp (·.app u) id
 ·rw[g?_old (old ha).1];exact h.quiet i a (old ha).2 hq
end
section
variable {P:ζ}{Q Shun:Loc→Prop}{B d:Nat}{K:Machine→ι→Prop}{a:Λ}
theorem p5 {J:Ξ→ι→Prop}{n:Nat}(ha:a.status=.running)
 (hJ:∀w t d ops,J w t→(∃g,g≠0∧∀op∈ops,op.g=g)→(∀op∈ops,op.act.touch? =none∧∀a,op.act≠.mark (.release a))→(∀B,∀op∈ops,op.act.low B)→J (w.at d) (t++ops))
 (H:∀gs w sl t q,gs.size=n→ώ P t gs q→gs[0]?=some a→J w t→∃m' ops,runT P (ω gs w sl) 0=(.next m',ops)∧Reach P m' (t++ops) K):
 ∀gs w sl t q,gs.size=n→ώ P t gs q→gs[0]?=some a→J w t→Reach P (ω gs w sl) t K:=by
 intro gs w sl t q hn hL h0 hj;generalize hM:sumTo n q=M
 induction M using Nat.strongRecOn generalizing gs w sl t q with
 |_ M ih=>
 have Zd:∀g∈gs,awake g:=by
  intro g hg;obtain⟨i,hi,rfl⟩:=zci.1 hg;rcases zcr i with rfl|jy
  ·have:gs[0]=a:=by simpa[Array.getElem?_eq_getElem hi]using h0
   rw[this];exact awake_of (.inl ha)
  ·exact awake_of ((hL.old i _ jy (zaH hi)).status.elim .inl λx=> .inr (.inr x))
 obtain⟨i,g,dd,sl',hi,hg,hst⟩:=crowd_pick (P:=P) (w:=w) (sl:=sl) Zd ⟨0,a,h0,ha⟩;have xO:J (w.at dd) t:=by
  have:=hJ w t dd #[] hj ⟨1,by decide,by simp⟩ (by simp) (by simp);simpa using this
 rcases zcr i with rfl|jy
 ·obtain⟨m',ops,e,hR⟩:=H gs (w.at dd) sl' t q hn hL h0 xO;exact Reach.step (hst.trans e) hR
 ·have hq:=hL.old i g jy hi;have UT:(i==0)=false:=by simp;omega
  have hlt:i<gs.size:=(zaf.1 hi).1;cases JM:q i with
  |zero=>rw[JM]at hq;rw[hq.1]at hg;cases hg
  |succ k=>
   rw[JM]at hq;rcases hq with⟨hf,_⟩|⟨_,g',es,hm,JN,hq'⟩
   ·rw[hf]at hg;cases hg
   have tD:=runT_crowd_go (P:=P) (sl:=sl') (i:=i) hi (by rw[UT];exact JN (w.at dd));have Ze:sumTo n (upd q i k)+(k+1)=sumTo n q+k:=by
    have:=sumTo_upd q k id (hn▸hlt);simpa[JM]using this
   refine Reach.step (hst.trans tD) (ih (sumTo n (upd q i k)) (by omega) _ (w.at dd) sl' _ (upd q i k) (by simp[hn]) ⟨λj x hj hx=>?_,λj hj=>?_⟩ ?_ (hJ w t dd _ hj ⟨i,by omega,ofEvents_g⟩ (λop hop=>?_) (λB op hop=>?_)) rfl)
   ·by_cases xo:i=j
    ·subst xo;rw[zbv (by simpa using hlt)]at hx;obtain rfl:=zaF hx;rw[upd_same,Deaf_own];exact hq'
    ·rw[zaB xo,zaE]at hx;obtain⟨y,hy,rfl⟩:=zaz.1 hx;have Ql:=hL.old j y hj hy;rw[woken_quitsD Ql,upd_ne q k (Ne.symm xo),zaN t xo _ ofEvents_g];exact Ql
   ·rw[zaN t (g':=i) (by simp at hj;omega) _ ofEvents_g];exact hL.above j (by simpa using hj)
   ·rw[zaB (by omega),zaE,h0];simp[woken_run ha]
   ·obtain⟨e,he,rfl⟩:=zbe hop;exact⟨touch_mute (hm e he),λa=>rY (hm e he) a⟩
   ·obtain⟨e,he,rfl⟩:=zbe hop;exact low_mute (hm e he) B
theorem zC {t:ι}{gs:Array Λ}{q:Nat→Nat}{a':Λ}{w w':Ξ}{sl:Option (Nat×Nat)}{es:Array ϕ}(hL:ώ P t gs q)(h0:gs[0]?=some a)(hs:ψ P true a w=.go a' w' es):∃gs',runT P (ω gs w sl) 0=(.next (ω gs' w' sl),Ω 0 a.frame.fn a.frame.place es)∧gs'.size=gs.size∧ώ P (t++Ω 0 a.frame.fn a.frame.place es) gs' q∧gs'[0]?=some a':=by
 have hlt:0<gs.size:=(zaf.1 h0).1;refine⟨_,runT_crowd_go (P:=P) (sl:=sl) (i:=0) h0 (show ψ P (0==0) a w=_ from hs),by simp,⟨λj x hj hx=>?_,λj hj=>?_⟩,by simp[hlt]⟩
 ·rw[zaB (by omega),zaE]at hx;obtain⟨y,hy,rfl⟩:=zaz.1 hx;have hq:=hL.old j y hj hy;rw[woken_quitsD hq,zaN t (by omega) _ ofEvents_g];exact hq
 ·rw[zaN t (g':=0) (by simp at hj;omega) _ ofEvents_g];exact hL.above j (by simpa using hj)
def At0 (P:ζ)(Q Shun:Loc→Prop)(B d n:Nat)(Stop:Λ→Ξ→Prop)(m:Machine)(t:ι):Prop:=
 ∃gs a w sl q,m=ω gs w sl∧gs.size=n∧gs[0]?=some a∧(∀w₁,AtRel w w₁→Stop a w₁)∧ώ P t gs q∧fK Q Shun B d t
theorem jZ {D:Ξ→Ξ→Array ϕ→Prop}{Stop:Λ→Ξ→Prop}(hD:∀w w' es,D w w' es→∀e∈es,EvL (λl=>Shun l∨Q l) B e){n:Nat}:∀(N:Nat) (a:Λ) (w:Ξ),Goes P true AtRel D Stop N a w→∀gs sl t q,gs.size=n→ώ P t gs q→gs[0]?=some a→fK Q Shun B d t→Reach P (ω gs w sl) t (At0 P Q Shun B d n Stop):=by
 intro N
 induction N with
 |zero=>intro a w hG gs sl t q hn hL h0 hP;exact .here ⟨gs,a,w,sl,q,rfl,hn,h0,hG,hL,hP⟩
 |succ N ih=>
  intro a w hG gs sl t q hn hL h0 hP;rcases hG with Gu|⟨hrun,hstep⟩
  ·exact .here ⟨gs,a,w,sl,q,rfl,hn,h0,Gu,hL,hP⟩
  refine p5 (J:=λw₁ t=>AtRel w w₁∧fK Q Shun B d t) hrun (λw₁ t dd ops hj ⟨g,hg,hgo⟩ h1 h2=>⟨atRel_trans _ _ _ hj.1 ⟨dd,rfl⟩,hj.2.appMute hg hgo (λop hop=>(h1 op hop).1) (h2 B)⟩) (λgs w₁ sl t q hn hL h0 hj=>?_) gs w sl t q hn hL h0 ⟨atRel_refl w,hP⟩;obtain⟨a',w',es,hgo,hd,hG'⟩:=goes_elim (hstep w₁ hj.1);obtain⟨gs',e1,e2,e3,e4⟩:=zC (sl:=sl) hL h0 hgo;have gf:=hD _ _ _ hd;refine⟨_,_,e1,ih a' w' hG' gs' sl _ q (e2.trans hn) e3 e4 (hj.2.app0 ofEvents_g (λop hop b hb hs=>?_) ?_ (λop hop=>?_))⟩
  ·obtain⟨e,he,rfl⟩:=zbe hop;exact(gf e he).1 b hb hs
  ·rw[Deaf_own,deafBehind_still (λe he=>⟨(gf e he).2.1,(gf e he).2.2.1⟩)];exact hj.2.deaf
  ·obtain⟨e,he,rfl⟩:=zbe hop;exact(gf e he).2.2.2
theorem wV {mk:Mark}{Next:Λ→Ξ→Prop}{n:Nat}(hm:(MemAct.mark mk).touch? =none)(hl:(MemAct.mark mk).low B){gs:Array Λ}{a:Λ}{w:Ξ}{sl:Option (Nat×Nat)}{t:ι}{q:Nat→Nat}(hn:gs.size=n)(hL:ώ P t gs q)(h0:gs[0]?=some a)(hP:fK Q Shun B d t)
 (hS:∀w₁,AtRel w w₁→Go.ConcX.AtMkS P mk Next a w₁):Reach P (ω gs w sl) t λm t=>∃gs a w sl q,m=ω gs w sl∧gs.size=n∧gs[0]?=some a∧Next a w∧ώ P t gs q∧fK Q Shun B (deafBehind d #[Go.ConcX.mk mk]) t:=by
 refine p5 (J:=λw₁ t=>AtRel w w₁∧fK Q Shun B d t) (hS w (atRel_refl w)).1 (λw₁ t dd ops hj ⟨g,hg,hgo⟩ h1 h2=>⟨atRel_trans _ _ _ hj.1 ⟨dd,rfl⟩,hj.2.appMute hg hgo (λop hop=>(h1 op hop).1) (h2 B)⟩) (λgs w₁ sl t q hn hL h0 hj=>?_) gs w sl t q hn hL h0 ⟨atRel_refl w,hP⟩;obtain⟨_,a',hgo,oX⟩:=hS w₁ hj.1;obtain⟨gs',e1,e2,e3,e4⟩:=zC (sl:=sl) hL h0 hgo;refine⟨_,_,e1,.here ⟨gs',a',w₁,sl,q,rfl,e2.trans hn,e4,oX,e3,hj.2.app0 ofEvents_g (λop hop b hb hs=>?_) ?_ (λop hop=>?_)⟩⟩
 ·obtain⟨e,he,rfl⟩:=zbe hop;simp at he;subst he;rw[show(ξ (Go.ConcX.mk mk))=.mark mk from rfl,hm]at hb;cases hb
 ·rw[Deaf_own,hj.2.deaf]
 ·obtain⟨e,he,rfl⟩:=zbe hop;simp at he;subst he;exact hl
end
end Go.Ren
namespace Go.Ren
open Go Go.Conc
open Go.ConcX (KK WgAt)
section
variable {P:ζ}{Q Shun Shun':Loc→Prop}{B c:Nat}{ro:Nat→Prop}{t:ι}
theorem Wd (hP:fK Q Shun B 0 t)(gz:∀l,Shun l→Shun' l)(hro:∀l,kx ro l→¬Shun l)(hc0:c≠0)(Rf:Deaf t c=0){x y:MemOp}(hx:x.g=0∧x.act=.go c)(hy:y.g=c∧y.act=.start):TI Q Shun' c (λ_=>False) ro B (t++#[x,y])∧∀g,Deaf (t++#[x,y]) g=Deaf t g:=by
 have e:t++#[x,y]=(t++#[x])++#[y]:=by apply Array.toList_inj.1;simp
 have dx:∀g,Deaf (t++#[x]) g=Deaf t g:=λg=>dt t g _ λop hop m=>by simp at hop;subst hop;rw[hx.2];simp
 have dy:∀g,Deaf (t++#[x]++#[y]) g=Deaf (t++#[x]) g:=λg=>dt _ g _ λop hop m=>by simp at hop;subst hop;rw[hy.2];simp
 have h1:fK Q Shun B 0 (t++#[x]):=hP.app0 (λop hop=>by simp at hop;subst hop;exact hx.1) (λop hop b hb=>by simp at hop;subst hop;rw[hx.2]at hb;cases hb) ((dx 0).trans hP.deaf) (λop hop=>by simp at hop;subst hop;rw[hx.2];trivial);have h2:fK Q Shun B 0 (t++#[x]++#[y]):=h1.appMute hc0 (λop hop=>by simp at hop;subst hop;exact hy.1) (λop hop=>by simp at hop;subst hop;rw[hy.2];rfl) (λop hop=>by simp at hop;subst hop;rw[hy.2];trivial);rw[e];refine⟨⟨h2.clean,λi a ha hm=>(h2.known i a ha hm).imp id λh=> .inl ⟨gz _ h.1,h.2⟩,λi a _ hg=>?_,λi a ha hr hw=>?_,h2.quiet,λi g hg h0 _ Fj=>h2.over i g hg h0 Fj,h2.seen⟩,λg=>(dy g).trans (dx g)⟩
 ·generalize a.loc=l at hg;cases l<;>exact hg.elim
 ·have sf:a.loc.isMemory=true:=by
   generalize a.loc=l at hr;cases l<;>first|rfl|exact hr.elim
  have hold:touchAt t i=some a:=by
   rcases bH ha with⟨hi,ha'⟩|⟨_,op,hop,_,hb⟩
   ·rcases bH ha' with⟨hi',ad5⟩|⟨_,op,hop,_,hb⟩
    ·exact ad5
    ·simp at hop;subst hop;rw[hx.2]at hb;cases hb
   ·simp at hop;subst hop;rw[hy.2]at hb;cases hb
  have hk:Knows t 0 i:=(hP.known i a hold sf).resolve_right λh=>hro _ hr h.1;have gx:(t++#[x])[t.size]?=some x:=by simp
  have gx':(t++#[x]++#[y])[t.size]?=some x:=by rw[getElem?_append_old (by simp)];exact gx
  have gy:(t++#[x]++#[y])[t.size+1]?=some y:=by
   rw[Array.getElem?_append_right (by simp)];simp
  have b1:HappensBefore (t++#[x]++#[y]) i t.size:=hb_app _ (hk.hb_new (zab _) gx hx.1);have hh1:(t++#[x]++#[y]).heard t.size:=⟨0,by unfold Trace.g?;rw[gx'];simp[hx.1],by
   rw[deaf_old (by simp),deaf_old (zab _)];exact hP.deaf⟩
  have hh2:(t++#[x]++#[y]).heard (t.size+1):=⟨c,by unfold Trace.g?;rw[gy];simp[hy.1],by
   have hs:(t++#[x]).size=t.size+1:=by simp
   rw[←hs,deaf_old (zab _)];exact(dx c).trans Rf⟩
  have b2:HappensBefore (t++#[x]++#[y]) t.size (t.size+1):= .single (.inr ⟨.spawn (child:=c) (by rw[act?_of gx',hx.2]) (by rw[act?_of gy,hy.2]) (by unfold Trace.g?;rw[gy];simp[hy.1]),hh1,hh2⟩);exact⟨t.size+1,y,gy,hy.1,.inr (b1.trans b2)⟩
theorem Gv {n:Nat}(gz:∀l,Shun l→Shun' l)(hro:∀l,kx ro l→¬Shun l){gs:Array Λ}{a a' child:Λ}{w:Ξ}{sl:Option (Nat×Nat)}{q:Nat→Nat}(hn:gs.size=n)(hL:ώ P t gs q)(h0:gs[0]?=some a)(hP:fK Q Shun B 0 t)(ha:a.status=.running)
 (hS:∀w₁,AtRel w w₁→ψ P true a w₁=.spawn a' child w₁ #[]):
 Reach P (ω gs w sl) t λm t=>∃gs w₁ sl q,m=ω gs w₁ sl∧AtRel w w₁∧ez P n t gs q∧gs[0]?=some a'∧gs[n]?=some child∧TI Q Shun' n (λ_=>False) ro B t∧Deaf t 0=0∧Deaf t n=0:=by
 refine p5 (J:=λw₁ t=>AtRel w w₁∧fK Q Shun B 0 t) ha (λw₁ t dd ops hj ⟨g,hg,hgo⟩ h1 h2=>⟨atRel_trans _ _ _ hj.1 ⟨dd,rfl⟩,hj.2.appMute hg hgo (λop hop=>(h1 op hop).1) (h2 B)⟩) (λgs w₁ sl t q hn hL h0 hj=>?_) gs w sl t q hn hL h0 ⟨atRel_refl w,hP⟩;have hlt:0<gs.size:=(zaf.1 h0).1;have hrun:=runT_crowd_spawn (P:=P) (sl:=sl) (i:=0) h0 (show ψ P (0==0) a w₁=_ from hS w₁ hj.1);have Rf:Deaf t n=0:=hL.above n (by omega);have ad6:∀(x y:MemOp),((Ω 0 a.frame.fn a.frame.place #[]).push x).push y=#[x,y]:=λ_ _=>rfl;rw[ad6,hn]at hrun;obtain⟨hT,hD⟩:=Wd (c:=n) (x:={ g:=0,fn:=a.frame.fn,pos:=a.frame.place,act:= .go n }) (y:={ g:=n,fn:=child.frame.fn,pos:=a.frame.place,act:= .start }) hj.2 gz hro (by omega) Rf ⟨rfl,rfl⟩ ⟨rfl,rfl⟩;refine⟨_,_,hrun,.here ⟨_,w₁,sl,q,rfl,hj.1,⟨by simp[hn],by omega,λi g h1 h2 hg=>?_,λj hj'=>?_⟩,?_,?_,hT,(hD 0).trans hj.2.deaf,(hD n).trans Rf⟩⟩
 ·rw[hD i];refine hL.old i g h1 ?_;rw[zcc,zaa (by simp;omega),zaB (by omega)]at hg;exact hg
 ·rw[hD j];exact hL.above j (by omega)
 ·rw[Array.getElem?_push_lt (by simp;omega)];simp
 ·have:(gs.setIfInBounds 0 a').size=n:=by simp[hn]
  rw[←this,zcz]
end
section
variable {P:ζ}{ty:η}{Q Shun Shun':Loc→Prop}{ch Wg n:Nat}{ro:Nat→Prop}{z:Φ}{w:Ξ}{x y:vI Wg w.heap.size}{After:(Nat→Prop)→Ξ→Λ→Ξ→Prop}
theorem We (hY:Gc Q Shun' n ch Wg w.heap.size ro (λb=>b=ch∨b=Wg))(gz:∀l,Shun l→Shun' l)(Cs:x.C≠y.C)(hxS:∀a:Addr,a.block=x.C→¬Shun' (.cell a))(hyS:∀a:Addr,a.block=y.C→¬Shun' (.cell a))
 {vs:List Φ}{gs:Array Λ}{sl:Option (Nat×Nat)}{t:ι}{q:Nat→Nat}{a a' child:Λ}(hn:gs.size=n)(hL:ώ P t gs q)(h0:gs[0]?=some a)(hP:fK Q Shun w.heap.size 0 t)(ha:a.status=.running)
 (hS:∀w₁,AtRel w w₁→ψ P true a w₁=.spawn a' child w₁ #[])(hch:∃s r tm,w.heap[ch]?=some (.chan 0 #[] false s r tm))(hw:WgAt ty Wg w KK 0)
 (hM:∀w₁,AtRel w w₁→mC P ro ch z (QM P ty x y After) vs (λ_=>False) a' w₁)(hG:∀w₁,AtRel w w₁→ky P ro ch (Ny P ty x y) vs (λ_=>False) child w₁):
 Reach P (ω gs w sl) t λm t=>∃w₁,AtRel w w₁∧Joined P Shun' n ch Wg w.heap.size After w₁ m t:=by
 refine(Gv (Shun':=Shun') (ro:=ro) gz (λl hl hs=>hY.rS l hl (gz l hs)) hn hL h0 hP ha hS).bind ?_;rintro m t ⟨gs,w₁,sl,q,rfl,hr,hC,h0,hc,hT,QJ,hdc⟩;have mY:w₁.heap=w.heap:=by obtain⟨d,rfl⟩:=hr;rfl
 refine(Nz hY Cs hxS hyS hC h0 hc (hM w₁ hr) (hG w₁ hr) ⟨by rw[mY];exact hT,QJ,λ_=>hdc,λ_ h=>h.elim,λ_ h=>h.elim,λ_ h=>h.elim,by rw[mY];exact zab _,by rw[mY];exact hch,rfl,rfl,rfl,λ_ _ _=>rfl,rfl⟩ (hw.of_block (by rw[mY]))).mono λm t h=>⟨w₁,hr,h⟩
end
end Go.Ren
