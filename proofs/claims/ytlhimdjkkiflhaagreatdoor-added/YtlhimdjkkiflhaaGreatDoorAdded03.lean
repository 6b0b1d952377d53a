import Derived.Conc.CrowdComm
import Derived.Orders
import Derived.Conc.FxMachine2
import Derived.Conc.FxFork
import Derived.Test.YtlhimdjkkiflhaaGreatDoorAdded02
set_option maxHeartbeats 8000000
set_option maxRecDepth 100000
open Go renaming Goroutine→Γ,Frame→Θ,World→Λ,Program→Φ,Value→Ω,Trace→η,FuncId→θ,exitTo→ι,stepG→ξ,yielded→π,execOp→φ,Event→ψ,Operand→ω,undef→ϊ,TypeId→ϋ
open Go.MemOp renaming ofEvents→Δ
open Go.Sem renaming runT→Ξ
open Go.Region renaming wanted→ζ
open Go.Conc renaming crowd→υ
open Go.MemAct renaming ofEvent→χ
open Go.Instr renaming loadAt→ό
namespace Go.Ren
open Go Go.Conc
open Go.ConcN (sumTo upd sumTo_upd upd_ne upd_same)
def Reach (P:Φ)(m:Machine)(t:η)(Q:Machine→η→Prop):Prop:=∃N m' t',runNT P N m t=(.next m',t')∧Q m' t'
section
variable {P:Φ}{m m':Machine}{t:η}{Q Q':Machine→η→Prop}{ops:η}
theorem Reach.here (h:Q m t):Reach P m t Q:=⟨0,m,t,rfl,h⟩
theorem Reach.step (h:stepT P m=(.next m',ops))(k:Reach P m' (t++ops) Q):Reach P m t Q:=by
 obtain⟨N,a,b,h1,h2⟩:=k;exact⟨N+1,a,b,by simp only[runNT,h];exact h1,h2⟩
theorem Reach.bind (h:Reach P m t Q)(k:∀m t,Q m t→Reach P m t Q'):Reach P m t Q':=by
 obtain⟨N,a,b,h1,h2⟩:=h
 induction N generalizing m t with
 |zero=>
  simp only[runNT,zag,zbH]at h1;obtain⟨rfl,rfl⟩:=h1;exact k _ _ h2
 |succ N ih=>
  simp only[runNT]at h1;cases hs:stepT P m with
  |mk e ops=>
   rw[hs]at h1;cases e with
   |next m1=>exact Reach.step hs (ih h1)
   |_=>simp at h1
theorem Reach.mono (h:Reach P m t Q)(k:∀m t,Q m t→Q' m t):Reach P m t Q':=h.bind λ_ _ hq=> .here (k _ _ hq)
end
def FT (P:Φ)(w:Λ)(a:Γ):Prop:=∀x x' d,woken P x x' (w.at d) a=a
theorem FT.run {P:Φ}{w:Λ}{a:Γ}(h:a.status=.running):FT P w a:=λ_ _ _=>woken_run h
structure ez (P:Φ) (c:Nat) (t:η) (gs:Array Γ) (q:Nat→Nat):Prop where
 size:gs.size=c+1
 pos:0<c
 old:∀i g,0<i→i<c→gs[i]?=some g→QuitsD P (q i) (Deaf t i) g
 above:∀j,c<j→Deaf t j=0
section
variable {P:Φ}{c:Nat}{t:η}{gs:Array Γ}{q:Nat→Nat}{a b a' b':Γ}{w w':Λ}{sl:Option (Nat×Nat)}{es:Array ψ}
theorem ofEvents_g {g:Nat}{fn:θ}{pos:String}{es:Array ψ}:∀op∈Δ g fn pos es,op.g=g:=λop hop=>by obtain⟨e,_,rfl⟩:=zbe hop;rfl
theorem rY {e:ψ}(h:e.mute=true)(a:Addr):χ e≠.mark (.release a):=by
 obtain⟨loc,wr,sy⟩:=e;cases loc<;>simp_all [Event.mute];rename_i m;cases m<;>simp_all [χ]
theorem ez.get (h:ez P c t gs q){i:Nat}{g:Γ}(hi:gs[i]?=some g):i=0∨i=c∨(0<i∧i<c):=by
 have:=(zaf.1 hi).1;have:=h.size;omega
theorem JL (hC:ez P c t gs q)(h0:gs[0]?=some a)(hc:gs[c]?=some b)(UR:awake a)(hwb:awake b)(hrun:a.status=.running∨b.status=.running)(sa:FT P w a)(sb:FT P w b):(a.status=.running∧∃d sl',stepT P (υ gs w sl)=runT P (υ gs (w.at d) sl') 0)∨
 (b.status=.running∧∃d sl',stepT P (υ gs w sl)=runT P (υ gs (w.at d) sl') c)∨
 (∃gs' d sl' ops q',stepT P (υ gs w sl)=(.next (υ gs' (w.at d) sl'),ops)∧ez P c (t++ops) gs' q'∧gs'[0]?=some a∧gs'[c]?=some b∧sumTo c q'<sumTo c q∧(∀op∈ops,op.act.touch? =none∧∀a,op.act≠.mark (.release a))∧(∀B,∀op∈ops,op.act.low B)∧Deaf (t++ops) 0=Deaf t 0∧Deaf (t++ops) c=Deaf t c):=by
 have jy:=hC.pos;have Zd:∀g∈gs,awake g:=by
  intro g hg;obtain⟨i,hi,rfl⟩:=zci.1 hg;have hi':=zaH hi;rcases hC.get hi' with rfl|rfl|⟨h1,h2⟩
  ·rw[h0]at hi';obtain rfl:=zaF hi';exact UR
  ·rw[hc]at hi';obtain rfl:=zaF hi';exact hwb
  ·exact awake_of ((hC.old i _ h1 h2 hi').status.elim .inl λx=> .inr (.inr x))
 obtain⟨i,g,d,sl',hi,hg,hst⟩:=crowd_pick (P:=P) (w:=w) (sl:=sl) Zd (hrun.elim (λh=>⟨0,a,h0,h⟩) λh=>⟨c,b,hc,h⟩);rcases hC.get hi with rfl|rfl|⟨h1,h2⟩
 ·rw[h0]at hi;obtain rfl:=zaF hi;exact .inl ⟨hg,d,sl',hst⟩
 ·rw[hc]at hi;obtain rfl:=zaF hi;exact .inr (.inl ⟨hg,d,sl',hst⟩)
 ·right;right;have hq:=hC.old i g h1 h2 hi;have UT:(i==0)=false:=by simp;omega
  have hlt:i<gs.size:=(zaf.1 hi).1;cases JM:q i with
  |zero=>rw[JM]at hq;rw[hq.1]at hg;cases hg
  |succ k=>
   rw[JM]at hq;rcases hq with⟨hf,_⟩|⟨_,g',es,hm,JN,hq'⟩
   ·rw[hf]at hg;cases hg
   have tD:=runT_crowd_go (P:=P) (sl:=sl') (i:=i) hi (by rw[UT];exact JN (w.at d));have Ze:sumTo c (upd q i k)+(k+1)=sumTo c q+k:=by
    have:=sumTo_upd q k id h2;simpa[JM]using this
   refine⟨_,d,sl',_,upd q i k,hst.trans tD,⟨by simp[hC.size],jy,λj x hj Zf hx=>?_,λj hj=>?_⟩,?_,?_,by omega,λop hop=>?_,λB op hop=>?_,zaN t (by omega) _ ofEvents_g,zaN t (by omega) _ ofEvents_g⟩
   ·by_cases xo:i=j
    ·subst xo;rw[zbv (by simpa using hlt)]at hx;obtain rfl:=zaF hx;rw[upd_same,Deaf_own];exact hq'
    ·rw[zaB xo,zaE]at hx;obtain⟨y,hy,rfl⟩:=zaz.1 hx;have Ql:=hC.old j y hj Zf hy;rw[woken_quitsD Ql,upd_ne q k (Ne.symm xo),zaN t xo _ ofEvents_g];exact Ql
   ·rw[zaN t (g':=i) (by omega) _ ofEvents_g];exact hC.above j hj
   ·rw[zaB (by omega),zaE,h0];simp[sa g g' d]
   ·rw[zaB (by omega),zaE,hc];simp[sb g g' d]
   ·obtain⟨e,he,rfl⟩:=zbe hop;exact⟨touch_mute (hm e he),λa=>rY (hm e he) a⟩
   ·obtain⟨e,he,rfl⟩:=zbe hop;exact low_mute (hm e he) B
theorem tE (hC:ez P c t gs q)(h0:gs[0]?=some a)(hc:gs[c]?=some b)(hs:ξ P true a w=.go a' w' es):∃gs',runT P (υ gs w sl) 0=(.next (υ gs' w' sl),Δ 0 a.frame.fn a.frame.place es)∧ez P c (t++Δ 0 a.frame.fn a.frame.place es) gs' q∧gs'[0]?=some a'∧gs'[c]?=some (woken P a a' w' b):=by
 have jy:=hC.pos;have hlt:0<gs.size:=(zaf.1 h0).1;refine⟨_,runT_crowd_go (P:=P) (sl:=sl) (i:=0) h0 (show ξ P (0==0) a w=_ from hs),⟨by simp[hC.size],jy,λj x hj Zf hx=>?_,λj hj=>?_⟩,by simp[hlt],?_⟩
 ·rw[zaB (by omega),zaE]at hx;obtain⟨y,hy,rfl⟩:=zaz.1 hx;have hq:=hC.old j y hj Zf hy;rw[woken_quitsD hq,zaN t (by omega) _ ofEvents_g];exact hq
 ·rw[zaN t (by omega) _ ofEvents_g];exact hC.above j hj
 ·rw[zaB (by omega),zaE,hc];rfl
theorem lz (hC:ez P c t gs q)(h0:gs[0]?=some a)(hc:gs[c]?=some b)(hs:ξ P false b w=.go b' w' es):∃gs',runT P (υ gs w sl) c=(.next (υ gs' w' sl),Δ c b.frame.fn b.frame.place es)∧ez P c (t++Δ c b.frame.fn b.frame.place es) gs' q∧gs'[0]?=some (woken P b b' w' a)∧gs'[c]?=some b':=by
 have jy:=hC.pos;have hlt:c<gs.size:=(zaf.1 hc).1;have hc0:(c==0)=false:=by simp;omega
 refine⟨_,runT_crowd_go (P:=P) (sl:=sl) (i:=c) hc (by rw[hc0];exact hs),⟨by simp[hC.size],jy,λj x hj Zf hx=>?_,λj hj=>?_⟩,?_,by simp[hlt]⟩
 ·rw[zaB (by omega),zaE]at hx;obtain⟨y,hy,rfl⟩:=zaz.1 hx;have hq:=hC.old j y hj Zf hy;rw[woken_quitsD hq,zaN t (by omega) _ ofEvents_g];exact hq
 ·rw[zaN t (by omega) _ ofEvents_g];exact hC.above j hj
 ·rw[zaB (by omega),zaE,h0];rfl
theorem dt (t:η)(g:Nat)(u:η)(hu:∀op∈u,∀m,op.act≠.mark m):Deaf (t++u) g=Deaf t g:=by
 obtain⟨l⟩:=u;rw[Deaf_append];generalize Deaf t g=d
 induction l generalizing d with
 |nil=>rfl
 |cons y l ih=>
  have e1:deafStep g d y=d:=by
   unfold deafStep;split
   ·exact absurd ‹_› (hu y (by simp) _)
   ·exact absurd ‹_› (hu y (by simp) _)
   ·rfl
  rw[zca,e1];exact ih (λop hop=>hu op (by simp at hop ⊢;exact .inr hop)) d
theorem ez.comm (hC:ez P c t gs q){gs':Array Γ}{u:η}(hu:∀op∈u,∀m,op.act≠.mark m)(hsz:gs'.size=gs.size)(hg:∀i,i≠0→i≠c→gs'[i]?=gs[i]?):ez P c (t++u) gs' q:=
 ⟨hsz.trans hC.size,hC.pos,λi g h1 h2 hi=>by rw[dt t i u hu];exact hC.old i g h1 h2 (by rw[←hg i (by omega) (by omega)];exact hi),λj hj=>by rw[dt t j u hu];exact hC.above j hj⟩
theorem ez.offers (hC:ez P c t gs q){i ch:Nat}{send:Bool}{g:Γ}(h1:0<i)(h2:i<c)(hi:gs[i]?=some g):offersAt g ch send=[]:=
 offersAt_of_not_blocked (by rcases(hC.old i g h1 h2 hi).status with h|h<;>simp[h]) _ _
theorem lA (hC:ez P c t gs q)(hc:gs[c]?=some b){ch:Nat}{send:Bool}:partners (gs.setIfInBounds 0 ph) ch send=(offersAt b ch send).map λk=>(c,k):=by
 have jy:=hC.pos;refine partners_one (by rw[zaB (by omega)];exact hc) λk x hk hx=>?_;rcases getElem?_stand gs 0 k x hx with⟨_,rfl⟩|⟨h1,h2⟩
 ·rfl
 ·rcases hC.get h2 with h|h|⟨h3,h4⟩
  ·exact absurd h h1
  ·exact absurd h hk
  ·exact hC.offers h3 h4 h2
theorem pQ (hC:ez P c t gs q)(h0:gs[0]?=some a){ch:Nat}{send:Bool}:partners (gs.setIfInBounds c ph) ch send=(offersAt a ch send).map λk=>(0,k):=by
 have jy:=hC.pos;refine partners_one (by rw[zaB (by omega)];exact h0) λk x hk hx=>?_;rcases getElem?_stand gs c k x hx with⟨_,rfl⟩|⟨h1,h2⟩
 ·rfl
 ·rcases hC.get h2 with h|h|⟨h3,h4⟩
  ·exact absurd h hk
  ·exact absurd h h1
  ·exact hC.offers h3 h4 h2
variable {ch s r:Nat}{tm:Bool}{z z' v:Ω}{a₂ vw:Γ}
theorem ofEvents_none (g:Nat)(fn:θ)(pos:String):Δ g fn pos #[]=#[]:=rfl
theorem xp (hC:ez P c t gs q)(h0:gs[0]?=some a)(hc:gs[c]?=some b)(hb:b.status≠.blocked)(hs:ξ P true a w=.comm a₂ #[rcase ch z] true (.recv true) w #[])(hch:w.heap[ch]?=some (.chan 0 #[] false s r tm)):∃gs',runT P (υ gs w sl) 0=(.next (υ gs' w sl),#[])∧ez P c (t++#[]) gs' q∧gs'[0]?=some (parked a₂ #[rcase ch z] (.recv true))∧gs'[c]?=some b:=by
 have jy:=hC.pos;have hlt:0<gs.size:=(zaf.1 h0).1;have:=crowd_waits (P:=P) (sl:=sl) (i:=0) h0 (show ξ P (0==0) a w=_ from hs) λcc hcc=>by
  simp only[zbR,zav,zbz,or_false]at hcc;subst hcc;exact ways_recv_none hch (by rw[lA hC hc,offersAt_of_not_blocked hb];rfl)
 refine⟨_,this,hC.comm (by simp) (by simp) λi h1 h2=>?_,by simp[hlt],?_⟩
 ·rw[zaB (Ne.symm h1)]
 ·rw[zaB (by omega)];exact hc
theorem xq (hC:ez P c t gs q)(h0:gs[0]?=some a)(hc:gs[c]?=some b)(ha:a.status≠.blocked)(hs:ξ P false b w=.comm vw #[scase ch v z'] true .send w #[])(hch:w.heap[ch]?=some (.chan 0 #[] false s r tm)):∃gs',runT P (υ gs w sl) c=(.next (υ gs' w sl),#[])∧ez P c (t++#[]) gs' q∧gs'[0]?=some a∧gs'[c]?=some (parked vw #[scase ch v z'] .send):=by
 have jy:=hC.pos;have hlt:c<gs.size:=(zaf.1 hc).1;have hc0:(c==0)=false:=by simp;omega
 have:=crowd_waits (P:=P) (sl:=sl) (i:=c) hc (by rw[hc0];exact hs) λcc hcc=>by
  simp only[zbR,zav,zbz,or_false]at hcc;subst hcc;exact ways_send_none hch (by simp) (by rw[pQ hC h0,offersAt_of_not_blocked ha];rfl)
 refine⟨_,this,hC.comm (by simp) (by simp) λi h1 h2=>?_,?_,by simp[hlt]⟩
 ·rw[zaB (Ne.symm h2)]
 ·rw[zaB (by omega)];exact h0
def Qm (ch:Nat)(u:η):Prop:=∀op∈u,op.act.touch? =none∧(∀m,op.act≠.mark m)∧∀B,ch<B→op.act.low B
theorem xr (hC:ez P c t gs q)(h0:gs[0]?=some a)(hc:gs[c]?=some (parked vw #[scase ch v z'] .send))(hs:ξ P true a w=.comm a₂ #[rcase ch z] true (.recv true) w #[])(hch:w.heap[ch]?=some (.chan 0 #[] false s r tm)):∃gs' u,runT P (υ gs w sl) 0=(.next (υ gs' (w.setChan ch 0 #[] false (s+1) (r+1) tm) sl),u)∧Qm ch u∧ez P c (t++u) gs' q∧gs'[0]?=some (Conc.served a₂ (.tuple #[v,.bool true]))∧gs'[c]?=some (Conc.served vw ϊ):=by
 have jy:=hC.pos;have hlt:0<gs.size:=(zaf.1 h0).1;have Zg:c<gs.size:=(zaf.1 hc).1;have:=crowd_recv_meets (P:=P) (sl:=sl) (i:=0) h0 (show ξ P (0==0) a w=_ from hs) hch (by omega) hc (by rw[lA hC hc,offersAt_parked_send,zac rfl];rfl);rw[ofEvents_none]at this;refine⟨_,_,this,λop hop=>?_,hC.comm (λop hop m e=>?_) (by simp) λi h1 h2=>?_,?_,?_⟩
 ·simp at hop;rcases hop with rfl|rfl|rfl|rfl<;>exact⟨rfl,by simp,λB h=>h⟩
 ·simp at hop;rcases hop with rfl|rfl|rfl|rfl<;>simp at e
 ·rw[zaB (Ne.symm h1),zaB (Ne.symm h2)]
 ·simp[hlt,finishComm_recv,recvd]
 ·rw[zaB (by omega),zbv Zg,finishComm_send]
theorem xu (hC:ez P c t gs q)(h0:gs[0]?=some (parked a₂ #[rcase ch z] (.recv true)))(hc:gs[c]?=some b)(hs:ξ P false b w=.comm vw #[scase ch v z'] true .send w #[])(hch:w.heap[ch]?=some (.chan 0 #[] false s r tm)):∃gs' u,runT P (υ gs w sl) c=(.next (υ gs' (w.setChan ch 0 #[] false (s+1) (r+1) tm) sl),u)∧Qm ch u∧ez P c (t++u) gs' q∧gs'[0]?=some (Conc.served a₂ (.tuple #[v,.bool true]))∧gs'[c]?=some (Conc.served vw ϊ):=by
 have jy:=hC.pos;have hlt:0<gs.size:=(zaf.1 h0).1;have Zg:c<gs.size:=(zaf.1 hc).1;have hc0:(c==0)=false:=by simp;omega
 have:=crowd_send_meets (P:=P) (sl:=sl) (i:=c) (j:=0) hc (by rw[hc0];exact hs) hch (by omega) h0 (by rw[pQ hC h0,offersAt_parked_recv,zac rfl];rfl);rw[ofEvents_none]at this;refine⟨_,_,this,λop hop=>?_,hC.comm (λop hop m e=>?_) (by simp) λi h1 h2=>?_,?_,?_⟩
 ·simp at hop;rcases hop with rfl|rfl|rfl|rfl<;>exact⟨rfl,by simp,λB h=>h⟩
 ·simp at hop;rcases hop with rfl|rfl|rfl|rfl<;>simp at e
 ·rw[zaB (Ne.symm h2),zaB (Ne.symm h1)]
 ·rw[zaB (by omega),zbv hlt,finishComm_recv];rfl
 ·rw[zbv (by simpa using Zg),finishComm_send]
theorem vA (hC:ez P c t gs q)(h0:gs[0]?=some a)(hc:gs[c]?=some b)(hb:b.status≠.blocked)(hs:ξ P true a w=.comm a₂ #[rcase ch z] true (.recv true) w #[])(hch:w.heap[ch]?=some (.chan 0 #[] true s r tm)):∃gs' fn pos,runT P (υ gs w sl) 0=(.next (υ gs' w sl),#[{ g:=0,fn:=fn,pos:=pos,act:= .recvClosed ch }])∧ez P c (t++#[{ g:=0,fn:=fn,pos:=pos,act:= .recvClosed ch }]) gs' q∧gs'[0]?=some (Conc.served a₂ (.tuple #[z,.bool false]))∧gs'[c]?=some b:=by
 have jy:=hC.pos;have hlt:0<gs.size:=(zaf.1 h0).1;have:=crowd_recv_closed (P:=P) (sl:=sl) (i:=0) h0 (show ξ P (0==0) a w=_ from hs) hch (by rw[lA hC hc,offersAt_of_not_blocked hb];rfl);rw[ofEvents_none,Array.empty_append]at this;refine⟨_,_,_,this,hC.comm (λop hop m e=>?_) (by simp) λi h1 h2=>?_,?_,?_⟩
 ·simp at hop;subst hop;simp at e
 ·rw[zaB (Ne.symm h1)]
 ·simp[hlt,finishComm_recv,recvd]
 ·rw[zaB (by omega)];exact hc
end
structure NS (Shun:Loc→Prop) (ro own:Nat→Prop) (w:Λ):Prop where
 UU:∀b,own b→b<w.heap.size
 Jl:∀b,ro b→b<w.heap.size
 tF:∀l,kx own l∨kx ro l→¬Shun l
 low:∀l,Shun l→l.low w.heap.size
structure Kept (own:Nat→Prop) (w w':Λ):Prop where
 tape:w'.tape=w.tape
 os:w'.os=w.os
 output:w'.output=w.output
 size:w.heap.size≤w'.heap.size
 block:∀b,b<w.heap.size→¬own b→w'.heap[b]?=w.heap[b]?
theorem Kept.refl (own:Nat→Prop)(w:Λ):Kept own w w:=⟨rfl,rfl,rfl,zab _,λ_ _ _=>rfl⟩
theorem fy (ro own:Nat→Prop)(w:Λ)(d:Nat):bI ro own w (w.at d):=⟨rfl,rfl,rfl,zab _,λ_ _=>rfl⟩
theorem Kept.step {ro own:Nat→Prop}{w w₁ w₂:Λ}{es:Array ψ}(h:FP ro own w w₁ es)(k:Kept (Grow own w w₁) w₁ w₂):Kept own w w₂:=
 ⟨k.tape.trans h.tape,k.os.trans h.os,k.output.trans h.output,zah h.size k.size,λb hb hn=>by
   have hs:=h.size;rw[k.block b (by omega) λhg=>hg.elim hn λx=>by omega,h.block b hb hn]⟩
section
variable {P:Φ}{Shun:Loc→Prop}{ro own:Nat→Prop}{Stop:(Nat→Prop)→Γ→Λ→Prop}
theorem Qn {own:Nat→Prop}{w w':Λ}{l:Loc}(h:kx (Grow own w w') l)(hl:l.low w.heap.size):kx own l:=by
 cases l with
 |cell a=>exact h.elim id λx=>by have:a.block<w.heap.size:=hl;omega
 |obj r=>exact h.elim id λx=>by have:r<w.heap.size:=hl;omega
 |_=>exact h
theorem NS.grow {w w':Λ}{es:Array ψ}(h:NS Shun ro own w)(hg:FP ro own w w' es):NS Shun ro (Grow own w w') w':=by
 have hs:=hg.size;refine⟨λb hb=>hb.elim (λx=>by have:=h.UU b x;omega) (·.2),λb hb=>by have:=h.Jl b hb;omega,λl hl hS=>?_,λl hl=>Loc.low_mono hs (h.low l hl)⟩;exact h.tF l (hl.imp (λx=>Qn x (h.low l hS)) id) hS
theorem NS.at {w:Λ}(h:NS Shun ro own w)(d:Nat):NS Shun ro own (w.at d):=⟨h.UU,h.Jl,h.tF,h.low⟩
theorem NS.evL {w w':Λ}{es:Array ψ}(h:NS Shun ro own w)(hg:FP ro own w w' es):∀e∈es,EvL Shun w'.heap.size e:=by
 intro e he;have hn:=h.grow hg;have hE:=hg.evs e he;refine⟨λx hx hs=>absurd hs (hn.tF _ ?_),(pP hE).1,(pP hE).2,LR hn.UU hn.Jl hE⟩;exact(Cb hE x hx).imp id (·.1)
def adD (P:Φ)(Shun:Loc→Prop)(ro:Nat→Prop)(Stop:(Nat→Prop)→Γ→Λ→Prop)(n:Nat)(own:Nat→Prop)(w:Λ)(m:Machine)(t:η):Prop:=
 ∃gs own' a' w' sl q,m=υ gs w' sl∧gs.size=n∧gs[0]?=some a'∧(∀w₁,bI ro own' w' w₁→Stop own' a' w₁)∧Leavers P t gs q∧Past Shun w'.heap.size t∧NS Shun ro own' w'∧(∀b,own b→own' b)∧(∀b,own' b→own b∨w.heap.size≤b)∧Kept own w w'
theorem iI {a:Γ}{w:Λ}(hW:af P true ro Stop own a w):∀(w₁:Λ),bI ro own w w₁→∀(gs:Array Γ) (sl:Option (Nat×Nat)) (t:η) (q:Nat→Nat),gs[0]?=some a→Leavers P t gs q→Past Shun w₁.heap.size t→NS Shun ro own w₁→Reach P (υ gs w₁ sl) t (adD P Shun ro Stop gs.size own w₁):=by
 induction hW with
 | @stop own a w h=>
   intro w₁ hr gs sl t q h0 hL hP hN;exact .here ⟨gs,own,a,w₁,sl,q,rfl,rfl,h0,λw₂ h₂=>h w₂ (hr.trans h₂),hL,hP,hN,λ_ x=>x,λ_ x=> .inl x,Kept.refl _ _⟩
 | @step own a w nx nw ne hs h1 h2 _ ih=>
   intro w₁ hr gs sl t q h0 hL hP hN;generalize hM:sumTo gs.size q=M
   induction M using Nat.strongRecOn generalizing w₁ gs sl t q with
   |_ M ihM=>
   have Zd:∀g∈gs,awake g:=by
    intro g hg;obtain⟨i,hi,rfl⟩:=zci.1 hg;rcases zcr i with rfl|jy
    ·have:gs[0]=a:=by simpa[Array.getElem?_eq_getElem hi]using h0
     rw[this];exact awake_of (.inl hs)
    ·exact awake_of ((hL.old i _ jy (zaH hi)).status.elim .inl λx=> .inr (.inr x))
   obtain⟨i,g,d,sl',hi,hg,hst⟩:=crowd_pick (P:=P) (w:=w₁) (sl:=sl) Zd ⟨0,a,h0,hs⟩;have eF:bI ro own w (w₁.at d):=hr.trans (fy ro own w₁ d);rcases zcr i with rfl|jy
   ·obtain rfl:g=a:=by rw[h0]at hi;exact(zaF hi).symm
    have hgo:=h1 _ eF;have UW:=h2 _ eF;have tD:=runT_crowd_go (P:=P) (sl:=sl') (i:=0) hi (show ξ P (0==0) g (w₁.at d)=_ from hgo);have hlt:0<gs.size:=(zaf.1 h0).1;have Qo:=(hN.at d).grow UW;have JO:=(hP.mono (B':=(nw (w₁.at d)).heap.size) UW.size).own (fn:=g.frame.fn) (pos:=g.frame.place) ((hN.at d).evL UW);refine Reach.step (hst.trans tD) ((ih _ eF _ (bI.refl _ _ _) ((gs.map (woken P g (nx (w₁.at d)) (nw (w₁.at d)))).setIfInBounds 0 (nx (w₁.at d))) sl' _ q (by simp[hlt]) ⟨λj x hj hx=>?_,λj hj=>?_⟩ JO Qo).mono ?_)
    ·rw[zaB (by omega),zaE]at hx;obtain⟨y,hy,rfl⟩:=zaz.1 hx;have hq:=hL.old j y hj hy;rw[woken_quitsD hq,zaN t (by omega) _ ofEvents_g];exact hq
    ·rw[zaN t (g':=0) (by simp at hj;omega) _ ofEvents_g];exact hL.above j (by simpa using hj)
    ·rintro m t' ⟨gs',own',a',w',Zh,q',e1,e2,e3,e4,e5,e6,e7,e8,e9,Qp⟩;have hsz:=UW.size;exact⟨gs',own',a',w',Zh,q',e1,by rw[e2];simp,e3,e4,e5,e6,e7,λb hb=>e8 b (.inl hb),λb hb=>(e9 b hb).elim (λx=>x.elim .inl λy=> .inr y.1) (λx=> .inr (zah hsz x)),by have hk:=Kept.step UW Qp;exact⟨hk.tape,hk.os,hk.output,hk.size,hk.block⟩⟩
   ·have hq:=hL.old i g jy hi;have UT:(i==0)=false:=by simp;omega
    have hlt:i<gs.size:=(zaf.1 hi).1;cases JM:q i with
    |zero=>rw[JM]at hq;rw[hq.1]at hg;cases hg
    |succ k=>
     rw[JM]at hq;rcases hq with⟨hf,_⟩|⟨_,g',es,hm,JN,hq'⟩
     ·rw[hf]at hg;cases hg
     have tD:=runT_crowd_go (P:=P) (sl:=sl') (i:=i) hi (by rw[UT];exact JN (w₁.at d));have hsz:((gs.map (woken P g g' (w₁.at d))).setIfInBounds i g').size=gs.size:=by simp
     have Ze:sumTo gs.size (upd q i k)+(k+1)=sumTo gs.size q+k:=by
      have:=sumTo_upd q k id hlt;simpa[JM]using this
     have:=ihM (sumTo gs.size (upd q i k)) (by omega) (w₁.at d) eF ((gs.map (woken P g g' (w₁.at d))).setIfInBounds i g') sl' (t++Δ i g.frame.fn g.frame.place es) (upd q i k)
      (by rw[zaB (by omega),zaE,h0];simp[woken_run hs])
      ⟨λj x hj hx=>by
        by_cases xo:i=j
        ·subst xo;rw[zbv (by simpa using hlt)]at hx;obtain rfl:=zaF hx;rw[upd_same,Deaf_own];exact hq'
        ·rw[zaB xo,zaE]at hx;obtain⟨y,hy,rfl⟩:=zaz.1 hx;have Ql:=hL.old j y hj hy;rw[woken_quitsD Ql,upd_ne q k (Ne.symm xo),zaN t xo _ ofEvents_g];exact Ql,λj hj=>by
        rw[zaN t (g':=i) (by simp at hj;omega) _ ofEvents_g];exact hL.above j (by simpa using hj)⟩
      (hP.mute (by omega) hm) (hN.at d) (by rw[hsz])
     rw[hsz]at this;refine Reach.step (hst.trans tD) (this.mono ?_);rintro m t' ⟨gs',own',a',w',Zh,q',e1,e2,e3,e4,e5,e6,e7,e8,e9,Qp⟩;exact⟨gs',own',a',w',Zh,q',e1,e2,e3,e4,e5,e6,e7,e8,e9,⟨Qp.tape,Qp.os,Qp.output,Qp.size,Qp.block⟩⟩
end
end Go.Ren
namespace Go.Ren
open Go Go.Conc
structure aV where
 base:Λ
 lo:Nat
 n0:Nat
 r0:Rn
 at_:Machine→η→Prop
 bot:List Θ:=[]
 an:Nat:=0
 ar:Rn:=jW
 ro:Nat→Prop:=λ_=>False
 nh:∀b,ro b→b<base.heap.size∧∀r,lo≤r→r<n0→b≠r0 r:=by exact λ_ h=>h.elim
def aV.mine (Ψ:aV)(x:Nat):Prop:=∃r,Ψ.lo≤r∧r<Ψ.n0∧x=Ψ.r0 r
structure DN (Ψ:aV) (W:Λ):Prop where
 tape:W.tape=Ψ.base.tape
 os:W.os=Ψ.base.os
 output:W.output=Ψ.base.output
 size:Ψ.base.heap.size≤W.heap.size
 block:∀b,b<Ψ.base.heap.size→¬Ψ.mine b→W.heap[b]?=Ψ.base.heap[b]?
structure uY (n0:Nat) (r0:Rn) (w:Λ) (ρ:Rn):Prop where
 size:n0≤w.heap.size
 same:∀r,r<n0→ρ r=r0 r
theorem uY.refl (w:Λ)(ρ:Rn):uY w.heap.size ρ w ρ:=⟨zab _,λ_ _=>rfl⟩
section
variable {P:Φ}{F:θ→Bool}{S:Sd}{Ψ:aV}{fr fr':Θ}{cs cs':List Θ}{w w' W:Λ}{ρ:Rn}
def ae (P:Φ)(S:Sd)(Ψ:aV)(fr:Θ)(cs:List Θ)(w:Λ):Prop:=
 ∀(ρ:Rn) (W:Λ) (gs:Array Γ) (sl:Option (Nat×Nat)) (t:η) (q:Nat→Nat) (Shun:Loc→Prop),gH P S ρ w W→jf P S w.heap.size fr→(∀f∈cs,jf P S w.heap.size f)→
  gs[0]?=some (G (bS ρ fr) (cs.map (bS ρ)++Ψ.bot))→Leavers P t gs q→Past Shun W.heap.size t→NS Shun Ψ.ro (Touch S.d ρ w) W→DN Ψ W→(∀x,Touch S.d ρ w x→Ψ.base.heap.size≤x∨Ψ.mine x)→uY Ψ.n0 Ψ.r0 w ρ→uY Ψ.an Ψ.ar w ρ→Reach P (υ gs W sl) t Ψ.at_
theorem gH.self (h:gH P S ρ w W):WR P S jW w w:=
 ⟨λr o _ ho=>by rw[FM];exact ho,h.wr.ok,h.wr.dead,h.wr.closed,λr hr=>by show r=_;omega,λr _ h2=>h2,⟨h.wr.big.d,h.wr.big.g,zaw _,h.wr.big.p,h.wr.big.dp,λ_ _ _=>rfl,λ_ _=> .inr rfl⟩⟩
def JP (P:Φ)(S:Sd)(Good:Θ→List Θ→Λ→Prop)(bot:List Θ)(n0:Nat)(r0:Rn)(own:Nat→Prop)(g:Γ)(W:Λ):Prop:=
 ∃fr cs w ρ,Good fr cs w∧gH P S ρ w W∧(∀x,Touch S.d ρ w x→own x)∧g=G (bS ρ fr) (cs.map (bS ρ)++bot)∧jf P S w.heap.size fr∧(∀f∈cs,jf P S w.heap.size f)∧uY n0 r0 w ρ
theorem af.co {main:Bool}{ro own:Nat→Prop}{Good:Θ→List Θ→Λ→Prop}{bot:List Θ}{n0:Nat}{r0:Rn}(hG:Good fr cs w)(hS:gH P S ρ w W)(hown:∀x,Touch S.d ρ w x→own x)(hc:jf P S w.heap.size fr)(hcs:∀f∈cs,jf P S w.heap.size f)(h0:uY n0 r0 w ρ):af P main ro (JP P S Good bot n0 r0) own (G (bS ρ fr) (cs.map (bS ρ)++bot)) W:=by
 refine .stop λaC hr=>⟨fr,cs,w,cN ρ w.heap.size aC.heap.size,hG,hS.grow hr.size λx hx=>hr.block x (.inl (hown x hx)),λx hx=>hown x (by rwa[cC]at hx),?_,hc,hcs,⟨h0.size,λr hr=>by rw[aJ (zaL hr h0.size)];exact h0.same r hr⟩⟩;rw[ei hc (ρ:=ρ) (ρ':=cN ρ w.heap.size aC.heap.size) (λr hlt=>(aJ hlt).symm) (λ_=>rfl),eI (ρ:=ρ) (ρ':=cN ρ w.heap.size aC.heap.size) (λr hlt=>(aJ hlt).symm) (λ_=>rfl) hcs]
theorem NS.sub {Shun:Loc→Prop}{ro own own':Nat→Prop}(h:NS Shun ro own W)(hs:∀x,own' x→own x):NS Shun ro own' W:=
 ⟨λb hb=>h.UU b (hs b hb),h.Jl,λl hl=>h.tF l (hl.imp (λx=>by
   cases l with
   |cell a=>exact hs _ x
   |obj r=>exact hs _ x
   |_=>exact x) id),h.low⟩
theorem ae.walk (h:∀ρ W,gH P S ρ w W→jf P S w.heap.size fr→(∀f∈cs,jf P S w.heap.size f)→pn Ψ.ro (Touch S.d ρ w) W→af P true Ψ.ro (JP P S (ae P S Ψ) Ψ.bot w.heap.size ρ) (Touch S.d ρ w) (G (bS ρ fr) (cs.map (bS ρ)++Ψ.bot)) W):ae P S Ψ fr cs w:=by
 intro ρ W gs sl t q Shun hS hc hcs h0 hL hP hN hO hT mA kD;refine(iI (h ρ W hS hc hcs ⟨λb hb=>hb.elim (hN.UU b) (hN.Jl b),λb hb ht=>(hT b ht).elim (λh1=>by have:=(Ψ.nh b hb).1;omega) λ⟨r,h1,h2,e⟩=>(Ψ.nh b hb).2 r h1 h2 e⟩) W (bI.refl _ _ _) gs sl t q h0 hL hP hN).bind ?_;rintro m t' ⟨gs',own',a',w',sl',q',rfl,_,xM,hst,JQ,JO,Qo,_,ru,hK⟩;obtain⟨fr2,cs2,w2,za,hG,rX,hown,rfl,hc2,Zi,vB⟩:=hst w' (bI.refl _ _ _);have hsz:=hO.size;exact hG za w' gs' sl' t' q' Shun rX hc2 Zi xM JQ JO (Qo.sub hown)
  ⟨hK.tape.trans hO.tape,hK.os.trans hO.os,hK.output.trans hO.output,zah hsz hK.size,λb hb hm=>(hK.block b (by omega) λht=>(hT b ht).elim (λh=>by omega) hm).trans (hO.block b hb hm)⟩
  (λx hx=>(ru x (hown x hx)).elim (hT x) λe=> .inl (by omega)) ⟨zah mA.size vB.size,λr hr=>(vB.same r (zaL hr mA.size)).trans (mA.same r hr)⟩ ⟨zah kD.size vB.size,λr hr=>(vB.same r (zaL hr kD.size)).trans (kD.same r hr)⟩
theorem ae.re (h:ae P S Ψ fr cs w)(e:w'.heap=w.heap):ae P S Ψ fr cs w':=by
 intro ρ W gs sl t q Shun hS hc hcs h0 hL hP hN hO hT mA kD;have FR:gH P S ρ w W:=hS.abk e.symm;have ht:Touch S.d ρ w'=Touch S.d ρ w:=by unfold Touch;rw[e]
 rw[e]at hc hcs;rw[ht]at hN hT;exact h ρ W gs sl t q Shun FR hc hcs h0 hL hP hN hO hT ⟨by have:=mA.size;rwa[e]at this,mA.same⟩ ⟨by have:=kD.size;rwa[e]at this,kD.same⟩
theorem ae.silent (hst:∀ρ W,ξ P true (G (bS ρ fr) (cs.map (bS ρ)++Ψ.bot)) W=.go (G (bS ρ fr') (cs'.map (bS ρ)++Ψ.bot)) W #[])
 (dY:jf P S w.heap.size fr→(∀f∈cs,jf P S w.heap.size f)→jf P S w.heap.size fr'∧∀f∈cs',jf P S w.heap.size f)(k:ae P S Ψ fr' cs' w):ae P S Ψ fr cs w:=
 ae.walk λρ W hS hc hcs hR=>by
  obtain⟨h1,h2⟩:=dY hc hcs;refine af.silent rfl (λaC=>?_) (af.co k hS (λ_ h=>h) h1 h2 (uY.refl _ _));exact hst ρ aC
def _root_.Go.Act.rn (a:Act)(ρ:Rn):Act:={ a with tmps:=a.tmps.map (rv ρ) }
theorem rZ (b:Θ)(a:Act)(k:List Item):bS ρ (b.at a k)=b.at (a.rn ρ) k:=rfl
def rI (_P:Φ)(S:Sd)(n:Nat)(a:Act):Prop:=∀v∈a.tmps,rv (sg S S.d n) v=v
theorem getD_map (c:Array Ω)(i:Nat):(c.map (rv ρ)).getD i ϊ=rv ρ (c.getD i ϊ):=by
 simp only[zby,zaE];cases c[i]? with
 |none=>simp[di]
 |some v=>simp
theorem xN (a:Act):(a.rn ρ).eval=fx λt=>rv ρ (a.tmps.getD t ϊ):=by
 funext x;cases x with
 |tmp t=>exact getD_map _ _
 |_=>rfl
theorem ni (a:Act):a.eval=fx λt=>a.tmps.getD t ϊ:=by
 funext x;cases x<;>rfl
theorem rI.get {n:Nat}{a:Act}(h:rI P S n a)(t:Nat):rv (sg S S.d n) (a.tmps.getD t ϊ)=a.tmps.getD t ϊ:=by
 rw[zby];cases he:a.tmps[t]? with
 |none=>simp[di]
 |some v=>simp;exact h v (zbI he)
theorem pR (a:Act)(d:Option Tmp)(v:Ω):(a.rn ρ).put d (rv ρ v)=(a.put d v).rn ρ:=by
 cases d with
 |none=>rfl
 |some d=>simp[Act.put,Act.rn,Array.map_setIfInBounds]
theorem rI.put {n:Nat}{a:Act}(h:rI P S n a)(d:Option Tmp){v:Ω}(hv:rv (sg S S.d n) v=v):rI P S n (a.put d v):=by
 cases d with
 |none=>exact h
 |some d=>
  intro x hx;have DM:x∈a.tmps.setIfInBounds d v:=hx;rcases Array.mem_or_eq_of_mem_setIfInBounds DM with h1|h1
  ·exact h x h1
  ·rw[h1];exact hv
section
variable {b:Θ}{a:Act}{ops:Array Oper}{i:Nat}{rest:List Nat}{o:Oper}{kk:List Item}
theorem ae.Jk (hC:jM P F S)(cg:gw P F S o.op=true)(ho:ops[i]?=some o)(hw:ζ o (π ops a.tmps)=true)(hk:b.kind≠.early)
 (h:∀τ d,∃v w',(φ a.eval o).run P (w.re τ d)=.ok (.value v) w'∧ae P S Ψ (b.at (a.put o.dst v) (.inRegion ops rest::kk)) cs w'):ae P S Ψ (b.at a (.inRegion ops (i::rest)::kk)) cs w:=
 ae.walk λρ W hS hc hcs hR=>by
  have JR:rI P S w.heap.size a:=hc;refine af.Jk (a:=a.rn ρ) (b:=b) (T:=λt=>a.tmps.getD t ϊ) hC cg ho (by show ζ o (π ops (a.tmps.map (rv ρ)))=true;rw[show π ops (a.tmps.map (rv ρ))=π ops a.tmps from funext λj=>pJ ops a.tmps j];exact hw) hk (λt=>JR.get t) hS (λ_ h=>h) (by rw[xN]) (by rw[←ni];exact h)
   (λv w' ρ' W' own' hq FR oa hsz dY hown _ _ _=>?_) hR
  have Px:(a.rn ρ).put o.dst (rv ρ' v)=(a.put o.dst v).rn ρ':=by
   have e:a.rn ρ=a.rn ρ':=by
    unfold Act.rn;rw[dA λx hx=>agree (σ:=sg S S.d w.heap.size) (λr hr=>(oa r (bK.1 hr).2).symm) (λy _=>(DL hS FR y).symm) x (JR x hx)]
   rw[e,pR]
  have adE:cs.map (bS ρ)=cs.map (bS ρ'):=eI (λr hr=>(oa r hr).symm) (λx=>(DL hS FR x).symm) hcs;rw[Px,adE];exact af.co (fr:=b.at (a.put o.dst v) (.inRegion ops rest::kk)) hq FR hown (rI.put (P:=P) (λx hx=>dO (cO hsz).1 (cO hsz).2 x (JR x hx)) o.dst dY) (λf hf=>gX hsz (hcs f hf)) ⟨hsz,oa⟩
end
end
section
variable {P:Φ}{F:θ→Bool}{S:Sd}{Ψ:aV}{fr fr':Θ}{cs cs':List Θ}{w w' W:Λ}{ρ:Rn}{b:Θ}{a:Act}{k:List Item}
theorem ae.ctl {k':List Item}(hst:∀(a:Act) (cs:List Θ) W,ξ P true (G (b.at a k) cs) W=.go (G (b.at a k') cs) W #[])(h:ae P S Ψ (b.at a k') cs w):ae P S Ψ (b.at a k) cs w:=
 ae.silent (fr':=b.at a k') (cs':=cs) (λρ W=>by rw[rZ,rZ];exact hst _ _ _) (λh1 h2=>⟨h1,h2⟩) h
theorem ae.seq {x y:Code}(h:ae P S Ψ (b.at a (.code x::.code y::k)) cs w):ae P S Ψ (b.at a (.code (.seq x y)::k)) cs w:=ae.ctl (λ_ _ _=>zaU) h
theorem ae.region {id:Nat}{ops:Array Oper}(h:ae P S Ψ (b.at a (.inRegion ops (List.range ops.size)::k)) cs w):ae P S Ψ (b.at a (.code (.region id ops false)::k)) cs w:=ae.ctl (λ_ _ _=>zaX) h
theorem DO {c:ω}{t:Bool}(h:a.eval c=.bool t):(a.rn ρ).eval c=.bool t:=by
 rw[xN];rw[ni]at h;cases c with
 |tmp i=>
  simp only[fx]at h ⊢;rw[h];simp[rv]
 |const v=>exact h
 |global g=>exact h
 |func f=>exact h
def dQ (b:Θ)(a:Act)(k:List Item):Θ:={ b.at a k with mode:= .returning }
theorem LS:bS ρ (dQ b a k)=dQ b (a.rn ρ) k:=rfl
theorem wL {main:Bool}{ops:Array Oper}{i:Nat}{rest:List Nat}{o:Oper}{kk:List Item}(ho:ops[i]?=some o)(hw:ζ o (π ops a.tmps)=true)(hk:b.kind≠.early){f:θ}{xs:Array ω}{ats:Array ϋ}(hop:o.op=.call { callee:= .value (.func f),args:=xs,argTypes:=ats })
 (kV:(P.funcs[f]?).any (λfn=>fn.body.isSome)=true)(FU:(P.funcs[f]?).any (λfn=>fn.name != "runtime.NumGoroutine")=true):
 ξ P main (G (b.at a (.inRegion ops (i::rest)::kk)) cs) w=.go (G (Θ.enter P f (xs.map a.eval) .normal) (b.at a (.inRegion ops (i::rest)::kk)::cs)) w #[]:=by
 cases hf:P.funcs[f]? with
 |none=>rw[hf]at kV;simp at kV
 |some fn=>
  rw[hf]at kV FU;simp only[Option.any_some]at kV FU;obtain⟨cc,hcc⟩:=zcy.1 kV;have hne:¬fn.name= "runtime.NumGoroutine" :=by simpa using FU
  have hr:(φ a.eval o).run P w=.ok (.enter f (xs.map a.eval)) w:=by
   unfold φ;simp[hop,resolve,invoke,callFunc,hf,hcc,hne,Act.eval,Deferred.ofValue,go_sem]
  have he:(φ a.eval o).events P w #[]=#[]:=by
   unfold φ;simp[hop,resolve,invoke,callFunc,hf,hcc,hne,Act.eval,Deferred.ofValue,go_sem]
  rw[stepG_enter ho hw hk hr,listed_none he]
theorem LU (hf:s7 S ρ){xs:Array ω}(hx:xs.all (gG S)=true):xs.map (a.rn ρ).eval=(xs.map a.eval).map (rv ρ):=by
 rw[zch];refine Array.map_congr_left λx hm=>?_;have:=zbK.1 hx x hm;show(a.rn ρ).eval x=rv ρ (a.eval x);rw[xN,ni];exact Qf this hf
theorem LV {n:Nat}(hn:S.g≤n)(h:rI P S n a){xs:Array ω}(hx:xs.all (gG S)=true):∀v∈xs.map a.eval,rv (sg S S.d n) v=v:=by
 intro v hv;obtain⟨x,hm,rfl⟩:=Array.mem_map.1 hv;have:=zbK.1 hx x hm;rw[ni];exact LP hn (λt=>h.get t) this
theorem FW {n:Nat}{f:θ}{args:Array Ω}(h:∀v∈args,rv (sg S S.d n) v=v):jf P S n (Θ.enter P f args .normal):=by
 have e:bS (sg S S.d n) (Θ.enter P f args .normal)=Θ.enter P f args .normal:=by
  rw[←im,ba.2 h]
 exact vq e
theorem ae.VN (hst:∀ρ:Rn,s7 S ρ→∀W,ξ P true (G (bS ρ fr) (cs.map (bS ρ)++Ψ.bot)) W=.go (G (bS ρ fr') (cs'.map (bS ρ)++Ψ.bot)) W #[])
 (dY:S.g≤w.heap.size→jf P S w.heap.size fr→(∀f∈cs,jf P S w.heap.size f)→jf P S w.heap.size fr'∧∀f∈cs',jf P S w.heap.size f)(k:ae P S Ψ fr' cs' w):ae P S Ψ fr cs w:=
 ae.walk λρ W hS hc hcs _=>by
  obtain⟨h1,h2⟩:=dY hS.wr.big.g hc hcs;exact af.silent rfl (λaC=>hst ρ hS.fix aC) (af.co k hS (λ_ h=>h) h1 h2 (uY.refl _ _))
theorem ae.enter {ops:Array Oper}{i:Nat}{rest:List Nat}{o:Oper}{kk:List Item}(ho:ops[i]?=some o)(hw:ζ o (π ops a.tmps)=true)(hk:b.kind≠.early){f:θ}{xs:Array ω}{ats:Array ϋ}(hop:o.op=.call { callee:= .value (.func f),args:=xs,argTypes:=ats })
 (kV:(P.funcs[f]?).any (λfn=>fn.body.isSome)=true)(FU:(P.funcs[f]?).any (λfn=>fn.name != "runtime.NumGoroutine")=true)(hx:xs.all (gG S)=true)
 (h:ae P S Ψ (Θ.enter P f (xs.map a.eval) .normal) (b.at a (.inRegion ops (i::rest)::kk)::cs) w):ae P S Ψ (b.at a (.inRegion ops (i::rest)::kk)) cs w:=by
 refine ae.VN (λρ mA W=>?_) (λh0 h1 h2=>⟨FW (LV (P:=P) h0 h1 hx),λg hg=>?_⟩) h
 ·rw[zaD,rZ,←im,←LU mA hx];refine wL ho ?_ hk hop kV FU;show ζ o (π ops (a.tmps.map (rv ρ)))=true;rw[show π ops (a.tmps.map (rv ρ))=π ops a.tmps from funext λj=>pJ ops a.tmps j];exact hw
 ·rcases zav.1 hg with rfl|hg
  ·exact h1
  ·exact h2 g hg
end
def kE (ρ σ:Rn):Rn:={ b:=λr=>ρ (σ r),f:=λx=>ρ.f (σ.f x),d:=ρ.d }
theorem eJ {f g h:Ω→Ω}{cs:Array Ω}(e:∀x∈cs,f (g x)=h x):(cs.map g).map f=cs.map h:=by
 rw[zch];exact Array.map_congr_left λx hx=>e x hx
theorem iJ (ρ σ:Rn):∀v:Ω,rv ρ (rv σ v)=rv (kE ρ σ) v
 |.pointer none=>by simp[rv]
 |.pointer (some a)=>by simp[rv,ra,kE]
 |.slice none _ _=>by simp[rv]
 |.slice (some a) l c=>by simp[rv,ra,kE]
 |.map none=>by simp[rv]
 |.map (some r)=>by simp[rv,kE]
 |.chan none=>by simp[rv]
 |.chan (some r)=>by simp[rv,kE]
 |.func fn first captured=>by
  simp only[rv,Ω.func.injEq];refine⟨rfl,eJ λx hx=>?_,eJ λx hx=>?_⟩
  ·have:=zbj hx;exact iJ ρ σ x
  ·have:=zbj hx;exact iJ ρ σ x
 |.iface t v=>by simp only[rv,Ω.iface.injEq,true_and];exact iJ ρ σ v
 |.agg cs=>by
  simp only[rv,Ω.agg.injEq];refine eJ λx hx=>?_;have:=zbj hx;exact iJ ρ σ x
 |.tuple cs=>by
  simp only[rv,Ω.tuple.injEq];refine eJ λx hx=>?_;have:=zbj hx;exact iJ ρ σ x
 |.bool _=>by simp[rv]
 |.int _ _=>by simp[rv]
 |.float _ _=>by simp[rv]
 |.complex _ _ _=>by simp[rv]
 |.string _=>by simp[rv]
 |.nilFunc=>by simp[rv]
 |.nilIface=>by simp[rv]
termination_by v=>SizeOf.sizeOf v
theorem LW (ρ σ:Rn)(o:Obj):ro ρ (ro σ o)=ro (kE ρ σ) o:=by
 cases o with
 |cells c t f=>simp only[ro,Obj.cells.injEq,zaA];exact eJ λx _=>iJ ρ σ x
 |pending c t=>simp only[ro,Obj.pending.injEq,zaA];exact eJ λx _=>iJ ρ σ x
 |chan a b c d e f=>simp only[ro,Obj.chan.injEq,true_and,zaA];exact eJ λx _=>iJ ρ σ x
 |view a t=>simp[ro,ra,kE]
 |number a t=>simp[ro,ra,kE]
 |map es c=>
  simp only[ro,Obj.map.injEq,zaA,zch];refine Array.map_congr_left λe _=>?_;simp[iJ]
 |_=>rfl
theorem Qq {ρ:Rn}{o:Obj}(h:mP o):mP (ro ρ o):=by
 cases o<;>first|exact h|trivial
def Ce (g0 n:Nat):Rn:={ b:=λr=>if g0≤r then n+(r-g0)else r,f:=id,d:=0 }
def Cf (ρ gF:Rn)(g0 n m N:Nat):Rn:={ b:=λr=>if r<n then ρ r else if r<n+(m-g0)then gF (g0+(r-n))else N+(r-(n+(m-g0))),f:=ρ.f,d:=ρ.d }
def JS (P:Φ)(w w₂:Λ):Λ:={ w with heap:=w.heap++(w₂.heap.extract P.globals.size w₂.heap.size).map (ro (Ce P.globals.size w.heap.size)) }
structure Two (P:Φ) (S jg:Sd):Prop where
 z:jg.d=P.globals.size
 dp:S.d≤P.globals.size
 f:∀g,jg g=true→S g=true
section
variable {P:Φ}{S jg:Sd}{ρ gF:Rn}{w w₂ W:Λ}
theorem qU (h:P.globals.size≤w₂.heap.size):(JS P w w₂).heap.size=w.heap.size+(w₂.heap.size-P.globals.size):=by
 simp only[JS,Array.size_append,Array.size_map,Array.size_extract];omega
theorem JU {r:Nat}(h:r<w.heap.size):(JS P w w₂).heap[r]?=w.heap[r]?:=by
 simp only[JS];rw[Array.getElem?_append_left h]
theorem Qr {r:Nat}(h1:P.globals.size≤r)(h2:r<w₂.heap.size):(JS P w w₂).heap[w.heap.size+(r-P.globals.size)]?=(w₂.heap[r]?).map (ro (Ce P.globals.size w.heap.size)):=by
 simp only[JS];rw[Array.getElem?_append_right (by omega),zaE,show w.heap.size+(r-P.globals.size)-w.heap.size=r-P.globals.size by omega,Array.getElem?_extract,zac (by omega),show P.globals.size+(r-P.globals.size)=r by omega]
theorem JV {r:Nat}{o:Obj}(hb:P.globals.size≤w₂.heap.size)(h:(JS P w w₂).heap[r]?=some o):(r<w.heap.size∧w.heap[r]?=some o)∨∃r₂ zb,P.globals.size≤r₂∧r₂<w₂.heap.size∧r=w.heap.size+(r₂-P.globals.size)∧w₂.heap[r₂]?=some zb∧o=ro (Ce P.globals.size w.heap.size) zb:=by
 rcases zay r w.heap.size with hlt|jN
 ·rw[JU hlt]at h;exact .inl ⟨hlt,h⟩
 ·right;have hs:=(zaf.1 h).1;rw[qU hb]at hs;have h2:P.globals.size+(r-w.heap.size)<w₂.heap.size:=by omega
  have e:r=w.heap.size+(P.globals.size+(r-w.heap.size)-P.globals.size):=by omega
  rw[e,Qr (by omega) h2]at h;obtain⟨zb,h3,h4⟩:=zaz.1 h;exact⟨_,zb,by omega,h2,e,h3,h4.symm⟩
theorem abp (T:Two P S jg)(h:gH P S ρ w W)(h₂:gH P jg gF w₂ W){v:Ω}(hc:Cl P jg w₂ v):rv (Cf ρ gF P.globals.size w.heap.size w₂.heap.size W.heap.size) (rv (Ce P.globals.size w.heap.size) v)=rv gF v:=by
 rw[iJ];refine agree (σ:=sg jg jg.d w₂.heap.size) (λr hr=>?_) (λx _=>?_) v hc
 ·obtain⟨h1,h2⟩:=bK.1 hr;rw[T.z]at h1;simp only[kE,Ce,Cf,zac h1];rw[zaa (by omega),zac (by omega)]
  congr 1
  omega
 ·simp only[kE,Ce,Cf,id];rw[h.f,h₂.f]
theorem abq (T:Two P S jg)(h:gH P S ρ w W)(h₂:gH P jg gF w₂ W){o:Obj}(hc:ro (sg jg jg.d w₂.heap.size) o=o):ro (Cf ρ gF P.globals.size w.heap.size w₂.heap.size W.heap.size) (ro (Ce P.globals.size w.heap.size) o)=ro gF o:=by
 rw[LW];refine vg (σ:=sg jg jg.d w₂.heap.size) (λr hr=>?_) (λx _=>?_) hc
 ·obtain⟨h1,h2⟩:=bK.1 hr;rw[T.z]at h1;simp only[kE,Ce,Cf,zac h1];rw[zaa (by omega),zac (by omega)]
  congr 1
  omega
 ·simp only[kE,Ce,Cf,id];rw[h.f,h₂.f]
theorem abr (T:Two P S jg)(hb:P.globals.size≤w.heap.size)(lB:P.globals.size≤w₂.heap.size){v:Ω}(hc:Cl P jg w₂ v):Cl P S (JS P w w₂) (rv (Ce P.globals.size w.heap.size) v):=by
 unfold Cl;rw[iJ];refine agree (σ:=sg jg jg.d w₂.heap.size) (λr hr=>?_) (λx hx=>?_) v hc
 ·obtain⟨h1,h2⟩:=bK.1 hr;rw[T.z]at h1;simp only[kE,Ce,zac h1];exact bK.2 ⟨by have:=T.dp;omega,by rw[qU lB];omega⟩
 ·simp only[kE,Ce,id];obtain⟨g,rfl,hg⟩:=iE.1 hx;exact iE.2 ⟨g,rfl,T.f g hg⟩
theorem Zj (T:Two P S jg)(hb:P.globals.size≤w.heap.size)(lB:P.globals.size≤w₂.heap.size){o:Obj}(hc:ro (sg jg jg.d w₂.heap.size) o=o):ro (sg S S.d (JS P w w₂).heap.size) (ro (Ce P.globals.size w.heap.size) o)=ro (Ce P.globals.size w.heap.size) o:=by
 rw[LW];refine vg (σ:=sg jg jg.d w₂.heap.size) (λr hr=>?_) (λx hx=>?_) hc
 ·obtain⟨h1,h2⟩:=bK.1 hr;rw[T.z]at h1;simp only[kE,Ce,zac h1];exact bK.2 ⟨by have:=T.dp;omega,by rw[qU lB];omega⟩
 ·simp only[kE,Ce,id];obtain⟨g,rfl,hg⟩:=iE.1 hx;exact iE.2 ⟨g,rfl,T.f g hg⟩
theorem gH.merge (T:Two P S jg)(h:gH P S ρ w W)(h₂:gH P jg gF w₂ W)(hd:∀b,Touch S.d ρ w b→¬Touch jg.d gF w₂ b):gH P S (Cf ρ gF P.globals.size w.heap.size w₂.heap.size W.heap.size) (JS P w w₂) W:=by
 have hb:=h.wr.big.p;have lB:=h₂.wr.big.p;have Cg:=T.dp;have hz:=T.z;have hs:=qU (w:=w) lB;have oa:∀r,r<w.heap.size→Cf ρ gF P.globals.size w.heap.size w₂.heap.size W.heap.size r=ρ r:=λr hr=>by simp only[Cf,zac hr]
 have oc:∀r,P.globals.size≤r→r<w₂.heap.size→Cf ρ gF P.globals.size w.heap.size w₂.heap.size W.heap.size (w.heap.size+(r-P.globals.size))=gF r:=λr h1 h2=>by
  simp only[Cf];rw[zaa (by omega),zac (by omega)]
  congr 1
  omega
 have BB:∀r,w.heap.size+(w₂.heap.size-P.globals.size)≤r→Cf ρ gF P.globals.size w.heap.size w₂.heap.size W.heap.size r=W.heap.size+(r-(w.heap.size+(w₂.heap.size-P.globals.size))):=λr hr=>by
  simp only[Cf];rw[zaa (by omega),zaa (by omega)]
 have cs:∀r,r<w.heap.size∨(∃r₂,P.globals.size≤r₂∧r₂<w₂.heap.size∧r=w.heap.size+(r₂-P.globals.size))∨w.heap.size+(w₂.heap.size-P.globals.size)≤r:=λr=>by
  rcases zay r w.heap.size with h1|h1
  ·exact .inl h1
  ·rcases zay r (w.heap.size+(w₂.heap.size-P.globals.size))with h2|h2
   ·exact .inr (.inl ⟨P.globals.size+(r-w.heap.size),by omega,by omega,by omega⟩)
   ·exact .inr (.inr h2)
 refine⟨⟨λr o jN ho=>?_,λr o ho=>?_,λr hr=>?_,λr o jN ho=>?_,λr hr=>?_,λr h1 h2=>?_,?_⟩,λa b e=>?_,λr=>?_,h.f,h.ry⟩
 ·rcases JV lB ho with⟨h1,h2⟩|⟨r₂,zb,h1,h2,rfl,h3,rfl⟩
  ·rw[oa r h1,h.wr.live r o jN h2]
   congr 1
   exact vg (σ:=sg S S.d w.heap.size) (λx hx=>(oa x (bK.1 hx).2).symm) (λ_ _=>rfl) (h.wr.closed r o jN h2)
  ·rw[oc r₂ h1 h2,abq T h h₂ (h₂.wr.closed r₂ zb (by omega) h3)];exact h₂.wr.live r₂ zb (by omega) h3
 ·rcases JV lB ho with⟨h1,h2⟩|⟨r₂,zb,h1,h2,rfl,h3,rfl⟩
  ·exact h.wr.ok r o h2
  ·exact Qq (h₂.wr.ok r₂ zb h3)
 ·rw[JU (by omega)];exact h.wr.dead r hr
 ·rcases JV lB ho with⟨h1,h2⟩|⟨r₂,zb,h1,h2,rfl,h3,rfl⟩
  ·have:=h.wr.closed r o jN h2;have e:=vg (σ:=sg S S.d w.heap.size) (ρ:=sg S S.d (JS P w w₂).heap.size) (ρ':=sg S S.d w.heap.size) (λx hx=>by
    rw[hx];exact bK.2 ⟨(bK.1 hx).1,by have:=(bK.1 hx).2;rw[hs];omega⟩) (λx hx=>by rw[hx];exact iE.2 (iE.1 hx)) this
   rw[e];exact this
  ·exact Zj T hb lB (h₂.wr.closed r₂ zb (by omega) h3)
 ·rw[hs]at hr ⊢;exact BB r hr
 ·rw[hs]at h2;rcases cs r with h3|⟨r₂,h3,h4,rfl⟩|h3
  ·rw[oa r h3];exact h.wr.low r h1 h3
  ·rw[oc r₂ h3 h4];exact h₂.wr.low r₂ (by omega) h4
  ·omega
 ·rw[hs];exact⟨by omega,by have:=h.wr.big.g;omega,h.wr.big.r,by omega,Cg,λg h1 h2=>by rw[oa g (by have:=h.wr.big.g;omega)];exact h.wr.big.fg g h1 h2,λg h1=>by rw[oa g (by omega)];exact h.wr.big.fl g h1⟩
 ·rcases cs a with ha|⟨a₂,ha1,ha2,rfl⟩|ha<;>rcases cs b with hb'|⟨vw,hb1,hb2,rfl⟩|hb'
  ·rw[oa a ha,oa b hb']at e;exact h.inj a b e
  ·rw[oa a ha,oc vw hb1 hb2]at e;rcases zay a P.globals.size with hl|hl
   ·have g1:=(h.lX a).2 hl;rw[e]at g1;have:=(h₂.lX vw).1 g1;omega
   ·exact absurd ⟨vw,by omega,hb2,e⟩ (hd (ρ a) ⟨a,by omega,ha,rfl⟩)
  ·rw[oa a ha,BB b hb']at e;have:=h.low ha;omega
  ·rw[oc a₂ ha1 ha2,oa b hb']at e;rcases zay b P.globals.size with hl|hl
   ·have g1:=(h.lX b).2 hl;rw[←e]at g1;have:=(h₂.lX a₂).1 g1;omega
   ·exact absurd ⟨a₂,by omega,ha2,e.symm⟩ (hd (ρ b) ⟨b,by omega,hb',rfl⟩)
  ·rw[oc a₂ ha1 ha2,oc vw hb1 hb2]at e;have:=h₂.inj a₂ vw e;omega
  ·rw[oc a₂ ha1 ha2,BB b hb']at e;have:=h₂.low ha2;omega
  ·rw[BB a ha,oa b hb']at e;have:=h.low hb';omega
  ·rw[BB a ha,oc vw hb1 hb2]at e;have:=h₂.low hb2;omega
  ·rw[BB a ha,BB b hb']at e;omega
 ·rcases cs r with h3|⟨r₂,h3,h4,rfl⟩|h3
  ·rw[oa r h3];exact h.lX r
  ·rw[oc r₂ h3 h4];have:=h₂.lX r₂;constructor
   ·intro q;have:=this.1 q;omega
   ·intro q;omega
  ·rw[BB r h3];have:=h.ry;constructor<;>intro<;>omega
theorem FX (T:Two P S jg)(lB:P.globals.size≤w₂.heap.size){b:Nat}(ht:Touch S.d (Cf ρ gF P.globals.size w.heap.size w₂.heap.size W.heap.size) (JS P w w₂) b):Touch S.d ρ w b∨Touch jg.d gF w₂ b:=by
 obtain⟨r,h1,h2,rfl⟩:=ht;rw[qU lB]at h2;rcases zay r w.heap.size with hlt|jN
 ·exact .inl ⟨r,h1,hlt,by simp only[Cf,zac hlt]⟩
 ·refine .inr ⟨P.globals.size+(r-w.heap.size),by have:=T.z;omega,by omega,?_⟩;simp only[Cf];rw[zaa (by omega),zac (by omega)]
theorem Zk {base:Nat}{e:ϋ}{z:Nat}{v:Ω}{n:Nat}{xs:List Ω}(hb:P.globals.size≤base)(h:w₂.ownsRow base e z v n xs)(hx:∀x∈xs,rv (Ce P.globals.size w.heap.size) x=x):(JS P w w₂).ownsRow w.heap.size e z (rv (Ce P.globals.size w.heap.size) v) n xs:=by
 refine⟨h.1,?_⟩;rcases h.2 with⟨rfl,h0⟩|⟨g,cap,cur,rfl,h1,h2,h3,h4,h5,h6⟩
 ·exact .inl ⟨by simp[rv],h0⟩
 ·refine .inr ⟨w.heap.size+(g-P.globals.size),cap,cur.map (rv (Ce P.globals.size w.heap.size)),?_,by omega,?_,h3,h4,by simpa using h5,?_⟩
  ·simp only[rv,zbk,ra,Ce,zac (show P.globals.size≤g by omega)]
  ·rw[Qr (by omega) (zaf.1 h2).1,h2];rfl
  ·rw[zbn,←List.map_take,h6]
   conv=>rhs;rw[←List.map_id xs]
   exact List.map_congr_left λx hm=>hx x hm
end
abbrev mM:Item:= .code (.refuse default)
structure LX (x:Θ) (l:List Item):Prop where
 todo:x.todo=l++[mM]
 run:x.mode=.run
theorem iq (l:List Item):(l++[mM]).dropLast=l:=by simp
theorem dm {id:Nat}(k:List Item):∀{l k':List Item},ι id (l++[mM])=some k'→∃l',k'=l'++[mM]∧ι id (l++k)=some (l'++k)
 |[],k',h=>by simp[ι,mM]at h
 |.inBlock id'::l,k',h=>by
  simp only[zaM,ι]at h ⊢;split at h
  ·rename_i e;rw[zac e];cases h;exact⟨l,rfl,rfl⟩
  ·rename_i e;rw[zaa e];exact dm k h
 |.code c::l,k',h=>by simp only[zaM,ι]at h ⊢;exact dm k h
 |.inLoop c::l,k',h=>by simp only[zaM,ι]at h ⊢;exact dm k h
 |.inRegion ..::l,k',h=>by simp only[zaM,ι]at h ⊢;exact dm k h
 |.inScope c::l,k',h=>by simp only[zaM,ι]at h ⊢;exact dm k h
 |.inRangeFunc c::l,k',h=>by simp only[zaM,ι]at h ⊢;exact dm k h
 |.endRangeFunc c::l,k',h=>by simp only[zaM,ι]at h ⊢;exact dm k h
 |.beginRound::l,k',h=>by simp only[zaM,ι]at h ⊢;exact dm k h
 |.call ..::l,k',h=>by simp only[zaM,ι]at h ⊢;exact dm k h
 |.extern ..::l,k',h=>by simp only[zaM,ι]at h ⊢;exact dm k h
section
variable {P:Φ}{F:θ→Bool}{S:Sd}{w w1:Λ}{es:Array ψ}
theorem DR {f:Θ}{c:Θ}{r:List Θ}{f1:Θ}{a1:List Θ}(hr:(aR P f (c::r)).runT P w #[]=(.ok (f1,a1) w1,es)):(∃p,a1=p++c::r∧∀ab,(aR P f ab).runT P w #[]=(.ok (f1,p++ab) w1,es))∨(∃v,f1=c.finish v∧a1=r∧∀c' r',(aR P f (c'::r')).runT P w #[]=(.ok (c'.finish v,r') w1,es)):=by
 obtain⟨fn0,tmps,todo,defers,mode,kind,mL⟩:=f;by_cases hm:mode=.run
 ·left;subst hm
  match todo,hr with
  |[],hr=>
   simp only[aR,pure,Ξ,zag,zao]at hr;obtain⟨⟨⟨rfl,rfl⟩,rfl⟩,rfl⟩:=hr;exact⟨[],rfl,λab=>rfl⟩
  |.code .ret::k,hr=>
   simp only[aR,pure,Ξ,zag,zao]at hr;obtain⟨⟨⟨rfl,rfl⟩,rfl⟩,rfl⟩:=hr;exact⟨[],rfl,λab=>rfl⟩
  |.code .skip::k,hr=>
   simp only[aR,pure,Ξ,zag,zao]at hr;obtain⟨⟨⟨rfl,rfl⟩,rfl⟩,rfl⟩:=hr;exact⟨[],rfl,λab=>rfl⟩
  |.inBlock _::k,hr=>
   simp only[aR,pure,Ξ,zag,zao]at hr;obtain⟨⟨⟨rfl,rfl⟩,rfl⟩,rfl⟩:=hr;exact⟨[],rfl,λab=>rfl⟩
  |.code (.seq a b)::k,hr=>
   simp only[aR,pure,Ξ,zag,zao]at hr;obtain⟨⟨⟨rfl,rfl⟩,rfl⟩,rfl⟩:=hr;exact⟨[],rfl,λab=>rfl⟩
  |.code (.block id a)::k,hr=>
   simp only[aR,pure,Ξ,zag,zao]at hr;obtain⟨⟨⟨rfl,rfl⟩,rfl⟩,rfl⟩:=hr;exact⟨[],rfl,λab=>rfl⟩
  |.code (.loop a)::k,hr=>
   simp only[aR,pure,Ξ,zag,zao]at hr;obtain⟨⟨⟨rfl,rfl⟩,rfl⟩,rfl⟩:=hr;exact⟨[],rfl,λab=>rfl⟩
  |.inLoop a::k,hr=>
   simp only[aR,pure,Ξ,zag,zao]at hr;obtain⟨⟨⟨rfl,rfl⟩,rfl⟩,rfl⟩:=hr;exact⟨[],rfl,λab=>rfl⟩
  |.inRegion _ []::k,hr=>
   simp only[aR,pure,Ξ,zag,zao]at hr;obtain⟨⟨⟨rfl,rfl⟩,rfl⟩,rfl⟩:=hr;exact⟨[],rfl,λab=>rfl⟩
  |.code (.cond c a b)::k,hr=>
   simp only[aR]at hr ⊢;generalize Θ.eval _ c=q at hr ⊢;cases q with
   |bool t=>
    simp only[pure,Ξ,zag,zao]at hr;obtain⟨⟨⟨rfl,rfl⟩,rfl⟩,rfl⟩:=hr;exact⟨[],rfl,λab=>rfl⟩
   |_=>simp[stuck]at hr
  |.code (.exit id)::k,hr=>
   simp only[aR]at hr ⊢;cases he:ι id k with
   |none=>rw[he]at hr;simp[stuck]at hr
   |some k'=>
    rw[he]at hr;simp only[pure,Ξ,zag,zao]at hr;obtain⟨⟨⟨rfl,rfl⟩,rfl⟩,rfl⟩:=hr;exact⟨[],rfl,λab=>rfl⟩
  |.code (.region id ops draw)::k,hr=>
   cases draw with
   |false=>
    simp only[aR,pure,Ξ,zag,zao,zaT,if_false]at hr;obtain⟨⟨⟨rfl,rfl⟩,rfl⟩,rfl⟩:=hr;exact⟨[],rfl,λab=>rfl⟩
   |true=>
    simp only[aR,if_true,bind,choose,Sem.bind,Ξ,Question.forced,zaT,if_false,pure,zag,zao,Question.cut]at hr;obtain⟨⟨⟨rfl,rfl⟩,rfl⟩,rfl⟩:=hr;exact⟨[],rfl,λab=>by simp only[aR,if_true,bind,choose,Sem.bind,Ξ,Question.forced,zaT,if_false,pure,Question.cut,zbA]⟩
  |.inRegion ops (i::rest)::k,hr=>
   simp only[aR]at hr ⊢;by_cases hw:((ops[i]?).map (ζ · (π ops tmps))).getD false=true
   ·rw[zac hw]at hr;cases ho:ops[i]? with
    |none=>rw[ho]at hr;simp[stuck]at hr
    |some o=>
     rw[ho]at hr hw;dsimp only at hr ⊢;simp only[zac hw];generalize (φ (Θ.eval ⟨fn0,tmps,.inRegion ops (i::rest)::k,defers,.run,kind,mL⟩) o)=ex at hr ⊢;rw[bu]at hr;simp only[bu];cases hrun:ex.runT P w #[]with
     |mk q cY=>
      rw[hrun]at hr;cases q with
      |halt hh w1=>simp at hr
      |ok nx w1=>
       dsimp only at hr ⊢;cases nx with
       |value v=>
        simp only[pure,Ξ,zag,zao]at hr;obtain⟨⟨⟨rfl,rfl⟩,rfl⟩,rfl⟩:=hr;exact⟨[],rfl,λab=>rfl⟩
       |skip=>
        simp only[pure,Ξ,zag,zao]at hr;obtain⟨⟨⟨rfl,rfl⟩,rfl⟩,rfl⟩:=hr;exact⟨[],rfl,λab=>rfl⟩
       |enter f args=>
        simp only[pure,Ξ,zag,zao]at hr;obtain⟨⟨⟨rfl,rfl⟩,rfl⟩,rfl⟩:=hr;exact⟨[⟨fn0,tmps,.inRegion ops (i::rest)::k,defers,.run,kind,mL⟩],rfl,λab=>rfl⟩
       |_=>simp[stuck]at hr
   ·rw[zaa hw]at hr;simp only[zaa hw];simp only[pure,Ξ,zag,zao]at hr;obtain⟨⟨⟨rfl,rfl⟩,rfl⟩,rfl⟩:=hr;exact⟨[],rfl,λab=>rfl⟩
  |.code (.rangeFunc ..)::k,hr=>simp[aR,stuck]at hr
  |.code (.scope ..)::k,hr=>simp[aR,stuck]at hr
  |.code (.label ..)::k,hr=>simp[aR,stuck]at hr
  |.code (.goto ..)::k,hr=>simp[aR,stuck]at hr
  |.code (.refuse ..)::k,hr=>simp[aR,stuck]at hr
  |.inScope c::k,hr=>simp[aR,stuck]at hr
  |.inRangeFunc c::k,hr=>simp[aR,stuck]at hr
  |.endRangeFunc c::k,hr=>simp[aR,stuck]at hr
  |.beginRound::k,hr=>simp[aR,stuck]at hr
  |.call ..::k,hr=>simp[aR,stuck]at hr
  |.extern ..::k,hr=>simp[aR,stuck]at hr
 ·right;have key:∀ab,aR P ⟨fn0,tmps,todo,defers,mode,kind,mL⟩ ab=match P.funcs[fn0]? with
   |some fn=>do
    let v ←results fn tmps
    match ab with
    |c::rest=>pure (c.finish v,rest)
    |[]=>stuck ""
   |none=>stuck "" :=λab=>by
   cases mode with
   |run=>exact absurd rfl hm
   |_=>rfl
  rw[key]at hr;simp only[key];cases hf:P.funcs[fn0]? with
  |none=>rw[hf]at hr;simp[stuck]at hr
  |some fn=>
   rw[hf]at hr;dsimp only at hr ⊢;rw[bu]at hr;simp only[bu];cases hrun:(results fn tmps).runT P w #[]with
   |mk q cY=>
    rw[hrun]at hr;cases q with
    |halt hh w1=>simp at hr
    |ok v w1=>
     simp only[pure,Ξ,zag,zao]at hr;obtain⟨⟨⟨rfl,rfl⟩,rfl⟩,rfl⟩:=hr;exact⟨v,rfl,rfl,λc' r'=>rfl⟩
theorem FY {f:Θ}(hm:f.mode≠.run){f1:Θ}{a1:List Θ}(hr:(aR P f []).runT P w #[]=(.ok (f1,a1) w1,es)):False:=by
 obtain⟨fn0,tmps,todo,defers,mode,kind,mL⟩:=f;have key:aR P ⟨fn0,tmps,todo,defers,mode,kind,mL⟩ []=match P.funcs[fn0]? with
  |some fn=>do
   let _ ←results fn tmps
   stuck ""
  |none=>stuck "" :=by
  cases mode with
  |run=>exact absurd rfl hm
  |_=>rfl
 rw[key]at hr;cases hf:P.funcs[fn0]? with
 |none=>rw[hf]at hr;simp[stuck]at hr
 |some fn=>
  rw[hf]at hr;dsimp only at hr;rw[bu]at hr;cases hrun:(results fn tmps).runT P w #[]with
  |mk q cY=>
   rw[hrun]at hr;cases q with
   |halt hh w1=>simp at hr
   |ok v w1=>simp[stuck]at hr
end
def eA (σ:List (Nat×Ω)):ω→Bool
 |.tmp t=>σ.all λp=>p.1 != t
 |_=>true
theorem eO {σ:List (Nat×Ω)}{t:Nat}(h:eA σ (.tmp t)=true):∀p∈σ,p.1≠t:=λp hp=>by
 have:=zaI.1 h p hp;simpa using this
def JW (σ:List (Nat×Ω))(t:Array Ω):Array Ω:=σ.foldl (λt p=>t.setIfInBounds p.1 p.2) t
theorem DT (t:Nat):∀(σ:List (Nat×Ω)) (x:Array Ω),(∀p∈σ,p.1≠t)→(JW σ x)[t]?=x[t]?
 |[],_,_=>rfl
 |p::σ,x,h=>by
  show(JW σ (x.setIfInBounds p.1 p.2))[t]?=_;rw[DT t σ _ λq hq=>h q (zap _ hq),zaB (h p zam)]
theorem LY (d:Nat)(v:Ω):∀(σ:List (Nat×Ω)) (x:Array Ω),(∀p∈σ,p.1≠d)→(JW σ x).setIfInBounds d v=JW σ (x.setIfInBounds d v)
 |[],_,_=>rfl
 |p::σ,x,h=>by
  show(JW σ (x.setIfInBounds p.1 p.2)).setIfInBounds d v=JW σ ((x.setIfInBounds d v).setIfInBounds p.1 p.2);rw[LY d v σ _ λq hq=>h q (zap _ hq),Array.setIfInBounds_comm _ _ (h p zam)]
section
variable (σ:List (Nat×Ω))
def Nl:Option Tmp→Bool
 |some d=>eA σ (.tmp d)
 |none=>true
def pS (ops:Array Oper)(o:Oper):Bool:=
 o.op.operands.all (eA σ)&&(match o.op with|.select ..=>false|_=>true)&&Nl σ o.dst&&(match o.guard with|some (j,_)=>Nl σ ((ops[j]?).bind (·.dst))|none=>true)
def kF:Code→Bool
 |.skip |.ret |.exit _|.refuse _=>true
 |.region _ ops _=>ops.all (pS σ ops)
 |.seq a b=>kF a&&kF b
 |.cond c a b=>eA σ c&&kF a&&kF b
 |.block _ a|.loop a=>kF a
 |_=>false
def eP:Item→Bool
 |.code c=>kF σ c
 |.inBlock _=>true
 |.inLoop c=>kF σ c
 |.inRegion ops l=>l.all λi=>(ops[i]?).all (pS σ ops)
 |_=>false
def dw (k:List Item)(x:Θ):Θ:={ x with todo:=x.todo.dropLast++k,tmps:=JW σ x.tmps }
def FZ (k:List Item):List Θ→List Θ
 |[]=>[]
 |[x]=>[dw σ k x]
 |c::d::r=>c::FZ k (d::r)
def sFJ (k:List Item)(f:Θ):List Θ→Θ
 |[]=>dw σ k f
 |_::_=>f
end
theorem dR {id:Nat}{q:Item→Bool}:∀{l k':List Item},ι id l=some k'→l.all q=true→k'.all q=true
 |[],k',h,_=>by simp[ι]at h
 |.inBlock id'::l,k',h,hl=>by
  simp only[zat,zaj]at hl;simp only[ι]at h;split at h
  ·cases h;exact hl.2
  ·exact dR h hl.2
 |.code c::l,k',h,hl=>by simp only[ι,zat,zaj]at h hl;exact dR h hl.2
 |.inLoop c::l,k',h,hl=>by simp only[ι,zat,zaj]at h hl;exact dR h hl.2
 |.inRegion ..::l,k',h,hl=>by simp only[ι,zat,zaj]at h hl;exact dR h hl.2
 |.inScope c::l,k',h,hl=>by simp only[ι,zat,zaj]at h hl;exact dR h hl.2
 |.inRangeFunc c::l,k',h,hl=>by simp only[ι,zat,zaj]at h hl;exact dR h hl.2
 |.endRangeFunc c::l,k',h,hl=>by simp only[ι,zat,zaj]at h hl;exact dR h hl.2
 |.beginRound::l,k',h,hl=>by simp only[ι,zat,zaj]at h hl;exact dR h hl.2
 |.call ..::l,k',h,hl=>by simp only[ι,zat,zaj]at h hl;exact dR h hl.2
 |.extern ..::l,k',h,hl=>by simp only[ι,zat,zaj]at h hl;exact dR h hl.2
section
variable {P:Φ}{F:θ→Bool}{S:Sd}{w w1:Λ}{es:Array ψ}{σ:List (Nat×Ω)}
theorem nj {ops:Array Oper}{o:Oper}(h:pS σ ops o=true):o.op.operands.all (eA σ)=true∧(∀cs b,o.op≠.select cs b)∧Nl σ o.dst=true:=by
 unfold pS at h;simp only[zaj]at h;refine⟨h.1.1.1,λcs b e=>?_,h.1.2⟩;have:=h.1.1.2;rw[e]at this;cases this
theorem DU {ops:Array Oper}{o:Oper}(h:pS σ ops o=true)(t:Array Ω):ζ o (π ops (JW σ t))=ζ o (π ops t):=by
 unfold pS at h;simp only[zaj]at h;have h4:=h.2;unfold ζ;cases hg:o.guard with
 |none=>rfl
 |some p=>
  obtain⟨j,want⟩:=p;rw[hg]at h4;dsimp only at h4 ⊢
  congr 1
  unfold π;cases hd:(ops[j]?).bind (·.dst)with
  |none=>rfl
  |some d=>
   rw[hd]at h4;simp only[zbS];rw[DT d σ t (eO h4)]
theorem Ch {x:ω}(h:eA σ x=true)(fr:Θ)(k k':List Item):Θ.eval { fr with todo:=k,tmps:=JW σ fr.tmps } x=Θ.eval { fr with todo:=k' } x:=by
 cases x with
 |tmp t=>
  simp only[Θ.eval,zby];rw[DT t σ _ (eO h)]
 |_=>rfl
theorem od (k:List Item){x:Θ}{h:Item}{l:List Item}(hb:x.todo=h::l++[mM])(hh:aB P F S h=true)(hj:eP σ h=true)(v:Ω):(dw σ k x).finish v=dw σ k (x.finish v)∧(x.finish v).fn=x.fn∧(x.finish v).mode=x.mode∧∃h',(x.finish v).todo=h'::l++[mM]∧eP σ h'=true:=by
 obtain⟨fn0,tmps,todo,defers,mode,kind,mL⟩:=x;simp only at hb;subst hb;have dl:∀(a:Item),((a::(l++[mM])).dropLast++k)=a::(l++k):=λa=>by
  rw[show a::(l++[mM])=(a::l)++[mM] from rfl,iq];rfl
 cases h with
 |inRegion ops idx=>
  cases idx with
  |nil=>exact⟨by simp only[Θ.finish,dw,zaM,dl],rfl,rfl,_,rfl,hj⟩
  |cons i rest=>
   have hj':=hj;simp only[eP,zat,zaj]at hj';refine⟨?_,rfl,rfl,.inRegion ops rest,rfl,hj'.2⟩;have hd:Nl σ ((ops[i]?).bind (·.dst))=true:=by
    cases ho:ops[i]? with
    |none=>rfl
    |some o=>
     have:=hj'.1;rw[ho]at this;exact(nj this).2.2
   simp only[Θ.finish,dw,zaM,dl]
   revert hd
   generalize (ops[i]?).bind (·.dst)=d;intro hd;cases d with
   |none=>rfl
   |some d=>simp only[LY d v σ tmps (eO hd)]
 |code c=>exact⟨by simp only[Θ.finish,dw,zaM,dl],rfl,rfl,_,rfl,hj⟩
 |inBlock id=>exact⟨by simp only[Θ.finish,dw,zaM,dl],rfl,rfl,_,rfl,hj⟩
 |inLoop c=>exact⟨by simp only[Θ.finish,dw,zaM,dl],rfl,rfl,_,rfl,hj⟩
 |_=>simp[aB]at hh
theorem qW (k:List Item){x:Θ}{h:Item}{l:List Item}(hb:LX x (h::l))(hh:aB P F S h=true)(hj:(h::l).all (eP σ)=true){f1:Θ}{a1:List Θ}(hr:(aR P x []).runT P w #[]=(.ok (f1,a1) w1,es)):(∃l1,LX f1 l1∧l1.all (eP σ)=true∧f1.fn=x.fn∧a1=[]∧(aR P (dw σ k x) []).runT P w #[]=(.ok (dw σ k f1,[]) w1,es))∨
 (f1={ x with mode:= .returning }∧a1=[]∧(aR P (dw σ k x) []).runT P w #[]=(.ok (dw σ k f1,[]) w1,es))∨
 (a1=[x]∧(aR P (dw σ k x) []).runT P w #[]=(.ok (f1,[dw σ k x]) w1,es)):=by
 obtain⟨fn0,tmps,todo,defers,mode,kind,mL⟩:=x;obtain⟨ht,hm⟩:=hb;simp only at ht hm;subst ht hm;have dl:∀(a:Item),((a::(l++[mM])).dropLast++k)=a::(l++k):=λa=>by
  rw[show a::(l++[mM])=(a::l)++[mM] from rfl,iq];rfl
 have dl0:(l++[mM]).dropLast++k=l++k:=by rw[iq]
 have dl2:∀(a b:Item),((a::b::(l++[mM])).dropLast++k)=a::b::(l++k):=λa b=>by
  rw[show a::b::(l++[mM])=(a::b::l)++[mM] from rfl,iq];rfl
 simp only[zat,zaj]at hj;obtain⟨vC,tC⟩:=hj;simp only[zaM,dw,dl]at hr ⊢
 match h,hh,vC,hr with
 |.code .ret,_,_,hr=>
  simp only[aR,pure,Ξ,zag,zao]at hr;obtain⟨⟨⟨rfl,rfl⟩,rfl⟩,rfl⟩:=hr;exact .inr (.inl ⟨rfl,rfl,by simp only[aR,pure,Ξ,dl]⟩)
 |.code .skip,_,_,hr=>
  simp only[aR,pure,Ξ,zag,zao]at hr;obtain⟨⟨⟨rfl,rfl⟩,rfl⟩,rfl⟩:=hr;exact .inl ⟨l,⟨rfl,rfl⟩,tC,rfl,rfl,by simp only[aR,pure,Ξ,dl0]⟩
 |.inBlock _,_,_,hr=>
  simp only[aR,pure,Ξ,zag,zao]at hr;obtain⟨⟨⟨rfl,rfl⟩,rfl⟩,rfl⟩:=hr;exact .inl ⟨l,⟨rfl,rfl⟩,tC,rfl,rfl,by simp only[aR,pure,Ξ,dl0]⟩
 |.code (.seq a b),_,vC,hr=>
  simp only[aR,pure,Ξ,zag,zao]at hr;obtain⟨⟨⟨rfl,rfl⟩,rfl⟩,rfl⟩:=hr;simp only[eP,kF,zaj]at vC;exact .inl ⟨.code a::.code b::l,⟨rfl,rfl⟩,by simp only[zat,eP,vC.1,vC.2,tC,Bool.and_self],rfl,rfl,by simp only[aR,pure,Ξ,dl2]⟩
 |.code (.block id a),_,vC,hr=>
  simp only[aR,pure,Ξ,zag,zao]at hr;obtain⟨⟨⟨rfl,rfl⟩,rfl⟩,rfl⟩:=hr;simp only[eP,kF]at vC;exact .inl ⟨.code a::.inBlock id::l,⟨rfl,rfl⟩,by simp only[zat,eP,vC,tC,Bool.and_self],rfl,rfl,by simp only[aR,pure,Ξ,dl2]⟩
 |.code (.loop a),_,vC,hr=>
  simp only[aR,pure,Ξ,zag,zao]at hr;obtain⟨⟨⟨rfl,rfl⟩,rfl⟩,rfl⟩:=hr;simp only[eP,kF]at vC;exact .inl ⟨.code a::.inLoop a::l,⟨rfl,rfl⟩,by simp only[zat,eP,vC,tC,Bool.and_self],rfl,rfl,by simp only[aR,pure,Ξ,dl2]⟩
 |.inLoop a,_,vC,hr=>
  simp only[aR,pure,Ξ,zag,zao]at hr;obtain⟨⟨⟨rfl,rfl⟩,rfl⟩,rfl⟩:=hr;simp only[eP]at vC;exact .inl ⟨.code a::.inLoop a::l,⟨rfl,rfl⟩,by simp only[zat,eP,vC,tC,Bool.and_self],rfl,rfl,by simp only[aR,pure,Ξ,dl2]⟩
 |.inRegion _ [],_,_,hr=>
  simp only[aR,pure,Ξ,zag,zao]at hr;obtain⟨⟨⟨rfl,rfl⟩,rfl⟩,rfl⟩:=hr;exact .inl ⟨l,⟨rfl,rfl⟩,tC,rfl,rfl,by simp only[aR,pure,Ξ,dl0]⟩
 |.code (.cond c a b),_,vC,hr=>
  simp only[eP,kF,zaj]at vC;simp only[aR]at hr ⊢;have ev:Θ.eval ⟨fn0,JW σ tmps,.code (.cond c a b)::(l++k),defers,.run,kind,mL⟩ c=Θ.eval ⟨fn0,tmps,.code (.cond c a b)::(l++[mM]),defers,.run,kind,mL⟩ c:=Ch vC.1.1 ⟨fn0,tmps,[],defers,.run,kind,mL⟩ _ _;rw[ev];generalize Θ.eval ⟨fn0,tmps,.code (.cond c a b)::(l++[mM]),defers,.run,kind,mL⟩ c=q at hr ⊢;cases q with
  |bool t=>
   simp only[pure,Ξ,zag,zao]at hr;obtain⟨⟨⟨rfl,rfl⟩,rfl⟩,rfl⟩:=hr;exact .inl ⟨.code (if t then a else b)::l,⟨rfl,rfl⟩,by simp only[zat,eP,tC,zbJ];cases t<;>simp[vC.1.2,vC.2],rfl,rfl,by simp only[pure,Ξ,dl]⟩
  |_=>simp[stuck]at hr
 |.code (.exit id),_,_,hr=>
  simp only[aR]at hr ⊢;cases he:ι id (l++[mM])with
  |none=>rw[he]at hr;simp[stuck]at hr
  |some k'=>
   rw[he]at hr;have hall:=dR (q:=eP σ) he (by rw[List.all_append,tC];rfl);obtain⟨l',rfl,h2⟩:=dm k he;rw[h2];rw[List.all_append,zaj]at hall;simp only[pure,Ξ,zag,zao]at hr;obtain⟨⟨⟨rfl,rfl⟩,rfl⟩,rfl⟩:=hr;exact .inl ⟨l',⟨rfl,rfl⟩,hall.1,rfl,rfl,by simp only[pure,Ξ,iq]⟩
 |.code (.region id ops draw),_,vC,hr=>
  simp only[eP,kF]at vC;have abt:∀idx:List Nat,eP σ (.inRegion ops idx)=true:=λidx=>by
   simp only[eP,zaI];intro i _;cases ho:ops[i]? with
   |none=>rfl
   |some o=>exact zbK.1 vC o (zbI ho)
  cases draw with
  |false=>
   simp only[aR,pure,Ξ,zag,zao,zaT,if_false]at hr ⊢;obtain⟨⟨⟨rfl,rfl⟩,rfl⟩,rfl⟩:=hr;exact .inl ⟨.inRegion ops (List.range ops.size)::l,⟨rfl,rfl⟩,by rw[zat,abt,tC];rfl,rfl,rfl,by simp only[dl,and_self]⟩
  |true=>
   simp only[aR,if_true,bind,choose,Sem.bind,Ξ,Question.forced,zaT,if_false,pure,zag,zao,Question.cut]at hr ⊢;obtain⟨⟨⟨rfl,rfl⟩,rfl⟩,rfl⟩:=hr;exact .inl ⟨.inRegion ops _::l,⟨rfl,rfl⟩,by rw[zat,abt,tC];rfl,rfl,rfl,by simp only[dl,and_self]⟩
 |.inRegion ops (i::rest),hh,vC,hr=>
  have pK:=λv=>od (P:=P) (F:=F) (S:=S) (σ:=σ) k (x:=⟨fn0,tmps,.inRegion ops (i::rest)::(l++[mM]),defers,.run,kind,mL⟩) (h:= .inRegion ops (i::rest)) (l:=l) rfl hh vC v;simp only[eP,zat,zaj]at vC;simp only[aR]at hr ⊢;have fin:∀v,(⟨fn0,JW σ tmps,.inRegion ops (i::rest)::(l++k),defers,.run,kind,mL⟩:Θ).finish v=dw σ k ((⟨fn0,tmps,.inRegion ops (i::rest)::(l++[mM]),defers,.run,kind,mL⟩:Θ).finish v):=λv=>by
   have:=(pK v).1;simp only[dw,dl]at this;exact this
  have bot:∀v,LX ((⟨fn0,tmps,.inRegion ops (i::rest)::(l++[mM]),defers,.run,kind,mL⟩:Θ).finish v) (.inRegion ops rest::l):=λv=>⟨rfl,rfl⟩;have hall:(Item.inRegion ops rest::l).all (eP σ)=true:=by
   rw[zat,tC,zbJ];exact vC.2
  cases ho:ops[i]? with
  |none=>
   rw[ho]at hr;simp only[Option.map_none,zbB,zaT,if_false]at hr ⊢;simp only[pure,Ξ,zag,zao]at hr;obtain⟨⟨⟨rfl,rfl⟩,rfl⟩,rfl⟩:=hr;exact .inl ⟨_,bot ϊ,hall,rfl,rfl,by simp only[pure,Ξ,fin];rfl⟩
  |some o=>
   have hjo:pS σ ops o=true:=by
    have:=vC.1;rw[ho]at this;exact this
   have ev:φ (Θ.eval ⟨fn0,JW σ tmps,.inRegion ops (i::rest)::(l++k),defers,.run,kind,mL⟩) o=φ (Θ.eval ⟨fn0,tmps,.inRegion ops (i::rest)::(l++[mM]),defers,.run,kind,mL⟩) o:=
    execOp_congr o (nj hjo).2.1 λy hy=>Ch (zbK.1 (nj hjo).1 y hy) ⟨fn0,tmps,[],defers,.run,kind,mL⟩ _ _
   rw[ho]at hr;simp only[zbk,zbl]at hr ⊢;rw[DU hjo];by_cases hw:ζ o (π ops tmps)=true
   ·rw[zac hw]at hr ⊢;rw[ev];generalize (φ (Θ.eval ⟨fn0,tmps,.inRegion ops (i::rest)::(l++[mM]),defers,.run,kind,mL⟩) o)=ex at hr ⊢;rw[bu]at hr ⊢;cases hrun:ex.runT P w #[]with
    |mk r cY=>
     rw[hrun]at hr;cases r with
     |halt hh w1=>simp at hr
     |ok nx w1=>
      dsimp only at hr ⊢;cases nx with
      |value v=>
       simp only[pure,Ξ,zag,zao]at hr;obtain⟨⟨⟨rfl,rfl⟩,rfl⟩,rfl⟩:=hr;exact .inl ⟨_,bot v,hall,rfl,rfl,by simp only[pure,Ξ,fin];rfl⟩
      |skip=>
       simp only[pure,Ξ,zag,zao]at hr;obtain⟨⟨⟨rfl,rfl⟩,rfl⟩,rfl⟩:=hr;exact .inl ⟨_,bot ϊ,hall,rfl,rfl,by simp only[pure,Ξ,fin];rfl⟩
      |enter f args=>
       simp only[pure,Ξ,zag,zao]at hr;obtain⟨⟨⟨rfl,rfl⟩,rfl⟩,rfl⟩:=hr;exact .inr (.inr ⟨rfl,rfl⟩)
      |_=>simp[stuck]at hr
   ·rw[zaa hw]at hr ⊢;simp only[pure,Ξ,zag,zao]at hr;obtain⟨⟨⟨rfl,rfl⟩,rfl⟩,rfl⟩:=hr;exact .inl ⟨_,bot ϊ,hall,rfl,rfl,by simp only[pure,Ξ,fin];rfl⟩
 |.code (.rangeFunc ..),hh,_,hr=>simp[aB,bp]at hh
 |.code (.scope ..),hh,_,hr=>simp[aB,bp]at hh
 |.code (.label ..),hh,_,hr=>simp[aB,bp]at hh
 |.code (.goto ..),hh,_,hr=>simp[aB,bp]at hh
 |.code (.refuse ..),hh,_,hr=>simp[aR,stuck]at hr
 |.inScope c,hh,_,hr=>simp[aB]at hh
 |.inRangeFunc c,hh,_,hr=>simp[aB]at hh
 |.endRangeFunc c,hh,_,hr=>simp[aB]at hh
 |.beginRound,hh,_,hr=>simp[aB]at hh
 |.call ..,hh,_,hr=>simp[aB]at hh
 |.extern ..,hh,_,hr=>simp[aB]at hh
end
section
variable {P:Φ}{F:θ→Bool}{S:Sd}{w W:Λ}{ρ:Rn}{k:List Item}{fn0:θ}{Q:Θ→List Θ→Λ→Prop}{σ:List (Nat×Ω)}
theorem wN (k:List Item)(c:Θ)(r:List Θ):∀p:List Θ,FZ σ k (p++c::r)=p++FZ σ k (c::r)
 |[]=>rfl
 |[x]=>rfl
 |x::y::p=>by
  have:=wN k c r (y::p);simp only[zaM]at this ⊢;rw[FZ,this]
theorem DV {x:Θ}{h:Item}{l:List Item}(hx:lx P F S x)(hb:LX x (h::l)):aB P F S h=true:=by
 have:=hx.todo;rw[hb.todo]at this;simp only[zaM,zat,zaj]at this;exact this.1
theorem F0 {x:Θ}(h:lx P F S x):lx P F S (bS ρ x):=⟨h.defers,h.mode,h.kind,h.round,h.todo,h.fn⟩
def Nn (σ:List (Nat×Ω))(fn0:θ)(f:Θ)(ab:List Θ):Prop:=
 match ab.getLast? with
 |none=>f.fn=fn0∧(f.mode=.returning∨∃l,LX f l∧l.all (eP σ)=true)
 |some x=>∃h l,LX x (h::l)∧(h::l).all (eP σ)=true∧x.fn=fn0
theorem JX {x:Θ}{h:Item}{l:List Item}(hx:lx P F S x)(hb:LX x (h::l))(k:List Item):FL P F S (dw σ k x):=⟨hx.defers,hx.mode,hx.kind,hx.round,by
 have e:(dw σ k x).todo=h::(l++k):=by
  show x.todo.dropLast++k=_;rw[hb.todo,iq];rfl
 rw[e];simpa using DV hx hb,hx.fn⟩
theorem JY {f f1:Θ}{ab a1:List Θ}{w0 w1 W1:Λ}{es es':Array ψ}(cg:lx P F S f)(adF:∀x∈ab,lx P F S x)(hT:Nn σ fn0 f ab)(hn:ab=[]→∃h l,LX f (h::l)∧(h::l).all (eP σ)=true)
 (hp:(aR P f ab).runT P w0 #[]=(.ok (f1,a1) w1,es))(hr:(aR P (bS ρ f) (ab.map (bS ρ))).runT P W #[]=(.ok (bS ρ f1,a1.map (bS ρ)) W1,es'))(main:Bool)(cs:List Θ):
 Nn σ fn0 f1 a1∧ξ P main (G (sFJ σ k (bS ρ f) ab) (FZ σ k (ab.map (bS ρ))++cs)) W=.go (G (sFJ σ k (bS ρ f1) a1) (FZ σ k (a1.map (bS ρ))++cs)) W1 (seen P f.fn es'):=by
 cases ab with
 |nil=>
  obtain⟨hf,-⟩:=hT;obtain⟨h,l,hb,hj⟩:=hn rfl;have hh:=DV cg hb;have hb':LX (bS ρ f) (h::l):=⟨hb.todo,hb.run⟩;have hH:FL P F S (dw σ k (bS ρ f)):=JX (F0 cg) hb' k;rcases qW k hb hh hj hp with⟨l1,b1,bj,b2,rfl,_⟩|⟨m1,rfl,_⟩|⟨rfl,_⟩
  ·rcases qW k hb' hh hj hr with⟨l2,c1,_,c2,_,c3⟩|⟨m1,_,m2⟩|⟨e,_⟩
   ·refine⟨⟨b2.trans hf,.inr ⟨l1,b1,bj⟩⟩,?_⟩;exact fp (main:=main) (cs:=cs) hH c3
   ·have:f1.mode=.returning:=zal Θ.mode m1;rw[b1.run]at this;cases this
   ·simp at e
  ·rcases qW k hb' hh hj hr with⟨l2,c1,_,c2,_,c3⟩|⟨_,_,c3⟩|⟨e,_⟩
   ·have:f1.mode=.returning:=zal Θ.mode m1;have c4:f1.mode=.run:=c1.run;rw[c4]at this;cases this
   ·refine⟨⟨by rw[m1];exact hf,.inl (by rw[m1])⟩,?_⟩;exact fp (main:=main) (cs:=cs) hH c3
   ·simp at e
  ·rcases qW k hb' hh hj hr with⟨l2,c1,_,c2,e,c3⟩|⟨m1,e,m2⟩|⟨e,c3⟩
   ·simp at e
   ·simp at e
   ·exact⟨⟨h,l,hb,hj,hf⟩,fp (main:=main) (cs:=cs) hH c3⟩
 |cons c r=>
  have hH:FL P F S (bS ρ f):=LJ (F0 cg);rcases DR hp with⟨p,rfl,_⟩|⟨v,rfl,rfl,_⟩
  ·rcases DR (c:=bS ρ c) (r:=r.map (bS ρ)) hr with⟨p',e,h2⟩|⟨v,_,e,_⟩
   ·have ep:p'=p.map (bS ρ):=by
     rw[zck,zaD]at e;exact(List.append_cancel_right e).symm
    subst ep;have hT':Nn σ fn0 f1 (p++c::r):=by
     unfold Nn at hT ⊢;rw[List.getLast?_append];cases hg:(c::r).getLast? with
     |none=>simp at hg
     |some x=>rw[hg]at hT;exact hT
    refine⟨hT',?_⟩;have e1:sFJ σ k (bS ρ f1) (p++c::r)=bS ρ f1:=by cases p<;>rfl
    rw[e1,zck,zaD,wN];exact fp (main:=main) (cs:=cs) hH (h2 _)
   ·have:=zal List.length e;simp at this;omega
  ·rcases DR (c:=bS ρ c) (r:=a1.map (bS ρ)) hr with⟨p',e,h2⟩|⟨v',e1,_,h2⟩
   ·have:=zal List.length e;simp at this;omega
   ·cases a1 with
    |nil=>
     obtain⟨h,l,hb,hj,hf⟩:=hT;have hcO:=adF c zam;have hh:=DV hcO hb;have hj':=hj;simp only[zat,zaj]at hj';obtain⟨g1,g2,g3,h',g4,g5⟩:=od k hb.todo hh hj'.1 v;obtain⟨q1,-,-,-,-⟩:=od k (x:=bS ρ c) hb.todo hh hj'.1 v';refine⟨⟨g2.trans hf,.inr ⟨h'::l,⟨g4,g3.trans hb.run⟩,by rw[zat,g5,hj'.2];rfl⟩⟩,?_⟩;have h3:=fp (main:=main) (cs:=cs) hH (h2 (dw σ k (bS ρ c)) []);rw[q1,←e1]at h3;exact h3
    |cons d r2=>
     refine⟨?_,?_⟩
     ·unfold Nn at hT ⊢;rw[List.getLast?_cons_cons]at hT;exact hT
     ·have h3:=fp (main:=main) (cs:=cs) hH (h2 (bS ρ c) (FZ σ k ((d::r2).map (bS ρ))));rw[←e1]at h3;exact h3
def Qs (P:Φ)(F:θ→Bool)(S:Sd)(Q:Θ→List Θ→Λ→Prop)(σ:List (Nat×Ω))(k:List Item)(fn0:θ)(cs:List Θ)(ly:Rn)(n₀:Nat)(own:Nat→Prop)(g:Γ)(W:Λ):Prop:=
 ∃fr w ρ,(LX fr []∨fr.mode=.returning)∧fr.fn=fn0∧Qc P Q fr [] w∧PI P F S fr [] w∧gH P S ρ w W∧own=Touch S.d ρ w∧g=G (dw σ k (bS ρ fr)) cs∧n₀≤w.heap.size∧∀r,r<n₀→ρ r=ly r
theorem wO (hC:jM P F S){main:Bool}{ro:Nat→Prop}(hQ:∀f a w,Q f a w→a=[]∧(LX f []∨f.mode=.returning)){cs:List Θ}{fr:Θ}{above:List Θ}{w:Λ}(hb:Qc P Q fr above w):PI P F S fr above w→Nn σ fn0 fr above→∀(ly:Rn) (n₀:Nat) (ρ:Rn) (W:Λ),gH P S ρ w W→n₀≤w.heap.size→(∀r,r<n₀→ρ r=ly r)→af P main ro (Qs P F S Q σ k fn0 cs ly n₀) (Touch S.d ρ w) (G (sFJ σ k (bS ρ fr) above) (FZ σ k (above.map (bS ρ))++cs)) W:=by
 induction hb with
 | @stop fr above w h=>
   intro hI hT ly n₀ ρ W hS hn mA;obtain⟨rfl,JZ⟩:=hQ _ _ _ h;have hfn:fr.fn=fn0:=hT.1;refine .stop λaC hr=>⟨fr,w,_,JZ,hfn,.stop h,hI,hS.rely hr,cC.symm,?_,hn,λr hlt=>by rw[aJ (by omega)];exact mA r hlt⟩;show G (dw σ k (bS ρ fr)) ([]++cs)=_;rw[ei (P:=P) (S:=S) (n:=w.heap.size) (fr:=fr) hI.cl (ρ:=ρ) (ρ':=cN ρ w.heap.size aC.heap.size) (λr hlt=>(aJ hlt).symm) (λ_=>rfl)];rfl
 | @step fr above w nf na nw ne h1 h2 ih=>
   intro hI hT ly n₀ ρ W hS hn mA;by_cases hend:above=[]∧(LX fr []∨fr.mode=.returning)
   ·obtain⟨rfl,JZ⟩:=hend;have hfn:fr.fn=fn0:=hT.1;refine .stop λaC hr=>⟨fr,w,_,JZ,hfn,.step nf na nw ne h1 h2,hI,hS.rely hr,cC.symm,?_,hn,λr hlt=>by rw[aJ (by omega)];exact mA r hlt⟩;show G (dw σ k (bS ρ fr)) ([]++cs)=_;rw[ei (P:=P) (S:=S) (n:=w.heap.size) (fr:=fr) hI.cl (ρ:=ρ) (ρ':=cN ρ w.heap.size aC.heap.size) (λr hlt=>(aJ hlt).symm) (λ_=>rfl)];rfl
   ·refine af.step' rfl λaC hr=>?_;have hS1:=hS.rely hr;generalize vu:cN ρ w.heap.size aC.heap.size=ct at hS1;have JG:∀r,r<w.heap.size→ct r=ρ r:=λr hlt=>by rw[←vu];exact aJ hlt
    have JH:∀x,ct.f x=ρ.f x:=λx=>by rw[←vu];rfl
    have hrun:=h1 aC.tape aC.drawn;have hW:WR P S ct (w.re aC.tape aC.drawn) aC:=⟨hS1.wr.live,hS1.wr.ok,hS1.wr.dead,hS1.wr.closed,hS1.wr.next,hS1.wr.low,hS1.wr.big⟩;have hIr:=hI.re aC.tape aC.drawn;have hpl:Plain P ct:=⟨λt i v a b=>hC.zero t i v a b _,hS1.inj⟩;have BC:=DC (ρ:=ct) hC hpl hS1.fix hIr.ok hIr.oks (λv _=> .inl hS1.lX) (λv hv=>jv (hIr.cl v hv));obtain⟨bb,W2,es',r1,⟨rfl,o1,o2⟩,r3,q1,q2,r6⟩:=df hpl (λo=> .inl hS1.lX) _ _ _ (λn=>FF P F S (sg S S.d n)) (w.re aC.tape aC.drawn) aC #[] #[] _ _ _ BC (vt hC hIr) hW (λj _ q=>rfl) hrun;have q3:∀e∈es',pj S.d ct (nw aC.tape aC.drawn) e:=λe he=>(r6 e he).resolve_left (by simp);have hI2:=(ey hC hIr hrun).1;have Zb:gH P S ct (w.re aC.tape aC.drawn) aC:=⟨hW,hS1.inj,hS1.lX,hS1.f,hS1.ry⟩;have rX:gH P S ct (nw aC.tape aC.drawn) W2:=⟨q1,hS1.inj,hS1.lX,hS1.f,by have:=hS1.ry;have h3:=q2.size;have h4:=q2.gN;omega⟩;have hgrow:Touch S.d ct (nw aC.tape aC.drawn)=Grow (Touch S.d ρ w) aC W2:=by
     rw[yZ Zb q2];have:Touch S.d ct (w.re aC.tape aC.drawn)=Touch S.d ρ w:=by
      rw[←vu];exact cC
     rw[this]
    have Px:bS ρ fr=bS ct fr:=ei hI.cl (λr hlt=>(JG r hlt).symm) (λx=>(JH x).symm);have hab:above.map (bS ρ)=above.map (bS ct):=eI (λr hlt=>(JG r hlt).symm) (λx=>(JH x).symm) hI.cls;obtain⟨Br,q4⟩:=JY (k:=k) (ρ:=ct) hI.ok hI.oks hT (λe=>by
     subst e;rcases hT.2 with hm|⟨l,hl,hj⟩
     ·exact absurd ⟨rfl,.inr hm⟩ hend
     ·cases l with
      |nil=>exact absurd ⟨rfl,.inl hl⟩ hend
      |cons h l=>exact⟨h,l,hl,hj⟩) hrun r1 main cs
    refine⟨_,W2,_,by rw[Px,hab];exact q4,⟨q2.tape,q2.os,q2.output,by have h3:=q2.size;have h4:=q2.gN;simp only[Λ.re]at h3 h4;omega,λb hb XS=>?_,λe he=>?_⟩,?_⟩
    ·refine q2.frame b hb λht=>?_;rw[hgrow]at ht;rcases ht with h|⟨h,_⟩
     ·exact XS h
     ·omega
    ·have:=q3 e (mem_seen he);unfold pj at this;unfold DK;rw[←hgrow];cases hl:e.loc<;>simp only[hl]at this ⊢<;>first|exact .inl this|exact this
    ·rw[←hgrow];refine ih aC.tape aC.drawn hI2 Br ly n₀ ct W2 rX ?_ λr hlt=>(JG r (by omega)).trans (mA r hlt);have h4:=q2.gN;simp only[Λ.re]at h4;omega
end
theorem vD (x:ω):eA [] x=true:=by cases x<;>rfl
theorem F2 (d:Option Tmp):Nl [] d=true:=by cases d<;>first|rfl|exact vD _
theorem Ci {P:Φ}{F:θ→Bool}{S:Sd}{ops:Array Oper}{o:Oper}(h:gw P F S o.op=true):pS [] ops o=true:=by
 unfold pS;rw[zbK.2 λx _=>vD x,F2];have h1:(match o.guard with|some (j,_)=>Nl [] ((ops[j]?).bind (·.dst))|none=>true)=true:=by split<;>first|rfl|exact F2 _
 have h2:(match o.op with|.select ..=>false|_=>true)=true:=by
  split
  ·rename_i e;rw[e]at h;cases h
  ·rfl
 rw[h1,h2];rfl
theorem jz {P:Φ}{F:θ→Bool}{S:Sd}:∀c:Code,bp P F S c=true→kF [] c=true
 |.skip,_|.ret,_|.exit _,_|.refuse _,_=>rfl
 |.region _ ops _,h=>zbK.2 λo ho=>Ci (zbK.1 h o ho)
 |.seq a b,h=>by
  simp only[bp,kF,zaj]at h ⊢;exact⟨jz a h.1,jz b h.2⟩
 |.cond c a b,h=>by
  simp only[bp,kF,zaj]at h ⊢;exact⟨⟨vD c,jz a h.1.2⟩,jz b h.2⟩
 |.block _ a,h=>jz a h
 |.loop a,h=>jz a h
theorem Np {P:Φ}{F:θ→Bool}{S:Sd}{x:Item}(h:aB P F S x=true):eP [] x=true:=by
 cases x<;>simp only[aB,eP]at h ⊢<;>first|contradiction|exact jz _ h|skip
 refine zaI.2 λi hi=>?_;have:=zaI.1 h i hi
 revert this
 cases (‹Array Oper›)[i]? with
 |none=>exact λ_=>rfl
 |some o=>exact λq=>Ci q
section
variable {P:Φ}{F:θ→Bool}{S:Sd}{Ψ:aV}{cs:List Θ}{w:Λ}{b:Θ}{a:Act}{k:List Item}
theorem DW:∀(above:List Θ) (fr:Θ) (w:Λ) (chain:List PanicEntry) (n:Nat) (tu:Θ) (wf:Λ),fr.defers=[]→(∃f,P.funcs[fr.fn]?=some f)→(∀f∈above,lx P F S f)→runN P n (Go.lone { fr with mode:= .panicking chain } (above++[c0 P]) w)=.next (Go.lone tu [c0 P] wf)→(∀ch,tu.mode≠.panicking ch)→False:=by
 intro above
 induction above with
 |nil=>
  rintro fr w chain n tu wf hd ⟨f,hf⟩ _ hr hm;cases n with
  |zero=>
   simp only[runN,zbH]at hr;obtain⟨rfl,_,_⟩:=iH hr;exact hm _ rfl
  |succ n=>
   have h1:step P (Go.lone { fr with mode:= .panicking chain } ([]++[c0 P]) w)=.next (Go.lone ((c0 P).raise chain) [] w):=by
    refine kM (es:=#[]) ?_;simp[G,ξ,unwind,hd,Θ.catches,hf]
   simp only[runN,h1]at hr;cases n with
   |zero=>
    simp only[runN,zbH]at hr;obtain⟨_,e,_⟩:=iH hr;cases e
   |succ n=>
    have h2:∃o w3 es,ξ P true (G ((c0 P).raise chain) []) w=.ended o w3 es:=by
     simp[G,ξ,unwind,c0,Θ.raise,Θ.catches]
    obtain⟨o,w3,es,h2⟩:=h2;simp only[runN,jw h2]at hr;cases hr
 |cons c rest ih=>
  rintro fr w chain n tu wf hd ⟨f,hf⟩ cg hr hm;cases n with
  |zero=>
   simp only[runN,zbH]at hr;obtain⟨rfl,_,_⟩:=iH hr;exact hm _ rfl
  |succ n=>
   have hc:=cg c (by simp);have h1:step P (Go.lone { fr with mode:= .panicking chain } (c::rest++[c0 P]) w)=.next (Go.lone { c with mode:= .panicking chain } (rest++[c0 P]) w):=by
    refine kM (es:=#[]) ?_;have hcr:c.raise chain={ c with mode:= .panicking chain }:=by
     unfold Θ.raise;rcases hc.mode with e|e<;>rw[e]
    simp[G,ξ,unwind,hd,Θ.catches,hf,hcr]
   simp only[runN,h1]at hr;exact ih c w chain n tu wf hc.defers hc.fn (λg hg=>cg g (by simp[hg])) hr hm
theorem jO (hC:jM P F S):∀(n:Nat) (fr:Θ) (above:List Θ) (w:Λ) (tu:Θ) (wf:Λ),PI P F S fr above w→runN P n (Go.lone fr (above++[c0 P]) w)=.next (Go.lone tu [c0 P] wf)→(∀ch,tu.mode≠.panicking ch)→∃m,mZ P m fr above w tu [] wf:=by
 intro n
 induction n with
 |zero=>
  intro fr above w tu wf h hr hm;simp only[runN,zbH]at hr;obtain⟨rfl,e,rfl⟩:=iH hr;have:above=[]:=by
   have:=zal List.length e;simp at this;exact this
  subst this;exact⟨0,.zero⟩
 |succ n ih=>
  intro fr above w tu wf h hr hm;by_cases hl:above=[]∧fr.mode=.returning
  ·obtain⟨rfl,hl⟩:=hl;exact(wK hC h hl hr).elim
  ·cases hrun:(aR P fr above).runT P w #[]with
   |mk r es=>
    cases r with
    |ok x w1=>
     obtain⟨f1,a1⟩:=x;have hs:=n7 (main:=true) (cs:=[c0 P]) h.ok hrun;simp only[runN,kM hs]at hr;obtain⟨m,Pz⟩:=ih f1 a1 w1 tu wf (ey hC h hrun).1 hr hm;exact⟨m+1,.succ hrun Pz⟩
    |halt hh w1=>
     rcases Ca (cs:=[c0 P]) hC h hl hrun with⟨chain,w2,es',e⟩|⟨o,w2,es',e⟩
     ·simp only[runN,kM e]at hr;exact(DW above fr w2 chain n tu wf h.ok.defers h.ok.fn h.oks hr hm).elim
     ·simp only[runN,jw e]at hr;cases hr
def Qt (P:Φ)(S:Sd)(Ψ:aV)(b:Θ)(k:List Item)(cs:List Θ)(f:Θ)(ab:List Θ)(w:Λ):Prop:=
 ab=[]∧((LX f []∧ae P S Ψ (b.at ⟨f.tmps,f.defers⟩ k) cs w)∨(f.mode=.returning∧∀todo,ae P S Ψ (dQ b ⟨f.tmps,f.defers⟩ todo) cs w))
theorem ae.item (hC:jM P F S){x:Item}(cg:aB P F S x=true)(hk:b.kind=.normal)(hfn:∃f,P.funcs[b.fn]?=some f)(hd:a.defers=[])
 (h:∀τ,(∃a' w',ae P S Ψ (b.at a' k) cs w'∧Steps P (Go.lone (b.at a [x,mM]) [c0 P] (w.re τ 0)) (Go.lone (b.at a' [mM]) [c0 P] w'))∨∃a' w' todo,(∀todo,ae P S Ψ (dQ b a' todo) cs w')∧Steps P (Go.lone (b.at a [x,mM]) [c0 P] (w.re τ 0)) (Go.lone { b.at a' todo with mode:= .returning } [c0 P] w')):ae P S Ψ (b.at a (x::k)) cs w:=
 ae.walk λρ W hS hc hcs _=>by
  have hI:PI P F S (b.at a [x,mM]) [] w:=⟨⟨hd,.inl rfl,hk,rfl,by show[x,mM].all _=true;simp only[zat,List.all_nil,cg,zbL,zbJ];rfl,hfn⟩,by simp,hc,by simp,hS.self⟩;have hT:∀τ:Tp,∃n f a1 w',mZ P n (b.at a [x,mM]) [] (w.re τ 0) f a1 w'∧Qt P S Ψ b k cs f a1 w':=λτ=>by
   rcases h τ with⟨a',w',hK,n,hn⟩|⟨a',w',todo,hK,n,hn⟩
   ·obtain⟨m,hm⟩:=jO hC n _ [] (w.re τ 0) _ w' (hI.re τ 0) hn (λch e=>by cases e);exact⟨m,_,[],w',hm,rfl,.inl ⟨⟨rfl,rfl⟩,hK⟩⟩
   ·obtain⟨m,hm⟩:=jO hC n _ [] (w.re τ 0) _ w' (hI.re τ 0) hn (λch e=>by cases e);exact⟨m,_,[],w',hm,rfl,.inr ⟨rfl,hK⟩⟩
  have JJ:=pM (Q:=Qt P S Ψ b k cs) hC (λf a1 w τ d _ hx=>⟨hx.1,hx.2.imp (λq=>⟨q.1,q.2.re rfl⟩) λq=>⟨q.1,λtodo=>(q.2 todo).re rfl⟩⟩) hI hT;have key:=wO (σ:=[]) (k:=k) (fn0:=b.fn) (main:=true) (ro:=Ψ.ro) (cs:=cs.map (bS ρ)++Ψ.bot) hC (λf a1 w' hx=>⟨hx.1,hx.2.imp (·.1) (·.1)⟩) JJ hI ⟨rfl,.inr ⟨[x],⟨rfl,rfl⟩,by simp[Np cg]⟩⟩ ρ w.heap.size ρ W hS (zab _) (λ_ _=>rfl);refine af.bind key λown g W' hst=>?_;obtain⟨mN,w1,sP,hb1,JH,Qu,DI,hS1,rfl,rfl,hn,oa⟩:=hst;have ecs:cs.map (bS ρ)=cs.map (bS sP):=eI (λr hr=>(oa r hr).symm) (λx=>by rw[hS.f,hS1.f]) hcs;rw[ecs];have Zl:Qt P S Ψ b k cs mN [] w1:=by
   cases Qu with
   |stop hx=>exact hx
   |step nf na nw ne h1 h2=>
    exfalso;have hr:=h1 w1.tape 0;rcases hb1 with hb1|hb1
    ·obtain⟨fn0,tmps,todo,defers,mode,kind,mL⟩:=mN;obtain⟨ht,hm⟩:=hb1;simp only[zbA]at ht hm;subst ht hm;simp[aR,stuck]at hr
    ·exact FY (by rw[hb1];simp) hr
  rcases Zl.2 with⟨JZ,hK⟩|⟨F3,hK⟩
  ·have VO:dw [] k (bS sP mN)=bS sP (b.at ⟨mN.tmps,mN.defers⟩ k):=by
    obtain⟨fn0,tmps,todo,defers,mode,kind,mL⟩:=mN;obtain⟨ht,hm⟩:=JZ;have h3:kind=.normal:=DI.ok.kind;have h4:mL=none:=DI.ok.round;simp only[zbA]at ht hm JH;subst ht hm h3 h4 JH;simp[dw,JW,bS,Θ.at,hk]
   rw[VO];exact af.co hK hS1 (λ_ h=>h) DI.cl (λf hf=>gX hn (hcs f hf)) ⟨hn,oa⟩
  ·have VO:dw [] k (bS sP mN)=bS sP (dQ b ⟨mN.tmps,mN.defers⟩ (mN.todo.dropLast++k)):=by
    obtain⟨fn0,tmps,todo,defers,mode,kind,mL⟩:=mN;have h3:kind=.normal:=DI.ok.kind;have h4:mL=none:=DI.ok.round;simp only at F3 JH;subst F3 h3 h4 JH;simp[dw,JW,bS,dQ,Θ.at,hk]
   rw[VO];exact af.co (hK _) hS1 (λ_ h=>h) DI.cl (λf hf=>gX hn (hcs f hf)) ⟨hn,oa⟩
def Qw (P:Φ)(S:Sd)(Ψ:aV)(b:Θ)(k:List Item)(cs:List Θ):Exit→Act→Λ→Prop
 |.normal,a,w=>ae P S Ψ (b.at a k) cs w
 |.ret,a,w=>∀todo,ae P S Ψ (dQ b a todo) cs w
 |_,_,_=>False
theorem ae.code (hC:jM P F S){c:Code}(cg:bp P F S c=true)(hk:b.kind=.normal)(hfn:∃f,P.funcs[b.fn]?=some f)(hd:a.defers=[])
 (h:∀τ d,c.wp P (Qw P S Ψ b k cs) a (w.re τ d)):ae P S Ψ (b.at a (.code c::k)) cs w:=
 ae.item hC cg hk hfn hd λτ=>by
  obtain⟨e,a',w',hK,mB⟩:=h τ 0 b [mM] [c0 P];cases e with
  |normal=>exact .inl ⟨a',w',hK,mB⟩
  |ret=>obtain⟨todo,hs⟩:=mB;exact .inr ⟨a',w',todo,hK,hs⟩
  |_=>exact hK.elim
theorem ae.ops (hC:jM P F S){ops:Array Oper}(hk:b.kind=.normal)(hfn:∃f,P.funcs[b.fn]?=some f)(hd:a.defers=[]){l:List Nat}(cg:(l.all λi=>(ops[i]?).all λo=>gw P F S o.op)=true)(i:Nat)(rest:List Oper)(hl:l=List.range' i rest.length)(hr:∀j,rest[j]?=ops[i+j]?)
 (h:∀τ d,wpList P ops (Qw P S Ψ b k cs) rest a (w.re τ d)):ae P S Ψ (b.at a (.inRegion ops l::k)) cs w:=
 ae.item hC cg hk hfn hd λτ=>by
  have h0:=h τ 0;rw[←wpOps_eq_wpList rest i hr,←hl]at h0;obtain⟨e,a',w',hK,mB⟩:=wp_ops l a (w.re τ 0) h0 b [mM] [c0 P];cases e with
  |normal=>exact .inl ⟨a',w',hK,mB⟩
  |ret=>obtain⟨todo,hs⟩:=mB;exact .inr ⟨a',w',todo,hK,hs⟩
  |_=>exact hK.elim
end
section
variable {P:Φ}{F:θ→Bool}{S:Sd}{Ψ:aV}{cs:List Θ}{w W:Λ}{ρ:Rn}{b:Θ}{a:Act}{k:List Item}
theorem ze (hC:jM P F S){main:Bool}{fr:Θ}(hH:FL P F S fr)(dY:jf P S w.heap.size fr)(hS:gH P S ρ w W){v:Ω}{fn:Func}(h1:fr.mode=.returning)(h4:P.funcs[fr.fn]?=some fn)(h5:(results fn fr.tmps).run P w=.ok v w)(c:Θ)(cs:List Θ):rv (sg S S.d w.heap.size) v=v∧∃es,ξ P main (G (bS ρ fr) (c::cs)) W=.go (G (c.finish (rv ρ v)) cs) W es∧∀e∈es,pj S.d ρ w e:=by
 have hp:Plain P ρ:=⟨λt i v a b=>hC.zero t i v a b _,hS.inj⟩;cases hrun:(results fn fr.tmps).runT P w #[]with
 |mk r es=>
  have q1:=zal Prod.fst hrun;simp at q1;rw[h5]at q1;subst q1;have tq:∀n,w.heap.size≤n→aa P (sg S S.d n) (VV (sg S S.d n)) (results fn fr.tmps) (results fn fr.tmps):=λn hn=>by
   have:=ju (mX hC n) fn fr.tmps di;have e:fr.tmps.map (rv (sg S S.d n))=fr.tmps:=ba.2 (gX hn dY);rwa[e]at this
  obtain⟨x,W1,es',r1,r2,r3,r4,r5,r6⟩:=df hp (λo=> .inl hS.lX) _ _ _ _ w W #[] #[] _ _ _ (ju hp fn fr.tmps di) tq hS.wr (λj hj=>by omega) hrun;have hb:x=rv ρ v:=r2;have hv:rv (sg S S.d w.heap.size) v=v:=by
   have:=r3 w.heap.size (zab _);unfold VV at this;exact this.symm
  have hs:=r5.size;have hW1:W1=W:=by
   refine qT (Array.ext_getElem? λi=>?_) r5.tape (by have:=r5.drawn;omega) r5.os r5.output;rcases zay i W.heap.size with hlt|jN
   ·by_cases ht:Touch S.d ρ w i
    ·obtain⟨k,hr1,hr2,rfl⟩:=ht;have FO:=r4.live _ _ hr1 (zaH hr2);have yY:=hS.wr.live _ _ hr1 (zaH hr2);exact FO.trans yY.symm
    ·exact r5.frame i hlt ht
   ·rw[zbQ (by omega),zbQ jN]
  subst hb hW1;have cg:FL P F S (bS ρ fr):=⟨hH.defers,hH.mode,hH.kind,hH.round,hH.todo,hH.fn⟩;have hps:(aR P (bS ρ fr) [c]).runT P W1 #[]=(.ok (c.finish (rv ρ v),[]) W1,es'):=by
   have hm:(bS ρ fr).mode=.returning:=h1;have hf:P.funcs[(bS ρ fr).fn]?=some fn:=h4;unfold aR;rw[hm];simp only[hf];rw[bu];have:(results fn (bS ρ fr).tmps).runT P W1 #[]=(.ok (rv ρ v) W1,es'):=r1;rw[this];rfl
  have hst:=fp (main:=main) (cs:=cs) cg hps;refine⟨hv,_,hst,λe he=>?_⟩;rcases r6 e (mem_seen he)with h|h
  ·simp at h
  ·exact h
theorem F4 (hn:b.kind=.normal)(hd:a.defers=[])(hf:∃fn,P.funcs[b.fn]?=some fn){todo:List Item}(ht:(todo.take 1).all (aB P F S)=true):FL P F S (dQ b a todo):=⟨hd,.inr rfl,hn,rfl,ht,hf⟩
theorem Cj {main:Bool}{c:Θ}(todo abu:List Item)(hn:b.kind=.normal)(hd:a.defers=[]){g:Γ}{w':Λ}{es:Array ψ}(h:ξ P main (G (dQ b a todo) (c::cs)) w=.go g w' es):ξ P main (G (dQ b a abu) (c::cs)) w=.go g w' es:=by
 unfold dQ G ξ unwind doReturn at h ⊢;simp only[Θ.at,hd,hn]at h ⊢;cases hf:P.funcs[b.fn]? with
 |none=>simpa[hf]using h
 |some fn=>
  cases hr:(results fn a.tmps).run P w with
  |ok v w2=>simpa[hf,hr]using h
  |halt hh w2=>cases hh<;>simp[hf,hr,GStep.after]at h
theorem ae.zf (hC:jM P F S){fn:Func}{todo:List Item}{v:Ω}{b':Θ}{a':Act}{ops:Array Oper}{i:Nat}{rest:List Nat}{kk:List Item}(hn:b.kind=.normal)(hd:a.defers=[])(hf:P.funcs[b.fn]?=some fn)
 (hr:(results fn a.tmps).run P w=.ok v w)(h:ae P S Ψ (b'.at (a'.put ((ops[i]?).bind (·.dst)) v) (.inRegion ops rest::kk)) cs w):ae P S Ψ (dQ b a todo) (b'.at a' (.inRegion ops (i::rest)::kk)::cs) w:=
 ae.walk λρ W hS dY hcs _=>by
  refine af.step' rfl λaC hr1=>?_;have hS1:=hS.rely hr1;obtain⟨hv,es,hstep,gf⟩:=ze (main:=true) (fr:=dQ b a []) hC (F4 hn hd ⟨fn,hf⟩ rfl) dY hS1 rfl hf hr (bS ρ (b'.at a' (.inRegion ops (i::rest)::kk))) (cs.map (bS ρ)++Ψ.bot);have oa:∀r,r<w.heap.size→cN ρ w.heap.size aC.heap.size r=ρ r:=λr hlt=>aJ hlt;have e0:bS ρ (dQ b a todo)=bS (cN ρ w.heap.size aC.heap.size) (dQ b a todo):=ei dY (λr hlt=>(oa r hlt).symm) (λ_=>rfl);have e1:bS ρ (b'.at a' (.inRegion ops (i::rest)::kk))=bS (cN ρ w.heap.size aC.heap.size) (b'.at a' (.inRegion ops (i::rest)::kk)):=ei (hcs _ zam) (λr hlt=>(oa r hlt).symm) (λ_=>rfl);have e2:cs.map (bS ρ)=cs.map (bS (cN ρ w.heap.size aC.heap.size)):=eI (λr hlt=>(oa r hlt).symm) (λ_=>rfl) λf hf=>hcs f (zap _ hf);have pK:(bS ρ (b'.at a' (.inRegion ops (i::rest)::kk))).finish (rv (cN ρ w.heap.size aC.heap.size) v)=bS (cN ρ w.heap.size aC.heap.size) (b'.at (a'.put ((ops[i]?).bind (·.dst)) v) (.inRegion ops rest::kk)):=by
   rw[e1,rZ,rZ,zbY,pR]
  rw[pK]at hstep;refine⟨_,aC,es,by rw[e0,LS];exact Cj (a:=a.rn (cN ρ w.heap.size aC.heap.size)) [] todo hn hd hstep,⟨rfl,rfl,rfl,zab _,λ_ _ _=>rfl,λe he=>?_⟩,?_⟩
  ·have:=ng (ro:=Ψ.ro) (gf e he);rw[cC]at this;exact this.mono λb hb=> .inl hb
  ·rw[jx _ rfl,e2];exact af.co h hS1 (λx hx=>by rwa[cC]at hx) (rI.put (P:=P) (hcs _ zam) _ hv) (λf hf=>hcs f (zap _ hf)) ⟨zab _,λr hr=>aJ hr⟩
end
section
variable {P:Φ}{main:Bool}{ro own:Nat→Prop}{Stop:(Nat→Prop)→Γ→Λ→Prop}{W:Λ}{b:Θ}{a:Act}{ops:Array Oper}{i:Nat}{rest:List Nat}{o:Oper}{kk:List Item}{cs:List Θ}
theorem af.DX (ho:ops[i]?=some o)(hw:ζ o (π ops a.tmps)=true)(hk:b.kind≠.early){dd:Option Tmp}(hdd:o.dst=dd){e:ϋ}{x:ω}(hop:o.op=.load e x){ad:Addr}(hx:a.eval x=.pointer (some ad))(hr:ro ad.block){v:Ω}(hv:W.cell? ad=some v)
 (hl:∀(w:Λ),w.cell? ad=some v→(ό e (.pointer (some ad))).run P w=.ok v w∧∀ev∈(ό e (.pointer (some ad))).events P w #[],ev.loc=.cell ad∧ev.write=false)
 (k:af P main ro Stop own (G (b.at (a.put dd v) (.inRegion ops rest::kk)) cs) W):af P main ro Stop own (G (b.at a (.inRegion ops (i::rest)::kk)) cs) W:=by
 subst hdd;refine af.step' rfl λaC hR=>?_;have hc:aC.cell? ad=some v:=by
  rw[←hv];simp only[Λ.cell?,hR.block _ (.inr hr)]
 obtain⟨h1,h2⟩:=hl aC hc;have hrun:(φ a.eval o).run P aC=.ok (.value v) aC:=by
  unfold φ;simp[hop,hx,h1]
 have gf:(φ a.eval o).events P aC #[]=(ό e (.pointer (some ad))).events P aC #[]:=by
  unfold φ;simp[hop,hx]
 refine⟨_,aC,_,stepG_value ho hw hk hrun,⟨rfl,rfl,rfl,zab _,λ_ _ _=>rfl,λev he=>?_⟩,?_⟩
 ·unfold listed at he;rw[gf]at he;obtain⟨h3,h4⟩:=h2 ev (mem_seen he);unfold DK;rw[h3];exact .inr ⟨hr,h4⟩
 ·rw[jx own rfl];exact k.rely hR
end
def dX (σ:List (Nat×Ω))(a:Act):Act:=σ.foldl (λa p=>a.put (some p.1) p.2) a
theorem F5 (σ:List (Nat×Ω))(d:Nat)(v:Ω)(a:Act):dX (σ++[(d,v)]) a=(dX σ a).put (some d) v:=by simp[dX,List.foldl_append]
theorem DY (t:Nat):∀(σ:List (Nat×Ω)) (a:Act),(∀p∈σ,p.1≠t)→(dX σ a).tmps.getD t ϊ=a.tmps.getD t ϊ
 |[],_,_=>rfl
 |p::σ,a,h=>by
  show(dX σ (a.put (some p.1) p.2)).tmps.getD t ϊ=_;rw[DY t σ _ λq hq=>h q (zap _ hq)];have hp:=h p zam;simp only[Act.put,zby];rw[zaB hp]
theorem put_comm (a:Act){d e:Nat}(h:d≠e)(u v:Ω):(a.put (some d) u).put (some e) v=(a.put (some e) v).put (some d) u:=by
 simp only[Act.put]
 congr 1
 exact Array.setIfInBounds_comm u v h
theorem og (d:Nat)(v:Ω):∀(σ:List (Nat×Ω)) (a:Act),(∀p∈σ,p.1≠d)→(dX σ a).put (some d) v=dX σ (a.put (some d) v)
 |[],_,_=>rfl
 |p::σ,a,h=>by
  show(dX σ (a.put (some p.1) p.2)).put (some d) v=dX σ ((a.put (some d) v).put (some p.1) p.2);rw[og d v σ _ λq hq=>h q (zap _ hq),put_comm a (h p zam)]
section
variable {P:Φ}{F:θ→Bool}{S:Sd}{Ψ:aV}{σ:List (Nat×Ω)}{b:Θ}{a a':Act}{k k':List Item}{w W:Λ}{ρ:Rn}
def aI (P:Φ)(S:Sd)(Ψ:aV)(b:Θ)(σ:List (Nat×Ω))(a:Act)(k:List Item)(w:Λ):Prop:=
 ∀(ρ:Rn) (W:Λ) (gs:Array Γ) (sl:Option (Nat×Nat)) (t:η) (q:Nat→Nat) (Shun:Loc→Prop),gH P S ρ w W→rI P S w.heap.size a→
  gs[0]?=some (G (b.at (dX σ (a.rn ρ)) k) Ψ.bot)→Leavers P t gs q→Past Shun W.heap.size t→NS Shun Ψ.ro (Touch S.d ρ w) W→DN Ψ W→(∀x,Touch S.d ρ w x→Ψ.base.heap.size≤x∨Ψ.mine x)→uY Ψ.n0 Ψ.r0 w ρ→uY Ψ.an Ψ.ar w ρ→Reach P (υ gs W sl) t Ψ.at_
def Qx (P:Φ)(S:Sd)(Good:List (Nat×Ω)→Act→List Item→Λ→Prop)(b:Θ)(bot:List Θ)(n0:Nat)(r0:Rn)(own:Nat→Prop)(g:Γ)(W:Λ):Prop:=
 ∃σ a k w ρ,Good σ a k w∧gH P S ρ w W∧(∀x,Touch S.d ρ w x→own x)∧g=G (b.at (dX σ (a.rn ρ)) k) bot∧rI P S w.heap.size a∧uY n0 r0 w ρ
theorem pT {ρ ρ':Rn}{n:Nat}(hc:rI P S n a)(hb:∀r,r<n→ρ r=ρ' r)(hf:∀x,ρ.f x=ρ'.f x):a.rn ρ=a.rn ρ':=by
 unfold Act.rn;rw[dA λv hv=>agree (σ:=sg S S.d n) (λr hr=>hb r (bK.1 hr).2) (λx _=>hf x) v (hc v hv)]
theorem af.jo {main:Bool}{ro own:Nat→Prop}{Good:List (Nat×Ω)→Act→List Item→Λ→Prop}{bot:List Θ}{n0:Nat}{r0:Rn}(hG:Good σ a k w)(hS:gH P S ρ w W)(hown:∀x,Touch S.d ρ w x→own x)(hc:rI P S w.heap.size a)(h0:uY n0 r0 w ρ):af P main ro (Qx P S Good b bot n0 r0) own (G (b.at (dX σ (a.rn ρ)) k) bot) W:=by
 refine .stop λaC hr=>⟨σ,a,k,w,cN ρ w.heap.size aC.heap.size,hG,hS.grow hr.size λx hx=>hr.block x (.inl (hown x hx)),λx hx=>hown x (by rwa[cC]at hx),?_,hc,⟨h0.size,λr hr=>by rw[aJ (zaL hr h0.size)];exact h0.same r hr⟩⟩;rw[pT hc (ρ:=ρ) (ρ':=cN ρ w.heap.size aC.heap.size) (λr hlt=>(aJ hlt).symm) (λ_=>rfl)]
theorem aI.walk (h:∀ρ W,gH P S ρ w W→rI P S w.heap.size a→pn Ψ.ro (Touch S.d ρ w) W→DN Ψ W→af P true Ψ.ro (Qx P S (aI P S Ψ b) b Ψ.bot w.heap.size ρ) (Touch S.d ρ w) (G (b.at (dX σ (a.rn ρ)) k) Ψ.bot) W):aI P S Ψ b σ a k w:=by
 intro ρ W gs sl t q Shun hS hc h0 hL hP hN hO hT mA kD;refine(iI (h ρ W hS hc ⟨λb hb=>hb.elim (hN.UU b) (hN.Jl b),λb hb ht=>(hT b ht).elim (λh1=>by have:=(Ψ.nh b hb).1;omega) λ⟨r,h1,h2,e⟩=>(Ψ.nh b hb).2 r h1 h2 e⟩ hO) W (bI.refl _ _ _) gs sl t q h0 hL hP hN).bind ?_;rintro m t' ⟨gs',own',a',w',sl',q',rfl,_,xM,hst,JQ,JO,Qo,_,ru,hK⟩;obtain⟨PC,a2,k2,w2,za,hG,rX,hown,rfl,hc2,vB⟩:=hst w' (bI.refl _ _ _);have hsz:=hO.size;exact hG za w' gs' sl' t' q' Shun rX hc2 xM JQ JO (Qo.sub hown)
  ⟨hK.tape.trans hO.tape,hK.os.trans hO.os,hK.output.trans hO.output,zah hsz hK.size,λb hb hm=>(hK.block b (by omega) λht=>(hT b ht).elim (λh=>by omega) hm).trans (hO.block b hb hm)⟩
  (λx hx=>(ru x (hown x hx)).elim (hT x) λe=> .inl (by omega)) ⟨zah mA.size vB.size,λr hr=>(vB.same r (zaL hr mA.size)).trans (mA.same r hr)⟩ ⟨zah kD.size vB.size,λr hr=>(vB.same r (zaL hr kD.size)).trans (kD.same r hr)⟩
end
section
variable {P:Φ}{F:θ→Bool}{S:Sd}{Ψ:aV}{σ:List (Nat×Ω)}{b:Θ}{a a':Act}{k k':List Item}{w W:Λ}{ρ:Rn}
theorem tG {x:ω}(h:eA σ x=true)(a:Act):(dX σ a).eval x=a.eval x:=by
 cases x with
 |tmp t=>exact DY t σ a (eO h)
 |_=>rfl
theorem aI.ctl (hst:∀(a:Act) (cs:List Θ) W,ξ P true (G (b.at a k) cs) W=.go (G (b.at a k') cs) W #[])(h:aI P S Ψ b σ a k' w):aI P S Ψ b σ a k w:=
 aI.walk λ_ _ hS hc _ _=>af.silent rfl (λaC=>hst _ _ aC) (af.jo h hS (λ_ h=>h) hc (uY.refl _ _))
theorem aI.seq {x y:Code}(h:aI P S Ψ b σ a (.code x::.code y::k) w):aI P S Ψ b σ a (.code (.seq x y)::k) w:=aI.ctl (λ_ _ _=>zaU) h
theorem aI.skip (h:aI P S Ψ b σ a k w):aI P S Ψ b σ a (.code .skip::k) w:=aI.ctl (λ_ _ _=>stepG_skip) h
theorem aI.inBlock {id:Nat}(h:aI P S Ψ b σ a k w):aI P S Ψ b σ a (.inBlock id::k) w:=aI.ctl (λ_ _ _=>stepG_inBlock) h
theorem aI.block {id:Nat}{c:Code}(h:aI P S Ψ b σ a (.code c::.inBlock id::k) w):aI P S Ψ b σ a (.code (.block id c)::k) w:=aI.ctl (λ_ _ _=>stepG_block) h
theorem aI.loop {c:Code}(h:aI P S Ψ b σ a (.code c::.inLoop c::k) w):aI P S Ψ b σ a (.code (.loop c)::k) w:=aI.ctl (λ_ _ _=>stepG_loop) h
theorem aI.inLoop {c:Code}(h:aI P S Ψ b σ a (.code c::.inLoop c::k) w):aI P S Ψ b σ a (.inLoop c::k) w:=aI.ctl (λ_ _ _=>stepG_inLoop) h
theorem aI.exit {id:Nat}{k':List Item}(he:ι id k=some k')(h:aI P S Ψ b σ a k' w):aI P S Ψ b σ a (.code (.exit id)::k) w:=aI.ctl (λ_ _ _=>stepG_exit he) h
theorem aI.region {id:Nat}{ops:Array Oper}(h:aI P S Ψ b σ a (.inRegion ops (List.range ops.size)::k) w):aI P S Ψ b σ a (.code (.region id ops false)::k) w:=aI.ctl (λ_ _ _=>zaX) h
theorem aI.cond {c:ω}{x y:Code}{t:Bool}(hj:eA σ c=true)(hc:a.eval c=.bool t)(h:aI P S Ψ b σ a (.code (if t then x else y)::k) w):aI P S Ψ b σ a (.code (.cond c x y)::k) w:=
 aI.walk λρ W hS dY _ _=>af.silent rfl (λ_=>stepG_cond (by rw[tG hj];exact DO hc)) (af.jo h hS (λ_ h=>h) dY (uY.refl _ _))
section
variable {ops:Array Oper}{i:Nat}{rest:List Nat}{o:Oper}{kk:List Item}
theorem aI.Jk (hC:jM P F S)(cg:gw P F S o.op=true)(ho:ops[i]?=some o)(hw:∀ρ,ζ o (π ops (dX σ (a.rn ρ)).tmps)=true)(hk:b.kind≠.early)(BD:∀cs b,o.op≠.select cs b)(hj:o.op.operands.all (eA σ)=true){d:Tmp}(hd:o.dst=some d)(xO:eA σ (.tmp d)=true)
 (h:∀τ d',∃v w',(φ a.eval o).run P (w.re τ d')=.ok (.value v) w'∧aI P S Ψ b σ (a.put (some d) v) (.inRegion ops rest::kk) w'):aI P S Ψ b σ a (.inRegion ops (i::rest)::kk) w:=
 aI.walk λρ W hS JR hR _=>by
  have hx:φ (dX σ (a.rn ρ)).eval o=φ (fx λt=>rv ρ (a.tmps.getD t ϊ)) o:=execOp_congr o BD λx hx=>by
   rw[tG (zbK.1 hj x hx),xN]
  refine af.Jk (a:=dX σ (a.rn ρ)) (b:=b) (T:=λt=>a.tmps.getD t ϊ) hC cg ho (hw ρ) hk (λt=>JR.get t) hS (λ_ h=>h) hx (by rw[←ni];exact h) (λv w' ρ' W' own' hq FR oa hsz dY hown _ _ _=>?_) hR;have e:a.rn ρ=a.rn ρ':=pT JR (λr hr=>(oa r hr).symm) (λx=>(DL hS FR x).symm);rw[hd,e,og d _ σ _ (eO xO),pR];exact af.jo hq FR hown (rI.put (P:=P) (λx hx=>dO (cO hsz).1 (cO hsz).2 x (JR x hx)) (some d) dY) ⟨hsz,oa⟩
theorem aI.raw (ho:ops[i]?=some o)(hw:∀ρ,ζ o (π ops (dX σ (a.rn ρ)).tmps)=true)(hk:b.kind≠.early){X:Ω}(hrun:∀ρ W,(φ (dX σ (a.rn ρ)).eval o).run P W=.ok (.value X) W)(gf:∀ρ W,(φ (dX σ (a.rn ρ)).eval o).events P W #[]=#[]){d:Tmp}(hd:o.dst=some d)
 (h:aI P S Ψ b (σ++[(d,X)]) a (.inRegion ops rest::kk) w):aI P S Ψ b σ a (.inRegion ops (i::rest)::kk) w:=
 aI.walk λρ W hS JR _ _=>by
  refine af.step' rfl λaC hr=>⟨_,aC,_,stepG_value ho (hw ρ) hk (hrun ρ aC),⟨rfl,rfl,rfl,zab _,λ_ _ _=>rfl,λe he=>?_⟩,?_⟩
  ·unfold listed at he;rw[gf ρ aC]at he;have:=mem_seen he;simp at this
  ·rw[jx _ rfl,hd,←F5];exact(af.jo h hS (λ_ h=>h) JR (uY.refl _ _)).rely hr
theorem aI.bare (ho:ops[i]?=some o)(hw:∀ρ,ζ o (π ops (dX σ (a.rn ρ)).tmps)=true)(hk:b.kind≠.early){X:Ω}(hX:∀ρ,rv ρ X=X)(hrun:∀ρ W,(φ (dX σ (a.rn ρ)).eval o).run P W=.ok (.value X) W)(gf:∀ρ W,(φ (dX σ (a.rn ρ)).eval o).events P W #[]=#[]){d:Tmp}(hd:o.dst=some d)(xO:eA σ (.tmp d)=true)
 (h:aI P S Ψ b σ (a.put (some d) X) (.inRegion ops rest::kk) w):aI P S Ψ b σ a (.inRegion ops (i::rest)::kk) w:=
 aI.walk λρ W hS JR _ _=>by
  refine af.step' rfl λaC hr=>⟨_,aC,_,stepG_value ho (hw ρ) hk (hrun ρ aC),⟨rfl,rfl,rfl,zab _,λ_ _ _=>rfl,λe he=>?_⟩,?_⟩
  ·unfold listed at he;rw[gf ρ aC]at he;have:=mem_seen he;simp at this
  ·have e:(dX σ (a.rn ρ)).put (some d) X=dX σ ((a.put (some d) X).rn ρ):=by
    rw[og d X σ _ (eO xO),←pR,hX]
   rw[jx _ rfl,hd,e];exact(af.jo h hS (λ_ h=>h) (rI.put (P:=P) JR (some d) (hX _)) (uY.refl _ _)).rely hr
theorem aI.load (ho:ops[i]?=some o)(hw:∀ρ,ζ o (π ops (dX σ (a.rn ρ)).tmps)=true)(hk:b.kind≠.early){e:ϋ}{x:ω}(hop:o.op=.load e x){ad:Addr}(hx:∀ρ,(dX σ (a.rn ρ)).eval x=.pointer (some ad))(hr:Ψ.ro ad.block){v:Ω}(hv:Ψ.base.cell? ad=some v)(hX:∀ρ,rv ρ v=v)
 (hl:∀(w:Λ),w.cell? ad=some v→(ό e (.pointer (some ad))).run P w=.ok v w∧∀ev∈(ό e (.pointer (some ad))).events P w #[],ev.loc=.cell ad∧ev.write=false){d:Tmp}(hd:o.dst=some d)(xO:eA σ (.tmp d)=true)
 (h:aI P S Ψ b σ (a.put (some d) v) (.inRegion ops rest::kk) w):aI P S Ψ b σ a (.inRegion ops (i::rest)::kk) w:=
 aI.walk λρ W hS JR _ hO=>by
  have hold:=Ψ.nh _ hr;have hc:W.cell? ad=some v:=by
   rw[←hv];unfold Λ.cell?
   rw[hO.block _ hold.1 λ⟨r,h1,h2,e⟩=>hold.2 r h1 h2 e]
  refine af.DX ho (hw ρ) hk hd hop (hx ρ) hr hc hl ?_;have e:(dX σ (a.rn ρ)).put (some d) v=dX σ ((a.put (some d) v).rn ρ):=by
   rw[og d v σ _ (eO xO),←pR,hX]
  rw[e];exact af.jo h hS (λ_ h=>h) (rI.put (P:=P) JR (some d) (hX _)) (uY.refl _ _)
end
end
def aV.under (Ψ:aV)(F:Θ)(n:Nat)(ρ:Rn):aV:={ Ψ with bot:=F::Ψ.bot,an:=n,ar:=ρ }
section
variable {P:Φ}{F:θ→Bool}{S:Sd}{Ψ:aV}{σ:List (Nat×Ω)}{b:Θ}{a:Act}{w:Λ}{ops:Array Oper}{i:Nat}{rest:List Nat}{o:Oper}{kk:List Item}
theorem aI.call (ho:ops[i]?=some o)(hw:∀ρ,ζ o (π ops (dX σ (a.rn ρ)).tmps)=true)(hk:b.kind≠.early){f:θ}{xs:Array ω}{ats:Array ϋ}(hop:o.op=.call { callee:= .value (.func f),args:=xs,argTypes:=ats })
 (kV:(P.funcs[f]?).any (λfn=>fn.body.isSome)=true)(FU:(P.funcs[f]?).any (λfn=>fn.name != "runtime.NumGoroutine")=true)(hx:xs.all (gG S)=true)(hj:xs.all (eA σ)=true)
 (h:∀ρ:Rn,(∀x,ρ.f x=x)→Ψ.an≤w.heap.size→(∀r,r<Ψ.an→ρ r=Ψ.ar r)→rI P S w.heap.size a→ae P S (Ψ.under (b.at (dX σ (a.rn ρ)) (.inRegion ops (i::rest)::kk)) w.heap.size ρ) (Θ.enter P f (xs.map a.eval) .normal) [] w):aI P S Ψ b σ a (.inRegion ops (i::rest)::kk) w:=by
 intro ρ W gs sl t q Shun hS hc h0 hL hP hN hO hT mA kD;have pU:xs.map (dX σ (a.rn ρ)).eval=(xs.map a.eval).map (rv ρ):=by
  rw[←LU hS.fix hx];exact Array.map_congr_left λx hm=>tG (zbK.1 hj x hm) _
 have hW:af P true Ψ.ro (JP P S (ae P S (Ψ.under (b.at (dX σ (a.rn ρ)) (.inRegion ops (i::rest)::kk)) w.heap.size ρ)) (b.at (dX σ (a.rn ρ)) (.inRegion ops (i::rest)::kk)::Ψ.bot) w.heap.size ρ) (Touch S.d ρ w) (G (b.at (dX σ (a.rn ρ)) (.inRegion ops (i::rest)::kk)) Ψ.bot) W:=by
  refine af.silent rfl (λaC=>?_) (af.co (h ρ hS.f kD.size kD.same hc) hS (λ_ h=>h) (FW (LV (P:=P) hS.wr.big.g hc hx)) (λf hf=>by cases hf) (uY.refl _ _));rw[←im,←pU];exact wL ho (hw ρ) hk hop kV FU
 refine(iI hW W (bI.refl _ _ _) gs sl t q h0 hL hP hN).bind ?_;rintro m t' ⟨gs',own',a',w',sl',q',rfl,_,xM,hst,JQ,JO,Qo,_,ru,hK⟩;obtain⟨fr2,cs2,w2,za,hG,rX,hown,rfl,hc2,Zi,vB⟩:=hst w' (bI.refl _ _ _);have hsz:=hO.size;exact hG za w' gs' sl' t' q' Shun rX hc2 Zi xM JQ JO (Qo.sub hown)
  ⟨hK.tape.trans hO.tape,hK.os.trans hO.os,hK.output.trans hO.output,zah hsz hK.size,λb hb hm=>(hK.block b (by have:b<Ψ.base.heap.size:=hb;omega) λht=>(hT b ht).elim (λh=>by have:b<Ψ.base.heap.size:=hb;omega) hm).trans (hO.block b hb hm)⟩
  (λx hx=>(ru x (hown x hx)).elim (hT x) λe=> .inl (by show Ψ.base.heap.size≤x;omega)) ⟨zah mA.size vB.size,λr hr=>(vB.same r (zaL hr mA.size)).trans (mA.same r hr)⟩ vB
theorem ae.Zm (hC:jM P F S){n:Nat}{r0:Rn}{fn:Func}{todo:List Item}{v:Ω}{b0:Θ}{a0:Act}(hn:b0.kind=.normal)(hd:a0.defers=[])(hf:P.funcs[b0.fn]?=some fn)(hr:(results fn a0.tmps).run P w=.ok v w)
 (dY:rI P S n a){d:Tmp}(Zn:(ops[i]?).bind (·.dst)=some d)(xO:eA σ (.tmp d)=true)(wP:∀x,r0.f x=x)(ha1:Ψ.an≤n)(ha2:∀r,r<Ψ.an→r0 r=Ψ.ar r)
 (h:aI P S Ψ b σ (a.put (some d) v) (.inRegion ops rest::kk) w):ae P S (Ψ.under (b.at (dX σ (a.rn r0)) (.inRegion ops (i::rest)::kk)) n r0) (dQ b0 a0 todo) [] w:=by
 intro ρ W gs sl t q Shun hS hc hcs h0 hL hP hN hO hT mA kD;have kD:uY n r0 w ρ:=kD;have hO:DN Ψ W:=⟨hO.tape,hO.os,hO.output,hO.size,hO.block⟩;have hT:∀x,Touch S.d ρ w x→Ψ.base.heap.size≤x∨Ψ.mine x:=hT;have mA:uY Ψ.n0 Ψ.r0 w ρ:=mA;have hN:NS Shun Ψ.ro (Touch S.d ρ w) W:=hN;have Zo:uY Ψ.an Ψ.ar w ρ:=⟨zah ha1 kD.size,λr hr=>(kD.same r (zaL hr ha1)).trans (ha2 r hr)⟩;have abv:rI P S w.heap.size a:=λx hx=>dO (cO kD.size).1 (cO kD.size).2 x (dY x hx);have Nq:a.rn r0=a.rn ρ:=pT dY (λr hr=>(kD.same r hr).symm) (λx=>by rw[wP,hS.f]);have hW:af P true Ψ.ro (Qx P S (aI P S Ψ b) b Ψ.bot w.heap.size ρ) (Touch S.d ρ w) (G (bS ρ (dQ b0 a0 todo)) (b.at (dX σ (a.rn r0)) (.inRegion ops (i::rest)::kk)::Ψ.bot)) W:=by
  refine af.step' rfl λaC hr1=>?_;have hS1:=hS.rely hr1;obtain⟨hv,es,hstep,gf⟩:=ze (main:=true) (fr:=dQ b0 a0 []) hC (F4 hn hd ⟨fn,hf⟩ rfl) hc hS1 rfl hf hr (b.at (dX σ (a.rn r0)) (.inRegion ops (i::rest)::kk)) Ψ.bot;have oa:∀r,r<w.heap.size→cN ρ w.heap.size aC.heap.size r=ρ r:=λr hlt=>aJ hlt;have e0:bS ρ (dQ b0 a0 todo)=bS (cN ρ w.heap.size aC.heap.size) (dQ b0 a0 todo):=ei hc (λr hlt=>(oa r hlt).symm) (λ_=>rfl);have e1:a.rn r0=a.rn (cN ρ w.heap.size aC.heap.size):=Nq.trans (pT abv (λr hr=>(oa r hr).symm) (λ_=>rfl));have pK:(b.at (dX σ (a.rn r0)) (.inRegion ops (i::rest)::kk)).finish (rv (cN ρ w.heap.size aC.heap.size) v)=b.at (dX σ ((a.put (some d) v).rn (cN ρ w.heap.size aC.heap.size))) (.inRegion ops rest::kk):=by
   rw[zbY,Zn,e1,og d _ σ _ (eO xO),pR]
  rw[pK]at hstep;refine⟨_,aC,es,by rw[e0,LS];exact Cj (a:=a0.rn (cN ρ w.heap.size aC.heap.size)) [] todo hn hd hstep,⟨rfl,rfl,rfl,zab _,λ_ _ _=>rfl,λe he=>?_⟩,?_⟩
  ·have:=ng (ro:=Ψ.ro) (gf e he);rw[cC]at this;exact this.mono λb hb=> .inl hb
  ·rw[jx _ rfl];exact af.jo h hS1 (λx hx=>by rwa[cC]at hx) (rI.put (P:=P) abv (some d) hv) ⟨zab _,λr hr=>aJ hr⟩
 refine(iI hW W (bI.refl _ _ _) gs sl t q h0 hL hP hN).bind ?_;rintro m t' ⟨gs',own',a',w',sl',q',rfl,_,xM,hst,JQ,JO,Qo,_,ru,hK⟩;obtain⟨PC,a2,k2,w2,za,hG,rX,hown,rfl,hc2,vB⟩:=hst w' (bI.refl _ _ _);have hsz:=hO.size;exact hG za w' gs' sl' t' q' Shun rX hc2 xM JQ JO (Qo.sub hown)
  ⟨hK.tape.trans hO.tape,hK.os.trans hO.os,hK.output.trans hO.output,zah hsz hK.size,λb hb hm=>(hK.block b (by omega) λht=>(hT b ht).elim (λh=>by omega) hm).trans (hO.block b hb hm)⟩
  (λx hx=>(ru x (hown x hx)).elim (hT x) λe=> .inl (by omega)) ⟨zah mA.size vB.size,λr hr=>(vB.same r (zaL hr mA.size)).trans (mA.same r hr)⟩ ⟨zah Zo.size vB.size,λr hr=>(vB.same r (zaL hr Zo.size)).trans (Zo.same r hr)⟩
end
section
variable {P:Φ}{F:θ→Bool}{S:Sd}{Post:Ω→Λ→Prop}{W:Λ}
def zg (P:Φ)(W:Λ)(lo n0:Nat)(r0:Rn)(Post:Ω→Λ→Prop):aV:=
 { base:=W,lo:=lo,n0:=n0,r0:=r0,at_:=λm t=>∃gs g W' sl q Shun,m=υ gs W' sl∧gs[0]?=some g∧Leavers P t gs q∧Past Shun W'.heap.size t∧∀d,AtEnd P Shun W'.heap.size Post g (W'.at d) }
theorem Ck {m m1:Machine}{t t1:η}{N:Nat}(h:runNT P N m t=(.next m1,t1))(K:Nat):runNT P (N+K) m t=runNT P K m1 t1:=by
 induction N generalizing m t with
 |zero=>
  simp only[runNT,zag,zbH]at h;obtain⟨rfl,rfl⟩:=h;rw[zcd]
 |succ N ih=>
  rw[show N+1+K=(N+K)+1 by omega];simp only[runNT]at h ⊢;cases hs:stepT P m with
  |mk e ops=>
   rw[hs]at h;cases e with
   |next m2=>exact ih h
   |_=>simp at h
theorem VP {ρ r0:Rn}{w w0 W':Λ}(VR:gH P S r0 w0 W)(hO:DN (zg P W S.d w0.heap.size r0 Post) W')(hS:gH P S ρ w W')(mA:uY w0.heap.size r0 w ρ)(hB:∀r,r<w0.heap.size→w.heap[r]?=w0.heap[r]?){b:Nat}(hb:b<W.heap.size):W'.heap[b]?=W.heap[b]?:=by
 by_cases hm:(zg P W S.d w0.heap.size r0 Post).mine b
 ·obtain⟨r,h1,h2,rfl⟩:=hm;have UX:S.d≤r:=h1;have jL:r<w0.heap.size:=h2;have ho:w0.heap[r]?=some w0.heap[r]:=zaH jL;have e1:=VR.wr.live r _ UX ho;have e2:=hS.wr.live r _ UX ((hB r jL).trans ho);rw[mA.same r jL]at e2;show W'.heap[r0 r]?=W.heap[r0 r]?
  rw[e1,e2]
  congr 1
  exact vg (σ:=sg S S.d w0.heap.size) (λx hx=>mA.same x (bK.1 hx).2) (λx _=>by rw[hS.f,VR.f]) (VR.wr.closed r _ UX ho)
 ·exact hO.block b hb hm
def Qy (P:Φ)(S:Sd)(W:Λ):Λ:={ W with heap:=(Array.range P.globals.size).map λr=>if r<S.d then iF else(W.heap[r]?).getD iF }
theorem zh (W:Λ):(Qy P S W).heap.size=P.globals.size:=by simp[Qy]
theorem D7 (W:Λ){r:Nat}(h:r<P.globals.size):(Qy P S W).heap[r]?=some (if r<S.d then iF else(W.heap[r]?).getD iF):=by
 simp only[Qy,zaE];rw[zaH (by simpa using h)];simp
theorem pV (hb:P.globals.size≤W.heap.size){r:Nat}(h1:S.d≤r)(h2:r<P.globals.size):(Qy P S W).heap[r]?=W.heap[r]?:=by
 rw[D7 W h2,zaa (by omega),zaH (by omega:r<W.heap.size)];rfl
theorem VS (hd:S.d≤P.globals.size)(hg:S.g≤P.globals.size)(hb:P.globals.size≤W.heap.size)(hl:∀r o,S.d≤r→r<P.globals.size→W.heap[r]?=some o→mP o∧∀ρ:Rn,ro ρ o=o):gH P S (cN jW P.globals.size W.heap.size) (Qy P S W) W:=by
 have hs:=zh (P:=P) (S:=S) W;refine⟨⟨λr o jN ho=>?_,λr o ho=>?_,λr hr=>?_,λr o jN ho=>?_,λr hr=>by rw[hs]at hr ⊢;exact dW hr,λr h1 h2=>?_,⟨by omega,by omega,zaw _,by omega,hd,λg h1 h2=>aJ (by omega),λg h1=> .inr (aJ (by omega))⟩⟩,λa b e=>?_,λr=>?_,λ_=>rfl,hb⟩
 ·have hlt:=fZ ho;rw[hs]at hlt;rw[pV hb jN hlt]at ho;rw[aJ hlt,(hl r o jN hlt ho).2];exact ho
 ·have hlt:=fZ ho;rw[hs]at hlt;rcases zay r S.d with h|h
  ·rw[D7 W hlt,zac h]at ho;cases ho;trivial
  ·rw[pV hb h hlt]at ho;exact(hl r o h hlt ho).1
 ·rw[D7 W (by omega),zac hr]
 ·have hlt:=fZ ho;rw[hs]at hlt;rw[pV hb jN hlt]at ho;exact(hl r o jN hlt ho).2 _
 ·rw[hs]at h2;rw[aJ h2];show r<_;omega
 ·rcases zay a P.globals.size with ha|ha<;>rcases zay b P.globals.size with hb'|hb'
  ·rw[aJ ha,aJ hb']at e;exact e
  ·rw[aJ ha,dW hb']at e;have:jW.b a=a:=rfl;omega
  ·rw[dW ha,aJ hb']at e;have:jW.b b=b:=rfl;omega
  ·rw[dW ha,dW hb']at e;omega
 ·rcases zay r P.globals.size with ha|ha
  ·rw[aJ ha];exact Iff.rfl
  ·rw[dW ha];constructor<;>intro<;>omega
end
def J0 (P:Φ)(W:Λ)(lo n0:Nat)(r0:Rn)(ro:Nat→Prop)(nh:∀b,ro b→b<W.heap.size∧∀r,lo≤r→r<n0→b≠r0 r)(Post:Ω→Λ→Prop):aV:=
 { zg P W lo n0 r0 Post with ro:=ro,nh:=nh }
section
variable {P:Φ}{F:θ→Bool}{S:Sd}{W:Λ}{Post:Ω→Λ→Prop}
theorem F6 {f:θ}{args:Array Ω}{w0:Λ}{r0:Rn}{ro:Nat→Prop}{nh:∀b,ro b→b<W.heap.size∧∀r,S.d≤r→r<w0.heap.size→b≠r0 r}{σ:List (Nat×Ω)}{b:Θ}{a:Act}{k:List Item}(VR:gH P S r0 w0 W)(Zp:Θ.enter P f args .normal=b.at (dX σ (a.rn r0)) k)(ha:rI P S w0.heap.size a)(h:aI P S (J0 P W S.d w0.heap.size r0 ro nh Post) b σ a k w0):∃N last o w' t',runNT P (N+1) (solo (G (Θ.enter P f args .normal) []) W) #[]=(.ended o w',t')∧runN P N (solo (G (Θ.enter P f args .normal) []) W)=.next last∧step P last=.ended o w'∧Go.Conc.Good P Post last o w' t':=by
 have Zq:=h r0 W #[G (Θ.enter P f args .normal) []] none #[] (λ_=>0) (λ_=>False) VR ha (by rw[Zp];rfl) (leavers_one P _) (past_nil.mono (zaw _)) ⟨λx ⟨r,_,h2,e⟩=>by rw[e];exact VR.low h2,λb hb=>(nh b hb).1,λ_ _ hx=>hx,λ_ hx=>hx.elim⟩ ⟨rfl,rfl,rfl,zab _,λ_ _ _=>rfl⟩ (λx ⟨r,h1,h2,e⟩=> .inr ⟨r,h1,h2,e⟩) ⟨zab _,λ_ _=>rfl⟩ ⟨zaw _,λr hr=>absurd hr (Nat.not_lt_zero r)⟩;obtain⟨N0,m,t,hrun,gs,g,W',sl,q,Shun,rfl,h0,hL,hPa,hE⟩:=Zq;obtain⟨N,last,o,w',t',r1,r2,r3,r4⟩:=beside_ends (P:=P) (Post:=Post) (Shun:=Shun) (B:=W'.heap.size) (D:=λ_ _ _=>False) (sl:=sl) (n:=0) (λ_ _ _ hx=>hx.elim) h0 hL hPa (λw₁ hw=>by obtain⟨d,rfl⟩:=hw;exact hE d);refine⟨N0+N,last,o,w',t',?_,?_,r3,r4⟩
 ·rw[show N0+N+1=N0+(N+1) by omega];exact(Ck hrun (N+1)).trans r1
 ·have:=zal Prod.fst (Ck hrun N);rw[runNT_fst,runNT_fst]at this;exact this.trans r2
end
end Go.Ren
namespace Go.Ren
open Go Go.Conc
open Go.ConcN (sumTo)
theorem ir {P:Φ}{c:Nat}{a b:Γ}{Q:Machine→η→Prop}{J:Λ→η→Prop}(UR:awake a)(hwb:awake b)(hrun:a.status=.running∨b.status=.running)
 (hJ:∀w t d ops,J w t→(∀op∈ops,op.act.touch? =none∧∀a,op.act≠.mark (.release a))→(∀B,∀op∈ops,op.act.low B)→Deaf (t++ops) 0=Deaf t 0→Deaf (t++ops) c=Deaf t c→J (w.at d) (t++ops))
 (hst:∀w t,J w t→FT P w a∧FT P w b)
 (H0:a.status=.running→∀gs w sl t q,ez P c t gs q→gs[0]?=some a→gs[c]?=some b→J w t→∃m' ops,runT P (υ gs w sl) 0=(.next m',ops)∧Reach P m' (t++ops) Q)
 (HC:b.status=.running→∀gs w sl t q,ez P c t gs q→gs[0]?=some a→gs[c]?=some b→J w t→∃m' ops,runT P (υ gs w sl) c=(.next m',ops)∧Reach P m' (t++ops) Q):
 ∀gs w sl t q,ez P c t gs q→gs[0]?=some a→gs[c]?=some b→J w t→Reach P (υ gs w sl) t Q:=by
 intro gs w sl t q hC h0 hc hj;generalize hM:sumTo c q=M
 induction M using Nat.strongRecOn generalizing gs w sl t q with
 |_ M ih=>
  have hd:∀w t d,J w t→J (w.at d) t:=λw t d h=>by
   have:=hJ w t d #[] h (by simp) (by simp) (by simp) (by simp);simpa using this
  rcases JL (sl:=sl) hC h0 hc UR hwb hrun (hst w t hj).1 (hst w t hj).2 with⟨hr,d,sl',hs⟩|⟨hr,d,sl',hs⟩|⟨gs',d,sl',ops,q',hs,hC',xM,hc',hlt,h1,h2,h3,h4⟩
  ·obtain⟨m',ops,e,hR⟩:=H0 hr gs (w.at d) sl' t q hC h0 hc (hd w t d hj);exact Reach.step (hs.trans e) hR
  ·obtain⟨m',ops,e,hR⟩:=HC hr gs (w.at d) sl' t q hC h0 hc (hd w t d hj);exact Reach.step (hs.trans e) hR
  ·exact Reach.step hs (ih _ (by omega) gs' (w.at d) sl' (t++ops) q' hC' xM hc' (hJ w t d ops hj h1 h2 h3 h4) rfl)
def iK (P:Φ)(ch:Nat)(z:Ω)(Next:(Nat→Prop)→Γ→Λ→Prop)(own:Nat→Prop)(g:Γ)(w:Λ):Prop:=
 g.status=.running∧ξ P true g w=.comm (core g) #[rcase ch z] true (.recv true) w #[]∧Next own (core g) w
def mC (P:Φ)(ro:Nat→Prop)(ch:Nat)(z:Ω)(Fin:(Nat→Prop)→Γ→Λ→Prop):List Ω→(Nat→Prop)→Γ→Λ→Prop
 |[],own,g,w=>af P true ro (iK P ch z λown g w=>Fin own (Conc.served g (.tuple #[z,.bool false])) w) own g w
 |v::vs,own,g,w=>af P true ro (iK P ch z λown g w=>mC P ro ch z Fin vs own (Conc.served g (.tuple #[v,.bool true])) w) own g w
def Cm (P:Φ)(ro:Nat→Prop)(ch:Nat)(z:Ω)(Fin:(Nat→Prop)→Γ→Λ→Prop):List Ω→(Nat→Prop)→Γ→Λ→Prop
 |[],own,g,w=>Fin own (Conc.served g (.tuple #[z,.bool false])) w
 |v::vs,own,g,w=>mC P ro ch z Fin vs own (Conc.served g (.tuple #[v,.bool true])) w
def LZ (P:Φ)(ch:Nat)(v:Ω)(Next:(Nat→Prop)→Γ→Λ→Prop)(own:Nat→Prop)(g:Γ)(w:Λ):Prop:=
 g.status=.running∧∃z',ξ P false g w=.comm (core g) #[scase ch v z'] true .send w #[]∧Next own (Conc.served (core g) ϊ) w
def gY (ch:Nat):Array ψ:=#[⟨.obj ch,false,true⟩,⟨.obj ch,true,true⟩]
def zi (P:Φ)(ch:Nat)(gI:(Nat→Prop)→Γ→Λ→Prop)(own:Nat→Prop)(g:Γ)(w:Λ):Prop:=
 g.status=.running∧mayWake P g=true∧∃g₂,g₂.status=.running∧∀s r tm,w.heap[ch]?=some (.chan 0 #[] false s r tm)→ξ P false g w=.go g₂ (w.setChan ch 0 #[] true s r tm) (gY ch)∧gI own g₂ (w.setChan ch 0 #[] true s r tm)
def ky (P:Φ)(ro:Nat→Prop)(ch:Nat)(gI:(Nat→Prop)→Γ→Λ→Prop):List Ω→(Nat→Prop)→Γ→Λ→Prop
 |[],own,g,w=>af P false ro (zi P ch gI) own g w
 |v::vs,own,g,w=>af P false ro (LZ P ch v (ky P ro ch gI vs)) own g w
def StopG (P:Φ)(ro:Nat→Prop)(ch:Nat)(gI:(Nat→Prop)→Γ→Λ→Prop):List Ω→(Nat→Prop)→Γ→Λ→Prop
 |[]=>zi P ch gI
 |v::vs=>LZ P ch v (ky P ro ch gI vs)
theorem cH {P:Φ}{ro:Nat→Prop}{ch:Nat}{z:Ω}{Fin:(Nat→Prop)→Γ→Λ→Prop}{vs:List Ω}{own:Nat→Prop}{g:Γ}{w:Λ}:mC P ro ch z Fin vs own g w↔af P true ro (iK P ch z (Cm P ro ch z Fin vs)) own g w:=by cases vs<;>exact Iff.rfl
theorem dB {P:Φ}{ro:Nat→Prop}{ch:Nat}{gI:(Nat→Prop)→Γ→Λ→Prop}{vs:List Ω}{own:Nat→Prop}{g:Γ}{w:Λ}:ky P ro ch gI vs own g w↔af P false ro (StopG P ro ch gI vs) own g w:=by cases vs<;>exact Iff.rfl
theorem af.running {P:Φ}{main:Bool}{ro own:Nat→Prop}{Stop:(Nat→Prop)→Γ→Λ→Prop}{g:Γ}{w:Λ}(h:af P main ro Stop own g w)(hs:∀own g w,Stop own g w→g.status=.running):g.status=.running:=by
 cases h with
 |stop h=>exact hs _ _ _ (h w (bI.refl _ _ _))
 |step _ _ _ h=>exact h
theorem StopG.running {P:Φ}{ro:Nat→Prop}{ch:Nat}{gI:(Nat→Prop)→Γ→Λ→Prop}{vs:List Ω}{own:Nat→Prop}{g:Γ}{w:Λ}(h:StopG P ro ch gI vs own g w):g.status=.running:=by cases vs<;>exact h.1
structure Lay (Q Shun:Loc→Prop) (c ch Low:Nat) (ro:Nat→Prop):Prop where
 c0:c≠0
 Jl:∀b,ro b→b<Low
 J1:ch<Low
 Nr:¬ro ch
 QS:∀l,Q l→Shun l
 tF:∀l,Shun l→l.low Low
 rS:∀l,kx ro l→¬Shun l
 Qch:Q (.obj ch)
structure lY (Q Shun:Loc→Prop) (c ch Low:Nat) (ro bk aK X:Nat→Prop) (closed:Bool) (w0 w:Λ) (t:η):Prop where
 ti:TI Q Shun c aK ro w.heap.size t
 d0:Deaf t 0=0
 dc:closed=false→Deaf t c=0
 mlt:∀b,bk b→Low≤b∧b<w.heap.size
 J2:∀b,aK b→Low≤b∧b<w.heap.size
 apart:∀b,bk b→¬aK b
 big:Low≤w.heap.size
 chan:∃s r tm,w.heap[ch]?=some (.chan 0 #[] closed s r tm)
 tape:w.tape=w0.tape
 os:w.os=w0.os
 output:w.output=w0.output
 keep:∀b,b<Low→¬X b→w.heap[b]?=w0.heap[b]?
 VT:X ch
section
variable {P:Φ}{Q Shun:Loc→Prop}{c ch Low:Nat}{ro bk aK X:Nat→Prop}{cl:Bool}{w0 w w':Λ}{t u:η}{es:Array ψ}{fn:θ}{pos:String}
theorem vE {X:Nat→Prop}(h:∀b,X b→Low≤b){l:Loc}(hi:kx X l)(hl:l.low Low):False:=VL hi (λb hb hlt=>by have:=h b hb;omega) hl
theorem zj {ro own:Nat→Prop}{g:Nat}(h:∀e∈es,DK ro own e):∀op∈Δ g fn pos es,op.g=g∧Qk ro own op:=by
 intro op hop;obtain⟨e,he,rfl⟩:=zbe hop;refine⟨rfl,Cb (h e he),?_,?_⟩
 ·intro e';exact(pP (h e he)).1 (by obtain⟨loc,wr,sy⟩:=e;cases loc<;>cases wr<;>cases sy<;>simp_all [χ])
 ·intro e';exact(pP (h e he)).2 (by obtain⟨loc,wr,sy⟩:=e;cases loc<;>cases wr<;>cases sy<;>simp_all [χ])
theorem zk {ro own:Nat→Prop}{g B:Nat}(hB:∀b,own b→b<B)(hr:∀b,ro b→b<B)(h:∀e∈es,DK ro own e):∀op∈Δ g fn pos es,op.act.low B:=by
 intro op hop;obtain⟨e,he,rfl⟩:=zbe hop;exact LR hB hr (h e he)
theorem zl {ro own:Nat→Prop}{g:Nat}(h:∀e∈es,DK ro own e):Deaf (t++Δ g fn pos es) g=Deaf t g:=by
 rw[Deaf_own];exact deafBehind_still (λe he=>pP (h e he)) _
theorem lY.still (h:lY Q Shun c ch Low ro bk aK X cl w0 w t)(d:Nat)(h1:∀op∈u,op.act.touch? =none)(h2:∀op∈u,op.act.low w.heap.size)(h3:Deaf (t++u) 0=Deaf t 0)(h4:Deaf (t++u) c=Deaf t c):lY Q Shun c ch Low ro bk aK X cl w0 (w.at d) (t++u):=
 ⟨h.ti.still h1 h2,h3.trans h.d0,λe=>h4.trans (h.dc e),h.mlt,h.J2,h.apart,h.big,h.chan,h.tape,h.os,h.output,h.keep,h.VT⟩
theorem lY.QA (hY:Lay Q Shun c ch Low ro)(h:lY Q Shun c ch Low ro bk aK X cl w0 w t)(hg:FP ro bk w w' es):lY Q Shun c ch Low ro (Grow bk w w') aK X cl w0 w' (t++Δ 0 fn pos es)∧bI ro aK w w':=by
 have hs:=hg.size;have hb:=h.big;have jN:∀b,Grow bk w w' b→Low≤b∧b<w'.heap.size:=λb hb'=>hb'.elim (λx=>by have:=h.mlt b x;omega) λx=>by omega
 have hap:∀b,Grow bk w w' b→¬aK b:=λb hb' hgb=>hb'.elim (λx=>h.apart b x hgb) λx=>by have:=h.J2 b hgb;omega
 have F7:∀b,b<w.heap.size→¬bk b→w'.heap[b]?=w.heap[b]?:=hg.block;have dP:∀b,b<Low→w'.heap[b]?=w.heap[b]?:=λb hlt=>F7 b (by omega) λhm=>by have:=h.mlt b hm;omega
 refine⟨⟨(h.ti.mono hs).app0 (own:=Grow bk w w') hY.c0 (zj hg.evs) (zk (λb hb'=>(jN b hb').2) (λb hb'=>by have:=hY.Jl b hb';omega) hg.evs) ?_ ?_ hap ?_ ?_,(zl hg.evs).trans h.d0,?_,jN,λb hb'=>by have:=h.J2 b hb';omega,hap,by omega,?_,hg.tape.trans h.tape,hg.os.trans h.os,hg.output.trans h.output,λb h1 h2=>(dP b h1).trans (h.keep b h1 h2),h.VT⟩,hg.tape,hg.os,hg.output,hs,?_⟩
 ·rintro l (hl|hl) hS
  ·exact vE (λb hb'=>(jN b hb').1) hl (hY.tF l hS)
  ·exact hY.rS l hl hS
 ·rintro l (hl|hl) hS
  ·exact vE (λb hb'=>(jN b hb').1) hl (hY.tF l (hY.QS l hS))
  ·exact hY.rS l hl (hY.QS l hS)
 ·intro b hb' hr;have:=jN b hb';have:=hY.Jl b hr;omega
 ·intro b hb' hr;have:=h.J2 b hb';have:=hY.Jl b hr;omega
 ·intro e;rw[zaN t (Ne.symm hY.c0) _ ofEvents_g];exact h.dc e
 ·obtain⟨s,r,tm,e⟩:=h.chan;exact⟨s,r,tm,by rw[dP ch hY.J1];exact e⟩
 ·rintro b (hb'|hb')
  ·exact F7 b (h.J2 b hb').2 λhm=>h.apart b hm hb'
  ·exact dP b (hY.Jl b hb')
theorem lY.stepG (hY:Lay Q Shun c ch Low ro)(h:lY Q Shun c ch Low ro bk aK X cl w0 w t)(hg:FP ro aK w w' es):lY Q Shun c ch Low ro bk (Grow aK w w') X cl w0 w' (t++Δ c fn pos es)∧bI ro bk w w':=by
 have hs:=hg.size;have hb:=h.big;have jN:∀b,Grow aK w w' b→Low≤b∧b<w'.heap.size:=λb hb'=>hb'.elim (λx=>by have:=h.J2 b x;omega) λx=>by omega
 have hap:∀b,bk b→¬Grow aK w w' b:=λb hm hgb=>hgb.elim (λx=>h.apart b hm x) λx=>by have:=h.mlt b hm;omega
 have F7:∀b,b<w.heap.size→¬aK b→w'.heap[b]?=w.heap[b]?:=hg.block;have dP:∀b,b<Low→w'.heap[b]?=w.heap[b]?:=λb hlt=>F7 b (by omega) λhm=>by have:=h.J2 b hm;omega
 refine⟨⟨h.ti.adC (own':=Grow aK w w') hs (zj hg.evs) (zk (λb hb'=>(jN b hb').2) (λb hb'=>by have:=hY.Jl b hb';omega) hg.evs) (λb=>Iff.rfl) ?_,?_,λe=>(zl hg.evs).trans (h.dc e),λb hb'=>by have:=h.mlt b hb';omega,jN,hap,by omega,?_,hg.tape.trans h.tape,hg.os.trans h.os,hg.output.trans h.output,λb h1 h2=>(dP b h1).trans (h.keep b h1 h2),h.VT⟩,hg.tape,hg.os,hg.output,hs,?_⟩
 ·rintro l (hl|hl) hS
  ·exact vE (λb hb'=>(jN b hb').1) hl (hY.tF l (hY.QS l hS))
  ·exact hY.rS l hl (hY.QS l hS)
 ·rw[zaN t hY.c0 _ ofEvents_g];exact h.d0
 ·obtain⟨s,r,tm,e⟩:=h.chan;exact⟨s,r,tm,by rw[dP ch hY.J1];exact e⟩
 ·rintro b (hb'|hb')
  ·exact F7 b (h.mlt b hb').2 λhm=>h.apart b hb' hm
  ·exact dP b (hY.Jl b hb')
theorem lC {cap s r:Nat}{buf:Array Ω}{tm cl:Bool}{b:Nat}(h:b≠ch):(w.setChan ch cap buf cl s r tm).heap[b]?=w.heap[b]?:=by
 show(w.heap.setIfInBounds ch _)[b]?=_;rw[zaB (Ne.symm h)]
theorem dI {cap s r:Nat}{buf:Array Ω}{tm cl:Bool}:(w.setChan ch cap buf cl s r tm).heap.size=w.heap.size:=by
 show(w.heap.setIfInBounds ch _).size=_;simp
theorem kW {cap s r:Nat}{buf:Array Ω}{tm cl:Bool}{own:Nat→Prop}(h:¬own ch)(hr:¬ro ch):bI ro own w (w.setChan ch cap buf cl s r tm):=
 ⟨rfl,rfl,rfl,by rw[dI];exact zab _,λb hb=>lC λe=>by subst e;exact hb.elim h hr⟩
theorem lY.chG (hY:Lay Q Shun c ch Low ro)(h:lY Q Shun c ch Low ro bk aK X cl w0 w t):¬aK ch:=λx=>by have:=h.J2 ch x;have:=hY.J1;omega
theorem lY.chM (hY:Lay Q Shun c ch Low ro)(h:lY Q Shun c ch Low ro bk aK X cl w0 w t):¬bk ch:=λx=>by have:=h.mlt ch x;have:=hY.J1;omega
theorem lY.meet (hY:Lay Q Shun c ch Low ro){s r s' r':Nat}{tm:Bool}(h:lY Q Shun c ch Low ro bk aK X false w0 w t)(hch:w.heap[ch]?=some (.chan 0 #[] false s r tm))(hu:Qm ch u):lY Q Shun c ch Low ro bk aK X false w0 (w.setChan ch 0 #[] false s' r' tm) (t++u):=by
 have hb:=h.big;have dY:=hY.J1;refine⟨by rw[dI];exact h.ti.still (λop hop=>(hu op hop).1) λop hop=>(hu op hop).2.2 _ (by omega),by rw[dt t 0 u λop hop=>(hu op hop).2.1];exact h.d0,λe=>by rw[dt t c u λop hop=>(hu op hop).2.1];exact h.dc e,by rw[dI];exact h.mlt,by rw[dI];exact h.J2,h.apart,by rw[dI];exact hb,⟨s',r',tm,heap_put hch⟩,h.tape,h.os,h.output,λb h1 h2=>(lC λe=>h2 (by rw[e];exact h.VT)).trans (h.keep b h1 h2),h.VT⟩
theorem qX (g:Nat):Δ g fn pos (gY ch)=#[{ g:=g,fn:=fn,pos:=pos,act:= .access ⟨.obj ch,false,true⟩ },{ g:=g,fn:=fn,pos:=pos,act:= .close ch }]:=by
 simp[Δ,gY,χ]
theorem lY.Cn (h:lY Q Shun c ch Low ro bk aK X false w0 w t):Deaf (t++Δ c fn pos (gY ch)) c=0:=by
 rw[dt t c _ λop hop m e=>?_]
 ·exact h.dc rfl
 ·rw[qX]at hop;simp at hop;rcases hop with rfl|rfl<;>simp at e
theorem lY.close (hY:Lay Q Shun c ch Low ro){s r:Nat}{tm:Bool}(h:lY Q Shun c ch Low ro bk aK X false w0 w t)(hch:w.heap[ch]?=some (.chan 0 #[] false s r tm)):lY Q Shun c ch Low ro bk aK X true w0 (w.setChan ch 0 #[] true s r tm) (t++Δ c fn pos (gY ch)):=by
 have hb:=h.big;have dY:=hY.J1;have hm:∀op∈Δ c fn pos (gY ch),∀m,op.act≠.mark m:=λop hop m e=>by
  rw[qX]at hop;simp at hop;rcases hop with rfl|rfl<;>simp at e
 refine⟨?_,by rw[dt t 0 _ hm];exact h.d0,(λe=>by cases e),by rw[dI];exact h.mlt,by rw[dI];exact h.J2,h.apart,by rw[dI];exact hb,⟨s,r,tm,heap_put hch⟩,h.tape,h.os,h.output,λb h1 h2=>(lC λe=>h2 (by rw[e];exact h.VT)).trans (h.keep b h1 h2),h.VT⟩;rw[dI];refine h.ti.VM (g:=c) (.inr rfl) (λop hop=>⟨ofEvents_g op hop,λx hx=>?_⟩) (λop hop=>?_) hY.QS λl hl=>⟨λhi=>?_,λhi=>hY.rS l hi (hY.QS l hl)⟩
 ·rw[qX]at hop;simp at hop;rcases hop with rfl|rfl
  ·simp only[MemAct.touch?,zaG]at hx;subst hx;exact⟨hY.Qch,by simp,by simp⟩
  ·simp[MemAct.touch?]at hx
 ·rw[qX]at hop;simp at hop;have:ch<w.heap.size:=by omega
  rcases hop with rfl|rfl<;>exact this
 ·exact vE (λb hb'=>(h.J2 b hb').1) hi (hY.tF l (hY.QS l hl))
end
end Go.Ren
namespace Go.Ren
open Go Go.Conc
def Ns (P:Φ)(Q Shun:Loc→Prop)(c ch Low:Nat)(ro X:Nat→Prop)(z:Ω)(Fin gI:(Nat→Prop)→Γ→Λ→Prop)(w0:Λ)(m:Machine)(t:η):Prop:=
 ∃gs w sl q bk aK a b t₁ fn pos,m=υ gs w sl∧ez P c t gs q∧gs[0]?=some a∧gs[c]?=some b∧b.status=.running∧mC P ro ch z Fin [] bk a w∧gI aK b w∧lY Q Shun c ch Low ro bk aK X true w0 w t∧t=t₁++Δ c fn pos (gY ch)∧Deaf t c=0
section
variable {P:Φ}{Q Shun:Loc→Prop}{c ch Low:Nat}{ro X:Nat→Prop}{z:Ω}{Fin gI:(Nat→Prop)→Γ→Λ→Prop}{w0:Λ}
variable (P Q Shun c ch Low ro X z Fin gI w0) in
def F8 (vs:List Ω):Prop:=∀gs w sl t q bk aK a b,ez P c t gs q→gs[0]?=some a→gs[c]?=some b→mC P ro ch z Fin vs bk a w→ky P ro ch gI vs aK b w→lY Q Shun c ch Low ro bk aK X false w0 w t→Reach P (υ gs w sl) t (Ns P Q Shun c ch Low ro X z Fin gI w0)
theorem iK.again {Next:(Nat→Prop)→Γ→Λ→Prop}{own:Nat→Prop}{g:Γ}{w:Λ}(h:iK P ch z Next own g w):iK P ch z Next own { parked (core g) #[rcase ch z] (.recv true)with status:= .running } w:=by
 have e:ξ P true { parked (core g) #[rcase ch z] (.recv true)with status:= .running } w=ξ P true g w:=stepG_same rfl rfl rfl w;exact⟨rfl,by rw[e];exact h.2.1,h.2.2⟩
theorem fM {g:Γ}(h:g.status=.running):awake g:=awake_of (.inl h)
theorem kN {g:Γ}{cs:Array CommCase}{sh:CommShape}:awake (parked g cs sh):=awake_of (.inr (.inl rfl))
theorem Co {g:Γ}{w:Λ}{s r:Nat}{tm:Bool}(hc:w.heap[ch]?=some (.chan 0 #[] false s r tm)):FT P w (parked g #[rcase ch z] (.recv true)):=λx x' d=>woken_recv_open x x' (w:=w.at d) hc
theorem Cp {g:Γ}{w:Λ}{s r:Nat}{tm:Bool}{v z':Ω}(hc:w.heap[ch]?=some (.chan 0 #[] false s r tm)):FT P w (parked g #[scase ch v z'] .send):=λx x' d=>woken_send_open x x' (w:=w.at d) hc
theorem QB (hY:Lay Q Shun c ch Low ro){vs:List Ω}(hK:∀v vs',vs=v::vs'→F8 P Q Shun c ch Low ro X z Fin gI w0 vs'){aK:Nat→Prop}{b:Γ}{wG:Λ}
 (hG:af P false ro (StopG P ro ch gI vs) aK b wG):∀(g:Γ) (bk:Nat→Prop) (wM:Λ),(∀w₁,bI ro bk wM w₁→iK P ch z (Cm P ro ch z Fin vs) bk g w₁)→
   ∀gs w sl t q,ez P c t gs q→gs[0]?=some (parked (core g) #[rcase ch z] (.recv true))→gs[c]?=some b→bI ro bk wM w→bI ro aK wG w→lY Q Shun c ch Low ro bk aK X false w0 w t→
   Reach P (υ gs w sl) t (Ns P Q Shun c ch Low ro X z Fin gI w0):=by
 induction hG with
 | @stop aK b wG hS=>
   intro g bk wM hM gs w sl t q hC h0 hc nT pz eM;have hb:b.status=.running:=(hS wG (bI.refl _ _ _)).running;refine ir (J:=λw t=>bI ro bk wM w∧bI ro aK wG w∧lY Q Shun c ch Low ro bk aK X false w0 w t) kN (fM hb) (.inr hb)
    (λw t d ops hj h1 h2 h3 h4=>⟨hj.1.trans (fy _ _ _ d),hj.2.1.trans (fy _ _ _ d),hj.2.2.still d (λop hop=>(h1 op hop).1) (h2 _) h3 h4⟩)
    (λw t hj=>by obtain⟨s,r,tm,e⟩:=hj.2.2.chan;exact⟨Co e,.run hb⟩)
    (λhr=>by cases hr) (λ_ gs w sl t q hC h0 hc hj=>?_) gs w sl t q hC h0 hc ⟨nT,pz,eM⟩
   obtain⟨nT,pz,eM⟩:=hj;obtain⟨s,r,tm,hch⟩:=eM.chan;cases vs with
   |nil=>
    obtain⟨_,hmw,g₂,hg2,hx⟩:=hS w pz;obtain⟨hst,pK⟩:=hx s r tm hch;obtain⟨gs',e1,e2,e3,e4⟩:=lz (sl:=sl) hC h0 hc hst;refine⟨_,_,e1,.here ⟨gs',_,sl,q,bk,aK,_,_,t,_,_,rfl,e2,e3,e4,hg2,?_,pK,eM.close hY hch,rfl,eM.Cn⟩⟩;have hw:woken P b g₂ (w.setChan ch 0 #[] true s r tm) (parked (core g) #[rcase ch z] (.recv true))={ parked (core g) #[rcase ch z] (.recv true)with status:= .running }:=by
     unfold woken;rw[zac (by simp[hmw,hg2])];exact again_recv_closed (heap_put hch)
    rw[hw];exact cH.2 (.stop λw₂ h₂=>(hM w₂ ((nT.trans (kW (eM.chM hY) hY.Nr)).trans h₂)).again)
   |cons v vs'=>
    obtain⟨_,z',hst,oX⟩:=hS w pz;obtain⟨gs',u,e1,e2,e3,e4,e5⟩:=xu (sl:=sl) hC h0 hc hst hch;exact⟨_,_,e1,hK v vs' rfl gs' _ sl _ q bk aK _ _ e3 e4 e5 (cH.2 ((cH.1 (hM w nT).2.2).rely (kW (eM.chM hY) hY.Nr))) (dB.2 ((dB.1 oX).rely (kW (eM.chG hY) hY.Nr))) (eM.meet hY hch e2)⟩
 | @step aK b wG nx nw ne hb h1 h2 _ ih=>
   intro g bk wM hM gs w sl t q hC h0 hc nT pz eM;refine ir (J:=λw t=>bI ro bk wM w∧bI ro aK wG w∧lY Q Shun c ch Low ro bk aK X false w0 w t) kN (fM hb) (.inr hb)
    (λw t d ops hj h1 h2 h3 h4=>⟨hj.1.trans (fy _ _ _ d),hj.2.1.trans (fy _ _ _ d),hj.2.2.still d (λop hop=>(h1 op hop).1) (h2 _) h3 h4⟩)
    (λw t hj=>by obtain⟨s,r,tm,e⟩:=hj.2.2.chan;exact⟨Co e,.run hb⟩)
    (λhr=>by cases hr) (λ_ gs w sl t q hC h0 hc hj=>?_) gs w sl t q hC h0 hc ⟨nT,pz,eM⟩
   obtain⟨nT,pz,eM⟩:=hj;obtain⟨gs',e1,e2,e3,e4⟩:=lz (sl:=sl) hC h0 hc (h1 w pz);obtain⟨k1,k2⟩:=eM.stepG (fn:=b.frame.fn) (pos:=b.frame.place) hY (h2 w pz);obtain⟨s,r,tm,hch⟩:=k1.chan;rw[woken_recv_open _ _ hch]at e3;exact⟨_,_,e1,ih w pz g bk wM hM gs' _ sl _ q e2 e3 e4 (nT.trans k2) (bI.refl _ _ _) k1⟩
theorem QC (hY:Lay Q Shun c ch Low ro){v:Ω}{vs:List Ω}(hK:F8 P Q Shun c ch Low ro X z Fin gI w0 vs){bk:Nat→Prop}{a:Γ}{wM:Λ}
 (hM:af P true ro (iK P ch z (Cm P ro ch z Fin (v::vs))) bk a wM):∀(g:Γ) (z':Ω) (aK:Nat→Prop) (wG:Λ),ky P ro ch gI vs aK (Conc.served (core g) ϊ) wG→
   ∀gs w sl t q,ez P c t gs q→gs[0]?=some a→gs[c]?=some (parked (core g) #[scase ch v z'] .send)→bI ro bk wM w→bI ro aK wG w→lY Q Shun c ch Low ro bk aK X false w0 w t→
   Reach P (υ gs w sl) t (Ns P Q Shun c ch Low ro X z Fin gI w0):=by
 induction hM with
 | @stop bk a wM hS=>
   intro g z' aK wG hG gs w sl t q hC h0 hc nT pz eM;have ha:a.status=.running:=(hS wM (bI.refl _ _ _)).1;refine ir (J:=λw t=>bI ro bk wM w∧bI ro aK wG w∧lY Q Shun c ch Low ro bk aK X false w0 w t) (fM ha) kN (.inl ha)
    (λw t d ops hj h1 h2 h3 h4=>⟨hj.1.trans (fy _ _ _ d),hj.2.1.trans (fy _ _ _ d),hj.2.2.still d (λop hop=>(h1 op hop).1) (h2 _) h3 h4⟩)
    (λw t hj=>by obtain⟨s,r,tm,e⟩:=hj.2.2.chan;exact⟨.run ha,Cp e⟩)
    (λ_ gs w sl t q hC h0 hc hj=>?_) (λhr=>by cases hr) gs w sl t q hC h0 hc ⟨nT,pz,eM⟩
   obtain⟨nT,pz,eM⟩:=hj;obtain⟨s,r,tm,hch⟩:=eM.chan;obtain⟨_,hst,oX⟩:=hS w nT;obtain⟨gs',u,e1,e2,e3,e4,e5⟩:=xr (sl:=sl) hC h0 hc hst hch;exact⟨_,_,e1,hK gs' _ sl _ q bk aK _ _ e3 e4 e5 (cH.2 ((cH.1 oX).rely (kW (eM.chM hY) hY.Nr))) (dB.2 ((dB.1 hG).rely (pz.trans (kW (eM.chG hY) hY.Nr)))) (eM.meet hY hch e2)⟩
 | @step bk a wM nx nw ne ha h1 h2 _ ih=>
   intro g z' aK wG hG gs w sl t q hC h0 hc nT pz eM;refine ir (J:=λw t=>bI ro bk wM w∧bI ro aK wG w∧lY Q Shun c ch Low ro bk aK X false w0 w t) (fM ha) kN (.inl ha)
    (λw t d ops hj h1 h2 h3 h4=>⟨hj.1.trans (fy _ _ _ d),hj.2.1.trans (fy _ _ _ d),hj.2.2.still d (λop hop=>(h1 op hop).1) (h2 _) h3 h4⟩)
    (λw t hj=>by obtain⟨s,r,tm,e⟩:=hj.2.2.chan;exact⟨.run ha,Cp e⟩)
    (λ_ gs w sl t q hC h0 hc hj=>?_) (λhr=>by cases hr) gs w sl t q hC h0 hc ⟨nT,pz,eM⟩
   obtain⟨nT,pz,eM⟩:=hj;obtain⟨gs',e1,e2,e3,e4⟩:=tE (sl:=sl) hC h0 hc (h1 w nT);obtain⟨k1,k2⟩:=eM.QA (fn:=a.frame.fn) (pos:=a.frame.place) hY (h2 w nT);obtain⟨s,r,tm,hch⟩:=k1.chan;rw[woken_send_open _ _ hch]at e4;exact⟨_,_,e1,ih w nT g z' aK wG hG gs' _ sl _ q e2 e3 e4 (bI.refl _ _ _) (pz.trans k2) k1⟩
theorem Cq (hY:Lay Q Shun c ch Low ro){vs:List Ω}(hK:∀v vs',vs=v::vs'→F8 P Q Shun c ch Low ro X z Fin gI w0 vs'){bk:Nat→Prop}{a:Γ}{wM:Λ}
 (hM:af P true ro (iK P ch z (Cm P ro ch z Fin vs)) bk a wM)
 (H0:∀aK b wG,af P false ro (StopG P ro ch gI vs) aK b wG→∀gs w sl t q,ez P c t gs q→gs[0]?=some a→gs[c]?=some b→bI ro bk wM w→bI ro aK wG w→lY Q Shun c ch Low ro bk aK X false w0 w t→∃m' ops,runT P (υ gs w sl) 0=(.next m',ops)∧Reach P m' (t++ops) (Ns P Q Shun c ch Low ro X z Fin gI w0))
 {aK:Nat→Prop}{b:Γ}{wG:Λ}(hG:af P false ro (StopG P ro ch gI vs) aK b wG):
  ∀gs w sl t q,ez P c t gs q→gs[0]?=some a→gs[c]?=some b→bI ro bk wM w→bI ro aK wG w→lY Q Shun c ch Low ro bk aK X false w0 w t→
  Reach P (υ gs w sl) t (Ns P Q Shun c ch Low ro X z Fin gI w0):=by
 have ha:a.status=.running:=hM.running λ_ _ _ h=>h.1
 induction hG with
 | @stop aK b wG hS=>
   intro gs w sl t q hC h0 hc nT pz eM;have hb:b.status=.running:=(hS wG (bI.refl _ _ _)).running;refine ir (J:=λw t=>bI ro bk wM w∧bI ro aK wG w∧lY Q Shun c ch Low ro bk aK X false w0 w t) (fM ha) (fM hb) (.inr hb)
    (λw t d ops hj h1 h2 h3 h4=>⟨hj.1.trans (fy _ _ _ d),hj.2.1.trans (fy _ _ _ d),hj.2.2.still d (λop hop=>(h1 op hop).1) (h2 _) h3 h4⟩)
    (λw t hj=>⟨.run ha,.run hb⟩)
    (λ_ gs w sl t q hC h0 hc hj=>H0 aK b wG (.stop hS) gs w sl t q hC h0 hc hj.1 hj.2.1 hj.2.2) (λ_ gs w sl t q hC h0 hc hj=>?_) gs w sl t q hC h0 hc ⟨nT,pz,eM⟩
   obtain⟨nT,pz,eM⟩:=hj;obtain⟨s,r,tm,hch⟩:=eM.chan;cases vs with
   |nil=>
    obtain⟨_,hmw,g₂,hg2,hx⟩:=hS w pz;obtain⟨hst,pK⟩:=hx s r tm hch;obtain⟨gs',e1,e2,e3,e4⟩:=lz (sl:=sl) hC h0 hc hst;rw[woken_run ha]at e3;exact⟨_,_,e1,.here ⟨gs',_,sl,q,bk,aK,_,_,t,_,_,rfl,e2,e3,e4,hg2,cH.2 (hM.rely (nT.trans (kW (eM.chM hY) hY.Nr))),pK,eM.close hY hch,rfl,eM.Cn⟩⟩
   |cons v vs'=>
    obtain⟨_,z',hst,oX⟩:=hS w pz;obtain⟨gs',e1,e2,e3,e4⟩:=xq (sl:=sl) hC h0 hc (by simp[ha]) hst hch;exact⟨_,_,e1,QC hY (hK v vs' rfl) hM b z' aK w oX gs' w sl _ q e2 e3 e4 nT (bI.refl _ _ _) (by simpa using eM)⟩
 | @step aK b wG nx nw ne hb h1 h2 h3 ih=>
   intro gs w sl t q hC h0 hc nT pz eM;refine ir (J:=λw t=>bI ro bk wM w∧bI ro aK wG w∧lY Q Shun c ch Low ro bk aK X false w0 w t) (fM ha) (fM hb) (.inr hb)
    (λw t d ops hj h1 h2 h3 h4=>⟨hj.1.trans (fy _ _ _ d),hj.2.1.trans (fy _ _ _ d),hj.2.2.still d (λop hop=>(h1 op hop).1) (h2 _) h3 h4⟩)
    (λw t hj=>⟨.run ha,.run hb⟩)
    (λ_ gs w sl t q hC h0 hc hj=>H0 aK b wG (.step nx nw ne hb h1 h2 h3) gs w sl t q hC h0 hc hj.1 hj.2.1 hj.2.2) (λ_ gs w sl t q hC h0 hc hj=>?_) gs w sl t q hC h0 hc ⟨nT,pz,eM⟩
   obtain⟨nT,pz,eM⟩:=hj;obtain⟨gs',e1,e2,e3,e4⟩:=lz (sl:=sl) hC h0 hc (h1 w pz);obtain⟨k1,k2⟩:=eM.stepG (fn:=b.frame.fn) (pos:=b.frame.place) hY (h2 w pz);rw[woken_run ha]at e3;exact⟨_,_,e1,ih w pz gs' _ sl _ q e2 e3 e4 (nT.trans k2) (bI.refl _ _ _) k1⟩
theorem F9 (hY:Lay Q Shun c ch Low ro){vs:List Ω}(hK:∀v vs',vs=v::vs'→F8 P Q Shun c ch Low ro X z Fin gI w0 vs'){bk:Nat→Prop}{a:Γ}{wM:Λ}
 (hM:af P true ro (iK P ch z (Cm P ro ch z Fin vs)) bk a wM):∀(aK:Nat→Prop) (b:Γ) (wG:Λ),af P false ro (StopG P ro ch gI vs) aK b wG→
   ∀gs w sl t q,ez P c t gs q→gs[0]?=some a→gs[c]?=some b→bI ro bk wM w→bI ro aK wG w→lY Q Shun c ch Low ro bk aK X false w0 w t→
   Reach P (υ gs w sl) t (Ns P Q Shun c ch Low ro X z Fin gI w0):=by
 induction hM with
 | @stop bk a wM hS=>
   intro aK b wG hG;refine Cq hY hK (.stop hS) (λaK b wG hG gs w sl t q hC h0 hc nT pz eM=>?_) hG;obtain⟨s,r,tm,hch⟩:=eM.chan;have hb:b.status=.running:=hG.running λ_ _ _ h=>h.running;obtain⟨gs',e1,e2,e3,e4⟩:=xp (sl:=sl) hC h0 hc (by simp[hb]) (hS w nT).2.1 hch;exact⟨_,_,e1,QB hY hK hG a bk wM hS gs' w sl _ q e2 e3 e4 nT pz (by simpa using eM)⟩
 | @step bk a wM nx nw ne ha h1 h2 h3 ih=>
   intro aK b wG hG;refine Cq hY hK (.step nx nw ne ha h1 h2 h3) (λaK b wG hG gs w sl t q hC h0 hc nT pz eM=>?_) hG;have hb:b.status=.running:=hG.running λ_ _ _ h=>h.running;obtain⟨gs',e1,e2,e3,e4⟩:=tE (sl:=sl) hC h0 hc (h1 w nT);obtain⟨k1,k2⟩:=eM.QA (fn:=a.frame.fn) (pos:=a.frame.place) hY (h2 w nT);rw[woken_run hb]at e4;exact⟨_,_,e1,ih w nT aK b wG hG gs' _ sl _ q e2 e3 e4 (bI.refl _ _ _) (pz.trans k2) k1⟩
theorem QD (hY:Lay Q Shun c ch Low ro):∀vs,F8 P Q Shun c ch Low ro X z Fin gI w0 vs
 |[],gs,w,sl,t,q,bk,aK,a,b,hC,h0,hc,hM,hG,eM=>F9 hY (λ_ _ e=>by cases e) (cH.1 hM) aK b w (dB.1 hG) gs w sl t q hC h0 hc (bI.refl _ _ _) (bI.refl _ _ _) eM
 |v::vs,gs,w,sl,t,q,bk,aK,a,b,hC,h0,hc,hM,hG,eM=>F9 hY (λv' vs' e=>by cases e;exact QD hY vs) (cH.1 hM) aK b w (dB.1 hG) gs w sl t q hC h0 hc (bI.refl _ _ _) (bI.refl _ _ _) eM
end
end Go.Ren
namespace Go.Ren
open Go Go.Conc
open Go.ConcX (stA Acq)
theorem QE {t:η}{g:Nat}{fn:θ}{pos:String}{es:Array ψ}(j:Nat):(t++Δ g fn pos es)[t.size+j]?=(es[j]?).map λe=>{ g:=g,fn:=fn,pos:=pos,act:= .ofEvent e }:=by
 rw[Array.getElem?_append_right (by omega),ofEvents_eq,zaE]
 congr 2
 omega
theorem pW {t:η}{g:Nat}{fn:θ}{pos:String}{es:Array ψ}(j:Nat):(t++Δ g fn pos es).act? (t.size+j)=(es[j]?).map χ:=by
 unfold Trace.act?
 rw[QE];cases es[j]?<;>rfl
theorem Ga {t:η}{g:Nat}{fn:θ}{pos:String}{es:Array ψ}(j:Nat):(t++Δ g fn pos es).g? (t.size+j)=(es[j]?).map λ_=>g:=by
 unfold Trace.g?
 rw[QE];cases es[j]?<;>rfl
theorem Gb {t:η}{g:Nat}{fn:θ}{pos:String}{es:Array ψ}{j:Nat}{e:ψ}(he:es[j]?=some e):(t++Δ g fn pos es).heard (t.size+j)↔deafBehind (Deaf t g) (es.extract 0 j)=0:=by
 have hj:j≤es.size:=by
  rcases zay j es.size with h|h
  ·omega
  ·rw[zbQ h]at he;cases he
 unfold Trace.heard;rw[Ga,he];simp only[zbk,zaG,exists_eq_left'];rw[deaf_inside t g fn pos es j hj]
theorem vF {s T:η}{g g':Nat}{fn:θ}{pos:String}{es:Array ψ}{j:Nat}{e:ψ}(he:es[j]?=some e)(hd:Deaf T g'=Deaf s g):(T++Δ g' fn pos es).heard (T.size+j)↔(s++Δ g fn pos es).heard (s.size+j):=by
 rw[Gb he,Gb he,hd]
theorem J3 {s T:η}{g g':Nat}{fn:θ}{pos:String}{es:Array ψ}{j:Nat}(hd:Deaf T g'=Deaf s g):(T++Δ g' fn pos es).counts (T.size+j)→(s++Δ g fn pos es).counts (s.size+j):=by
 rintro ⟨x,hx,hm,hk⟩;rw[pW]at hx;cases he:es[j]? with
 |none=>rw[he]at hx;simp at hx
 |some e=>exact⟨x,by rw[pW];exact hx,hm,hk.imp id (vF he hd).1⟩
theorem nk {t:η}{g:Nat}{fn:θ}{pos:String}{es:Array ψ}{i:Nat}(hi:t.size≤i)(hlt:i<(t++Δ g fn pos es).size):∃j e,i=t.size+j∧es[j]?=some e:=by
 rw[ofEvents_eq]at hlt;simp at hlt;exact⟨i-t.size,es[i-t.size]'(by omega),by omega,zaH _⟩
theorem qY {t:η}{i g:Nat}(h:t.g? i=some g):i<t.size:=by
 obtain⟨z,hz,_⟩:=zaz.1 h;exact lt_size_of_getElem? hz
structure Nt (c Wg:Nat) (T:η) (R:Nat):Prop where
 act:T.act? R=some (.mark (.releaseMerge (stA Wg)))
 g:T.g? R=some c
 heard:T.heard R
 after:∀i,R<i→T.g? i=some c→¬T.counts i
 norel:∀i,R<i→T.act? i≠some (.mark (.release (stA Wg)))
 late:∀i a,R<i→T.g? i=some c→touchAt T i=some a→∃ad,a.loc=.cell ad∧ad.block=Wg
def VU (c Wg:Nat)(u:η):Prop:=∀op∈u,op.act≠.mark (.release (stA Wg))∧(op.g=c→∀x,op.act.touch? =some x→∃ad,x.loc=.cell ad∧ad.block=Wg)
theorem Nt.app {c Wg:Nat}{T u:η}{R:Nat}(h:Nt c Wg T R)(hu:VU c Wg u)(hc:∀i,T.size≤i→(T++u).g? i=some c→¬(T++u).counts i):Nt c Wg (T++u) R:=by
 have hR:=lt_of_act? h.act;refine⟨by rw[act?_old hR];exact h.act,by rw[g?_old hR];exact h.g,(heard_old hR).2 h.heard,λi hi hg Fj=>?_,λi hi e=>?_,λi a hi hg ha=>?_⟩
 ·rcases zay i T.size with hlt|jN
  ·exact h.after i hi (by rw[←g?_old (u:=u) hlt];exact hg) ((counts_old hlt).1 Fj)
  ·exact hc i jN hg Fj
 ·obtain⟨op,ho,VW⟩:=zaz.1 e;rcases getElem?_append_cases ho with⟨_,L3⟩|⟨_,Zr⟩
  ·exact h.norel i hi (by rw[act?_of L3,VW])
  ·exact(hu op Zr).1 VW
 ·obtain⟨op,ho,VW⟩:=touch_of ha;rcases getElem?_append_cases ho with⟨hlt,L3⟩|⟨_,Zr⟩
  ·exact h.late i a hi (by rw[←g?_old (u:=u) hlt];exact hg) (by rw[touchAt_of L3];exact VW)
  ·exact(hu op Zr).2 (by simpa[Trace.g?,ho]using hg) a VW
def QF (c Wg:Nat)(T:η):Prop:=∃R Q,Nt c Wg T R∧T.act? Q=some (.mark (.acquire (stA Wg)))∧T.g? Q=some 0∧T.heard Q∧R<Q
structure GL (c Wg:Nat) (s T:η):Prop where
 d0:Deaf T 0=Deaf s 0
 dc:Deaf T c=Deaf s 1
 rel:∀r,Released (stA Wg) s r→∃R,Nt c Wg T R
 acq:Acq Wg s→QF c Wg T
section
variable {c Wg:Nat}{s T u:η}
theorem QF.app (h:QF c Wg T)(hu:VU c Wg u)(hc:∀i,T.size≤i→(T++u).g? i=some c→¬(T++u).counts i):QF c Wg (T++u):=by
 obtain⟨R,Q,h1,h2,h3,h4,h5⟩:=h;have hQ:=lt_of_act? h2;exact⟨R,Q,h1.app hu hc,by rw[act?_old hQ];exact h2,by rw[g?_old hQ];exact h3,(heard_old hQ).2 h4,h5⟩
theorem GL.other (h:GL c Wg s T)(hu:∀op∈u,op.act≠.mark (.release (stA Wg))∧(op.g=c→op.act.touch? =none))(h0:Deaf (T++u) 0=Deaf T 0)(hc:Deaf (T++u) c=Deaf T c):GL c Wg s (T++u):=by
 have k:∀i,T.size≤i→(T++u).g? i=some c→¬(T++u).counts i:=by
  rintro i hi hg ⟨x,hx,_⟩;obtain⟨op,ho,hog⟩:=zaz.1 hg;rcases getElem?_append_cases ho with⟨hlt,_⟩|⟨_,Zr⟩
  ·omega
  ·rw[act?_of ho]at hx;simp only[zbS]at hx;rw[(hu op Zr).2 hog]at hx;cases hx
 have hm:VU c Wg u:=λop hop=>⟨(hu op hop).1,λe x hx=>by rw[(hu op hop).2 e]at hx;cases hx⟩;exact⟨h0.trans h.d0,hc.trans h.dc,λr hr=>let⟨R,hR⟩:=h.rel r hr;⟨R,hR.app hm k⟩,λha=>(h.acq ha).app hm k⟩
theorem Released.back {t u:η}{a:Addr}{r:Nat}(h:Released a (t++u) r)(hr:r<t.size):Released a t r:=
 ⟨by rw[←act?_old (u:=u) hr];exact h.act,by rw[←g?_old (u:=u) hr];exact h.g,(heard_old hr).1 h.heard,λi hi hg hc=>by
   have hlt:=qY hg;exact h.after i hi (by rw[g?_old hlt];exact hg) ((counts_old hlt).2 hc)⟩
theorem xv {e:ψ}(a:Addr)(h:χ e=.mark (.release a)):e.loc=.mark (.release a):=by
 obtain⟨loc,wr,sy⟩:=e;cases loc<;>cases wr<;>cases sy<;>simp_all [χ]
theorem GL.step (hc0:c≠0)(h:GL c Wg s T){g:Nat}(hg:g=0∨g=1){g':Nat}(uZ:g'=if g=0 then 0 else c)(fn:θ)(pos:String)(es:Array ψ)(hn:NoRelease (stA Wg) (s++Δ g fn pos es))(hq:∀e∈es,∀x,(χ e).touch? =some x→∃ad,x.loc=.cell ad∧ad.block=Wg):GL c Wg (s++Δ g fn pos es) (T++Δ g' fn pos es):=by
 have hd:Deaf T g'=Deaf s g:=by
  rcases hg with rfl|rfl
  ·rw[uZ];exact h.d0
  ·rw[uZ];exact h.dc
 have hgc:g'=c↔g=1:=by
  rcases hg with rfl|rfl
  ·rw[uZ];simp;exact Ne.symm hc0
  ·rw[uZ];simp
 have hnu:VU c Wg (Δ g' fn pos es):=by
  intro op hop;obtain⟨ev,gf,rfl⟩:=zbe hop;refine⟨λe=>?_,λ_=>hq ev gf⟩;obtain⟨j,hj⟩:=Array.getElem?_of_mem gf;exact hn (s.size+j) (by rw[pW,hj];exact zal some e)
 have kc:∀r,Released (stA Wg) (s++Δ g fn pos es) r→∀j e,es[j]?=some e→r<s.size+j→g'=c→¬(T++Δ g' fn pos es).counts (T.size+j):=by
  intro r hr j e he hlt UY Fj;refine hr.after (s.size+j) hlt ?_ (J3 hd Fj);rw[Ga,he,hgc.1 UY];rfl
 have abw:∀r,Released (stA Wg) (s++Δ g fn pos es) r→r<s.size→∀i,T.size≤i→(T++Δ g' fn pos es).g? i=some c→¬(T++Δ g' fn pos es).counts i:=by
  intro r hr hlt i hi J4;obtain⟨j,e,rfl,he⟩:=nk hi (qY J4);refine kc r hr j e he (by omega) ?_;rw[Ga,he]at J4;simpa using J4
 have abx:∀r,Released (stA Wg) (s++Δ g fn pos es) r→∃R,Nt c Wg (T++Δ g' fn pos es) R∧(r<s.size→R<T.size):=by
  intro r hr;rcases zay r s.size with hlt|jN
  ·obtain⟨R,hR⟩:=h.rel r (Released.back hr hlt);exact⟨R,hR.app hnu (abw r hr hlt),λ_=>lt_of_act? hR.act⟩
  ·obtain⟨j,e,rfl,he⟩:=nk jN (qY hr.g);have h1:=hr.act;have h2:=hr.g;rw[pW,he]at h1;rw[Ga,he]at h2;have hg1:g=1:=by simpa using h2
   refine⟨T.size+j,⟨by rw[pW,he];exact h1,by rw[Ga,he,hgc.2 hg1];rfl,(vF he hd).2 hr.heard,λi hi J4=>?_,λi hi e'=>?_,λi a hi J4 ha=>?_⟩,λhlt=>by omega⟩
   ·obtain⟨j',e',rfl,he'⟩:=nk (by omega) (qY J4);exact kc _ hr j' e' he' (by omega) (hgc.2 hg1)
   ·obtain⟨j',e'',rfl,aby⟩:=nk (by omega) (lt_of_act? e');rw[pW,aby]at e';exact hn (s.size+j') (by rw[pW,aby];exact e')
   ·obtain⟨op,ho,VW⟩:=touch_of ha;rcases getElem?_append_cases ho with⟨hlt,_⟩|⟨_,Zr⟩
    ·omega
    ·obtain⟨ev,gf,rfl⟩:=zbe Zr;exact hq ev gf a VW
 refine⟨?_,?_,λr hr=>let⟨R,hR,_⟩:=abx r hr;⟨R,hR⟩,?_⟩
 ·rcases hg with rfl|rfl
  ·rw[zac rfl]at uZ;subst uZ;rw[Deaf_own,Deaf_own,h.d0]
  ·rw[zaa (by decide)]at uZ;subst uZ;rw[zaN T hc0 _ ofEvents_g,zaN s (by decide) _ ofEvents_g,h.d0]
 ·rcases hg with rfl|rfl
  ·rw[zac rfl]at uZ;subst uZ;rw[zaN T (Ne.symm hc0) _ ofEvents_g,zaN s (by decide) _ ofEvents_g,h.dc]
  ·rw[zaa (by decide)]at uZ;subst uZ;rw[Deaf_own,Deaf_own,h.dc]
 ·rintro ⟨q,r,hr,hq,hgq,hh,hrq⟩;rcases zay q s.size with hlt|jN
  ·have pN:=Released.back hr (by omega);exact(h.acq ⟨q,r,pN,by rw[←act?_old hlt];exact hq,by rw[←g?_old hlt];exact hgq,(heard_old hlt).1 hh,hrq⟩).app hnu (abw r hr (by omega))
  ·obtain⟨j,e,rfl,he⟩:=nk jN (qY hgq);rw[Ga,he]at hgq;have hg0:g=0:=by simpa using hgq
   have pN:r<s.size:=by
    rcases zay r s.size with hlt|adG
    ·exact hlt
    ·obtain⟨j',e',rfl,he'⟩:=nk adG (qY hr.g);have:=hr.g;rw[Ga,he',hg0]at this;simp at this
   obtain⟨R,hR,hlt⟩:=abx r hr;refine⟨R,T.size+j,hR,?_,?_,(vF he hd).2 hh,by have:=hlt pN;omega⟩
   ·rw[pW,he]at hq ⊢;exact hq
   ·rw[Ga,he,uZ];simp[hg0]
end
end Go.Ren
set_option linter.unusedSectionVars false
namespace Go.Ren
open Go Go.Conc
open Go.ConcX (Payload Shy stA smA Base CA JInv RCa RCd DCs AtR0 RPa DPi AtKd PA KK WgAt ChanAt Full Aside2 runTX JT CAOut)
section
variable [Payload] {P:Φ}{ty:ϋ}{Wg C Low:Nat} [Shy Wg C] {vals:List Ω}{Mine:Loc→Prop}
def Half (P:Φ)(ty:ϋ)(Wg C Low:Nat) [Shy Wg C] (vals:List Ω)(Mine:Loc→Prop)(μ:Nat×Nat)(b:Γ)(w:Λ)(s:η):Prop:=
 (∃p d1 rc mc rel cl sent vs,μ=(rc,mc)∧sent++vs=vals∧Base Mine ty Wg C vals.length KK 0 sent.toArray cl sent.length 0 0 d1 rel w s p∧CA P ty Wg C Low vals Mine rc d1 rel vs cl mc b w)∨
 (∃p d1 q,μ=(0,q)∧Base Mine ty Wg C vals.length 0 0 vals.toArray true vals.length 0 0 d1 true w s p∧QuitsD P q d1 b)
theorem zm {a b:Γ}{w:Λ}{m':Machine}{ops:Array MemOp}(h:runTX P (duo a b w none) 1=(.next m',ops)):∃b' w' es,ξ P false b w=.go b' w' es∧m'=duo (Conc.woken P b b' w' a) b' w' none∧ops=Δ 1 b.frame.fn b.frame.place es:=by
 rw[duo_eq_crowd]at h;obtain⟨g,g',w',es,hg,hs,hm,ho⟩:=Go.ConcX.runTX_next h;obtain rfl:b=g:=by simpa using hg
 exact⟨g',w',es,hs,by rw[hm];simp[υ,duo],ho⟩
theorem Half.status {μ:Nat×Nat}{b:Γ}{w:Λ}{s:η}(h:Half P ty Wg C Low vals Mine μ b w s):b.status=.running∨b.status=.finished:=by
 rcases h with⟨_,_,_,_,_,_,_,_,_,_,_,hc⟩|⟨_,_,_,_,_,hq⟩
 ·exact .inl hc.running
 ·exact hq.status
theorem Half.jt {μ:Nat×Nat}{b:Γ}{w:Λ}{s:η}(h:Half P ty Wg C Low vals Mine μ b w s):∃p,JT Mine Wg C s p:=by
 rcases h with⟨p,_,_,_,_,_,_,_,_,_,hB,_⟩|⟨p,_,_,_,hB,_⟩
 ·exact⟨p,hB.jt⟩
 ·exact⟨p,hB.jt⟩
theorem Half.woken {μ:Nat×Nat}{b:Γ}{w w':Λ}{s:η}(h:Half P ty Wg C Low vals Mine μ b w s)(x x':Γ):Conc.woken P x x' w' b=b:=by
 rcases h with⟨_,_,_,_,_,_,_,_,_,_,_,hc⟩|⟨_,_,_,_,_,hq⟩
 ·exact woken_run hc.running
 ·exact woken_quitsD hq
theorem Half.rely (hW:Wg<Low)(hC:C<Low){μ:Nat×Nat}{b:Γ}{w w':Λ}{s:η}(h:Half P ty Wg C Low vals Mine μ b w s)(hr:∀b,b<Low→w'.heap[b]?=w.heap[b]?):Half P ty Wg C Low vals Mine μ b w' s:=by
 rcases h with⟨p,d1,rc,mc,rel,cl,sent,vs,e,hs,hB,hc⟩|⟨p,d1,q,e,hB,hq⟩
 ·exact .inl ⟨p,d1,rc,mc,rel,cl,sent,vs,e,hs,⟨hB.wg.of_block (hr Wg hW),hB.ch.of_block (hr C hC),hB.jt,hB.deaf0,hB.deaf1,hB.noacq,hB.rel⟩,hc.rely (Go.ConcX.RCd.toA hW hr)⟩
 ·exact .inr ⟨p,d1,q,e,⟨hB.wg.of_block (hr Wg hW),hB.ch.of_block (hr C hC),hB.jt,hB.deaf0,hB.deaf1,hB.noacq,hB.rel⟩,hq⟩
theorem Half.move (hCW:C≠Wg){μ:Nat×Nat}{b:Γ}{w:Λ}{s:η}(h:Half P ty Wg C Low vals Mine μ b w s)(hb:b.status=.running):∃b' w' es pX,ξ P false b w=.go b' w' es∧Aside2 C Wg w w'∧Lt2 pX μ∧Half P ty Wg C Low vals Mine pX b' w' (s++Δ 1 b.frame.fn b.frame.place es):=by
 rcases h with⟨p,d1,rc,mc,rel,cl,sent,vs,rfl,hs,hB,hc⟩|⟨p,d1,q,rfl,hB,hq⟩
 ·obtain⟨a',b',w',ops,hrun,_,hA,hout⟩:=Go.ConcX.CA.move hCW (a:=ph) (sl:=none) (.inl rfl) hs hB hc (.inl (by simp[ph]));obtain⟨b2,w2,es,hst,hm,rfl⟩:=zm hrun;obtain⟨_,rfl,rfl,_⟩:=Go.ConcX.duo_inj hm;cases hout with
  |stay rc' d1' rel' abz vs' cl' mc' hl hs' QH hc'=>exact⟨b',w',es,(rc',mc'),hst,hA,hl,.inl ⟨p,d1',rc',mc',rel',cl',abz,vs',rfl,hs',QH,hc'⟩⟩
  |lone q _ QH hq=>exact⟨b',w',es,(0,q),hst,hA,.left _ _ (by have:=hc.rank_pos;omega),.inr ⟨p,1,q,rfl,QH,hq⟩⟩
  |met m e _ _=>exact absurd e Go.ConcX.kk1_ne
 ·obtain⟨b',ops,q',d1',hrun,hlt,QH,hq',_⟩:=Go.ConcX.cq_move (a:=ph) (sl:=none) hB hq hb;obtain⟨b2,w2,es,hst,hm,rfl⟩:=zm hrun;obtain⟨_,rfl,rfl,_⟩:=Go.ConcX.duo_inj hm;exact⟨b',w,es,(0,q'),hst,.refl w,.right _ hlt,.inr ⟨p,d1',q',rfl,QH,hq'⟩⟩
theorem Half.inv {AnchW:Γ→Λ→Prop}{Post:Ω→Λ→Prop}{μ:Nat×Nat}{a b:Γ}{w:Λ}{s:η}{sl:Option (Nat×Nat)}(h:Half P ty Wg C Low vals Mine μ b w s){m:Nat}(hp:Goes P true (RPa ty Wg C vals) (DPi Mine Wg C Low) (AtKd P ty Wg C Low vals Mine AnchW) m a w):∃pX,JInv P ty Wg C Low vals Mine AnchW Post pX (duo a b w sl) s:=by
 rcases h with⟨p,d1,rc,mc,rel,cl,sent,vs,rfl,hs,hB,hc⟩|⟨p,d1,q,rfl,hB,hq⟩
 ·exact⟨_,.a a b w sl s p 0 d1 rc mc 4 m rel cl sent vs hs hB (.kd hp) hc⟩
 ·exact⟨_,.c a b w sl s p 0 d1 q 4 m hB (.kd hp) hq⟩
def Nu:η:=((#[]:η).push { g:=0,fn:=0,pos:= "",act:= .go 1 }).push { g:=1,fn:=0,pos:= "",act:= .start }
theorem Half.init {b:Γ}{w:Λ}{n:Nat}(hw:WgAt ty Wg w KK 0)(hG:Goes P false (RCa ty Wg Low) (DCs Mine Wg C) (AtR0 P ty Wg C Low vals) n b w):Half P ty Wg C Low vals Mine (7,n) b w Nu:=by
 obtain⟨h1,h2,h3,h4⟩:=Go.ConcX.JT.init (Mine:=Mine) (Go.ConcX.ST.nil (Wg:=Wg) (C:=C)) (x:={ g:=0,fn:=0,pos:= "",act:= .go 1 }) (y:={ g:=1,fn:=0,pos:= "",act:= .start }) ⟨rfl,rfl⟩ ⟨rfl,rfl⟩;exact .inl ⟨_,0,7,n,false,false,vals,[],rfl,by simp,⟨hw,(λe=>by cases e),h1,h2,h3,(λ_=>h4),(λe=>by cases e)⟩,.r0 hG⟩
end
theorem Nv:Deaf Nu 0=0:=by simp[Nu,Deaf,Trace.deaf]
theorem Nw:Deaf Nu 1=0:=by simp[Nu,Deaf,Trace.deaf]
theorem Cr {a:Addr}{r:Nat}(h:Released a Nu r):False:=by
 have:=h.act;have hlt:=lt_of_act? this;have h2:r<2:=hlt
 match r,h2 with
 |0,_=>simp[Nu,Trace.act?]at this
 |1,_=>simp[Nu,Trace.act?]at this
theorem GL.init {c Wg:Nat}{T:η}(h0:Deaf T 0=0)(hc:Deaf T c=0):GL c Wg Nu T:=
 ⟨by rw[h0,Nv],by rw[hc,Nw],λr hr=>(Cr hr).elim,λ⟨_,_,hr,_⟩=>(Cr hr).elim⟩
end Go.Ren
