import Derived.Conc.CrowdComm
import Derived.Test.YtlhimdjkkiflhaaGreatDoorRet05
set_option maxHeartbeats 8000000
set_option maxRecDepth 100000
open Go renaming Frame→Γ,Goroutine→Δ,World→Θ,Program→Ξ,exitTo→Φ,Value→ζ,yielded→η,stepG→θ,Trace→ξ,FuncId→υ,Operand→φ,undef→χ,execOp→ψ,Event→ω,TypeId→ϊ
open Go.Sem renaming runT→Λ
open Go.MemOp renaming ofEvents→Ω
open Go.Conc renaming crowd→ι
open Go.Region renaming wanted→π
namespace Go.Ren
open Go Go.Conc
open Go.ConcN (sumTo upd sumTo_upd upd_ne upd_same)
def Reach (P:Ξ)(m:Machine)(t:ξ)(Q:Machine→ξ→Prop):Prop:=∃N m' t',runNT P N m t=(.next m',t')∧Q m' t'
section
variable {P:Ξ}{m m':Machine}{t:ξ}{Q Q':Machine→ξ→Prop}{ops:ξ}
theorem Reach.here (h:Q m t):Reach P m t Q:=⟨0,m,t,rfl,h⟩
theorem Reach.step (h:stepT P m=(.next m',ops))(k:Reach P m' (t++ops) Q):Reach P m t Q:=by
 obtain⟨N,a,b,h1,h2⟩:=k;exact⟨N+1,a,b,by simp only[runNT,h];exact h1,h2⟩
theorem Reach.bind (h:Reach P m t Q)(k:∀m t,Q m t→Reach P m t Q'):Reach P m t Q':=by
 obtain⟨N,a,b,h1,h2⟩:=h
 induction N generalizing m t with
 |zero=>
  simp only[runNT,zaf,zbD]at h1;obtain⟨rfl,rfl⟩:=h1;exact k _ _ h2
 |succ N ih=>
  simp only[runNT]at h1;cases hs:stepT P m with
  |mk e ops=>
   rw[hs]at h1;cases e with
   |next m1=>exact Reach.step hs (ih h1)
   |_=>simp at h1
theorem Reach.mono (h:Reach P m t Q)(k:∀m t,Q m t→Q' m t):Reach P m t Q':=h.bind λ_ _ hq=> .here (k _ _ hq)
end
def Es (P:Ξ)(w:Θ)(a:Δ):Prop:=∀x x' d,woken P x x' (w.at d) a=a
theorem Es.run {P:Ξ}{w:Θ}{a:Δ}(h:a.status=.running):Es P w a:=λ_ _ _=>woken_run h
structure eM (P:Ξ) (c:Nat) (t:ξ) (gs:Array Δ) (q:Nat→Nat):Prop where
 size:gs.size=c+1
 pos:0<c
 old:∀i g,0<i→i<c→gs[i]?=some g→QuitsD P (q i) (Deaf t i) g
 above:∀j,c<j→Deaf t j=0
section
variable {P:Ξ}{c:Nat}{t:ξ}{gs:Array Δ}{q:Nat→Nat}{a b a' b':Δ}{w w':Θ}{sl:Option (Nat×Nat)}{es:Array ω}
theorem ofEvents_g {g:Nat}{fn:υ}{pos:String}{es:Array ω}:∀op∈Ω g fn pos es,op.g=g:=λop hop=>by obtain⟨e,_,rfl⟩:=zbe hop;rfl
theorem qX {e:ω}(h:e.mute=true)(a:Addr):MemAct.ofEvent e≠.mark (.release a):=by
 obtain⟨loc,wr,sy⟩:=e;cases loc<;>simp_all [Event.mute];rename_i m;cases m<;>simp_all [MemAct.ofEvent]
theorem eM.get (h:eM P c t gs q){i:Nat}{g:Δ}(hi:gs[i]?=some g):i=0∨i=c∨(0<i∧i<c):=by
 have:=(zaj.1 hi).1;have:=h.size;omega
theorem Hn (hC:eM P c t gs q)(h0:gs[0]?=some a)(hc:gs[c]?=some b)(SJ:awake a)(hwb:awake b)(hrun:a.status=.running∨b.status=.running)(sa:Es P w a)(sb:Es P w b):(a.status=.running∧∃d sl',stepT P (ι gs w sl)=runT P (ι gs (w.at d) sl') 0)∨
 (b.status=.running∧∃d sl',stepT P (ι gs w sl)=runT P (ι gs (w.at d) sl') c)∨
 (∃gs' d sl' ops q',stepT P (ι gs w sl)=(.next (ι gs' (w.at d) sl'),ops)∧eM P c (t++ops) gs' q'∧gs'[0]?=some a∧gs'[c]?=some b∧sumTo c q'<sumTo c q∧(∀op∈ops,op.act.touch? =none∧∀a,op.act≠.mark (.release a))∧(∀B,∀op∈ops,op.act.low B)∧Deaf (t++ops) 0=Deaf t 0∧Deaf (t++ops) c=Deaf t c):=by
 have jT:=hC.pos;have X3:∀g∈gs,awake g:=by
  intro g hg;obtain⟨i,hi,rfl⟩:=zcm.1 hg;have hi':=zaL hi;rcases hC.get hi' with rfl|rfl|⟨h1,h2⟩
  ·rw[h0]at hi';obtain rfl:=zaM hi';exact SJ
  ·rw[hc]at hi';obtain rfl:=zaM hi';exact hwb
  ·exact awake_of ((hC.old i _ h1 h2 hi').status.elim .inl λx=> .inr (.inr x))
 obtain⟨i,g,d,sl',hi,hg,hst⟩:=crowd_pick (P:=P) (w:=w) (sl:=sl) X3 (hrun.elim (λh=>⟨0,a,h0,h⟩) λh=>⟨c,b,hc,h⟩);rcases hC.get hi with rfl|rfl|⟨h1,h2⟩
 ·rw[h0]at hi;obtain rfl:=zaM hi;exact .inl ⟨hg,d,sl',hst⟩
 ·rw[hc]at hi;obtain rfl:=zaM hi;exact .inr (.inl ⟨hg,d,sl',hst⟩)
 ·right;right;have hq:=hC.old i g h1 h2 hi;have WB:(i==0)=false:=by simp;omega
  have hlt:i<gs.size:=(zaj.1 hi).1;cases Ho:q i with
  |zero=>rw[Ho]at hq;rw[hq.1]at hg;cases hg
  |succ k=>
   rw[Ho]at hq;rcases hq with⟨hf,_⟩|⟨_,g',es,hm,Hp,hq'⟩
   ·rw[hf]at hg;cases hg
   have sj:=runT_crowd_go (P:=P) (sl:=sl') (i:=i) hi (by rw[WB];exact Hp (w.at d));have Lv:sumTo c (upd q i k)+(k+1)=sumTo c q+k:=by
    have:=sumTo_upd q k id h2;simpa[Ho]using this
   refine⟨_,d,sl',_,upd q i k,hst.trans sj,⟨by simp[hC.size],jT,λj x hj X5 hx=>?_,λj hj=>?_⟩,?_,?_,by omega,λop hop=>?_,λB op hop=>?_,zaN t (by omega) _ ofEvents_g,zaN t (by omega) _ ofEvents_g⟩
   ·by_cases xK:i=j
    ·subst xK;rw[zbG (by simpa using hlt)]at hx;obtain rfl:=zaM hx;rw[upd_same,Deaf_own];exact hq'
    ·rw[zaA xK,zaz]at hx;obtain⟨y,hy,rfl⟩:=zas.1 hx;have Hq:=hC.old j y hj X5 hy;rw[woken_quitsD Hq,upd_ne q k (Ne.symm xK),zaN t xK _ ofEvents_g];exact Hq
   ·rw[zaN t (g':=i) (by omega) _ ofEvents_g];exact hC.above j hj
   ·rw[zaA (by omega),zaz,h0];simp[sa g g' d]
   ·rw[zaA (by omega),zaz,hc];simp[sb g g' d]
   ·obtain⟨e,he,rfl⟩:=zbe hop;exact⟨touch_mute (hm e he),λa=>qX (hm e he) a⟩
   ·obtain⟨e,he,rfl⟩:=zbe hop;exact low_mute (hm e he) B
theorem sk (hC:eM P c t gs q)(h0:gs[0]?=some a)(hc:gs[c]?=some b)(hs:θ P true a w=.go a' w' es):∃gs',runT P (ι gs w sl) 0=(.next (ι gs' w' sl),Ω 0 a.frame.fn a.frame.place es)∧eM P c (t++Ω 0 a.frame.fn a.frame.place es) gs' q∧gs'[0]?=some a'∧gs'[c]?=some (woken P a a' w' b):=by
 have jT:=hC.pos;have hlt:0<gs.size:=(zaj.1 h0).1;refine⟨_,runT_crowd_go (P:=P) (sl:=sl) (i:=0) h0 (show θ P (0==0) a w=_ from hs),⟨by simp[hC.size],jT,λj x hj X5 hx=>?_,λj hj=>?_⟩,by simp[hlt],?_⟩
 ·rw[zaA (by omega),zaz]at hx;obtain⟨y,hy,rfl⟩:=zas.1 hx;have hq:=hC.old j y hj X5 hy;rw[woken_quitsD hq,zaN t (by omega) _ ofEvents_g];exact hq
 ·rw[zaN t (by omega) _ ofEvents_g];exact hC.above j hj
 ·rw[zaA (by omega),zaz,hc];rfl
theorem kL (hC:eM P c t gs q)(h0:gs[0]?=some a)(hc:gs[c]?=some b)(hs:θ P false b w=.go b' w' es):∃gs',runT P (ι gs w sl) c=(.next (ι gs' w' sl),Ω c b.frame.fn b.frame.place es)∧eM P c (t++Ω c b.frame.fn b.frame.place es) gs' q∧gs'[0]?=some (woken P b b' w' a)∧gs'[c]?=some b':=by
 have jT:=hC.pos;have hlt:c<gs.size:=(zaj.1 hc).1;have hc0:(c==0)=false:=by simp;omega
 refine⟨_,runT_crowd_go (P:=P) (sl:=sl) (i:=c) hc (by rw[hc0];exact hs),⟨by simp[hC.size],jT,λj x hj X5 hx=>?_,λj hj=>?_⟩,?_,by simp[hlt]⟩
 ·rw[zaA (by omega),zaz]at hx;obtain⟨y,hy,rfl⟩:=zas.1 hx;have hq:=hC.old j y hj X5 hy;rw[woken_quitsD hq,zaN t (by omega) _ ofEvents_g];exact hq
 ·rw[zaN t (by omega) _ ofEvents_g];exact hC.above j hj
 ·rw[zaA (by omega),zaz,h0];rfl
theorem dO (t:ξ)(g:Nat)(u:ξ)(hu:∀op∈u,∀m,op.act≠.mark m):Deaf (t++u) g=Deaf t g:=by
 obtain⟨l⟩:=u;rw[Deaf_append];generalize Deaf t g=d
 induction l generalizing d with
 |nil=>rfl
 |cons y l ih=>
  have e1:deafStep g d y=d:=by
   unfold deafStep;split
   ·exact absurd ‹_› (hu y (by simp) _)
   ·exact absurd ‹_› (hu y (by simp) _)
   ·rfl
  rw[List.foldl_cons,e1];exact ih (λop hop=>hu op (by simp at hop ⊢;exact .inr hop)) d
theorem eM.comm (hC:eM P c t gs q){gs':Array Δ}{u:ξ}(hu:∀op∈u,∀m,op.act≠.mark m)(hsz:gs'.size=gs.size)(hg:∀i,i≠0→i≠c→gs'[i]?=gs[i]?):eM P c (t++u) gs' q:=
 ⟨hsz.trans hC.size,hC.pos,λi g h1 h2 hi=>by rw[dO t i u hu];exact hC.old i g h1 h2 (by rw[←hg i (by omega) (by omega)];exact hi),λj hj=>by rw[dO t j u hu];exact hC.above j hj⟩
theorem eM.offers (hC:eM P c t gs q){i ch:Nat}{send:Bool}{g:Δ}(h1:0<i)(h2:i<c)(hi:gs[i]?=some g):offersAt g ch send=[]:=
 offersAt_of_not_blocked (by rcases(hC.old i g h1 h2 hi).status with h|h<;>simp[h]) _ _
theorem kM (hC:eM P c t gs q)(hc:gs[c]?=some b){ch:Nat}{send:Bool}:partners (gs.setIfInBounds 0 ph) ch send=(offersAt b ch send).map λk=>(c,k):=by
 have jT:=hC.pos;refine partners_one (by rw[zaA (by omega)];exact hc) λk x hk hx=>?_;rcases getElem?_stand gs 0 k x hx with⟨_,rfl⟩|⟨h1,h2⟩
 ·rfl
 ·rcases hC.get h2 with h|h|⟨h3,h4⟩
  ·exact absurd h h1
  ·exact absurd h hk
  ·exact hC.offers h3 h4 h2
theorem oA (hC:eM P c t gs q)(h0:gs[0]?=some a){ch:Nat}{send:Bool}:partners (gs.setIfInBounds c ph) ch send=(offersAt a ch send).map λk=>(0,k):=by
 have jT:=hC.pos;refine partners_one (by rw[zaA (by omega)];exact h0) λk x hk hx=>?_;rcases getElem?_stand gs c k x hx with⟨_,rfl⟩|⟨h1,h2⟩
 ·rfl
 ·rcases hC.get h2 with h|h|⟨h3,h4⟩
  ·exact absurd h hk
  ·exact absurd h h1
  ·exact hC.offers h3 h4 h2
variable {ch s r:Nat}{tm:Bool}{z z' v:ζ}{a₂ tY:Δ}
theorem ofEvents_none (g:Nat)(fn:υ)(pos:String):Ω g fn pos #[]=#[]:=rfl
theorem vH (hC:eM P c t gs q)(h0:gs[0]?=some a)(hc:gs[c]?=some b)(hb:b.status≠.blocked)(hs:θ P true a w=.comm a₂ #[rcase ch z] true (.recv true) w #[])(hch:w.heap[ch]?=some (.chan 0 #[] false s r tm)):∃gs',runT P (ι gs w sl) 0=(.next (ι gs' w sl),#[])∧eM P c (t++#[]) gs' q∧gs'[0]?=some (parked a₂ #[rcase ch z] (.recv true))∧gs'[c]?=some b:=by
 have jT:=hC.pos;have hlt:0<gs.size:=(zaj.1 h0).1;have:=crowd_waits (P:=P) (sl:=sl) (i:=0) h0 (show θ P (0==0) a w=_ from hs) λcc hcc=>by
  simp only[zca,zal,zcb,or_false]at hcc;subst hcc;exact ways_recv_none hch (by rw[kM hC hc,offersAt_of_not_blocked hb];rfl)
 refine⟨_,this,hC.comm (by simp) (by simp) λi h1 h2=>?_,by simp[hlt],?_⟩
 ·rw[zaA (Ne.symm h1)]
 ·rw[zaA (by omega)];exact hc
theorem vI (hC:eM P c t gs q)(h0:gs[0]?=some a)(hc:gs[c]?=some b)(ha:a.status≠.blocked)(hs:θ P false b w=.comm tY #[scase ch v z'] true .send w #[])(hch:w.heap[ch]?=some (.chan 0 #[] false s r tm)):∃gs',runT P (ι gs w sl) c=(.next (ι gs' w sl),#[])∧eM P c (t++#[]) gs' q∧gs'[0]?=some a∧gs'[c]?=some (parked tY #[scase ch v z'] .send):=by
 have jT:=hC.pos;have hlt:c<gs.size:=(zaj.1 hc).1;have hc0:(c==0)=false:=by simp;omega
 have:=crowd_waits (P:=P) (sl:=sl) (i:=c) hc (by rw[hc0];exact hs) λcc hcc=>by
  simp only[zca,zal,zcb,or_false]at hcc;subst hcc;exact ways_send_none hch (by simp) (by rw[oA hC h0,offersAt_of_not_blocked ha];rfl)
 refine⟨_,this,hC.comm (by simp) (by simp) λi h1 h2=>?_,?_,by simp[hlt]⟩
 ·rw[zaA (Ne.symm h2)]
 ·rw[zaA (by omega)];exact h0
def OA (ch:Nat)(u:ξ):Prop:=∀op∈u,op.act.touch? =none∧(∀m,op.act≠.mark m)∧∀B,ch<B→op.act.low B
theorem vJ (hC:eM P c t gs q)(h0:gs[0]?=some a)(hc:gs[c]?=some (parked tY #[scase ch v z'] .send))(hs:θ P true a w=.comm a₂ #[rcase ch z] true (.recv true) w #[])(hch:w.heap[ch]?=some (.chan 0 #[] false s r tm)):∃gs' u,runT P (ι gs w sl) 0=(.next (ι gs' (w.setChan ch 0 #[] false (s+1) (r+1) tm) sl),u)∧OA ch u∧eM P c (t++u) gs' q∧gs'[0]?=some (Conc.served a₂ (.tuple #[v,.bool true]))∧gs'[c]?=some (Conc.served tY χ):=by
 have jT:=hC.pos;have hlt:0<gs.size:=(zaj.1 h0).1;have X6:c<gs.size:=(zaj.1 hc).1;have:=crowd_recv_meets (P:=P) (sl:=sl) (i:=0) h0 (show θ P (0==0) a w=_ from hs) hch (by omega) hc (by rw[kM hC hc,offersAt_parked_send,zab rfl];rfl);rw[ofEvents_none]at this;refine⟨_,_,this,λop hop=>?_,hC.comm (λop hop m e=>?_) (by simp) λi h1 h2=>?_,?_,?_⟩
 ·simp at hop;rcases hop with rfl|rfl|rfl|rfl<;>exact⟨rfl,by simp,λB h=>h⟩
 ·simp at hop;rcases hop with rfl|rfl|rfl|rfl<;>simp at e
 ·rw[zaA (Ne.symm h1),zaA (Ne.symm h2)]
 ·simp[hlt,finishComm_recv,recvd]
 ·rw[zaA (by omega),zbG X6,finishComm_send]
theorem vK (hC:eM P c t gs q)(h0:gs[0]?=some (parked a₂ #[rcase ch z] (.recv true)))(hc:gs[c]?=some b)(hs:θ P false b w=.comm tY #[scase ch v z'] true .send w #[])(hch:w.heap[ch]?=some (.chan 0 #[] false s r tm)):∃gs' u,runT P (ι gs w sl) c=(.next (ι gs' (w.setChan ch 0 #[] false (s+1) (r+1) tm) sl),u)∧OA ch u∧eM P c (t++u) gs' q∧gs'[0]?=some (Conc.served a₂ (.tuple #[v,.bool true]))∧gs'[c]?=some (Conc.served tY χ):=by
 have jT:=hC.pos;have hlt:0<gs.size:=(zaj.1 h0).1;have X6:c<gs.size:=(zaj.1 hc).1;have hc0:(c==0)=false:=by simp;omega
 have:=crowd_send_meets (P:=P) (sl:=sl) (i:=c) (j:=0) hc (by rw[hc0];exact hs) hch (by omega) h0 (by rw[oA hC h0,offersAt_parked_recv,zab rfl];rfl);rw[ofEvents_none]at this;refine⟨_,_,this,λop hop=>?_,hC.comm (λop hop m e=>?_) (by simp) λi h1 h2=>?_,?_,?_⟩
 ·simp at hop;rcases hop with rfl|rfl|rfl|rfl<;>exact⟨rfl,by simp,λB h=>h⟩
 ·simp at hop;rcases hop with rfl|rfl|rfl|rfl<;>simp at e
 ·rw[zaA (Ne.symm h2),zaA (Ne.symm h1)]
 ·rw[zaA (by omega),zbG hlt,finishComm_recv];rfl
 ·rw[zbG (by simpa using X6),finishComm_send]
theorem tZ (hC:eM P c t gs q)(h0:gs[0]?=some a)(hc:gs[c]?=some b)(hb:b.status≠.blocked)(hs:θ P true a w=.comm a₂ #[rcase ch z] true (.recv true) w #[])(hch:w.heap[ch]?=some (.chan 0 #[] true s r tm)):∃gs' fn pos,runT P (ι gs w sl) 0=(.next (ι gs' w sl),#[{ g:=0,fn:=fn,pos:=pos,act:= .recvClosed ch }])∧eM P c (t++#[{ g:=0,fn:=fn,pos:=pos,act:= .recvClosed ch }]) gs' q∧gs'[0]?=some (Conc.served a₂ (.tuple #[z,.bool false]))∧gs'[c]?=some b:=by
 have jT:=hC.pos;have hlt:0<gs.size:=(zaj.1 h0).1;have:=crowd_recv_closed (P:=P) (sl:=sl) (i:=0) h0 (show θ P (0==0) a w=_ from hs) hch (by rw[kM hC hc,offersAt_of_not_blocked hb];rfl);rw[ofEvents_none,Array.empty_append]at this;refine⟨_,_,_,this,hC.comm (λop hop m e=>?_) (by simp) λi h1 h2=>?_,?_,?_⟩
 ·simp at hop;subst hop;simp at e
 ·rw[zaA (Ne.symm h1)]
 ·simp[hlt,finishComm_recv,recvd]
 ·rw[zaA (by omega)];exact hc
end
structure NS (Shun:Loc→Prop) (ro own:Nat→Prop) (w:Θ):Prop where
 WC:∀b,own b→b<w.heap.size
 JW:∀b,ro b→b<w.heap.size
 sr:∀l,jS own l∨jS ro l→¬Shun l
 low:∀l,Shun l→l.low w.heap.size
structure Kept (own:Nat→Prop) (w w':Θ):Prop where
 tape:w'.tape=w.tape
 os:w'.os=w.os
 output:w'.output=w.output
 size:w.heap.size≤w'.heap.size
 block:∀b,b<w.heap.size→¬own b→w'.heap[b]?=w.heap[b]?
theorem Kept.refl (own:Nat→Prop)(w:Θ):Kept own w w:=⟨rfl,rfl,rfl,zac _,λ_ _ _=>rfl⟩
theorem fx (ro own:Nat→Prop)(w:Θ)(d:Nat):cq ro own w (w.at d):=⟨rfl,rfl,rfl,zac _,λ_ _=>rfl⟩
theorem Kept.step {ro own:Nat→Prop}{w w₁ w₂:Θ}{es:Array ω}(h:Eo ro own w w₁ es)(k:Kept (Grow own w w₁) w₁ w₂):Kept own w w₂:=
 ⟨k.tape.trans h.tape,k.os.trans h.os,k.output.trans h.output,zag h.size k.size,λb hb hn=>by
   have hs:=h.size;rw[k.block b (by omega) λhg=>hg.elim hn λx=>by omega,h.block b hb hn]⟩
section
variable {P:Ξ}{Shun:Loc→Prop}{ro own:Nat→Prop}{Stop:(Nat→Prop)→Δ→Θ→Prop}
theorem OB {own:Nat→Prop}{w w':Θ}{l:Loc}(h:jS (Grow own w w') l)(hl:l.low w.heap.size):jS own l:=by
 cases l with
 |cell a=>exact h.elim id λx=>by have:a.block<w.heap.size:=hl;omega
 |obj r=>exact h.elim id λx=>by have:r<w.heap.size:=hl;omega
 |_=>exact h
theorem NS.grow {w w':Θ}{es:Array ω}(h:NS Shun ro own w)(hg:Eo ro own w w' es):NS Shun ro (Grow own w w') w':=by
 have hs:=hg.size;refine⟨λb hb=>hb.elim (λx=>by have:=h.WC b x;omega) (·.2),λb hb=>by have:=h.JW b hb;omega,λl hl hS=>?_,λl hl=>Loc.low_mono hs (h.low l hl)⟩;exact h.sr l (hl.imp (λx=>OB x (h.low l hS)) id) hS
theorem NS.at {w:Θ}(h:NS Shun ro own w)(d:Nat):NS Shun ro own (w.at d):=⟨h.WC,h.JW,h.sr,h.low⟩
theorem NS.evL {w w':Θ}{es:Array ω}(h:NS Shun ro own w)(hg:Eo ro own w w' es):∀e∈es,EvL Shun w'.heap.size e:=by
 intro e he;have hn:=h.grow hg;have hE:=hg.evs e he;refine⟨λx hx hs=>absurd hs (hn.sr _ ?_),(oz hE).1,(oz hE).2,JV hn.WC hn.JW hE⟩;exact(Bc hE x hx).imp id (·.1)
def acM (P:Ξ)(Shun:Loc→Prop)(ro:Nat→Prop)(Stop:(Nat→Prop)→Δ→Θ→Prop)(n:Nat)(own:Nat→Prop)(w:Θ)(m:Machine)(t:ξ):Prop:=
 ∃gs own' a' w' sl q,m=ι gs w' sl∧gs.size=n∧gs[0]?=some a'∧(∀w₁,cq ro own' w' w₁→Stop own' a' w₁)∧Leavers P t gs q∧Past Shun w'.heap.size t∧NS Shun ro own' w'∧(∀b,own b→own' b)∧(∀b,own' b→own b∨w.heap.size≤b)∧Kept own w w'
theorem CJ {a:Δ}{w:Θ}(hW:af P true ro Stop own a w):∀(w₁:Θ),cq ro own w w₁→∀(gs:Array Δ) (sl:Option (Nat×Nat)) (t:ξ) (q:Nat→Nat),gs[0]?=some a→Leavers P t gs q→Past Shun w₁.heap.size t→NS Shun ro own w₁→Reach P (ι gs w₁ sl) t (acM P Shun ro Stop gs.size own w₁):=by
 induction hW with
 | @stop own a w h=>
   intro w₁ hr gs sl t q h0 hL hP hN;exact .here ⟨gs,own,a,w₁,sl,q,rfl,rfl,h0,λw₂ h₂=>h w₂ (hr.trans h₂),hL,hP,hN,λ_ x=>x,λ_ x=> .inl x,Kept.refl _ _⟩
 | @step own a w nx nw ne hs h1 h2 _ ih=>
   intro w₁ hr gs sl t q h0 hL hP hN;generalize hM:sumTo gs.size q=M
   induction M using Nat.strongRecOn generalizing w₁ gs sl t q with
   |_ M ihM=>
   have X3:∀g∈gs,awake g:=by
    intro g hg;obtain⟨i,hi,rfl⟩:=zcm.1 hg;rcases zcB i with rfl|jT
    ·have:gs[0]=a:=by simpa[Array.getElem?_eq_getElem hi]using h0
     rw[this];exact awake_of (.inl hs)
    ·exact awake_of ((hL.old i _ jT (zaL hi)).status.elim .inl λx=> .inr (.inr x))
   obtain⟨i,g,d,sl',hi,hg,hst⟩:=crowd_pick (P:=P) (w:=w₁) (sl:=sl) X3 ⟨0,a,h0,hs⟩;have eK:cq ro own w (w₁.at d):=hr.trans (fx ro own w₁ d);rcases zcB i with rfl|jT
   ·obtain rfl:g=a:=by rw[h0]at hi;exact(zaM hi).symm
    have hgo:=h1 _ eK;have SK:=h2 _ eK;have sj:=runT_crowd_go (P:=P) (sl:=sl') (i:=0) hi (show θ P (0==0) g (w₁.at d)=_ from hgo);have hlt:0<gs.size:=(zaj.1 h0).1;have hN':=(hN.at d).grow SK;have hP':=(hP.mono (B':=(nw (w₁.at d)).heap.size) SK.size).own (fn:=g.frame.fn) (pos:=g.frame.place) ((hN.at d).evL SK);refine Reach.step (hst.trans sj) ((ih _ eK _ (cq.refl _ _ _) ((gs.map (woken P g (nx (w₁.at d)) (nw (w₁.at d)))).setIfInBounds 0 (nx (w₁.at d))) sl' _ q (by simp[hlt]) ⟨λj x hj hx=>?_,λj hj=>?_⟩ hP' hN').mono ?_)
    ·rw[zaA (by omega),zaz]at hx;obtain⟨y,hy,rfl⟩:=zas.1 hx;have hq:=hL.old j y hj hy;rw[woken_quitsD hq,zaN t (by omega) _ ofEvents_g];exact hq
    ·rw[zaN t (g':=0) (by simp at hj;omega) _ ofEvents_g];exact hL.above j (by simpa using hj)
    ·rintro m t' ⟨gs',own',a',w',X7,q',e1,e2,e3,e4,e5,e6,e7,e8,e9,OC⟩;have hsz:=SK.size;exact⟨gs',own',a',w',X7,q',e1,by rw[e2];simp,e3,e4,e5,e6,e7,λb hb=>e8 b (.inl hb),λb hb=>(e9 b hb).elim (λx=>x.elim .inl λy=> .inr y.1) (λx=> .inr (zag hsz x)),by have hk:=Kept.step SK OC;exact⟨hk.tape,hk.os,hk.output,hk.size,hk.block⟩⟩
   ·have hq:=hL.old i g jT hi;have WB:(i==0)=false:=by simp;omega
    have hlt:i<gs.size:=(zaj.1 hi).1;cases Ho:q i with
    |zero=>rw[Ho]at hq;rw[hq.1]at hg;cases hg
    |succ k=>
     rw[Ho]at hq;rcases hq with⟨hf,_⟩|⟨_,g',es,hm,Hp,hq'⟩
     ·rw[hf]at hg;cases hg
     have sj:=runT_crowd_go (P:=P) (sl:=sl') (i:=i) hi (by rw[WB];exact Hp (w₁.at d));have hsz:((gs.map (woken P g g' (w₁.at d))).setIfInBounds i g').size=gs.size:=by simp
     have Lv:sumTo gs.size (upd q i k)+(k+1)=sumTo gs.size q+k:=by
      have:=sumTo_upd q k id hlt;simpa[Ho]using this
     have:=ihM (sumTo gs.size (upd q i k)) (by omega) (w₁.at d) eK ((gs.map (woken P g g' (w₁.at d))).setIfInBounds i g') sl' (t++Ω i g.frame.fn g.frame.place es) (upd q i k)
      (by rw[zaA (by omega),zaz,h0];simp[woken_run hs])
      ⟨λj x hj hx=>by
        by_cases xK:i=j
        ·subst xK;rw[zbG (by simpa using hlt)]at hx;obtain rfl:=zaM hx;rw[upd_same,Deaf_own];exact hq'
        ·rw[zaA xK,zaz]at hx;obtain⟨y,hy,rfl⟩:=zas.1 hx;have Hq:=hL.old j y hj hy;rw[woken_quitsD Hq,upd_ne q k (Ne.symm xK),zaN t xK _ ofEvents_g];exact Hq,λj hj=>by
        rw[zaN t (g':=i) (by simp at hj;omega) _ ofEvents_g];exact hL.above j (by simpa using hj)⟩
      (hP.mute (by omega) hm) (hN.at d) (by rw[hsz])
     rw[hsz]at this;refine Reach.step (hst.trans sj) (this.mono ?_);rintro m t' ⟨gs',own',a',w',X7,q',e1,e2,e3,e4,e5,e6,e7,e8,e9,OC⟩;exact⟨gs',own',a',w',X7,q',e1,e2,e3,e4,e5,e6,e7,e8,e9,⟨OC.tape,OC.os,OC.output,OC.size,OC.block⟩⟩
end
end Go.Ren
namespace Go.Ren
open Go Go.Conc
structure dn where
 base:Θ
 lo:Nat
 n0:Nat
 r0:Rn
 at_:Machine→ξ→Prop
 bot:List Γ:=[]
 an:Nat:=0
 ar:Rn:=jR
 ro:Nat→Prop:=λ_=>False
 aao:∀b,ro b→b<base.heap.size∧∀r,lo≤r→r<n0→b≠r0 r:=by exact λ_ h=>h.elim
def dn.mine (Ψ:dn)(x:Nat):Prop:=∃r,Ψ.lo≤r∧r<Ψ.n0∧x=Ψ.r0 r
structure X8 (Ψ:dn) (W:Θ):Prop where
 tape:W.tape=Ψ.base.tape
 os:W.os=Ψ.base.os
 output:W.output=Ψ.base.output
 size:Ψ.base.heap.size≤W.heap.size
 block:∀b,b<Ψ.base.heap.size→¬Ψ.mine b→W.heap[b]?=Ψ.base.heap[b]?
structure SL (n0:Nat) (r0:Rn) (w:Θ) (ρ:Rn):Prop where
 size:n0≤w.heap.size
 same:∀r,r<n0→ρ r=r0 r
theorem SL.refl (w:Θ)(ρ:Rn):SL w.heap.size ρ w ρ:=⟨zac _,λ_ _=>rfl⟩
section
variable {P:Ξ}{F:υ→Bool}{S:Sd}{Ψ:dn}{fr fr':Γ}{cs cs':List Γ}{w w' W:Θ}{ρ:Rn}
def aa (P:Ξ)(S:Sd)(Ψ:dn)(fr:Γ)(cs:List Γ)(w:Θ):Prop:=
 ∀(ρ:Rn) (W:Θ) (gs:Array Δ) (sl:Option (Nat×Nat)) (t:ξ) (q:Nat→Nat) (Shun:Loc→Prop),ja P S ρ w W→iH P S w.heap.size fr→(∀f∈cs,iH P S w.heap.size f)→
  gs[0]?=some (G (cv ρ fr) (cs.map (cv ρ)++Ψ.bot))→Leavers P t gs q→Past Shun W.heap.size t→NS Shun Ψ.ro (Touch S.d ρ w) W→X8 Ψ W→(∀x,Touch S.d ρ w x→Ψ.base.heap.size≤x∨Ψ.mine x)→SL Ψ.n0 Ψ.r0 w ρ→SL Ψ.an Ψ.ar w ρ→Reach P (ι gs W sl) t Ψ.at_
theorem ja.self (h:ja P S ρ w W):WR P S jR w w:=
 ⟨λr o _ ho=>by rw[El];exact ho,h.wr.ok,h.wr.dead,h.wr.closed,λr hr=>by show r=_;omega,λr _ h2=>h2,⟨h.wr.big.d,h.wr.big.g,zaq _,h.wr.big.p,h.wr.big.dp,λ_ _ _=>rfl,λ_ _=> .inr rfl⟩⟩
def OD (P:Ξ)(S:Sd)(Good:Γ→List Γ→Θ→Prop)(bot:List Γ)(n0:Nat)(r0:Rn)(own:Nat→Prop)(g:Δ)(W:Θ):Prop:=
 ∃fr cs w ρ,Good fr cs w∧ja P S ρ w W∧(∀x,Touch S.d ρ w x→own x)∧g=G (cv ρ fr) (cs.map (cv ρ)++bot)∧iH P S w.heap.size fr∧(∀f∈cs,iH P S w.heap.size f)∧SL n0 r0 w ρ
theorem af.co {main:Bool}{ro own:Nat→Prop}{Good:Γ→List Γ→Θ→Prop}{bot:List Γ}{n0:Nat}{r0:Rn}(hG:Good fr cs w)(hS:ja P S ρ w W)(hown:∀x,Touch S.d ρ w x→own x)(hc:iH P S w.heap.size fr)(hcs:∀f∈cs,iH P S w.heap.size f)(h0:SL n0 r0 w ρ):af P main ro (OD P S Good bot n0 r0) own (G (cv ρ fr) (cs.map (cv ρ)++bot)) W:=by
 refine .stop λaS hr=>⟨fr,cs,w,ek ρ w.heap.size aS.heap.size,hG,hS.grow hr.size λx hx=>hr.block x (.inl (hown x hx)),λx hx=>hown x (by rwa[dN]at hx),?_,hc,hcs,⟨h0.size,λr hr=>by rw[bg (zaI hr h0.size)];exact h0.same r hr⟩⟩;rw[eZ hc (ρ:=ρ) (ρ':=ek ρ w.heap.size aS.heap.size) (λr hlt=>(bg hlt).symm) (λ_=>rfl),fw (ρ:=ρ) (ρ':=ek ρ w.heap.size aS.heap.size) (λr hlt=>(bg hlt).symm) (λ_=>rfl) hcs]
theorem NS.sub {Shun:Loc→Prop}{ro own own':Nat→Prop}(h:NS Shun ro own W)(hs:∀x,own' x→own x):NS Shun ro own' W:=
 ⟨λb hb=>h.WC b (hs b hb),h.JW,λl hl=>h.sr l (hl.imp (λx=>by
   cases l with
   |cell a=>exact hs _ x
   |obj r=>exact hs _ x
   |_=>exact x) id),h.low⟩
theorem aa.walk (h:∀ρ W,ja P S ρ w W→iH P S w.heap.size fr→(∀f∈cs,iH P S w.heap.size f)→qc Ψ.ro (Touch S.d ρ w) W→af P true Ψ.ro (OD P S (aa P S Ψ) Ψ.bot w.heap.size ρ) (Touch S.d ρ w) (G (cv ρ fr) (cs.map (cv ρ)++Ψ.bot)) W):aa P S Ψ fr cs w:=by
 intro ρ W gs sl t q Shun hS hc hcs h0 hL hP hN hO hT wH Ar;refine(CJ (h ρ W hS hc hcs ⟨λb hb=>hb.elim (hN.WC b) (hN.JW b),λb hb ht=>(hT b ht).elim (λh1=>by have:=(Ψ.aao b hb).1;omega) λ⟨r,h1,h2,e⟩=>(Ψ.aao b hb).2 r h1 h2 e⟩) W (cq.refl _ _ _) gs sl t q h0 hL hP hN).bind ?_;rintro m t' ⟨gs',own',a',w',sl',q',rfl,_,Au,hst,hL',hP',hN',_,Ej,hK⟩;obtain⟨fr2,cs2,w2,Hr,hG,Oq,hown,rfl,hc2,acN,hon⟩:=hst w' (cq.refl _ _ _);have hsz:=hO.size;exact hG Hr w' gs' sl' t' q' Shun Oq hc2 acN Au hL' hP' (hN'.sub hown)
  ⟨hK.tape.trans hO.tape,hK.os.trans hO.os,hK.output.trans hO.output,zag hsz hK.size,λb hb hm=>(hK.block b (by omega) λht=>(hT b ht).elim (λh=>by omega) hm).trans (hO.block b hb hm)⟩
  (λx hx=>(Ej x (hown x hx)).elim (hT x) λe=> .inl (by omega)) ⟨zag wH.size hon.size,λr hr=>(hon.same r (zaI hr wH.size)).trans (wH.same r hr)⟩ ⟨zag Ar.size hon.size,λr hr=>(hon.same r (zaI hr Ar.size)).trans (Ar.same r hr)⟩
theorem aa.re (h:aa P S Ψ fr cs w)(e:w'.heap=w.heap):aa P S Ψ fr cs w':=by
 intro ρ W gs sl t q Shun hS hc hcs h0 hL hP hN hO hT wH Ar;have TE:ja P S ρ w W:=hS.acI e.symm;have ht:Touch S.d ρ w'=Touch S.d ρ w:=by unfold Touch;rw[e]
 rw[e]at hc hcs;rw[ht]at hN hT;exact h ρ W gs sl t q Shun TE hc hcs h0 hL hP hN hO hT ⟨by have:=wH.size;rwa[e]at this,wH.same⟩ ⟨by have:=Ar.size;rwa[e]at this,Ar.same⟩
theorem aa.silent (hst:∀ρ W,θ P true (G (cv ρ fr) (cs.map (cv ρ)++Ψ.bot)) W=.go (G (cv ρ fr') (cs'.map (cv ρ)++Ψ.bot)) W #[])
 (fK:iH P S w.heap.size fr→(∀f∈cs,iH P S w.heap.size f)→iH P S w.heap.size fr'∧∀f∈cs',iH P S w.heap.size f)(k:aa P S Ψ fr' cs' w):aa P S Ψ fr cs w:=
 aa.walk λρ W hS hc hcs hR=>by
  obtain⟨h1,h2⟩:=fK hc hcs;refine af.silent rfl (λaS=>?_) (af.co k hS (λ_ h=>h) h1 h2 (SL.refl _ _));exact hst ρ aS
def _root_.Go.Act.rn (a:Act)(ρ:Rn):Act:={ a with tmps:=a.tmps.map (rv ρ) }
theorem mP (b:Γ)(a:Act)(k:List Item):cv ρ (b.at a k)=b.at (a.rn ρ) k:=rfl
def OE (_P:Ξ)(S:Sd)(n:Nat)(a:Act):Prop:=∀v∈a.tmps,rv (sg S S.d n) v=v
theorem getD_map (c:Array ζ)(i:Nat):(c.map (rv ρ)).getD i χ=rv ρ (c.getD i χ):=by
 simp only[zbE,zaz];cases c[i]? with
 |none=>simp[eu]
 |some v=>simp
theorem CK (a:Act):(a.rn ρ).eval=fL λt=>rv ρ (a.tmps.getD t χ):=by
 funext x;cases x with
 |tmp t=>exact getD_map _ _
 |_=>rfl
theorem pF (a:Act):a.eval=fL λt=>a.tmps.getD t χ:=by
 funext x;cases x<;>rfl
theorem OE.get {n:Nat}{a:Act}(h:OE P S n a)(t:Nat):rv (sg S S.d n) (a.tmps.getD t χ)=a.tmps.getD t χ:=by
 rw[zbE];cases he:a.tmps[t]? with
 |none=>simp[eu]
 |some v=>simp;exact h v (zbF he)
theorem Hs (a:Act)(d:Option Tmp)(v:ζ):(a.rn ρ).put d (rv ρ v)=(a.put d v).rn ρ:=by
 cases d with
 |none=>rfl
 |some d=>simp[Act.put,Act.rn,Array.map_setIfInBounds]
theorem OE.put {n:Nat}{a:Act}(h:OE P S n a)(d:Option Tmp){v:ζ}(hv:rv (sg S S.d n) v=v):OE P S n (a.put d v):=by
 cases d with
 |none=>exact h
 |some d=>
  intro x hx;have tJ:x∈a.tmps.setIfInBounds d v:=hx;rcases Array.mem_or_eq_of_mem_setIfInBounds tJ with h1|h1
  ·exact h x h1
  ·rw[h1];exact hv
section
variable {b:Γ}{a:Act}{ops:Array Oper}{i:Nat}{rest:List Nat}{o:Oper}{kk:List Item}
theorem aa.JU (hC:lp P F S)(cG:fo P F S o.op=true)(ho:ops[i]?=some o)(hw:π o (η ops a.tmps)=true)(hk:b.kind≠.early)
 (h:∀τ d,∃v w',(ψ a.eval o).run P (w.re τ d)=.ok (.value v) w'∧aa P S Ψ (b.at (a.put o.dst v) (.inRegion ops rest::kk)) cs w'):aa P S Ψ (b.at a (.inRegion ops (i::rest)::kk)) cs w:=
 aa.walk λρ W hS hc hcs hR=>by
  have hca:OE P S w.heap.size a:=hc;refine af.JU (a:=a.rn ρ) (b:=b) (T:=λt=>a.tmps.getD t χ) hC cG ho (by show π o (η ops (a.tmps.map (rv ρ)))=true;rw[show η ops (a.tmps.map (rv ρ))=η ops a.tmps from funext λj=>ov ops a.tmps j];exact hw) hk (λt=>hca.get t) hS (λ_ h=>h) (by rw[CK]) (by rw[←pF];exact h)
   (λv w' ρ' W' own' hq TE rF hsz fK hown _ _ _=>?_) hR
  have Nv:(a.rn ρ).put o.dst (rv ρ' v)=(a.put o.dst v).rn ρ':=by
   have e:a.rn ρ=a.rn ρ':=by
    unfold Act.rn;rw[et λx hx=>agree (σ:=sg S S.d w.heap.size) (λr hr=>(rF r (bY.1 hr).2).symm) (λy _=>(Er hS TE y).symm) x (hca x hx)]
   rw[e,Hs]
  have acO:cs.map (cv ρ)=cs.map (cv ρ'):=fw (λr hr=>(rF r hr).symm) (λx=>(Er hS TE x).symm) hcs;rw[Nv,acO];exact af.co (fr:=b.at (a.put o.dst v) (.inRegion ops rest::kk)) hq TE hown (OE.put (P:=P) (λx hx=>eY (dY hsz).1 (dY hsz).2 x (hca x hx)) o.dst fK) (λf hf=>iJ hsz (hcs f hf)) ⟨hsz,rF⟩
end
end
section
variable {P:Ξ}{F:υ→Bool}{S:Sd}{Ψ:dn}{fr fr':Γ}{cs cs':List Γ}{w w' W:Θ}{ρ:Rn}{b:Γ}{a:Act}{k:List Item}
theorem aa.ctl {k':List Item}(hst:∀(a:Act) (cs:List Γ) W,θ P true (G (b.at a k) cs) W=.go (G (b.at a k') cs) W #[])(h:aa P S Ψ (b.at a k') cs w):aa P S Ψ (b.at a k) cs w:=
 aa.silent (fr':=b.at a k') (cs':=cs) (λρ W=>by rw[mP,mP];exact hst _ _ _) (λh1 h2=>⟨h1,h2⟩) h
theorem aa.seq {x y:Code}(h:aa P S Ψ (b.at a (.code x::.code y::k)) cs w):aa P S Ψ (b.at a (.code (.seq x y)::k)) cs w:=aa.ctl (λ_ _ _=>zaV) h
theorem aa.skip (h:aa P S Ψ (b.at a k) cs w):aa P S Ψ (b.at a (.code .skip::k)) cs w:=aa.ctl (λ_ _ _=>stepG_skip) h
theorem aa.region {id:Nat}{ops:Array Oper}(h:aa P S Ψ (b.at a (.inRegion ops (List.range ops.size)::k)) cs w):aa P S Ψ (b.at a (.code (.region id ops false)::k)) cs w:=aa.ctl (λ_ _ _=>zaW) h
theorem CM {c:φ}{t:Bool}(h:a.eval c=.bool t):(a.rn ρ).eval c=.bool t:=by
 rw[CK];rw[pF]at h;cases c with
 |tmp i=>
  simp only[fL]at h ⊢;rw[h];simp[rv]
 |const v=>exact h
 |global g=>exact h
 |func f=>exact h
theorem aa.cond {c:φ}{x y:Code}{t:Bool}(hc:a.eval c=.bool t)(h:aa P S Ψ (b.at a (.code (if t then x else y)::k)) cs w):aa P S Ψ (b.at a (.code (.cond c x y)::k)) cs w:=
 aa.silent (fr':=b.at a (.code (if t then x else y)::k)) (cs':=cs) (λρ W=>by rw[mP,mP];exact stepG_cond (CM hc)) (λh1 h2=>⟨h1,h2⟩) h
def gA (b:Γ)(a:Act)(k:List Item):Γ:={ b.at a k with mode:= .returning }
theorem TH:cv ρ (gA b a k)=gA b (a.rn ρ) k:=rfl
theorem Et {main:Bool}{ops:Array Oper}{i:Nat}{rest:List Nat}{o:Oper}{kk:List Item}(ho:ops[i]?=some o)(hw:π o (η ops a.tmps)=true)(hk:b.kind≠.early){f:υ}{xs:Array φ}{ats:Array ϊ}(hop:o.op=.call { callee:= .value (.func f),args:=xs,argTypes:=ats })
 (vL:(P.funcs[f]?).any (λfn=>fn.body.isSome)=true)(OG:(P.funcs[f]?).any (λfn=>fn.name != "runtime.NumGoroutine")=true):
 θ P main (G (b.at a (.inRegion ops (i::rest)::kk)) cs) w=.go (G (Γ.enter P f (xs.map a.eval) .normal) (b.at a (.inRegion ops (i::rest)::kk)::cs)) w #[]:=by
 cases hf:P.funcs[f]? with
 |none=>rw[hf]at vL;simp at vL
 |some fn=>
  rw[hf]at vL OG;simp only[Option.any_some]at vL OG;obtain⟨cc,hcc⟩:=zcc.1 vL;have hne:¬fn.name= "runtime.NumGoroutine" :=by simpa using OG
  have hr:(ψ a.eval o).run P w=.ok (.enter f (xs.map a.eval)) w:=by
   unfold ψ;simp[hop,resolve,invoke,callFunc,hf,hcc,hne,Act.eval,Deferred.ofValue,go_sem]
  have he:(ψ a.eval o).events P w #[]=#[]:=by
   unfold ψ;simp[hop,resolve,invoke,callFunc,hf,hcc,hne,Act.eval,Deferred.ofValue,go_sem]
  rw[stepG_enter ho hw hk hr,listed_none he]
theorem TJ (hf:rV S ρ){xs:Array φ}(hx:xs.all (gD S)=true):xs.map (a.rn ρ).eval=(xs.map a.eval).map (rv ρ):=by
 rw[zcl];refine Array.map_congr_left λx hm=>?_;have:=zcd.1 hx x hm;show(a.rn ρ).eval x=rv ρ (a.eval x);rw[CK,pF];exact Ou this hf
theorem TK {n:Nat}(hn:S.g≤n)(h:OE P S n a){xs:Array φ}(hx:xs.all (gD S)=true):∀v∈xs.map a.eval,rv (sg S S.d n) v=v:=by
 intro v hv;obtain⟨x,hm,rfl⟩:=Array.mem_map.1 hv;have:=zcd.1 hx x hm;rw[pF];exact JR hn (λt=>h.get t) this
theorem Eu {n:Nat}{f:υ}{args:Array ζ}(h:∀v∈args,rv (sg S S.d n) v=v):iH P S n (Γ.enter P f args .normal):=by
 have e:cv (sg S S.d n) (Γ.enter P f args .normal)=Γ.enter P f args .normal:=by
  rw[←il,bF.2 h]
 exact tU e
theorem aa.TL (hst:∀ρ:Rn,rV S ρ→∀W,θ P true (G (cv ρ fr) (cs.map (cv ρ)++Ψ.bot)) W=.go (G (cv ρ fr') (cs'.map (cv ρ)++Ψ.bot)) W #[])
 (fK:S.g≤w.heap.size→iH P S w.heap.size fr→(∀f∈cs,iH P S w.heap.size f)→iH P S w.heap.size fr'∧∀f∈cs',iH P S w.heap.size f)(k:aa P S Ψ fr' cs' w):aa P S Ψ fr cs w:=
 aa.walk λρ W hS hc hcs _=>by
  obtain⟨h1,h2⟩:=fK hS.wr.big.g hc hcs;exact af.silent rfl (λaS=>hst ρ hS.fix aS) (af.co k hS (λ_ h=>h) h1 h2 (SL.refl _ _))
theorem aa.enter {ops:Array Oper}{i:Nat}{rest:List Nat}{o:Oper}{kk:List Item}(ho:ops[i]?=some o)(hw:π o (η ops a.tmps)=true)(hk:b.kind≠.early){f:υ}{xs:Array φ}{ats:Array ϊ}(hop:o.op=.call { callee:= .value (.func f),args:=xs,argTypes:=ats })
 (vL:(P.funcs[f]?).any (λfn=>fn.body.isSome)=true)(OG:(P.funcs[f]?).any (λfn=>fn.name != "runtime.NumGoroutine")=true)(hx:xs.all (gD S)=true)
 (h:aa P S Ψ (Γ.enter P f (xs.map a.eval) .normal) (b.at a (.inRegion ops (i::rest)::kk)::cs) w):aa P S Ψ (b.at a (.inRegion ops (i::rest)::kk)) cs w:=by
 refine aa.TL (λρ wH W=>?_) (λh0 h1 h2=>⟨Eu (TK (P:=P) h0 h1 hx),λg hg=>?_⟩) h
 ·rw[zaB,mP,←il,←TJ wH hx];refine Et ho ?_ hk hop vL OG;show π o (η ops (a.tmps.map (rv ρ)))=true;rw[show η ops (a.tmps.map (rv ρ))=η ops a.tmps from funext λj=>ov ops a.tmps j];exact hw
 ·rcases zal.1 hg with rfl|hg
  ·exact h1
  ·exact h2 g hg
end
def j0 (ρ σ:Rn):Rn:={ b:=λr=>ρ (σ r),f:=λx=>ρ.f (σ.f x),d:=ρ.d }
theorem eR {f g h:ζ→ζ}{cs:Array ζ}(e:∀x∈cs,f (g x)=h x):(cs.map g).map f=cs.map h:=by
 rw[zcl];exact Array.map_congr_left λx hx=>e x hx
theorem iL (ρ σ:Rn):∀v:ζ,rv ρ (rv σ v)=rv (j0 ρ σ) v
 |.pointer none=>by simp[rv]
 |.pointer (some a)=>by simp[rv,ra,j0]
 |.slice none _ _=>by simp[rv]
 |.slice (some a) l c=>by simp[rv,ra,j0]
 |.map none=>by simp[rv]
 |.map (some r)=>by simp[rv,j0]
 |.chan none=>by simp[rv]
 |.chan (some r)=>by simp[rv,j0]
 |.func fn first captured=>by
  simp only[rv,ζ.func.injEq];refine⟨rfl,eR λx hx=>?_,eR λx hx=>?_⟩
  ·have:=zbj hx;exact iL ρ σ x
  ·have:=zbj hx;exact iL ρ σ x
 |.iface t v=>by simp only[rv,ζ.iface.injEq,true_and];exact iL ρ σ v
 |.agg cs=>by
  simp only[rv,ζ.agg.injEq];refine eR λx hx=>?_;have:=zbj hx;exact iL ρ σ x
 |.tuple cs=>by
  simp only[rv,ζ.tuple.injEq];refine eR λx hx=>?_;have:=zbj hx;exact iL ρ σ x
 |.bool _=>by simp[rv]
 |.int _ _=>by simp[rv]
 |.float _ _=>by simp[rv]
 |.complex _ _ _=>by simp[rv]
 |.string _=>by simp[rv]
 |.nilFunc=>by simp[rv]
 |.nilIface=>by simp[rv]
termination_by v=>SizeOf.sizeOf v
theorem JX (ρ σ:Rn)(o:Obj):ro ρ (ro σ o)=ro (j0 ρ σ) o:=by
 cases o with
 |cells c t f=>simp only[ro,Obj.cells.injEq,zay];exact eR λx _=>iL ρ σ x
 |pending c t=>simp only[ro,Obj.pending.injEq,zay];exact eR λx _=>iL ρ σ x
 |chan a b c d e f=>simp only[ro,Obj.chan.injEq,true_and,zay];exact eR λx _=>iL ρ σ x
 |view a t=>simp[ro,ra,j0]
 |number a t=>simp[ro,ra,j0]
 |map es c=>
  simp only[ro,Obj.map.injEq,zay,zcl];refine Array.map_congr_left λe _=>?_;simp[iL]
 |_=>rfl
theorem OH {ρ:Rn}{o:Obj}(h:l6 o):l6 (ro ρ o):=by
 cases o<;>first|exact h|trivial
def Bf (g0 n:Nat):Rn:={ b:=λr=>if g0≤r then n+(r-g0)else r,f:=id,d:=0 }
def Bg (ρ gB:Rn)(g0 n m N:Nat):Rn:={ b:=λr=>if r<n then ρ r else if r<n+(m-g0)then gB (g0+(r-n))else N+(r-(n+(m-g0))),f:=ρ.f,d:=ρ.d }
def Ht (P:Ξ)(w w₂:Θ):Θ:={ w with heap:=w.heap++(w₂.heap.extract P.globals.size w₂.heap.size).map (ro (Bf P.globals.size w.heap.size)) }
structure Two (P:Ξ) (S jc:Sd):Prop where
 z:jc.d=P.globals.size
 dp:S.d≤P.globals.size
 f:∀g,jc g=true→S g=true
section
variable {P:Ξ}{S jc:Sd}{ρ gB:Rn}{w w₂ W:Θ}
theorem pG (h:P.globals.size≤w₂.heap.size):(Ht P w w₂).heap.size=w.heap.size+(w₂.heap.size-P.globals.size):=by
 simp only[Ht,Array.size_append,Array.size_map,Array.size_extract];omega
theorem Hu {r:Nat}(h:r<w.heap.size):(Ht P w w₂).heap[r]?=w.heap[r]?:=by
 simp only[Ht];rw[Array.getElem?_append_left h]
theorem OI {r:Nat}(h1:P.globals.size≤r)(h2:r<w₂.heap.size):(Ht P w w₂).heap[w.heap.size+(r-P.globals.size)]?=(w₂.heap[r]?).map (ro (Bf P.globals.size w.heap.size)):=by
 simp only[Ht];rw[Array.getElem?_append_right (by omega),zaz,show w.heap.size+(r-P.globals.size)-w.heap.size=r-P.globals.size by omega,Array.getElem?_extract,zab (by omega),show P.globals.size+(r-P.globals.size)=r by omega]
theorem Hv {r:Nat}{o:Obj}(hb:P.globals.size≤w₂.heap.size)(h:(Ht P w w₂).heap[r]?=some o):(r<w.heap.size∧w.heap[r]?=some o)∨∃r₂ xL,P.globals.size≤r₂∧r₂<w₂.heap.size∧r=w.heap.size+(r₂-P.globals.size)∧w₂.heap[r₂]?=some xL∧o=ro (Bf P.globals.size w.heap.size) xL:=by
 rcases zaw r w.heap.size with hlt|jB
 ·rw[Hu hlt]at h;exact .inl ⟨hlt,h⟩
 ·right;have hs:=(zaj.1 h).1;rw[pG hb]at hs;have h2:P.globals.size+(r-w.heap.size)<w₂.heap.size:=by omega
  have e:r=w.heap.size+(P.globals.size+(r-w.heap.size)-P.globals.size):=by omega
  rw[e,OI (by omega) h2]at h;obtain⟨xL,h3,h4⟩:=zas.1 h;exact⟨_,xL,by omega,h2,e,h3,h4.symm⟩
theorem aap (T:Two P S jc)(h:ja P S ρ w W)(h₂:ja P jc gB w₂ W){v:ζ}(hc:Cl P jc w₂ v):rv (Bg ρ gB P.globals.size w.heap.size w₂.heap.size W.heap.size) (rv (Bf P.globals.size w.heap.size) v)=rv gB v:=by
 rw[iL];refine agree (σ:=sg jc jc.d w₂.heap.size) (λr hr=>?_) (λx _=>?_) v hc
 ·obtain⟨h1,h2⟩:=bY.1 hr;rw[T.z]at h1;simp only[j0,Bf,Bg,zab h1];rw[zaa (by omega),zab (by omega)]
  congr 1
  omega
 ·simp only[j0,Bf,Bg,id];rw[h.f,h₂.f]
theorem aaq (T:Two P S jc)(h:ja P S ρ w W)(h₂:ja P jc gB w₂ W){o:Obj}(hc:ro (sg jc jc.d w₂.heap.size) o=o):ro (Bg ρ gB P.globals.size w.heap.size w₂.heap.size W.heap.size) (ro (Bf P.globals.size w.heap.size) o)=ro gB o:=by
 rw[JX];refine tO (σ:=sg jc jc.d w₂.heap.size) (λr hr=>?_) (λx _=>?_) hc
 ·obtain⟨h1,h2⟩:=bY.1 hr;rw[T.z]at h1;simp only[j0,Bf,Bg,zab h1];rw[zaa (by omega),zab (by omega)]
  congr 1
  omega
 ·simp only[j0,Bf,Bg,id];rw[h.f,h₂.f]
theorem aar (T:Two P S jc)(hb:P.globals.size≤w.heap.size)(kN:P.globals.size≤w₂.heap.size){v:ζ}(hc:Cl P jc w₂ v):Cl P S (Ht P w w₂) (rv (Bf P.globals.size w.heap.size) v):=by
 unfold Cl;rw[iL];refine agree (σ:=sg jc jc.d w₂.heap.size) (λr hr=>?_) (λx hx=>?_) v hc
 ·obtain⟨h1,h2⟩:=bY.1 hr;rw[T.z]at h1;simp only[j0,Bf,zab h1];exact bY.2 ⟨by have:=T.dp;omega,by rw[pG kN];omega⟩
 ·simp only[j0,Bf,id];obtain⟨g,rfl,hg⟩:=iD.1 hx;exact iD.2 ⟨g,rfl,T.f g hg⟩
theorem X9 (T:Two P S jc)(hb:P.globals.size≤w.heap.size)(kN:P.globals.size≤w₂.heap.size){o:Obj}(hc:ro (sg jc jc.d w₂.heap.size) o=o):ro (sg S S.d (Ht P w w₂).heap.size) (ro (Bf P.globals.size w.heap.size) o)=ro (Bf P.globals.size w.heap.size) o:=by
 rw[JX];refine tO (σ:=sg jc jc.d w₂.heap.size) (λr hr=>?_) (λx hx=>?_) hc
 ·obtain⟨h1,h2⟩:=bY.1 hr;rw[T.z]at h1;simp only[j0,Bf,zab h1];exact bY.2 ⟨by have:=T.dp;omega,by rw[pG kN];omega⟩
 ·simp only[j0,Bf,id];obtain⟨g,rfl,hg⟩:=iD.1 hx;exact iD.2 ⟨g,rfl,T.f g hg⟩
theorem ja.merge (T:Two P S jc)(h:ja P S ρ w W)(h₂:ja P jc gB w₂ W)(hd:∀b,Touch S.d ρ w b→¬Touch jc.d gB w₂ b):ja P S (Bg ρ gB P.globals.size w.heap.size w₂.heap.size W.heap.size) (Ht P w w₂) W:=by
 have hb:=h.wr.big.p;have kN:=h₂.wr.big.p;have qz:=T.dp;have hz:=T.z;have hs:=pG (w:=w) kN;have rF:∀r,r<w.heap.size→Bg ρ gB P.globals.size w.heap.size w₂.heap.size W.heap.size r=ρ r:=λr hr=>by simp only[Bg,zab hr]
 have mQ:∀r,P.globals.size≤r→r<w₂.heap.size→Bg ρ gB P.globals.size w.heap.size w₂.heap.size W.heap.size (w.heap.size+(r-P.globals.size))=gB r:=λr h1 h2=>by
  simp only[Bg];rw[zaa (by omega),zab (by omega)]
  congr 1
  omega
 have qa:∀r,w.heap.size+(w₂.heap.size-P.globals.size)≤r→Bg ρ gB P.globals.size w.heap.size w₂.heap.size W.heap.size r=W.heap.size+(r-(w.heap.size+(w₂.heap.size-P.globals.size))):=λr hr=>by
  simp only[Bg];rw[zaa (by omega),zaa (by omega)]
 have cs:∀r,r<w.heap.size∨(∃r₂,P.globals.size≤r₂∧r₂<w₂.heap.size∧r=w.heap.size+(r₂-P.globals.size))∨w.heap.size+(w₂.heap.size-P.globals.size)≤r:=λr=>by
  rcases zaw r w.heap.size with h1|h1
  ·exact .inl h1
  ·rcases zaw r (w.heap.size+(w₂.heap.size-P.globals.size))with h2|h2
   ·exact .inr (.inl ⟨P.globals.size+(r-w.heap.size),by omega,by omega,by omega⟩)
   ·exact .inr (.inr h2)
 refine⟨⟨λr o jB ho=>?_,λr o ho=>?_,λr hr=>?_,λr o jB ho=>?_,λr hr=>?_,λr h1 h2=>?_,?_⟩,λa b e=>?_,λr=>?_,h.f,h.qb⟩
 ·rcases Hv kN ho with⟨h1,h2⟩|⟨r₂,xL,h1,h2,rfl,h3,rfl⟩
  ·rw[rF r h1,h.wr.live r o jB h2]
   congr 1
   exact tO (σ:=sg S S.d w.heap.size) (λx hx=>(rF x (bY.1 hx).2).symm) (λ_ _=>rfl) (h.wr.closed r o jB h2)
  ·rw[mQ r₂ h1 h2,aaq T h h₂ (h₂.wr.closed r₂ xL (by omega) h3)];exact h₂.wr.live r₂ xL (by omega) h3
 ·rcases Hv kN ho with⟨h1,h2⟩|⟨r₂,xL,h1,h2,rfl,h3,rfl⟩
  ·exact h.wr.ok r o h2
  ·exact OH (h₂.wr.ok r₂ xL h3)
 ·rw[Hu (by omega)];exact h.wr.dead r hr
 ·rcases Hv kN ho with⟨h1,h2⟩|⟨r₂,xL,h1,h2,rfl,h3,rfl⟩
  ·have:=h.wr.closed r o jB h2;have e:=tO (σ:=sg S S.d w.heap.size) (ρ:=sg S S.d (Ht P w w₂).heap.size) (ρ':=sg S S.d w.heap.size) (λx hx=>by
    rw[hx];exact bY.2 ⟨(bY.1 hx).1,by have:=(bY.1 hx).2;rw[hs];omega⟩) (λx hx=>by rw[hx];exact iD.2 (iD.1 hx)) this
   rw[e];exact this
  ·exact X9 T hb kN (h₂.wr.closed r₂ xL (by omega) h3)
 ·rw[hs]at hr ⊢;exact qa r hr
 ·rw[hs]at h2;rcases cs r with h3|⟨r₂,h3,h4,rfl⟩|h3
  ·rw[rF r h3];exact h.wr.low r h1 h3
  ·rw[mQ r₂ h3 h4];exact h₂.wr.low r₂ (by omega) h4
  ·omega
 ·rw[hs];exact⟨by omega,by have:=h.wr.big.g;omega,h.wr.big.r,by omega,qz,λg h1 h2=>by rw[rF g (by have:=h.wr.big.g;omega)];exact h.wr.big.fg g h1 h2,λg h1=>by rw[rF g (by omega)];exact h.wr.big.fl g h1⟩
 ·rcases cs a with ha|⟨a₂,ha1,ha2,rfl⟩|ha<;>rcases cs b with hb'|⟨tY,hb1,hb2,rfl⟩|hb'
  ·rw[rF a ha,rF b hb']at e;exact h.inj a b e
  ·rw[rF a ha,mQ tY hb1 hb2]at e;rcases zaw a P.globals.size with hl|hl
   ·have g1:=(h.lr a).2 hl;rw[e]at g1;have:=(h₂.lr tY).1 g1;omega
   ·exact absurd ⟨tY,by omega,hb2,e⟩ (hd (ρ a) ⟨a,by omega,ha,rfl⟩)
  ·rw[rF a ha,qa b hb']at e;have:=h.low ha;omega
  ·rw[mQ a₂ ha1 ha2,rF b hb']at e;rcases zaw b P.globals.size with hl|hl
   ·have g1:=(h.lr b).2 hl;rw[←e]at g1;have:=(h₂.lr a₂).1 g1;omega
   ·exact absurd ⟨a₂,by omega,ha2,e.symm⟩ (hd (ρ b) ⟨b,by omega,hb',rfl⟩)
  ·rw[mQ a₂ ha1 ha2,mQ tY hb1 hb2]at e;have:=h₂.inj a₂ tY e;omega
  ·rw[mQ a₂ ha1 ha2,qa b hb']at e;have:=h₂.low ha2;omega
  ·rw[qa a ha,rF b hb']at e;have:=h.low hb';omega
  ·rw[qa a ha,mQ tY hb1 hb2]at e;have:=h₂.low hb2;omega
  ·rw[qa a ha,qa b hb']at e;omega
 ·rcases cs r with h3|⟨r₂,h3,h4,rfl⟩|h3
  ·rw[rF r h3];exact h.lr r
  ·rw[mQ r₂ h3 h4];have:=h₂.lr r₂;constructor
   ·intro q;have:=this.1 q;omega
   ·intro q;omega
  ·rw[qa r h3];have:=h.qb;constructor<;>intro<;>omega
theorem Ew (T:Two P S jc)(kN:P.globals.size≤w₂.heap.size){b:Nat}(ht:Touch S.d (Bg ρ gB P.globals.size w.heap.size w₂.heap.size W.heap.size) (Ht P w w₂) b):Touch S.d ρ w b∨Touch jc.d gB w₂ b:=by
 obtain⟨r,h1,h2,rfl⟩:=ht;rw[pG kN]at h2;rcases zaw r w.heap.size with hlt|jB
 ·exact .inl ⟨r,h1,hlt,by simp only[Bg,zab hlt]⟩
 ·refine .inr ⟨P.globals.size+(r-w.heap.size),by have:=T.z;omega,by omega,?_⟩;simp only[Bg];rw[zaa (by omega),zab (by omega)]
theorem Ya {base:Nat}{e:ϊ}{z:Nat}{v:ζ}{n:Nat}{xs:List ζ}(hb:P.globals.size≤base)(h:w₂.ownsRow base e z v n xs)(hx:∀x∈xs,rv (Bf P.globals.size w.heap.size) x=x):(Ht P w w₂).ownsRow w.heap.size e z (rv (Bf P.globals.size w.heap.size) v) n xs:=by
 refine⟨h.1,?_⟩;rcases h.2 with⟨rfl,h0⟩|⟨g,cap,cur,rfl,h1,h2,h3,h4,h5,h6⟩
 ·exact .inl ⟨by simp[rv],h0⟩
 ·refine .inr ⟨w.heap.size+(g-P.globals.size),cap,cur.map (rv (Bf P.globals.size w.heap.size)),?_,by omega,?_,h3,h4,by simpa using h5,?_⟩
  ·simp only[rv,zbp,ra,Bf,zab (show P.globals.size≤g by omega)]
  ·rw[OI (by omega) (zaj.1 h2).1,h2];rfl
  ·rw[zbl,←List.map_take,h6]
   conv=>rhs;rw[←List.map_id xs]
   exact List.map_congr_left λx hm=>hx x hm
end
abbrev qg:Item:= .code (.refuse default)
structure Lx (x:Γ) (l:List Item):Prop where
 todo:x.todo=l++[qg]
 run:x.mode=.run
theorem im (l:List Item):(l++[qg]).dropLast=l:=by simp
theorem dK {id:Nat}(k:List Item):∀{l k':List Item},Φ id (l++[qg])=some k'→∃l',k'=l'++[qg]∧Φ id (l++k)=some (l'++k)
 |[],k',h=>by simp[Φ,qg]at h
 |.inBlock id'::l,k',h=>by
  simp only[zam,Φ]at h ⊢;split at h
  ·rename_i e;rw[zab e];cases h;exact⟨l,rfl,rfl⟩
  ·rename_i e;rw[zaa e];exact dK k h
 |.code c::l,k',h=>by simp only[zam,Φ]at h ⊢;exact dK k h
 |.inLoop c::l,k',h=>by simp only[zam,Φ]at h ⊢;exact dK k h
 |.inRegion ..::l,k',h=>by simp only[zam,Φ]at h ⊢;exact dK k h
 |.inScope c::l,k',h=>by simp only[zam,Φ]at h ⊢;exact dK k h
 |.inRangeFunc c::l,k',h=>by simp only[zam,Φ]at h ⊢;exact dK k h
 |.endRangeFunc c::l,k',h=>by simp only[zam,Φ]at h ⊢;exact dK k h
 |.beginRound::l,k',h=>by simp only[zam,Φ]at h ⊢;exact dK k h
 |.call ..::l,k',h=>by simp only[zam,Φ]at h ⊢;exact dK k h
 |.extern ..::l,k',h=>by simp only[zam,Φ]at h ⊢;exact dK k h
section
variable {P:Ξ}{F:υ→Bool}{S:Sd}{w w1:Θ}{es:Array ω}
theorem CN {f:Γ}{c:Γ}{r:List Γ}{f1:Γ}{a1:List Γ}(hr:(ba P f (c::r)).runT P w #[]=(.ok (f1,a1) w1,es)):(∃p,a1=p++c::r∧∀ab,(ba P f ab).runT P w #[]=(.ok (f1,p++ab) w1,es))∨(∃v,f1=c.finish v∧a1=r∧∀c' r',(ba P f (c'::r')).runT P w #[]=(.ok (c'.finish v,r') w1,es)):=by
 obtain⟨fn0,tmps,todo,defers,mode,kind,oc⟩:=f;by_cases hm:mode=.run
 ·left;subst hm
  match todo,hr with
  |[],hr=>
   simp only[ba,pure,Λ,zaf,zan]at hr;obtain⟨⟨⟨rfl,rfl⟩,rfl⟩,rfl⟩:=hr;exact⟨[],rfl,λab=>rfl⟩
  |.code .ret::k,hr=>
   simp only[ba,pure,Λ,zaf,zan]at hr;obtain⟨⟨⟨rfl,rfl⟩,rfl⟩,rfl⟩:=hr;exact⟨[],rfl,λab=>rfl⟩
  |.code .skip::k,hr=>
   simp only[ba,pure,Λ,zaf,zan]at hr;obtain⟨⟨⟨rfl,rfl⟩,rfl⟩,rfl⟩:=hr;exact⟨[],rfl,λab=>rfl⟩
  |.inBlock _::k,hr=>
   simp only[ba,pure,Λ,zaf,zan]at hr;obtain⟨⟨⟨rfl,rfl⟩,rfl⟩,rfl⟩:=hr;exact⟨[],rfl,λab=>rfl⟩
  |.code (.seq a b)::k,hr=>
   simp only[ba,pure,Λ,zaf,zan]at hr;obtain⟨⟨⟨rfl,rfl⟩,rfl⟩,rfl⟩:=hr;exact⟨[],rfl,λab=>rfl⟩
  |.code (.block id a)::k,hr=>
   simp only[ba,pure,Λ,zaf,zan]at hr;obtain⟨⟨⟨rfl,rfl⟩,rfl⟩,rfl⟩:=hr;exact⟨[],rfl,λab=>rfl⟩
  |.code (.loop a)::k,hr=>
   simp only[ba,pure,Λ,zaf,zan]at hr;obtain⟨⟨⟨rfl,rfl⟩,rfl⟩,rfl⟩:=hr;exact⟨[],rfl,λab=>rfl⟩
  |.inLoop a::k,hr=>
   simp only[ba,pure,Λ,zaf,zan]at hr;obtain⟨⟨⟨rfl,rfl⟩,rfl⟩,rfl⟩:=hr;exact⟨[],rfl,λab=>rfl⟩
  |.inRegion _ []::k,hr=>
   simp only[ba,pure,Λ,zaf,zan]at hr;obtain⟨⟨⟨rfl,rfl⟩,rfl⟩,rfl⟩:=hr;exact⟨[],rfl,λab=>rfl⟩
  |.code (.cond c a b)::k,hr=>
   simp only[ba]at hr ⊢;generalize Γ.eval _ c=q at hr ⊢;cases q with
   |bool t=>
    simp only[pure,Λ,zaf,zan]at hr;obtain⟨⟨⟨rfl,rfl⟩,rfl⟩,rfl⟩:=hr;exact⟨[],rfl,λab=>rfl⟩
   |_=>simp[stuck]at hr
  |.code (.exit id)::k,hr=>
   simp only[ba]at hr ⊢;cases he:Φ id k with
   |none=>rw[he]at hr;simp[stuck]at hr
   |some k'=>
    rw[he]at hr;simp only[pure,Λ,zaf,zan]at hr;obtain⟨⟨⟨rfl,rfl⟩,rfl⟩,rfl⟩:=hr;exact⟨[],rfl,λab=>rfl⟩
  |.code (.region id ops draw)::k,hr=>
   cases draw with
   |false=>
    simp only[ba,pure,Λ,zaf,zan,zaU,if_false]at hr;obtain⟨⟨⟨rfl,rfl⟩,rfl⟩,rfl⟩:=hr;exact⟨[],rfl,λab=>rfl⟩
   |true=>
    simp only[ba,if_true,bind,choose,Sem.bind,Λ,Question.forced,zaU,if_false,pure,zaf,zan,Question.cut]at hr;obtain⟨⟨⟨rfl,rfl⟩,rfl⟩,rfl⟩:=hr;exact⟨[],rfl,λab=>by simp only[ba,if_true,bind,choose,Sem.bind,Λ,Question.forced,zaU,if_false,pure,Question.cut,zbm]⟩
  |.inRegion ops (i::rest)::k,hr=>
   simp only[ba]at hr ⊢;by_cases hw:((ops[i]?).map (π · (η ops tmps))).getD false=true
   ·rw[zab hw]at hr;cases ho:ops[i]? with
    |none=>rw[ho]at hr;simp[stuck]at hr
    |some o=>
     rw[ho]at hr hw;dsimp only at hr ⊢;simp only[zab hw];generalize (ψ (Γ.eval ⟨fn0,tmps,.inRegion ops (i::rest)::k,defers,.run,kind,oc⟩) o)=ex at hr ⊢;rw[bO]at hr;simp only[bO];cases hrun:ex.runT P w #[]with
     |mk q dA=>
      rw[hrun]at hr;cases q with
      |halt hh w1=>simp at hr
      |ok nx w1=>
       dsimp only at hr ⊢;cases nx with
       |value v=>
        simp only[pure,Λ,zaf,zan]at hr;obtain⟨⟨⟨rfl,rfl⟩,rfl⟩,rfl⟩:=hr;exact⟨[],rfl,λab=>rfl⟩
       |skip=>
        simp only[pure,Λ,zaf,zan]at hr;obtain⟨⟨⟨rfl,rfl⟩,rfl⟩,rfl⟩:=hr;exact⟨[],rfl,λab=>rfl⟩
       |enter f args=>
        simp only[pure,Λ,zaf,zan]at hr;obtain⟨⟨⟨rfl,rfl⟩,rfl⟩,rfl⟩:=hr;exact⟨[⟨fn0,tmps,.inRegion ops (i::rest)::k,defers,.run,kind,oc⟩],rfl,λab=>rfl⟩
       |_=>simp[stuck]at hr
   ·rw[zaa hw]at hr;simp only[zaa hw];simp only[pure,Λ,zaf,zan]at hr;obtain⟨⟨⟨rfl,rfl⟩,rfl⟩,rfl⟩:=hr;exact⟨[],rfl,λab=>rfl⟩
  |.code (.rangeFunc ..)::k,hr=>simp[ba,stuck]at hr
  |.code (.scope ..)::k,hr=>simp[ba,stuck]at hr
  |.code (.label ..)::k,hr=>simp[ba,stuck]at hr
  |.code (.goto ..)::k,hr=>simp[ba,stuck]at hr
  |.code (.refuse ..)::k,hr=>simp[ba,stuck]at hr
  |.inScope c::k,hr=>simp[ba,stuck]at hr
  |.inRangeFunc c::k,hr=>simp[ba,stuck]at hr
  |.endRangeFunc c::k,hr=>simp[ba,stuck]at hr
  |.beginRound::k,hr=>simp[ba,stuck]at hr
  |.call ..::k,hr=>simp[ba,stuck]at hr
  |.extern ..::k,hr=>simp[ba,stuck]at hr
 ·right;have key:∀ab,ba P ⟨fn0,tmps,todo,defers,mode,kind,oc⟩ ab=match P.funcs[fn0]? with
   |some fn=>do
    let v ←results fn tmps
    match ab with
    |c::rest=>pure (c.finish v,rest)
    |[]=>stuck ""
   |none=>stuck "" :=λab=>by
   cases mode with
   |run=>exact absurd rfl hm
   |_=>rfl
  rw[key]at hr;simp only[key];cases hf:P.funcs[fn0]? with
  |none=>rw[hf]at hr;simp[stuck]at hr
  |some fn=>
   rw[hf]at hr;dsimp only at hr ⊢;rw[bO]at hr;simp only[bO];cases hrun:(results fn tmps).runT P w #[]with
   |mk q dA=>
    rw[hrun]at hr;cases q with
    |halt hh w1=>simp at hr
    |ok v w1=>
     simp only[pure,Λ,zaf,zan]at hr;obtain⟨⟨⟨rfl,rfl⟩,rfl⟩,rfl⟩:=hr;exact⟨v,rfl,rfl,λc' r'=>rfl⟩
theorem OJ {f:Γ}(hm:f.mode≠.run){f1:Γ}{a1:List Γ}(hr:(ba P f []).runT P w #[]=(.ok (f1,a1) w1,es)):False:=by
 obtain⟨fn0,tmps,todo,defers,mode,kind,oc⟩:=f;have key:ba P ⟨fn0,tmps,todo,defers,mode,kind,oc⟩ []=match P.funcs[fn0]? with
  |some fn=>do
   let _ ←results fn tmps
   stuck ""
  |none=>stuck "" :=by
  cases mode with
  |run=>exact absurd rfl hm
  |_=>rfl
 rw[key]at hr;cases hf:P.funcs[fn0]? with
 |none=>rw[hf]at hr;simp[stuck]at hr
 |some fn=>
  rw[hf]at hr;dsimp only at hr;rw[bO]at hr;cases hrun:(results fn tmps).runT P w #[]with
  |mk q dA=>
   rw[hrun]at hr;cases q with
   |halt hh w1=>simp at hr
   |ok v w1=>simp[stuck]at hr
end
end Go.Ren
