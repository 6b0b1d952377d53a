import Derived.Conc.CrowdComm
import Derived.Orders
import Derived.Conc.FxMachine2
import Derived.Conc.FxFork
import Derived.Conc.FxFrame
import Derived.Test.YtlhimdjkkiflhaaGreatDoorMade02
set_option maxHeartbeats 8000000
set_option maxRecDepth 100000
open Go.MemOp renaming ofEvents→Γ
open Go renaming Goroutine→Δ,World→Θ,Frame→Λ,Program→Ξ,Trace→Ω,Value→ζ,FuncId→ι,exitTo→ξ,stepG→π,Event→υ,TypeId→χ,yielded→ψ,Operand→ω,undef→ϊ,execOp→ϋ
open Go.Sem renaming runT→Φ
open Go.MemAct renaming ofEvent→η
open Go.Conc renaming crowd→θ
open Go.Region renaming wanted→φ
namespace Go.Ren
open Go Go.Conc
open Go.ConcN (sumTo upd sumTo_upd upd_ne upd_same)
variable {P:Ξ}{w w' wM:Θ}{g i ch n r cap s j:Nat}{pos:String}{e:υ}{send main tm:Bool}{es:Array υ}{v:ζ}{f:ι}{xs:Array ω}{a1:List Λ}{x:Λ}{h:Item}{l:List Item}{vs:List ζ}{buf:Array ζ}{bG:Nat→Prop}{t T:Ω}
def Reach (P:Ξ)(m:Machine)(t:Ω)(Q:Machine→Ω→Prop):Prop:=∃N m' t',runNT P N m t=(.next m',t')∧Q m' t'
section
variable {P:Ξ}{m m':Machine}{t:Ω}{Q Q':Machine→Ω→Prop}{ops:Ω}
theorem Reach.here (h:Q m t):Reach P m t Q:=⟨0,m,t,rfl,h⟩
theorem Reach.step (h:stepT P m=(.next m',ops))(k:Reach P m' (t++ops) Q):Reach P m t Q:=by
 obtain⟨N,a,b,h1,h2⟩:=k;exact⟨N+1,a,b,by simp only[runNT,h];exact h1,h2⟩
theorem Reach.bind (h:Reach P m t Q)(k:∀m t,Q m t→Reach P m t Q'):Reach P m t Q':=by
 obtain⟨N,a,b,h1,h2⟩:=h
 induction N generalizing m t with
 |zero=>
  simp only[runNT,zaf,zbD]at h1;obtain⟨rfl,rfl⟩:=h1;exact k _ _ h2
 |succ N ih=>
  simp only[runNT]at h1;cases hs:stepT P m with
  |mk e ops=>
   rw[hs]at h1;cases e with
   |next m1=>exact Reach.step hs (ih h1)
   |_=>simp at h1
theorem Reach.mono (h:Reach P m t Q)(k:∀m t,Q m t→Q' m t):Reach P m t Q':=h.bind λ_ _ hq=> .here (k _ _ hq)
end
def Es (P:Ξ)(w:Θ)(a:Δ):Prop:=∀x x' d,woken P x x' (w.at d) a=a
theorem Es.run {a:Δ}(h:a.status=.running):Es P w a:=λ_ _ _=>woken_run h
structure eM (P:Ξ) (c:Nat) (t:Ω) (gs:Array Δ) (q:Nat→Nat):Prop where
 size:gs.size=c+1
 pos:0<c
 old:∀i g,0<i→i<c→gs[i]?=some g→QuitsD P (q i) (Deaf t i) g
 above:∀j,c<j→Deaf t j=0
section
variable {P:Ξ}{c:Nat}{t:Ω}{gs:Array Δ}{q:Nat→Nat}{a b a' b':Δ}{w w':Θ}{sl:Option (Nat×Nat)}{es:Array υ}
theorem ofEvents_g {fn:ι}{es:Array υ}:∀op∈Γ g fn pos es,op.g=g:=λop hop=>by obtain⟨e,_,rfl⟩:=zbe hop;rfl
theorem qX (h:e.mute=true)(a:Addr):η e≠.mark (.release a):=by
 obtain⟨loc,wr,sy⟩:=e;cases loc<;>simp_all [Event.mute];rename_i m;cases m<;>simp_all [η]
theorem eM.get (h:eM P c t gs q){g:Δ}(hi:gs[i]?=some g):i=0∨i=c∨(0<i∧i<c):=by
 have:=(zaj.1 hi).1;have:=h.size;omega
theorem Hn (hC:eM P c t gs q)(h0:gs[0]?=some a)(hc:gs[c]?=some b)(SJ:awake a)(hwb:awake b)(hrun:a.status=.running∨b.status=.running)(sa:Es P w a)(sb:Es P w b):(a.status=.running∧∃d sl',stepT P (θ gs w sl)=runT P (θ gs (w.at d) sl') 0)∨
 (b.status=.running∧∃d sl',stepT P (θ gs w sl)=runT P (θ gs (w.at d) sl') c)∨
 (∃gs' d sl' ops q',stepT P (θ gs w sl)=(.next (θ gs' (w.at d) sl'),ops)∧eM P c (t++ops) gs' q'∧gs'[0]?=some a∧gs'[c]?=some b∧sumTo c q'<sumTo c q∧(∀op∈ops,op.act.touch? =none∧∀a,op.act≠.mark (.release a))∧(∀B,∀op∈ops,op.act.low B)∧Deaf (t++ops) 0=Deaf t 0∧Deaf (t++ops) c=Deaf t c):=by
 have jT:=hC.pos;have X3:∀g∈gs,awake g:=by
  intro g hg;obtain⟨i,hi,rfl⟩:=zcm.1 hg;have hi':=zaL hi;rcases hC.get hi' with rfl|rfl|⟨h1,h2⟩
  ·rw[h0]at hi';obtain rfl:=zaM hi';exact SJ
  ·rw[hc]at hi';obtain rfl:=zaM hi';exact hwb
  ·exact awake_of ((hC.old i _ h1 h2 hi').status.elim .inl λx=> .inr (.inr x))
 obtain⟨i,g,d,sl',hi,hg,hst⟩:=crowd_pick (P:=P) (w:=w) (sl:=sl) X3 (hrun.elim (λh=>⟨0,a,h0,h⟩) λh=>⟨c,b,hc,h⟩);rcases hC.get hi with rfl|rfl|⟨h1,h2⟩
 ·rw[h0]at hi;obtain rfl:=zaM hi;exact .inl ⟨hg,d,sl',hst⟩
 ·rw[hc]at hi;obtain rfl:=zaM hi;exact .inr (.inl ⟨hg,d,sl',hst⟩)
 ·right;right;have hq:=hC.old i g h1 h2 hi;have WB:(i==0)=false:=by simp;omega
  have hlt:i<gs.size:=(zaj.1 hi).1;cases Ho:q i with
  |zero=>rw[Ho]at hq;rw[hq.1]at hg;cases hg
  |succ k=>
   rw[Ho]at hq;rcases hq with⟨hf,_⟩|⟨_,g',es,hm,Hp,hq'⟩
   ·rw[hf]at hg;cases hg
   have sj:=runT_crowd_go (P:=P) (sl:=sl') (i:=i) hi (by rw[WB];exact Hp (w.at d));have Lv:sumTo c (upd q i k)+(k+1)=sumTo c q+k:=by
    have:=sumTo_upd q k id h2;simpa[Ho]using this
   refine⟨_,d,sl',_,upd q i k,hst.trans sj,⟨by simp[hC.size],jT,λj x hj X5 hx=>?_,λj hj=>?_⟩,?_,?_,by omega,λop hop=>?_,λB op hop=>?_,zaN t (by omega) _ ofEvents_g,zaN t (by omega) _ ofEvents_g⟩
   ·by_cases xK:i=j
    ·subst xK;rw[zbG (by simpa using hlt)]at hx;obtain rfl:=zaM hx;rw[upd_same,Deaf_own];exact hq'
    ·rw[zaA xK,zaz]at hx;obtain⟨y,hy,rfl⟩:=zas.1 hx;have Hq:=hC.old j y hj X5 hy;rw[woken_quitsD Hq,upd_ne q k (Ne.symm xK),zaN t xK _ ofEvents_g];exact Hq
   ·rw[zaN t (g':=i) (by omega) _ ofEvents_g];exact hC.above j hj
   ·rw[zaA (by omega),zaz,h0];simp[sa g g' d]
   ·rw[zaA (by omega),zaz,hc];simp[sb g g' d]
   ·obtain⟨e,he,rfl⟩:=zbe hop;exact⟨touch_mute (hm e he),λa=>qX (hm e he) a⟩
   ·obtain⟨e,he,rfl⟩:=zbe hop;exact low_mute (hm e he) B
theorem sk (hC:eM P c t gs q)(h0:gs[0]?=some a)(hc:gs[c]?=some b)(hs:π P true a w=.go a' w' es):∃gs',runT P (θ gs w sl) 0=(.next (θ gs' w' sl),Γ 0 a.frame.fn a.frame.place es)∧eM P c (t++Γ 0 a.frame.fn a.frame.place es) gs' q∧gs'[0]?=some a'∧gs'[c]?=some (woken P a a' w' b):=by
 have jT:=hC.pos;have hlt:0<gs.size:=(zaj.1 h0).1;refine⟨_,runT_crowd_go (P:=P) (sl:=sl) (i:=0) h0 (show π P (0==0) a w=_ from hs),⟨by simp[hC.size],jT,λj x hj X5 hx=>?_,λj hj=>?_⟩,by simp[hlt],?_⟩
 ·rw[zaA (by omega),zaz]at hx;obtain⟨y,hy,rfl⟩:=zas.1 hx;have hq:=hC.old j y hj X5 hy;rw[woken_quitsD hq,zaN t (by omega) _ ofEvents_g];exact hq
 ·rw[zaN t (by omega) _ ofEvents_g];exact hC.above j hj
 ·rw[zaA (by omega),zaz,hc];rfl
theorem kL (hC:eM P c t gs q)(h0:gs[0]?=some a)(hc:gs[c]?=some b)(hs:π P false b w=.go b' w' es):∃gs',runT P (θ gs w sl) c=(.next (θ gs' w' sl),Γ c b.frame.fn b.frame.place es)∧eM P c (t++Γ c b.frame.fn b.frame.place es) gs' q∧gs'[0]?=some (woken P b b' w' a)∧gs'[c]?=some b':=by
 have jT:=hC.pos;have hlt:c<gs.size:=(zaj.1 hc).1;have hc0:(c==0)=false:=by simp;omega
 refine⟨_,runT_crowd_go (P:=P) (sl:=sl) (i:=c) hc (by rw[hc0];exact hs),⟨by simp[hC.size],jT,λj x hj X5 hx=>?_,λj hj=>?_⟩,?_,by simp[hlt]⟩
 ·rw[zaA (by omega),zaz]at hx;obtain⟨y,hy,rfl⟩:=zas.1 hx;have hq:=hC.old j y hj X5 hy;rw[woken_quitsD hq,zaN t (by omega) _ ofEvents_g];exact hq
 ·rw[zaN t (by omega) _ ofEvents_g];exact hC.above j hj
 ·rw[zaA (by omega),zaz,h0];rfl
theorem dO (t:Ω)(g:Nat)(u:Ω)(hu:∀op∈u,∀m,op.act≠.mark m):Deaf (t++u) g=Deaf t g:=by
 obtain⟨l⟩:=u;rw[Deaf_append];generalize Deaf t g=d
 induction l generalizing d with
 |nil=>rfl
 |cons y l ih=>
  have e1:deafStep g d y=d:=by
   unfold deafStep;split
   ·exact absurd ‹_› (hu y (by simp) _)
   ·exact absurd ‹_› (hu y (by simp) _)
   ·rfl
  rw[List.foldl_cons,e1];exact ih (λop hop=>hu op (by simp at hop ⊢;exact .inr hop)) d
theorem eM.comm (hC:eM P c t gs q){gs':Array Δ}{u:Ω}(hu:∀op∈u,∀m,op.act≠.mark m)(hsz:gs'.size=gs.size)(hg:∀i,i≠0→i≠c→gs'[i]?=gs[i]?):eM P c (t++u) gs' q:=
 ⟨hsz.trans hC.size,hC.pos,λi g h1 h2 hi=>by rw[dO t i u hu];exact hC.old i g h1 h2 (by rw[←hg i (by omega) (by omega)];exact hi),λj hj=>by rw[dO t j u hu];exact hC.above j hj⟩
theorem eM.offers (hC:eM P c t gs q){g:Δ}(h1:0<i)(h2:i<c)(hi:gs[i]?=some g):offersAt g ch send=[]:=
 offersAt_of_not_blocked (by rcases(hC.old i g h1 h2 hi).status with h|h<;>simp[h]) _ _
theorem kM (hC:eM P c t gs q)(hc:gs[c]?=some b):partners (gs.setIfInBounds 0 ph) ch send=(offersAt b ch send).map λk=>(c,k):=by
 have jT:=hC.pos;refine partners_one (by rw[zaA (by omega)];exact hc) λk x hk hx=>?_;rcases getElem?_stand gs 0 k x hx with⟨_,rfl⟩|⟨h1,h2⟩
 ·rfl
 ·rcases hC.get h2 with h|h|⟨h3,h4⟩
  ·exact absurd h h1
  ·exact absurd h hk
  ·exact hC.offers h3 h4 h2
theorem oA (hC:eM P c t gs q)(h0:gs[0]?=some a):partners (gs.setIfInBounds c ph) ch send=(offersAt a ch send).map λk=>(0,k):=by
 have jT:=hC.pos;refine partners_one (by rw[zaA (by omega)];exact h0) λk x hk hx=>?_;rcases getElem?_stand gs c k x hx with⟨_,rfl⟩|⟨h1,h2⟩
 ·rfl
 ·rcases hC.get h2 with h|h|⟨h3,h4⟩
  ·exact absurd h hk
  ·exact absurd h h1
  ·exact hC.offers h3 h4 h2
variable {ch s r:Nat}{tm:Bool}{z z' v:ζ}{a₂ tY:Δ}
theorem ofEvents_none (g:Nat)(fn:ι)(pos:String):Γ g fn pos #[]=#[]:=rfl
theorem vH (hC:eM P c t gs q)(h0:gs[0]?=some a)(hc:gs[c]?=some b)(hb:b.status≠.blocked)(hs:π P true a w=.comm a₂ #[rcase ch z] true (.recv true) w #[])(hch:w.heap[ch]?=some (.chan 0 #[] false s r tm)):∃gs',runT P (θ gs w sl) 0=(.next (θ gs' w sl),#[])∧eM P c (t++#[]) gs' q∧gs'[0]?=some (parked a₂ #[rcase ch z] (.recv true))∧gs'[c]?=some b:=by
 have jT:=hC.pos;have hlt:0<gs.size:=(zaj.1 h0).1;have:=crowd_waits (P:=P) (sl:=sl) (i:=0) h0 (show π P (0==0) a w=_ from hs) λcc hcc=>by
  simp only[zca,zal,zcb,or_false]at hcc;subst hcc;exact ways_recv_none hch (by rw[kM hC hc,offersAt_of_not_blocked hb];rfl)
 refine⟨_,this,hC.comm (by simp) (by simp) λi h1 h2=>?_,by simp[hlt],?_⟩
 ·rw[zaA (Ne.symm h1)]
 ·rw[zaA (by omega)];exact hc
theorem vI (hC:eM P c t gs q)(h0:gs[0]?=some a)(hc:gs[c]?=some b)(ha:a.status≠.blocked)(hs:π P false b w=.comm tY #[scase ch v z'] true .send w #[])(hch:w.heap[ch]?=some (.chan 0 #[] false s r tm)):∃gs',runT P (θ gs w sl) c=(.next (θ gs' w sl),#[])∧eM P c (t++#[]) gs' q∧gs'[0]?=some a∧gs'[c]?=some (parked tY #[scase ch v z'] .send):=by
 have jT:=hC.pos;have hlt:c<gs.size:=(zaj.1 hc).1;have hc0:(c==0)=false:=by simp;omega
 have:=crowd_waits (P:=P) (sl:=sl) (i:=c) hc (by rw[hc0];exact hs) λcc hcc=>by
  simp only[zca,zal,zcb,or_false]at hcc;subst hcc;exact ways_send_none hch (by simp) (by rw[oA hC h0,offersAt_of_not_blocked ha];rfl)
 refine⟨_,this,hC.comm (by simp) (by simp) λi h1 h2=>?_,?_,by simp[hlt]⟩
 ·rw[zaA (Ne.symm h2)]
 ·rw[zaA (by omega)];exact h0
def OA (ch:Nat)(u:Ω):Prop:=∀op∈u,op.act.touch? =none∧(∀m,op.act≠.mark m)∧∀B,ch<B→op.act.low B
theorem vJ (hC:eM P c t gs q)(h0:gs[0]?=some a)(hc:gs[c]?=some (parked tY #[scase ch v z'] .send))(hs:π P true a w=.comm a₂ #[rcase ch z] true (.recv true) w #[])(hch:w.heap[ch]?=some (.chan 0 #[] false s r tm)):∃gs' u,runT P (θ gs w sl) 0=(.next (θ gs' (w.setChan ch 0 #[] false (s+1) (r+1) tm) sl),u)∧OA ch u∧eM P c (t++u) gs' q∧gs'[0]?=some (Conc.served a₂ (.tuple #[v,.bool true]))∧gs'[c]?=some (Conc.served tY ϊ):=by
 have jT:=hC.pos;have hlt:0<gs.size:=(zaj.1 h0).1;have X6:c<gs.size:=(zaj.1 hc).1;have:=crowd_recv_meets (P:=P) (sl:=sl) (i:=0) h0 (show π P (0==0) a w=_ from hs) hch (by omega) hc (by rw[kM hC hc,offersAt_parked_send,zab rfl];rfl);rw[ofEvents_none]at this;refine⟨_,_,this,λop hop=>?_,hC.comm (λop hop m e=>?_) (by simp) λi h1 h2=>?_,?_,?_⟩
 ·simp at hop;rcases hop with rfl|rfl|rfl|rfl<;>exact⟨rfl,by simp,λB h=>h⟩
 ·simp at hop;rcases hop with rfl|rfl|rfl|rfl<;>simp at e
 ·rw[zaA (Ne.symm h1),zaA (Ne.symm h2)]
 ·simp[hlt,finishComm_recv,recvd]
 ·rw[zaA (by omega),zbG X6,finishComm_send]
theorem vK (hC:eM P c t gs q)(h0:gs[0]?=some (parked a₂ #[rcase ch z] (.recv true)))(hc:gs[c]?=some b)(hs:π P false b w=.comm tY #[scase ch v z'] true .send w #[])(hch:w.heap[ch]?=some (.chan 0 #[] false s r tm)):∃gs' u,runT P (θ gs w sl) c=(.next (θ gs' (w.setChan ch 0 #[] false (s+1) (r+1) tm) sl),u)∧OA ch u∧eM P c (t++u) gs' q∧gs'[0]?=some (Conc.served a₂ (.tuple #[v,.bool true]))∧gs'[c]?=some (Conc.served tY ϊ):=by
 have jT:=hC.pos;have hlt:0<gs.size:=(zaj.1 h0).1;have X6:c<gs.size:=(zaj.1 hc).1;have hc0:(c==0)=false:=by simp;omega
 have:=crowd_send_meets (P:=P) (sl:=sl) (i:=c) (j:=0) hc (by rw[hc0];exact hs) hch (by omega) h0 (by rw[oA hC h0,offersAt_parked_recv,zab rfl];rfl);rw[ofEvents_none]at this;refine⟨_,_,this,λop hop=>?_,hC.comm (λop hop m e=>?_) (by simp) λi h1 h2=>?_,?_,?_⟩
 ·simp at hop;rcases hop with rfl|rfl|rfl|rfl<;>exact⟨rfl,by simp,λB h=>h⟩
 ·simp at hop;rcases hop with rfl|rfl|rfl|rfl<;>simp at e
 ·rw[zaA (Ne.symm h2),zaA (Ne.symm h1)]
 ·rw[zaA (by omega),zbG hlt,finishComm_recv];rfl
 ·rw[zbG (by simpa using X6),finishComm_send]
theorem tZ (hC:eM P c t gs q)(h0:gs[0]?=some a)(hc:gs[c]?=some b)(hb:b.status≠.blocked)(hs:π P true a w=.comm a₂ #[rcase ch z] true (.recv true) w #[])(hch:w.heap[ch]?=some (.chan 0 #[] true s r tm)):∃gs' fn pos,runT P (θ gs w sl) 0=(.next (θ gs' w sl),#[{ g:=0,fn:=fn,pos:=pos,act:= .recvClosed ch }])∧eM P c (t++#[{ g:=0,fn:=fn,pos:=pos,act:= .recvClosed ch }]) gs' q∧gs'[0]?=some (Conc.served a₂ (.tuple #[z,.bool false]))∧gs'[c]?=some b:=by
 have jT:=hC.pos;have hlt:0<gs.size:=(zaj.1 h0).1;have:=crowd_recv_closed (P:=P) (sl:=sl) (i:=0) h0 (show π P (0==0) a w=_ from hs) hch (by rw[kM hC hc,offersAt_of_not_blocked hb];rfl);rw[ofEvents_none,Array.empty_append]at this;refine⟨_,_,_,this,hC.comm (λop hop m e=>?_) (by simp) λi h1 h2=>?_,?_,?_⟩
 ·simp at hop;subst hop;simp at e
 ·rw[zaA (Ne.symm h1)]
 ·simp[hlt,finishComm_recv,recvd]
 ·rw[zaA (by omega)];exact hc
end
structure NS (Shun:Loc→Prop) (ro own:Nat→Prop) (w:Θ):Prop where
 WC:∀b,own b→b<w.heap.size
 JW:∀b,ro b→b<w.heap.size
 sr:∀l,jS own l∨jS ro l→¬Shun l
 low:∀l,Shun l→l.low w.heap.size
structure Kept (own:Nat→Prop) (w w':Θ):Prop where
 tape:w'.tape=w.tape
 os:w'.os=w.os
 output:w'.output=w.output
 size:w.heap.size≤w'.heap.size
 block:∀b,b<w.heap.size→¬own b→w'.heap[b]?=w.heap[b]?
theorem Kept.refl (own:Nat→Prop)(w:Θ):Kept own w w:=⟨rfl,rfl,rfl,zac _,λ_ _ _=>rfl⟩
theorem fx (ro own:Nat→Prop)(w:Θ)(d:Nat):cq ro own w (w.at d):=⟨rfl,rfl,rfl,zac _,λ_ _=>rfl⟩
theorem Kept.step {ro own:Nat→Prop}{w w₁ w₂:Θ}{es:Array υ}(h:Eo ro own w w₁ es)(k:Kept (Grow own w w₁) w₁ w₂):Kept own w w₂:=
 ⟨k.tape.trans h.tape,k.os.trans h.os,k.output.trans h.output,zag h.size k.size,λb hb hn=>by
   have hs:=h.size;rw[k.block b (by omega) λhg=>hg.elim hn λx=>by omega,h.block b hb hn]⟩
section
variable {P:Ξ}{Shun:Loc→Prop}{ro own:Nat→Prop}{Stop:(Nat→Prop)→Δ→Θ→Prop}
theorem OB {own:Nat→Prop}{l:Loc}(h:jS (Grow own w w') l)(hl:l.low w.heap.size):jS own l:=by
 cases l with
 |cell a=>exact h.elim id λx=>by have:a.block<w.heap.size:=hl;omega
 |obj r=>exact h.elim id λx=>by have:r<w.heap.size:=hl;omega
 |_=>exact h
theorem NS.grow (h:NS Shun ro own w)(hg:Eo ro own w w' es):NS Shun ro (Grow own w w') w':=by
 have hs:=hg.size;refine⟨λb hb=>hb.elim (λx=>by have:=h.WC b x;omega) (·.2),λb hb=>by have:=h.JW b hb;omega,λl hl hS=>?_,λl hl=>Loc.low_mono hs (h.low l hl)⟩;exact h.sr l (hl.imp (λx=>OB x (h.low l hS)) id) hS
theorem NS.at {w:Θ}(h:NS Shun ro own w)(d:Nat):NS Shun ro own (w.at d):=⟨h.WC,h.JW,h.sr,h.low⟩
theorem NS.evL (h:NS Shun ro own w)(hg:Eo ro own w w' es):∀e∈es,EvL Shun w'.heap.size e:=by
 intro e he;have hn:=h.grow hg;have hE:=hg.evs e he;refine⟨λx hx hs=>absurd hs (hn.sr _ ?_),(oz hE).1,(oz hE).2,JV hn.WC hn.JW hE⟩;exact(Bc hE x hx).imp id (·.1)
def acM (P:Ξ)(Shun:Loc→Prop)(ro:Nat→Prop)(Stop:(Nat→Prop)→Δ→Θ→Prop)(n:Nat)(own:Nat→Prop)(w:Θ)(m:Machine)(t:Ω):Prop:=
 ∃gs own' a' w' sl q,m=θ gs w' sl∧gs.size=n∧gs[0]?=some a'∧(∀w₁,cq ro own' w' w₁→Stop own' a' w₁)∧Leavers P t gs q∧Past Shun w'.heap.size t∧NS Shun ro own' w'∧(∀b,own b→own' b)∧(∀b,own' b→own b∨w.heap.size≤b)∧Kept own w w'
theorem CJ {a:Δ}(hW:af P true ro Stop own a w):∀(w₁:Θ),cq ro own w w₁→∀(gs:Array Δ) (sl:Option (Nat×Nat)) (t:Ω) (q:Nat→Nat),gs[0]?=some a→Leavers P t gs q→Past Shun w₁.heap.size t→NS Shun ro own w₁→Reach P (θ gs w₁ sl) t (acM P Shun ro Stop gs.size own w₁):=by
 induction hW with
 | @stop own a w h=>
   intro w₁ hr gs sl t q h0 hL hP hN;exact .here ⟨gs,own,a,w₁,sl,q,rfl,rfl,h0,λw₂ h₂=>h w₂ (hr.trans h₂),hL,hP,hN,λ_ x=>x,λ_ x=> .inl x,Kept.refl _ _⟩
 | @step own a w nx nw ne hs h1 h2 _ ih=>
   intro w₁ hr gs sl t q h0 hL hP hN;generalize hM:sumTo gs.size q=M
   induction M using Nat.strongRecOn generalizing w₁ gs sl t q with
   |_ M ihM=>
   have X3:∀g∈gs,awake g:=by
    intro g hg;obtain⟨i,hi,rfl⟩:=zcm.1 hg;rcases zcB i with rfl|jT
    ·have:gs[0]=a:=by simpa[Array.getElem?_eq_getElem hi]using h0
     rw[this];exact awake_of (.inl hs)
    ·exact awake_of ((hL.old i _ jT (zaL hi)).status.elim .inl λx=> .inr (.inr x))
   obtain⟨i,g,d,sl',hi,hg,hst⟩:=crowd_pick (P:=P) (w:=w₁) (sl:=sl) X3 ⟨0,a,h0,hs⟩;have eK:cq ro own w (w₁.at d):=hr.trans (fx ro own w₁ d);rcases zcB i with rfl|jT
   ·obtain rfl:g=a:=by rw[h0]at hi;exact(zaM hi).symm
    have hgo:=h1 _ eK;have SK:=h2 _ eK;have sj:=runT_crowd_go (P:=P) (sl:=sl') (i:=0) hi (show π P (0==0) g (w₁.at d)=_ from hgo);have hlt:0<gs.size:=(zaj.1 h0).1;have hN':=(hN.at d).grow SK;have hP':=(hP.mono (B':=(nw (w₁.at d)).heap.size) SK.size).own (fn:=g.frame.fn) (pos:=g.frame.place) ((hN.at d).evL SK);refine Reach.step (hst.trans sj) ((ih _ eK _ (cq.refl _ _ _) ((gs.map (woken P g (nx (w₁.at d)) (nw (w₁.at d)))).setIfInBounds 0 (nx (w₁.at d))) sl' _ q (by simp[hlt]) ⟨λj x hj hx=>?_,λj hj=>?_⟩ hP' hN').mono ?_)
    ·rw[zaA (by omega),zaz]at hx;obtain⟨y,hy,rfl⟩:=zas.1 hx;have hq:=hL.old j y hj hy;rw[woken_quitsD hq,zaN t (by omega) _ ofEvents_g];exact hq
    ·rw[zaN t (g':=0) (by simp at hj;omega) _ ofEvents_g];exact hL.above j (by simpa using hj)
    ·rintro m t' ⟨gs',own',a',w',X7,q',e1,e2,e3,e4,e5,e6,e7,e8,e9,OC⟩;have hsz:=SK.size;exact⟨gs',own',a',w',X7,q',e1,by rw[e2];simp,e3,e4,e5,e6,e7,λb hb=>e8 b (.inl hb),λb hb=>(e9 b hb).elim (λx=>x.elim .inl λy=> .inr y.1) (λx=> .inr (zag hsz x)),by have hk:=Kept.step SK OC;exact⟨hk.tape,hk.os,hk.output,hk.size,hk.block⟩⟩
   ·have hq:=hL.old i g jT hi;have WB:(i==0)=false:=by simp;omega
    have hlt:i<gs.size:=(zaj.1 hi).1;cases Ho:q i with
    |zero=>rw[Ho]at hq;rw[hq.1]at hg;cases hg
    |succ k=>
     rw[Ho]at hq;rcases hq with⟨hf,_⟩|⟨_,g',es,hm,Hp,hq'⟩
     ·rw[hf]at hg;cases hg
     have sj:=runT_crowd_go (P:=P) (sl:=sl') (i:=i) hi (by rw[WB];exact Hp (w₁.at d));have hsz:((gs.map (woken P g g' (w₁.at d))).setIfInBounds i g').size=gs.size:=by simp
     have Lv:sumTo gs.size (upd q i k)+(k+1)=sumTo gs.size q+k:=by
      have:=sumTo_upd q k id hlt;simpa[Ho]using this
     have:=ihM (sumTo gs.size (upd q i k)) (by omega) (w₁.at d) eK ((gs.map (woken P g g' (w₁.at d))).setIfInBounds i g') sl' (t++Γ i g.frame.fn g.frame.place es) (upd q i k)
      (by rw[zaA (by omega),zaz,h0];simp[woken_run hs])
      ⟨λj x hj hx=>by
        by_cases xK:i=j
        ·subst xK;rw[zbG (by simpa using hlt)]at hx;obtain rfl:=zaM hx;rw[upd_same,Deaf_own];exact hq'
        ·rw[zaA xK,zaz]at hx;obtain⟨y,hy,rfl⟩:=zas.1 hx;have Hq:=hL.old j y hj hy;rw[woken_quitsD Hq,upd_ne q k (Ne.symm xK),zaN t xK _ ofEvents_g];exact Hq,λj hj=>by
        rw[zaN t (g':=i) (by simp at hj;omega) _ ofEvents_g];exact hL.above j (by simpa using hj)⟩
      (hP.mute (by omega) hm) (hN.at d) (by rw[hsz])
     rw[hsz]at this;refine Reach.step (hst.trans sj) (this.mono ?_);rintro m t' ⟨gs',own',a',w',X7,q',e1,e2,e3,e4,e5,e6,e7,e8,e9,OC⟩;exact⟨gs',own',a',w',X7,q',e1,e2,e3,e4,e5,e6,e7,e8,e9,⟨OC.tape,OC.os,OC.output,OC.size,OC.block⟩⟩
end
structure dn where
 base:Θ
 lo:Nat
 n0:Nat
 r0:Rn
 at_:Machine→Ω→Prop
 bot:List Λ:=[]
 an:Nat:=0
 ar:Rn:=jR
 ro:Nat→Prop:=λ_=>False
 aao:∀b,ro b→b<base.heap.size∧∀r,lo≤r→r<n0→b≠r0 r:=by exact λ_ h=>h.elim
def dn.mine (Ψ:dn)(x:Nat):Prop:=∃r,Ψ.lo≤r∧r<Ψ.n0∧x=Ψ.r0 r
structure X8 (Ψ:dn) (W:Θ):Prop where
 tape:W.tape=Ψ.base.tape
 os:W.os=Ψ.base.os
 output:W.output=Ψ.base.output
 size:Ψ.base.heap.size≤W.heap.size
 block:∀b,b<Ψ.base.heap.size→¬Ψ.mine b→W.heap[b]?=Ψ.base.heap[b]?
structure SL (n0:Nat) (r0:Rn) (w:Θ) (ρ:Rn):Prop where
 size:n0≤w.heap.size
 same:∀r,r<n0→ρ r=r0 r
theorem SL.refl (w:Θ)(ρ:Rn):SL w.heap.size ρ w ρ:=⟨zac _,λ_ _=>rfl⟩
section
variable {P:Ξ}{F:ι→Bool}{S:Sd}{Ψ:dn}{fr fr':Λ}{cs cs':List Λ}{w w' W:Θ}{ρ:Rn}
def aa (P:Ξ)(S:Sd)(Ψ:dn)(fr:Λ)(cs:List Λ)(w:Θ):Prop:=
 ∀(ρ:Rn) (W:Θ) (gs:Array Δ) (sl:Option (Nat×Nat)) (t:Ω) (q:Nat→Nat) (Shun:Loc→Prop),ja P S ρ w W→iH P S w.heap.size fr→(∀f∈cs,iH P S w.heap.size f)→
  gs[0]?=some (G (cv ρ fr) (cs.map (cv ρ)++Ψ.bot))→Leavers P t gs q→Past Shun W.heap.size t→NS Shun Ψ.ro (Touch S.d ρ w) W→X8 Ψ W→(∀x,Touch S.d ρ w x→Ψ.base.heap.size≤x∨Ψ.mine x)→SL Ψ.n0 Ψ.r0 w ρ→SL Ψ.an Ψ.ar w ρ→Reach P (θ gs W sl) t Ψ.at_
theorem ja.self (h:ja P S ρ w W):WR P S jR w w:=
 ⟨λr o _ ho=>by rw[El];exact ho,h.wr.ok,h.wr.dead,h.wr.closed,λr hr=>by show r=_;omega,λr _ h2=>h2,⟨h.wr.big.d,h.wr.big.g,zaq _,h.wr.big.p,h.wr.big.dp,λ_ _ _=>rfl,λ_ _=> .inr rfl⟩⟩
def OD (P:Ξ)(S:Sd)(Good:Λ→List Λ→Θ→Prop)(bot:List Λ)(n0:Nat)(r0:Rn)(own:Nat→Prop)(g:Δ)(W:Θ):Prop:=
 ∃fr cs w ρ,Good fr cs w∧ja P S ρ w W∧(∀x,Touch S.d ρ w x→own x)∧g=G (cv ρ fr) (cs.map (cv ρ)++bot)∧iH P S w.heap.size fr∧(∀f∈cs,iH P S w.heap.size f)∧SL n0 r0 w ρ
theorem af.co {ro own:Nat→Prop}{Good:Λ→List Λ→Θ→Prop}{bot:List Λ}{n0:Nat}{r0:Rn}(hG:Good fr cs w)(hS:ja P S ρ w W)(hown:∀x,Touch S.d ρ w x→own x)(hc:iH P S w.heap.size fr)(hcs:∀f∈cs,iH P S w.heap.size f)(h0:SL n0 r0 w ρ):af P main ro (OD P S Good bot n0 r0) own (G (cv ρ fr) (cs.map (cv ρ)++bot)) W:=by
 refine .stop λaS hr=>⟨fr,cs,w,ek ρ w.heap.size aS.heap.size,hG,hS.grow hr.size λx hx=>hr.block x (.inl (hown x hx)),λx hx=>hown x (by rwa[dN]at hx),?_,hc,hcs,⟨h0.size,λr hr=>by rw[bg (zaI hr h0.size)];exact h0.same r hr⟩⟩;rw[eZ hc (ρ:=ρ) (ρ':=ek ρ w.heap.size aS.heap.size) (λr hlt=>(bg hlt).symm) (λ_=>rfl),fw (ρ:=ρ) (ρ':=ek ρ w.heap.size aS.heap.size) (λr hlt=>(bg hlt).symm) (λ_=>rfl) hcs]
theorem NS.sub {Shun:Loc→Prop}{ro own own':Nat→Prop}(h:NS Shun ro own W)(hs:∀x,own' x→own x):NS Shun ro own' W:=
 ⟨λb hb=>h.WC b (hs b hb),h.JW,λl hl=>h.sr l (hl.imp (λx=>by
   cases l with
   |cell a=>exact hs _ x
   |obj r=>exact hs _ x
   |_=>exact x) id),h.low⟩
theorem aa.walk (h:∀ρ W,ja P S ρ w W→iH P S w.heap.size fr→(∀f∈cs,iH P S w.heap.size f)→qc Ψ.ro (Touch S.d ρ w) W→af P true Ψ.ro (OD P S (aa P S Ψ) Ψ.bot w.heap.size ρ) (Touch S.d ρ w) (G (cv ρ fr) (cs.map (cv ρ)++Ψ.bot)) W):aa P S Ψ fr cs w:=by
 intro ρ W gs sl t q Shun hS hc hcs h0 hL hP hN hO hT wH Ar;refine(CJ (h ρ W hS hc hcs ⟨λb hb=>hb.elim (hN.WC b) (hN.JW b),λb hb ht=>(hT b ht).elim (λh1=>by have:=(Ψ.aao b hb).1;omega) λ⟨r,h1,h2,e⟩=>(Ψ.aao b hb).2 r h1 h2 e⟩) W (cq.refl _ _ _) gs sl t q h0 hL hP hN).bind ?_;rintro m t' ⟨gs',own',a',w',sl',q',rfl,_,Au,hst,hL',hP',hN',_,Ej,hK⟩;obtain⟨fr2,cs2,w2,Hr,hG,Oq,hown,rfl,hc2,acN,hon⟩:=hst w' (cq.refl _ _ _);have hsz:=hO.size;exact hG Hr w' gs' sl' t' q' Shun Oq hc2 acN Au hL' hP' (hN'.sub hown)
  ⟨hK.tape.trans hO.tape,hK.os.trans hO.os,hK.output.trans hO.output,zag hsz hK.size,λb hb hm=>(hK.block b (by omega) λht=>(hT b ht).elim (λh=>by omega) hm).trans (hO.block b hb hm)⟩
  (λx hx=>(Ej x (hown x hx)).elim (hT x) λe=> .inl (by omega)) ⟨zag wH.size hon.size,λr hr=>(hon.same r (zaI hr wH.size)).trans (wH.same r hr)⟩ ⟨zag Ar.size hon.size,λr hr=>(hon.same r (zaI hr Ar.size)).trans (Ar.same r hr)⟩
theorem aa.re (h:aa P S Ψ fr cs w)(e:w'.heap=w.heap):aa P S Ψ fr cs w':=by
 intro ρ W gs sl t q Shun hS hc hcs h0 hL hP hN hO hT wH Ar;have TE:ja P S ρ w W:=hS.acI e.symm;have ht:Touch S.d ρ w'=Touch S.d ρ w:=by unfold Touch;rw[e]
 rw[e]at hc hcs;rw[ht]at hN hT;exact h ρ W gs sl t q Shun TE hc hcs h0 hL hP hN hO hT ⟨by have:=wH.size;rwa[e]at this,wH.same⟩ ⟨by have:=Ar.size;rwa[e]at this,Ar.same⟩
theorem aa.silent (hst:∀ρ W,π P true (G (cv ρ fr) (cs.map (cv ρ)++Ψ.bot)) W=.go (G (cv ρ fr') (cs'.map (cv ρ)++Ψ.bot)) W #[])
 (fK:iH P S w.heap.size fr→(∀f∈cs,iH P S w.heap.size f)→iH P S w.heap.size fr'∧∀f∈cs',iH P S w.heap.size f)(k:aa P S Ψ fr' cs' w):aa P S Ψ fr cs w:=
 aa.walk λρ W hS hc hcs hR=>by
  obtain⟨h1,h2⟩:=fK hc hcs;refine af.silent rfl (λaS=>?_) (af.co k hS (λ_ h=>h) h1 h2 (SL.refl _ _));exact hst ρ aS
def _root_.Go.Act.rn (a:Act)(ρ:Rn):Act:={ a with tmps:=a.tmps.map (rv ρ) }
theorem mP (b:Λ)(a:Act)(k:List Item):cv ρ (b.at a k)=b.at (a.rn ρ) k:=rfl
def OE (_P:Ξ)(S:Sd)(n:Nat)(a:Act):Prop:=∀v∈a.tmps,rv (sg S S.d n) v=v
theorem getD_map (c:Array ζ)(i:Nat):(c.map (rv ρ)).getD i ϊ=rv ρ (c.getD i ϊ):=by
 simp only[zbE,zaz];cases c[i]? with
 |none=>simp[eu]
 |some v=>simp
theorem CK (a:Act):(a.rn ρ).eval=fL λt=>rv ρ (a.tmps.getD t ϊ):=by
 funext x;cases x with
 |tmp t=>exact getD_map _ _
 |_=>rfl
theorem pF (a:Act):a.eval=fL λt=>a.tmps.getD t ϊ:=by
 funext x;cases x<;>rfl
theorem OE.get {a:Act}(h:OE P S n a)(t:Nat):rv (sg S S.d n) (a.tmps.getD t ϊ)=a.tmps.getD t ϊ:=by
 rw[zbE];cases he:a.tmps[t]? with
 |none=>simp[eu]
 |some v=>simp;exact h v (zbF he)
theorem Hs (a:Act)(d:Option Tmp)(v:ζ):(a.rn ρ).put d (rv ρ v)=(a.put d v).rn ρ:=by
 cases d with
 |none=>rfl
 |some d=>simp[Act.put,Act.rn,Array.map_setIfInBounds]
theorem OE.put {a:Act}(h:OE P S n a)(d:Option Tmp)(hv:rv (sg S S.d n) v=v):OE P S n (a.put d v):=by
 cases d with
 |none=>exact h
 |some d=>
  intro x hx;have tJ:x∈a.tmps.setIfInBounds d v:=hx;rcases Array.mem_or_eq_of_mem_setIfInBounds tJ with h1|h1
  ·exact h x h1
  ·rw[h1];exact hv
section
variable {b:Λ}{a:Act}{ops:Array Oper}{i:Nat}{rest:List Nat}{o:Oper}{kk:List Item}
theorem aa.JU (hC:lp P F S)(cG:fo P F S o.op=true)(ho:ops[i]?=some o)(hw:φ o (ψ ops a.tmps)=true)(hk:b.kind≠.early)
 (h:∀τ d,∃v w',(ϋ a.eval o).run P (w.re τ d)=.ok (.value v) w'∧aa P S Ψ (b.at (a.put o.dst v) (.inRegion ops rest::kk)) cs w'):aa P S Ψ (b.at a (.inRegion ops (i::rest)::kk)) cs w:=
 aa.walk λρ W hS hc hcs hR=>by
  have hca:OE P S w.heap.size a:=hc;refine af.JU (a:=a.rn ρ) (b:=b) (T:=λt=>a.tmps.getD t ϊ) hC cG ho (by show φ o (ψ ops (a.tmps.map (rv ρ)))=true;rw[show ψ ops (a.tmps.map (rv ρ))=ψ ops a.tmps from funext λj=>ov ops a.tmps j];exact hw) hk (λt=>hca.get t) hS (λ_ h=>h) (by rw[CK]) (by rw[←pF];exact h)
   (λv w' ρ' W' own' hq TE rF hsz fK hown _ _ _=>?_) hR
  have Nv:(a.rn ρ).put o.dst (rv ρ' v)=(a.put o.dst v).rn ρ':=by
   have e:a.rn ρ=a.rn ρ':=by
    unfold Act.rn;rw[et λx hx=>agree (σ:=sg S S.d w.heap.size) (λr hr=>(rF r (bY.1 hr).2).symm) (λy _=>(Er hS TE y).symm) x (hca x hx)]
   rw[e,Hs]
  have acO:cs.map (cv ρ)=cs.map (cv ρ'):=fw (λr hr=>(rF r hr).symm) (λx=>(Er hS TE x).symm) hcs;rw[Nv,acO];exact af.co (fr:=b.at (a.put o.dst v) (.inRegion ops rest::kk)) hq TE hown (OE.put (P:=P) (λx hx=>eY (dY hsz).1 (dY hsz).2 x (hca x hx)) o.dst fK) (λf hf=>iJ hsz (hcs f hf)) ⟨hsz,rF⟩
end
end
section
variable {P:Ξ}{F:ι→Bool}{S:Sd}{Ψ:dn}{fr fr':Λ}{cs cs':List Λ}{w w' W:Θ}{ρ:Rn}{b:Λ}{a:Act}{k:List Item}
theorem aa.ctl {k':List Item}(hst:∀(a:Act) (cs:List Λ) W,π P true (G (b.at a k) cs) W=.go (G (b.at a k') cs) W #[])(h:aa P S Ψ (b.at a k') cs w):aa P S Ψ (b.at a k) cs w:=
 aa.silent (fr':=b.at a k') (cs':=cs) (λρ W=>by rw[mP,mP];exact hst _ _ _) (λh1 h2=>⟨h1,h2⟩) h
theorem aa.seq {x y:Code}(h:aa P S Ψ (b.at a (.code x::.code y::k)) cs w):aa P S Ψ (b.at a (.code (.seq x y)::k)) cs w:=aa.ctl (λ_ _ _=>zaV) h
theorem aa.skip (h:aa P S Ψ (b.at a k) cs w):aa P S Ψ (b.at a (.code .skip::k)) cs w:=aa.ctl (λ_ _ _=>stepG_skip) h
theorem aa.region {id:Nat}{ops:Array Oper}(h:aa P S Ψ (b.at a (.inRegion ops (List.range ops.size)::k)) cs w):aa P S Ψ (b.at a (.code (.region id ops false)::k)) cs w:=aa.ctl (λ_ _ _=>zaW) h
theorem CM {c:ω}{t:Bool}(h:a.eval c=.bool t):(a.rn ρ).eval c=.bool t:=by
 rw[CK];rw[pF]at h;cases c with
 |tmp i=>
  simp only[fL]at h ⊢;rw[h];simp[rv]
 |const v=>exact h
 |global g=>exact h
 |func f=>exact h
theorem aa.cond {c:ω}{x y:Code}{t:Bool}(hc:a.eval c=.bool t)(h:aa P S Ψ (b.at a (.code (if t then x else y)::k)) cs w):aa P S Ψ (b.at a (.code (.cond c x y)::k)) cs w:=
 aa.silent (fr':=b.at a (.code (if t then x else y)::k)) (cs':=cs) (λρ W=>by rw[mP,mP];exact stepG_cond (CM hc)) (λh1 h2=>⟨h1,h2⟩) h
def gA (b:Λ)(a:Act)(k:List Item):Λ:={ b.at a k with mode:= .returning }
theorem TH:cv ρ (gA b a k)=gA b (a.rn ρ) k:=rfl
theorem Et {ops:Array Oper}{rest:List Nat}{o:Oper}{kk:List Item}(ho:ops[i]?=some o)(hw:φ o (ψ ops a.tmps)=true)(hk:b.kind≠.early){ats:Array χ}(hop:o.op=.call { callee:= .value (.func f),args:=xs,argTypes:=ats })
 (vL:(P.funcs[f]?).any (λfn=>fn.body.isSome)=true)(OG:(P.funcs[f]?).any (λfn=>fn.name != "runtime.NumGoroutine")=true):
 π P main (G (b.at a (.inRegion ops (i::rest)::kk)) cs) w=.go (G (Λ.enter P f (xs.map a.eval) .normal) (b.at a (.inRegion ops (i::rest)::kk)::cs)) w #[]:=by
 cases hf:P.funcs[f]? with
 |none=>rw[hf]at vL;simp at vL
 |some fn=>
  rw[hf]at vL OG;simp only[Option.any_some]at vL OG;obtain⟨cc,hcc⟩:=zcc.1 vL;have hne:¬fn.name= "runtime.NumGoroutine" :=by simpa using OG
  have hr:(ϋ a.eval o).run P w=.ok (.enter f (xs.map a.eval)) w:=by
   unfold ϋ;simp[hop,resolve,invoke,callFunc,hf,hcc,hne,Act.eval,Deferred.ofValue,go_sem]
  have he:(ϋ a.eval o).events P w #[]=#[]:=by
   unfold ϋ;simp[hop,resolve,invoke,callFunc,hf,hcc,hne,Act.eval,Deferred.ofValue,go_sem]
  rw[stepG_enter ho hw hk hr,listed_none he]
theorem TJ (hf:rV S ρ)(hx:xs.all (gD S)=true):xs.map (a.rn ρ).eval=(xs.map a.eval).map (rv ρ):=by
 rw[zcl];refine Array.map_congr_left λx hm=>?_;have:=zcd.1 hx x hm;show(a.rn ρ).eval x=rv ρ (a.eval x);rw[CK,pF];exact Ou this hf
theorem TK (hn:S.g≤n)(h:OE P S n a)(hx:xs.all (gD S)=true):∀v∈xs.map a.eval,rv (sg S S.d n) v=v:=by
 intro v hv;obtain⟨x,hm,rfl⟩:=Array.mem_map.1 hv;have:=zcd.1 hx x hm;rw[pF];exact JR hn (λt=>h.get t) this
theorem Eu {args:Array ζ}(h:∀v∈args,rv (sg S S.d n) v=v):iH P S n (Λ.enter P f args .normal):=by
 have e:cv (sg S S.d n) (Λ.enter P f args .normal)=Λ.enter P f args .normal:=by
  rw[←il,bF.2 h]
 exact tU e
theorem aa.TL (hst:∀ρ:Rn,rV S ρ→∀W,π P true (G (cv ρ fr) (cs.map (cv ρ)++Ψ.bot)) W=.go (G (cv ρ fr') (cs'.map (cv ρ)++Ψ.bot)) W #[])
 (fK:S.g≤w.heap.size→iH P S w.heap.size fr→(∀f∈cs,iH P S w.heap.size f)→iH P S w.heap.size fr'∧∀f∈cs',iH P S w.heap.size f)(k:aa P S Ψ fr' cs' w):aa P S Ψ fr cs w:=
 aa.walk λρ W hS hc hcs _=>by
  obtain⟨h1,h2⟩:=fK hS.wr.big.g hc hcs;exact af.silent rfl (λaS=>hst ρ hS.fix aS) (af.co k hS (λ_ h=>h) h1 h2 (SL.refl _ _))
theorem aa.enter {ops:Array Oper}{rest:List Nat}{o:Oper}{kk:List Item}(ho:ops[i]?=some o)(hw:φ o (ψ ops a.tmps)=true)(hk:b.kind≠.early){ats:Array χ}(hop:o.op=.call { callee:= .value (.func f),args:=xs,argTypes:=ats })
 (vL:(P.funcs[f]?).any (λfn=>fn.body.isSome)=true)(OG:(P.funcs[f]?).any (λfn=>fn.name != "runtime.NumGoroutine")=true)(hx:xs.all (gD S)=true)
 (h:aa P S Ψ (Λ.enter P f (xs.map a.eval) .normal) (b.at a (.inRegion ops (i::rest)::kk)::cs) w):aa P S Ψ (b.at a (.inRegion ops (i::rest)::kk)) cs w:=by
 refine aa.TL (λρ wH W=>?_) (λh0 h1 h2=>⟨Eu (TK (P:=P) h0 h1 hx),λg hg=>?_⟩) h
 ·rw[zaB,mP,←il,←TJ wH hx];refine Et ho ?_ hk hop vL OG;show φ o (ψ ops (a.tmps.map (rv ρ)))=true;rw[show ψ ops (a.tmps.map (rv ρ))=ψ ops a.tmps from funext λj=>ov ops a.tmps j];exact hw
 ·rcases zal.1 hg with rfl|hg
  ·exact h1
  ·exact h2 g hg
end
def j0 (ρ σ:Rn):Rn:={ b:=λr=>ρ (σ r),f:=λx=>ρ.f (σ.f x),d:=ρ.d }
theorem eR {f g h:ζ→ζ}{cs:Array ζ}(e:∀x∈cs,f (g x)=h x):(cs.map g).map f=cs.map h:=by
 rw[zcl];exact Array.map_congr_left λx hx=>e x hx
theorem iL (ρ σ:Rn):∀v:ζ,rv ρ (rv σ v)=rv (j0 ρ σ) v
 |.pointer none=>by simp[rv]
 |.pointer (some a)=>by simp[rv,ra,j0]
 |.slice none _ _=>by simp[rv]
 |.slice (some a) l c=>by simp[rv,ra,j0]
 |.map none=>by simp[rv]
 |.map (some r)=>by simp[rv,j0]
 |.chan none=>by simp[rv]
 |.chan (some r)=>by simp[rv,j0]
 |.func fn first captured=>by
  simp only[rv,ζ.func.injEq];refine⟨rfl,eR λx hx=>?_,eR λx hx=>?_⟩
  ·have:=zbj hx;exact iL ρ σ x
  ·have:=zbj hx;exact iL ρ σ x
 |.iface t v=>by simp only[rv,ζ.iface.injEq,true_and];exact iL ρ σ v
 |.agg cs=>by
  simp only[rv,ζ.agg.injEq];refine eR λx hx=>?_;have:=zbj hx;exact iL ρ σ x
 |.tuple cs=>by
  simp only[rv,ζ.tuple.injEq];refine eR λx hx=>?_;have:=zbj hx;exact iL ρ σ x
 |.bool _=>by simp[rv]
 |.int _ _=>by simp[rv]
 |.float _ _=>by simp[rv]
 |.complex _ _ _=>by simp[rv]
 |.string _=>by simp[rv]
 |.nilFunc=>by simp[rv]
 |.nilIface=>by simp[rv]
termination_by v=>SizeOf.sizeOf v
theorem JX (ρ σ:Rn)(o:Obj):ro ρ (ro σ o)=ro (j0 ρ σ) o:=by
 cases o with
 |cells c t f=>simp only[ro,Obj.cells.injEq,zay];exact eR λx _=>iL ρ σ x
 |pending c t=>simp only[ro,Obj.pending.injEq,zay];exact eR λx _=>iL ρ σ x
 |chan a b c d e f=>simp only[ro,Obj.chan.injEq,true_and,zay];exact eR λx _=>iL ρ σ x
 |view a t=>simp[ro,ra,j0]
 |number a t=>simp[ro,ra,j0]
 |map es c=>
  simp only[ro,Obj.map.injEq,zay,zcl];refine Array.map_congr_left λe _=>?_;simp[iL]
 |_=>rfl
theorem OH {ρ:Rn}{o:Obj}(h:l6 o):l6 (ro ρ o):=by
 cases o<;>first|exact h|trivial
def Bf (g0 n:Nat):Rn:={ b:=λr=>if g0≤r then n+(r-g0)else r,f:=id,d:=0 }
def Bg (ρ gB:Rn)(g0 n m N:Nat):Rn:={ b:=λr=>if r<n then ρ r else if r<n+(m-g0)then gB (g0+(r-n))else N+(r-(n+(m-g0))),f:=ρ.f,d:=ρ.d }
def Ht (P:Ξ)(w w₂:Θ):Θ:={ w with heap:=w.heap++(w₂.heap.extract P.globals.size w₂.heap.size).map (ro (Bf P.globals.size w.heap.size)) }
structure Two (P:Ξ) (S jc:Sd):Prop where
 z:jc.d=P.globals.size
 dp:S.d≤P.globals.size
 f:∀g,jc g=true→S g=true
section
variable {P:Ξ}{S jc:Sd}{ρ gB:Rn}{w w₂ W:Θ}
theorem pG (h:P.globals.size≤w₂.heap.size):(Ht P w w₂).heap.size=w.heap.size+(w₂.heap.size-P.globals.size):=by
 simp only[Ht,Array.size_append,Array.size_map,Array.size_extract];omega
theorem Hu (h:r<w.heap.size):(Ht P w w₂).heap[r]?=w.heap[r]?:=by
 simp only[Ht];rw[Array.getElem?_append_left h]
theorem OI (h1:P.globals.size≤r)(h2:r<w₂.heap.size):(Ht P w w₂).heap[w.heap.size+(r-P.globals.size)]?=(w₂.heap[r]?).map (ro (Bf P.globals.size w.heap.size)):=by
 simp only[Ht];rw[Array.getElem?_append_right (by omega),zaz,show w.heap.size+(r-P.globals.size)-w.heap.size=r-P.globals.size by omega,Array.getElem?_extract,zab (by omega),show P.globals.size+(r-P.globals.size)=r by omega]
theorem Hv {o:Obj}(hb:P.globals.size≤w₂.heap.size)(h:(Ht P w w₂).heap[r]?=some o):(r<w.heap.size∧w.heap[r]?=some o)∨∃r₂ xL,P.globals.size≤r₂∧r₂<w₂.heap.size∧r=w.heap.size+(r₂-P.globals.size)∧w₂.heap[r₂]?=some xL∧o=ro (Bf P.globals.size w.heap.size) xL:=by
 rcases zaw r w.heap.size with hlt|jB
 ·rw[Hu hlt]at h;exact .inl ⟨hlt,h⟩
 ·right;have hs:=(zaj.1 h).1;rw[pG hb]at hs;have h2:P.globals.size+(r-w.heap.size)<w₂.heap.size:=by omega
  have e:r=w.heap.size+(P.globals.size+(r-w.heap.size)-P.globals.size):=by omega
  rw[e,OI (by omega) h2]at h;obtain⟨xL,h3,h4⟩:=zas.1 h;exact⟨_,xL,by omega,h2,e,h3,h4.symm⟩
theorem aap (T:Two P S jc)(h:ja P S ρ w W)(h₂:ja P jc gB w₂ W)(hc:Cl P jc w₂ v):rv (Bg ρ gB P.globals.size w.heap.size w₂.heap.size W.heap.size) (rv (Bf P.globals.size w.heap.size) v)=rv gB v:=by
 rw[iL];refine agree (σ:=sg jc jc.d w₂.heap.size) (λr hr=>?_) (λx _=>?_) v hc
 ·obtain⟨h1,h2⟩:=bY.1 hr;rw[T.z]at h1;simp only[j0,Bf,Bg,zab h1];rw[zaa (by omega),zab (by omega)]
  congr 1
  omega
 ·simp only[j0,Bf,Bg,id];rw[h.f,h₂.f]
theorem aaq (T:Two P S jc)(h:ja P S ρ w W)(h₂:ja P jc gB w₂ W){o:Obj}(hc:ro (sg jc jc.d w₂.heap.size) o=o):ro (Bg ρ gB P.globals.size w.heap.size w₂.heap.size W.heap.size) (ro (Bf P.globals.size w.heap.size) o)=ro gB o:=by
 rw[JX];refine tO (σ:=sg jc jc.d w₂.heap.size) (λr hr=>?_) (λx _=>?_) hc
 ·obtain⟨h1,h2⟩:=bY.1 hr;rw[T.z]at h1;simp only[j0,Bf,Bg,zab h1];rw[zaa (by omega),zab (by omega)]
  congr 1
  omega
 ·simp only[j0,Bf,Bg,id];rw[h.f,h₂.f]
theorem aar (T:Two P S jc)(hb:P.globals.size≤w.heap.size)(kN:P.globals.size≤w₂.heap.size)(hc:Cl P jc w₂ v):Cl P S (Ht P w w₂) (rv (Bf P.globals.size w.heap.size) v):=by
 unfold Cl;rw[iL];refine agree (σ:=sg jc jc.d w₂.heap.size) (λr hr=>?_) (λx hx=>?_) v hc
 ·obtain⟨h1,h2⟩:=bY.1 hr;rw[T.z]at h1;simp only[j0,Bf,zab h1];exact bY.2 ⟨by have:=T.dp;omega,by rw[pG kN];omega⟩
 ·simp only[j0,Bf,id];obtain⟨g,rfl,hg⟩:=iD.1 hx;exact iD.2 ⟨g,rfl,T.f g hg⟩
theorem X9 (T:Two P S jc)(hb:P.globals.size≤w.heap.size)(kN:P.globals.size≤w₂.heap.size){o:Obj}(hc:ro (sg jc jc.d w₂.heap.size) o=o):ro (sg S S.d (Ht P w w₂).heap.size) (ro (Bf P.globals.size w.heap.size) o)=ro (Bf P.globals.size w.heap.size) o:=by
 rw[JX];refine tO (σ:=sg jc jc.d w₂.heap.size) (λr hr=>?_) (λx hx=>?_) hc
 ·obtain⟨h1,h2⟩:=bY.1 hr;rw[T.z]at h1;simp only[j0,Bf,zab h1];exact bY.2 ⟨by have:=T.dp;omega,by rw[pG kN];omega⟩
 ·simp only[j0,Bf,id];obtain⟨g,rfl,hg⟩:=iD.1 hx;exact iD.2 ⟨g,rfl,T.f g hg⟩
theorem ja.merge (T:Two P S jc)(h:ja P S ρ w W)(h₂:ja P jc gB w₂ W)(hd:∀b,Touch S.d ρ w b→¬Touch jc.d gB w₂ b):ja P S (Bg ρ gB P.globals.size w.heap.size w₂.heap.size W.heap.size) (Ht P w w₂) W:=by
 have hb:=h.wr.big.p;have kN:=h₂.wr.big.p;have qz:=T.dp;have hz:=T.z;have hs:=pG (w:=w) kN;have rF:∀r,r<w.heap.size→Bg ρ gB P.globals.size w.heap.size w₂.heap.size W.heap.size r=ρ r:=λr hr=>by simp only[Bg,zab hr]
 have mQ:∀r,P.globals.size≤r→r<w₂.heap.size→Bg ρ gB P.globals.size w.heap.size w₂.heap.size W.heap.size (w.heap.size+(r-P.globals.size))=gB r:=λr h1 h2=>by
  simp only[Bg];rw[zaa (by omega),zab (by omega)]
  congr 1
  omega
 have qa:∀r,w.heap.size+(w₂.heap.size-P.globals.size)≤r→Bg ρ gB P.globals.size w.heap.size w₂.heap.size W.heap.size r=W.heap.size+(r-(w.heap.size+(w₂.heap.size-P.globals.size))):=λr hr=>by
  simp only[Bg];rw[zaa (by omega),zaa (by omega)]
 have cs:∀r,r<w.heap.size∨(∃r₂,P.globals.size≤r₂∧r₂<w₂.heap.size∧r=w.heap.size+(r₂-P.globals.size))∨w.heap.size+(w₂.heap.size-P.globals.size)≤r:=λr=>by
  rcases zaw r w.heap.size with h1|h1
  ·exact .inl h1
  ·rcases zaw r (w.heap.size+(w₂.heap.size-P.globals.size))with h2|h2
   ·exact .inr (.inl ⟨P.globals.size+(r-w.heap.size),by omega,by omega,by omega⟩)
   ·exact .inr (.inr h2)
 refine⟨⟨λr o jB ho=>?_,λr o ho=>?_,λr hr=>?_,λr o jB ho=>?_,λr hr=>?_,λr h1 h2=>?_,?_⟩,λa b e=>?_,λr=>?_,h.f,h.qb⟩
 ·rcases Hv kN ho with⟨h1,h2⟩|⟨r₂,xL,h1,h2,rfl,h3,rfl⟩
  ·rw[rF r h1,h.wr.live r o jB h2]
   congr 1
   exact tO (σ:=sg S S.d w.heap.size) (λx hx=>(rF x (bY.1 hx).2).symm) (λ_ _=>rfl) (h.wr.closed r o jB h2)
  ·rw[mQ r₂ h1 h2,aaq T h h₂ (h₂.wr.closed r₂ xL (by omega) h3)];exact h₂.wr.live r₂ xL (by omega) h3
 ·rcases Hv kN ho with⟨h1,h2⟩|⟨r₂,xL,h1,h2,rfl,h3,rfl⟩
  ·exact h.wr.ok r o h2
  ·exact OH (h₂.wr.ok r₂ xL h3)
 ·rw[Hu (by omega)];exact h.wr.dead r hr
 ·rcases Hv kN ho with⟨h1,h2⟩|⟨r₂,xL,h1,h2,rfl,h3,rfl⟩
  ·have:=h.wr.closed r o jB h2;have e:=tO (σ:=sg S S.d w.heap.size) (ρ:=sg S S.d (Ht P w w₂).heap.size) (ρ':=sg S S.d w.heap.size) (λx hx=>by
    rw[hx];exact bY.2 ⟨(bY.1 hx).1,by have:=(bY.1 hx).2;rw[hs];omega⟩) (λx hx=>by rw[hx];exact iD.2 (iD.1 hx)) this
   rw[e];exact this
  ·exact X9 T hb kN (h₂.wr.closed r₂ xL (by omega) h3)
 ·rw[hs]at hr ⊢;exact qa r hr
 ·rw[hs]at h2;rcases cs r with h3|⟨r₂,h3,h4,rfl⟩|h3
  ·rw[rF r h3];exact h.wr.low r h1 h3
  ·rw[mQ r₂ h3 h4];exact h₂.wr.low r₂ (by omega) h4
  ·omega
 ·rw[hs];exact⟨by omega,by have:=h.wr.big.g;omega,h.wr.big.r,by omega,qz,λg h1 h2=>by rw[rF g (by have:=h.wr.big.g;omega)];exact h.wr.big.fg g h1 h2,λg h1=>by rw[rF g (by omega)];exact h.wr.big.fl g h1⟩
 ·rcases cs a with ha|⟨a₂,ha1,ha2,rfl⟩|ha<;>rcases cs b with hb'|⟨tY,hb1,hb2,rfl⟩|hb'
  ·rw[rF a ha,rF b hb']at e;exact h.inj a b e
  ·rw[rF a ha,mQ tY hb1 hb2]at e;rcases zaw a P.globals.size with hl|hl
   ·have g1:=(h.lr a).2 hl;rw[e]at g1;have:=(h₂.lr tY).1 g1;omega
   ·exact absurd ⟨tY,by omega,hb2,e⟩ (hd (ρ a) ⟨a,by omega,ha,rfl⟩)
  ·rw[rF a ha,qa b hb']at e;have:=h.low ha;omega
  ·rw[mQ a₂ ha1 ha2,rF b hb']at e;rcases zaw b P.globals.size with hl|hl
   ·have g1:=(h.lr b).2 hl;rw[←e]at g1;have:=(h₂.lr a₂).1 g1;omega
   ·exact absurd ⟨a₂,by omega,ha2,e.symm⟩ (hd (ρ b) ⟨b,by omega,hb',rfl⟩)
  ·rw[mQ a₂ ha1 ha2,mQ tY hb1 hb2]at e;have:=h₂.inj a₂ tY e;omega
  ·rw[mQ a₂ ha1 ha2,qa b hb']at e;have:=h₂.low ha2;omega
  ·rw[qa a ha,rF b hb']at e;have:=h.low hb';omega
  ·rw[qa a ha,mQ tY hb1 hb2]at e;have:=h₂.low hb2;omega
  ·rw[qa a ha,qa b hb']at e;omega
 ·rcases cs r with h3|⟨r₂,h3,h4,rfl⟩|h3
  ·rw[rF r h3];exact h.lr r
  ·rw[mQ r₂ h3 h4];have:=h₂.lr r₂;constructor
   ·intro q;have:=this.1 q;omega
   ·intro q;omega
  ·rw[qa r h3];have:=h.qb;constructor<;>intro<;>omega
theorem Ew (T:Two P S jc)(kN:P.globals.size≤w₂.heap.size){b:Nat}(ht:Touch S.d (Bg ρ gB P.globals.size w.heap.size w₂.heap.size W.heap.size) (Ht P w w₂) b):Touch S.d ρ w b∨Touch jc.d gB w₂ b:=by
 obtain⟨r,h1,h2,rfl⟩:=ht;rw[pG kN]at h2;rcases zaw r w.heap.size with hlt|jB
 ·exact .inl ⟨r,h1,hlt,by simp only[Bg,zab hlt]⟩
 ·refine .inr ⟨P.globals.size+(r-w.heap.size),by have:=T.z;omega,by omega,?_⟩;simp only[Bg];rw[zaa (by omega),zab (by omega)]
theorem Ya {base:Nat}{e:χ}{z:Nat}{xs:List ζ}(hb:P.globals.size≤base)(h:w₂.ownsRow base e z v n xs)(hx:∀x∈xs,rv (Bf P.globals.size w.heap.size) x=x):(Ht P w w₂).ownsRow w.heap.size e z (rv (Bf P.globals.size w.heap.size) v) n xs:=by
 refine⟨h.1,?_⟩;rcases h.2 with⟨rfl,h0⟩|⟨g,cap,cur,rfl,h1,h2,h3,h4,h5,h6⟩
 ·exact .inl ⟨by simp[rv],h0⟩
 ·refine .inr ⟨w.heap.size+(g-P.globals.size),cap,cur.map (rv (Bf P.globals.size w.heap.size)),?_,by omega,?_,h3,h4,by simpa using h5,?_⟩
  ·simp only[rv,zbp,ra,Bf,zab (show P.globals.size≤g by omega)]
  ·rw[OI (by omega) (zaj.1 h2).1,h2];rfl
  ·rw[zbl,←List.map_take,h6]
   conv=>rhs;rw[←List.map_id xs]
   exact List.map_congr_left λx hm=>hx x hm
end
abbrev qg:Item:= .code (.refuse default)
structure Lx (x:Λ) (l:List Item):Prop where
 todo:x.todo=l++[qg]
 run:x.mode=.run
theorem im (l:List Item):(l++[qg]).dropLast=l:=by simp
theorem dK {id:Nat}(k:List Item):∀{l k':List Item},ξ id (l++[qg])=some k'→∃l',k'=l'++[qg]∧ξ id (l++k)=some (l'++k)
 |[],k',h=>by simp[ξ,qg]at h
 |.inBlock id'::l,k',h=>by
  simp only[zam,ξ]at h ⊢;split at h
  ·rename_i e;rw[zab e];cases h;exact⟨l,rfl,rfl⟩
  ·rename_i e;rw[zaa e];exact dK k h
 |.code c::l,k',h=>by simp only[zam,ξ]at h ⊢;exact dK k h
 |.inLoop c::l,k',h=>by simp only[zam,ξ]at h ⊢;exact dK k h
 |.inRegion ..::l,k',h=>by simp only[zam,ξ]at h ⊢;exact dK k h
 |.inScope c::l,k',h=>by simp only[zam,ξ]at h ⊢;exact dK k h
 |.inRangeFunc c::l,k',h=>by simp only[zam,ξ]at h ⊢;exact dK k h
 |.endRangeFunc c::l,k',h=>by simp only[zam,ξ]at h ⊢;exact dK k h
 |.beginRound::l,k',h=>by simp only[zam,ξ]at h ⊢;exact dK k h
 |.call ..::l,k',h=>by simp only[zam,ξ]at h ⊢;exact dK k h
 |.extern ..::l,k',h=>by simp only[zam,ξ]at h ⊢;exact dK k h
section
variable {P:Ξ}{F:ι→Bool}{S:Sd}{w w1:Θ}{es:Array υ}
theorem CN {f:Λ}{c:Λ}{r:List Λ}{f1:Λ}(hr:(ba P f (c::r)).runT P w #[]=(.ok (f1,a1) w1,es)):(∃p,a1=p++c::r∧∀ab,(ba P f ab).runT P w #[]=(.ok (f1,p++ab) w1,es))∨(∃v,f1=c.finish v∧a1=r∧∀c' r',(ba P f (c'::r')).runT P w #[]=(.ok (c'.finish v,r') w1,es)):=by
 obtain⟨fn0,tmps,todo,defers,mode,kind,oc⟩:=f;by_cases hm:mode=.run
 ·left;subst hm
  match todo,hr with
  |[],hr=>
   simp only[ba,pure,Φ,zaf,zan]at hr;obtain⟨⟨⟨rfl,rfl⟩,rfl⟩,rfl⟩:=hr;exact⟨[],rfl,λab=>rfl⟩
  |.code .ret::k,hr=>
   simp only[ba,pure,Φ,zaf,zan]at hr;obtain⟨⟨⟨rfl,rfl⟩,rfl⟩,rfl⟩:=hr;exact⟨[],rfl,λab=>rfl⟩
  |.code .skip::k,hr=>
   simp only[ba,pure,Φ,zaf,zan]at hr;obtain⟨⟨⟨rfl,rfl⟩,rfl⟩,rfl⟩:=hr;exact⟨[],rfl,λab=>rfl⟩
  |.inBlock _::k,hr=>
   simp only[ba,pure,Φ,zaf,zan]at hr;obtain⟨⟨⟨rfl,rfl⟩,rfl⟩,rfl⟩:=hr;exact⟨[],rfl,λab=>rfl⟩
  |.code (.seq a b)::k,hr=>
   simp only[ba,pure,Φ,zaf,zan]at hr;obtain⟨⟨⟨rfl,rfl⟩,rfl⟩,rfl⟩:=hr;exact⟨[],rfl,λab=>rfl⟩
  |.code (.block id a)::k,hr=>
   simp only[ba,pure,Φ,zaf,zan]at hr;obtain⟨⟨⟨rfl,rfl⟩,rfl⟩,rfl⟩:=hr;exact⟨[],rfl,λab=>rfl⟩
  |.code (.loop a)::k,hr=>
   simp only[ba,pure,Φ,zaf,zan]at hr;obtain⟨⟨⟨rfl,rfl⟩,rfl⟩,rfl⟩:=hr;exact⟨[],rfl,λab=>rfl⟩
  |.inLoop a::k,hr=>
   simp only[ba,pure,Φ,zaf,zan]at hr;obtain⟨⟨⟨rfl,rfl⟩,rfl⟩,rfl⟩:=hr;exact⟨[],rfl,λab=>rfl⟩
  |.inRegion _ []::k,hr=>
   simp only[ba,pure,Φ,zaf,zan]at hr;obtain⟨⟨⟨rfl,rfl⟩,rfl⟩,rfl⟩:=hr;exact⟨[],rfl,λab=>rfl⟩
  |.code (.cond c a b)::k,hr=>
   simp only[ba]at hr ⊢;generalize Λ.eval _ c=q at hr ⊢;cases q with
   |bool t=>
    simp only[pure,Φ,zaf,zan]at hr;obtain⟨⟨⟨rfl,rfl⟩,rfl⟩,rfl⟩:=hr;exact⟨[],rfl,λab=>rfl⟩
   |_=>simp[stuck]at hr
  |.code (.exit id)::k,hr=>
   simp only[ba]at hr ⊢;cases he:ξ id k with
   |none=>rw[he]at hr;simp[stuck]at hr
   |some k'=>
    rw[he]at hr;simp only[pure,Φ,zaf,zan]at hr;obtain⟨⟨⟨rfl,rfl⟩,rfl⟩,rfl⟩:=hr;exact⟨[],rfl,λab=>rfl⟩
  |.code (.region id ops draw)::k,hr=>
   cases draw with
   |false=>
    simp only[ba,pure,Φ,zaf,zan,zaU,if_false]at hr;obtain⟨⟨⟨rfl,rfl⟩,rfl⟩,rfl⟩:=hr;exact⟨[],rfl,λab=>rfl⟩
   |true=>
    simp only[ba,if_true,bind,choose,Sem.bind,Φ,Question.forced,zaU,if_false,pure,zaf,zan,Question.cut]at hr;obtain⟨⟨⟨rfl,rfl⟩,rfl⟩,rfl⟩:=hr;exact⟨[],rfl,λab=>by simp only[ba,if_true,bind,choose,Sem.bind,Φ,Question.forced,zaU,if_false,pure,Question.cut,zbm]⟩
  |.inRegion ops (i::rest)::k,hr=>
   simp only[ba]at hr ⊢;by_cases hw:((ops[i]?).map (φ · (ψ ops tmps))).getD false=true
   ·rw[zab hw]at hr;cases ho:ops[i]? with
    |none=>rw[ho]at hr;simp[stuck]at hr
    |some o=>
     rw[ho]at hr hw;dsimp only at hr ⊢;simp only[zab hw];generalize (ϋ (Λ.eval ⟨fn0,tmps,.inRegion ops (i::rest)::k,defers,.run,kind,oc⟩) o)=ex at hr ⊢;rw[bO]at hr;simp only[bO];cases hrun:ex.runT P w #[]with
     |mk q dA=>
      rw[hrun]at hr;cases q with
      |halt hh w1=>simp at hr
      |ok nx w1=>
       dsimp only at hr ⊢;cases nx with
       |value v=>
        simp only[pure,Φ,zaf,zan]at hr;obtain⟨⟨⟨rfl,rfl⟩,rfl⟩,rfl⟩:=hr;exact⟨[],rfl,λab=>rfl⟩
       |skip=>
        simp only[pure,Φ,zaf,zan]at hr;obtain⟨⟨⟨rfl,rfl⟩,rfl⟩,rfl⟩:=hr;exact⟨[],rfl,λab=>rfl⟩
       |enter f args=>
        simp only[pure,Φ,zaf,zan]at hr;obtain⟨⟨⟨rfl,rfl⟩,rfl⟩,rfl⟩:=hr;exact⟨[⟨fn0,tmps,.inRegion ops (i::rest)::k,defers,.run,kind,oc⟩],rfl,λab=>rfl⟩
       |_=>simp[stuck]at hr
   ·rw[zaa hw]at hr;simp only[zaa hw];simp only[pure,Φ,zaf,zan]at hr;obtain⟨⟨⟨rfl,rfl⟩,rfl⟩,rfl⟩:=hr;exact⟨[],rfl,λab=>rfl⟩
  |.code (.rangeFunc ..)::k,hr=>simp[ba,stuck]at hr
  |.code (.scope ..)::k,hr=>simp[ba,stuck]at hr
  |.code (.label ..)::k,hr=>simp[ba,stuck]at hr
  |.code (.goto ..)::k,hr=>simp[ba,stuck]at hr
  |.code (.refuse ..)::k,hr=>simp[ba,stuck]at hr
  |.inScope c::k,hr=>simp[ba,stuck]at hr
  |.inRangeFunc c::k,hr=>simp[ba,stuck]at hr
  |.endRangeFunc c::k,hr=>simp[ba,stuck]at hr
  |.beginRound::k,hr=>simp[ba,stuck]at hr
  |.call ..::k,hr=>simp[ba,stuck]at hr
  |.extern ..::k,hr=>simp[ba,stuck]at hr
 ·right;have key:∀ab,ba P ⟨fn0,tmps,todo,defers,mode,kind,oc⟩ ab=match P.funcs[fn0]? with
   |some fn=>do
    let v ←results fn tmps
    match ab with
    |c::rest=>pure (c.finish v,rest)
    |[]=>stuck ""
   |none=>stuck "" :=λab=>by
   cases mode with
   |run=>exact absurd rfl hm
   |_=>rfl
  rw[key]at hr;simp only[key];cases hf:P.funcs[fn0]? with
  |none=>rw[hf]at hr;simp[stuck]at hr
  |some fn=>
   rw[hf]at hr;dsimp only at hr ⊢;rw[bO]at hr;simp only[bO];cases hrun:(results fn tmps).runT P w #[]with
   |mk q dA=>
    rw[hrun]at hr;cases q with
    |halt hh w1=>simp at hr
    |ok v w1=>
     simp only[pure,Φ,zaf,zan]at hr;obtain⟨⟨⟨rfl,rfl⟩,rfl⟩,rfl⟩:=hr;exact⟨v,rfl,rfl,λc' r'=>rfl⟩
theorem OJ {f:Λ}(hm:f.mode≠.run){f1:Λ}(hr:(ba P f []).runT P w #[]=(.ok (f1,a1) w1,es)):False:=by
 obtain⟨fn0,tmps,todo,defers,mode,kind,oc⟩:=f;have key:ba P ⟨fn0,tmps,todo,defers,mode,kind,oc⟩ []=match P.funcs[fn0]? with
  |some fn=>do
   let _ ←results fn tmps
   stuck ""
  |none=>stuck "" :=by
  cases mode with
  |run=>exact absurd rfl hm
  |_=>rfl
 rw[key]at hr;cases hf:P.funcs[fn0]? with
 |none=>rw[hf]at hr;simp[stuck]at hr
 |some fn=>
  rw[hf]at hr;dsimp only at hr;rw[bO]at hr;cases hrun:(results fn tmps).runT P w #[]with
  |mk q dA=>
   rw[hrun]at hr;cases q with
   |halt hh w1=>simp at hr
   |ok v w1=>simp[stuck]at hr
end
def xM (σ:List (Nat×ζ)):ω→Bool
 |.tmp t=>σ.all λp=>p.1 != t
 |_=>true
theorem ua {σ:List (Nat×ζ)}{t:Nat}(h:xM σ (.tmp t)=true):∀p∈σ,p.1≠t:=λp hp=>by
 have:=zaC.1 h p hp;simpa using this
def JY (σ:List (Nat×ζ))(t:Array ζ):Array ζ:=σ.foldl (λt p=>t.setIfInBounds p.1 p.2) t
theorem CO (t:Nat):∀(σ:List (Nat×ζ)) (x:Array ζ),(∀p∈σ,p.1≠t)→(JY σ x)[t]?=x[t]?
 |[],_,_=>rfl
 |p::σ,x,h=>by
  show(JY σ (x.setIfInBounds p.1 p.2))[t]?=_;rw[CO t σ _ λq hq=>h q (zaQ _ hq),zaA (h p zaD)]
theorem JZ (d:Nat)(v:ζ):∀(σ:List (Nat×ζ)) (x:Array ζ),(∀p∈σ,p.1≠d)→(JY σ x).setIfInBounds d v=JY σ (x.setIfInBounds d v)
 |[],_,_=>rfl
 |p::σ,x,h=>by
  show(JY σ (x.setIfInBounds p.1 p.2)).setIfInBounds d v=JY σ ((x.setIfInBounds d v).setIfInBounds p.1 p.2);rw[JZ d v σ _ λq hq=>h q (zaQ _ hq),Array.setIfInBounds_comm _ _ (h p zaD)]
section
variable (σ:List (Nat×ζ))
def LA:Option Tmp→Bool
 |some d=>xM σ (.tmp d)
 |none=>true
def su (ops:Array Oper)(o:Oper):Bool:=
 o.op.operands.all (xM σ)&&(match o.op with|.select ..=>false|_=>true)&&LA σ o.dst&&(match o.guard with|some (j,_)=>LA σ ((ops[j]?).bind (·.dst))|none=>true)
def kO:Code→Bool
 |.skip |.ret |.exit _|.refuse _=>true
 |.region _ ops _=>ops.all (su σ ops)
 |.seq a b=>kO a&&kO b
 |.cond c a b=>xM σ c&&kO a&&kO b
 |.block _ a|.loop a=>kO a
 |_=>false
def ft:Item→Bool
 |.code c=>kO σ c
 |.inBlock _=>true
 |.inLoop c=>kO σ c
 |.inRegion ops l=>l.all λi=>(ops[i]?).all (su σ ops)
 |_=>false
def eN (k:List Item)(x:Λ):Λ:={ x with todo:=x.todo.dropLast++k,tmps:=JY σ x.tmps }
def Ex (k:List Item):List Λ→List Λ
 |[]=>[]
 |[x]=>[eN σ k x]
 |c::d::r=>c::Ex k (d::r)
def sFJ (k:List Item)(f:Λ):List Λ→Λ
 |[]=>eN σ k f
 |_::_=>f
end
theorem ew {id:Nat}{q:Item→Bool}:∀{l k':List Item},ξ id l=some k'→l.all q=true→k'.all q=true
 |[],k',h,_=>by simp[ξ]at h
 |.inBlock id'::l,k',h,hl=>by
  simp only[zap,zae]at hl;simp only[ξ]at h;split at h
  ·cases h;exact hl.2
  ·exact ew h hl.2
 |.code c::l,k',h,hl=>by simp only[ξ,zap,zae]at h hl;exact ew h hl.2
 |.inLoop c::l,k',h,hl=>by simp only[ξ,zap,zae]at h hl;exact ew h hl.2
 |.inRegion ..::l,k',h,hl=>by simp only[ξ,zap,zae]at h hl;exact ew h hl.2
 |.inScope c::l,k',h,hl=>by simp only[ξ,zap,zae]at h hl;exact ew h hl.2
 |.inRangeFunc c::l,k',h,hl=>by simp only[ξ,zap,zae]at h hl;exact ew h hl.2
 |.endRangeFunc c::l,k',h,hl=>by simp only[ξ,zap,zae]at h hl;exact ew h hl.2
 |.beginRound::l,k',h,hl=>by simp only[ξ,zap,zae]at h hl;exact ew h hl.2
 |.call ..::l,k',h,hl=>by simp only[ξ,zap,zae]at h hl;exact ew h hl.2
 |.extern ..::l,k',h,hl=>by simp only[ξ,zap,zae]at h hl;exact ew h hl.2
section
variable {P:Ξ}{F:ι→Bool}{S:Sd}{w w1:Θ}{es:Array υ}{σ:List (Nat×ζ)}
theorem xN {ops:Array Oper}{o:Oper}(h:su σ ops o=true):o.op.operands.all (xM σ)=true∧(∀cs b,o.op≠.select cs b)∧LA σ o.dst=true:=by
 unfold su at h;simp only[zae]at h;refine⟨h.1.1.1,λcs b e=>?_,h.1.2⟩;have:=h.1.1.2;rw[e]at this;cases this
theorem CP {ops:Array Oper}{o:Oper}(h:su σ ops o=true)(t:Array ζ):φ o (ψ ops (JY σ t))=φ o (ψ ops t):=by
 unfold su at h;simp only[zae]at h;have h4:=h.2;unfold φ;cases hg:o.guard with
 |none=>rfl
 |some p=>
  obtain⟨j,want⟩:=p;rw[hg]at h4;dsimp only at h4 ⊢
  congr 1
  unfold ψ;cases hd:(ops[j]?).bind (·.dst)with
  |none=>rfl
  |some d=>
   rw[hd]at h4;simp only[zce];rw[CO d σ t (ua h4)]
theorem Bh {x:ω}(h:xM σ x=true)(fr:Λ)(k k':List Item):Λ.eval { fr with todo:=k,tmps:=JY σ fr.tmps } x=Λ.eval { fr with todo:=k' } x:=by
 cases x with
 |tmp t=>
  simp only[Λ.eval,zbE];rw[CO t σ _ (ua h)]
 |_=>rfl
theorem mR (k:List Item)(hb:x.todo=h::l++[qg])(hh:aF P F S h=true)(hj:ft σ h=true)(v:ζ):(eN σ k x).finish v=eN σ k (x.finish v)∧(x.finish v).fn=x.fn∧(x.finish v).mode=x.mode∧∃h',(x.finish v).todo=h'::l++[qg]∧ft σ h'=true:=by
 obtain⟨fn0,tmps,todo,defers,mode,kind,oc⟩:=x;simp only at hb;subst hb;have dl:∀(a:Item),((a::(l++[qg])).dropLast++k)=a::(l++k):=λa=>by
  rw[show a::(l++[qg])=(a::l)++[qg] from rfl,im];rfl
 cases h with
 |inRegion ops idx=>
  cases idx with
  |nil=>exact⟨by simp only[Λ.finish,eN,zam,dl],rfl,rfl,_,rfl,hj⟩
  |cons i rest=>
   have hj':=hj;simp only[ft,zap,zae]at hj';refine⟨?_,rfl,rfl,.inRegion ops rest,rfl,hj'.2⟩;have hd:LA σ ((ops[i]?).bind (·.dst))=true:=by
    cases ho:ops[i]? with
    |none=>rfl
    |some o=>
     have:=hj'.1;rw[ho]at this;exact(xN this).2.2
   simp only[Λ.finish,eN,zam,dl]
   revert hd
   generalize (ops[i]?).bind (·.dst)=d;intro hd;cases d with
   |none=>rfl
   |some d=>simp only[JZ d v σ tmps (ua hd)]
 |code c=>exact⟨by simp only[Λ.finish,eN,zam,dl],rfl,rfl,_,rfl,hj⟩
 |inBlock id=>exact⟨by simp only[Λ.finish,eN,zam,dl],rfl,rfl,_,rfl,hj⟩
 |inLoop c=>exact⟨by simp only[Λ.finish,eN,zam,dl],rfl,rfl,_,rfl,hj⟩
 |_=>simp[aF]at hh
theorem pH (k:List Item)(hb:Lx x (h::l))(hh:aF P F S h=true)(hj:(h::l).all (ft σ)=true){f1:Λ}(hr:(ba P x []).runT P w #[]=(.ok (f1,a1) w1,es)):(∃l1,Lx f1 l1∧l1.all (ft σ)=true∧f1.fn=x.fn∧a1=[]∧(ba P (eN σ k x) []).runT P w #[]=(.ok (eN σ k f1,[]) w1,es))∨
 (f1={ x with mode:= .returning }∧a1=[]∧(ba P (eN σ k x) []).runT P w #[]=(.ok (eN σ k f1,[]) w1,es))∨
 (a1=[x]∧(ba P (eN σ k x) []).runT P w #[]=(.ok (f1,[eN σ k x]) w1,es)):=by
 obtain⟨fn0,tmps,todo,defers,mode,kind,oc⟩:=x;obtain⟨ht,hm⟩:=hb;simp only at ht hm;subst ht hm;have dl:∀(a:Item),((a::(l++[qg])).dropLast++k)=a::(l++k):=λa=>by
  rw[show a::(l++[qg])=(a::l)++[qg] from rfl,im];rfl
 have dl0:(l++[qg]).dropLast++k=l++k:=by rw[im]
 have dl2:∀(a b:Item),((a::b::(l++[qg])).dropLast++k)=a::b::(l++k):=λa b=>by
  rw[show a::b::(l++[qg])=(a::b::l)++[qg] from rfl,im];rfl
 simp only[zap,zae]at hj;obtain⟨ub,xJ⟩:=hj;simp only[zam,eN,dl]at hr ⊢
 match h,hh,ub,hr with
 |.code .ret,_,_,hr=>
  simp only[ba,pure,Φ,zaf,zan]at hr;obtain⟨⟨⟨rfl,rfl⟩,rfl⟩,rfl⟩:=hr;exact .inr (.inl ⟨rfl,rfl,by simp only[ba,pure,Φ,dl]⟩)
 |.code .skip,_,_,hr=>
  simp only[ba,pure,Φ,zaf,zan]at hr;obtain⟨⟨⟨rfl,rfl⟩,rfl⟩,rfl⟩:=hr;exact .inl ⟨l,⟨rfl,rfl⟩,xJ,rfl,rfl,by simp only[ba,pure,Φ,dl0]⟩
 |.inBlock _,_,_,hr=>
  simp only[ba,pure,Φ,zaf,zan]at hr;obtain⟨⟨⟨rfl,rfl⟩,rfl⟩,rfl⟩:=hr;exact .inl ⟨l,⟨rfl,rfl⟩,xJ,rfl,rfl,by simp only[ba,pure,Φ,dl0]⟩
 |.code (.seq a b),_,ub,hr=>
  simp only[ba,pure,Φ,zaf,zan]at hr;obtain⟨⟨⟨rfl,rfl⟩,rfl⟩,rfl⟩:=hr;simp only[ft,kO,zae]at ub;exact .inl ⟨.code a::.code b::l,⟨rfl,rfl⟩,by simp only[zap,ft,ub.1,ub.2,xJ,Bool.and_self],rfl,rfl,by simp only[ba,pure,Φ,dl2]⟩
 |.code (.block id a),_,ub,hr=>
  simp only[ba,pure,Φ,zaf,zan]at hr;obtain⟨⟨⟨rfl,rfl⟩,rfl⟩,rfl⟩:=hr;simp only[ft,kO]at ub;exact .inl ⟨.code a::.inBlock id::l,⟨rfl,rfl⟩,by simp only[zap,ft,ub,xJ,Bool.and_self],rfl,rfl,by simp only[ba,pure,Φ,dl2]⟩
 |.code (.loop a),_,ub,hr=>
  simp only[ba,pure,Φ,zaf,zan]at hr;obtain⟨⟨⟨rfl,rfl⟩,rfl⟩,rfl⟩:=hr;simp only[ft,kO]at ub;exact .inl ⟨.code a::.inLoop a::l,⟨rfl,rfl⟩,by simp only[zap,ft,ub,xJ,Bool.and_self],rfl,rfl,by simp only[ba,pure,Φ,dl2]⟩
 |.inLoop a,_,ub,hr=>
  simp only[ba,pure,Φ,zaf,zan]at hr;obtain⟨⟨⟨rfl,rfl⟩,rfl⟩,rfl⟩:=hr;simp only[ft]at ub;exact .inl ⟨.code a::.inLoop a::l,⟨rfl,rfl⟩,by simp only[zap,ft,ub,xJ,Bool.and_self],rfl,rfl,by simp only[ba,pure,Φ,dl2]⟩
 |.inRegion _ [],_,_,hr=>
  simp only[ba,pure,Φ,zaf,zan]at hr;obtain⟨⟨⟨rfl,rfl⟩,rfl⟩,rfl⟩:=hr;exact .inl ⟨l,⟨rfl,rfl⟩,xJ,rfl,rfl,by simp only[ba,pure,Φ,dl0]⟩
 |.code (.cond c a b),_,ub,hr=>
  simp only[ft,kO,zae]at ub;simp only[ba]at hr ⊢;have ev:Λ.eval ⟨fn0,JY σ tmps,.code (.cond c a b)::(l++k),defers,.run,kind,oc⟩ c=Λ.eval ⟨fn0,tmps,.code (.cond c a b)::(l++[qg]),defers,.run,kind,oc⟩ c:=Bh ub.1.1 ⟨fn0,tmps,[],defers,.run,kind,oc⟩ _ _;rw[ev];generalize Λ.eval ⟨fn0,tmps,.code (.cond c a b)::(l++[qg]),defers,.run,kind,oc⟩ c=q at hr ⊢;cases q with
  |bool t=>
   simp only[pure,Φ,zaf,zan]at hr;obtain⟨⟨⟨rfl,rfl⟩,rfl⟩,rfl⟩:=hr;exact .inl ⟨.code (if t then a else b)::l,⟨rfl,rfl⟩,by simp only[zap,ft,xJ,zbZ];cases t<;>simp[ub.1.2,ub.2],rfl,rfl,by simp only[pure,Φ,dl]⟩
  |_=>simp[stuck]at hr
 |.code (.exit id),_,_,hr=>
  simp only[ba]at hr ⊢;cases he:ξ id (l++[qg])with
  |none=>rw[he]at hr;simp[stuck]at hr
  |some k'=>
   rw[he]at hr;have hall:=ew (q:=ft σ) he (by rw[List.all_append,xJ];rfl);obtain⟨l',rfl,h2⟩:=dK k he;rw[h2];rw[List.all_append,zae]at hall;simp only[pure,Φ,zaf,zan]at hr;obtain⟨⟨⟨rfl,rfl⟩,rfl⟩,rfl⟩:=hr;exact .inl ⟨l',⟨rfl,rfl⟩,hall.1,rfl,rfl,by simp only[pure,Φ,im]⟩
 |.code (.region id ops draw),_,ub,hr=>
  simp only[ft,kO]at ub;have aas:∀idx:List Nat,ft σ (.inRegion ops idx)=true:=λidx=>by
   simp only[ft,zaC];intro i _;cases ho:ops[i]? with
   |none=>rfl
   |some o=>exact zcd.1 ub o (zbF ho)
  cases draw with
  |false=>
   simp only[ba,pure,Φ,zaf,zan,zaU,if_false]at hr ⊢;obtain⟨⟨⟨rfl,rfl⟩,rfl⟩,rfl⟩:=hr;exact .inl ⟨.inRegion ops (List.range ops.size)::l,⟨rfl,rfl⟩,by rw[zap,aas,xJ];rfl,rfl,rfl,by simp only[dl,and_self]⟩
  |true=>
   simp only[ba,if_true,bind,choose,Sem.bind,Φ,Question.forced,zaU,if_false,pure,zaf,zan,Question.cut]at hr ⊢;obtain⟨⟨⟨rfl,rfl⟩,rfl⟩,rfl⟩:=hr;exact .inl ⟨.inRegion ops _::l,⟨rfl,rfl⟩,by rw[zap,aas,xJ];rfl,rfl,rfl,by simp only[dl,and_self]⟩
 |.inRegion ops (i::rest),hh,ub,hr=>
  have fU:=λv=>mR (P:=P) (F:=F) (S:=S) (σ:=σ) k (x:=⟨fn0,tmps,.inRegion ops (i::rest)::(l++[qg]),defers,.run,kind,oc⟩) (h:= .inRegion ops (i::rest)) (l:=l) rfl hh ub v;simp only[ft,zap,zae]at ub;simp only[ba]at hr ⊢;have fin:∀v,(⟨fn0,JY σ tmps,.inRegion ops (i::rest)::(l++k),defers,.run,kind,oc⟩:Λ).finish v=eN σ k ((⟨fn0,tmps,.inRegion ops (i::rest)::(l++[qg]),defers,.run,kind,oc⟩:Λ).finish v):=λv=>by
   have:=(fU v).1;simp only[eN,dl]at this;exact this
  have bot:∀v,Lx ((⟨fn0,tmps,.inRegion ops (i::rest)::(l++[qg]),defers,.run,kind,oc⟩:Λ).finish v) (.inRegion ops rest::l):=λv=>⟨rfl,rfl⟩;have hall:(Item.inRegion ops rest::l).all (ft σ)=true:=by
   rw[zap,xJ,zbZ];exact ub.2
  cases ho:ops[i]? with
  |none=>
   rw[ho]at hr;simp only[Option.map_none,zbH,zaU,if_false]at hr ⊢;simp only[pure,Φ,zaf,zan]at hr;obtain⟨⟨⟨rfl,rfl⟩,rfl⟩,rfl⟩:=hr;exact .inl ⟨_,bot ϊ,hall,rfl,rfl,by simp only[pure,Φ,fin];rfl⟩
  |some o=>
   have hjo:su σ ops o=true:=by
    have:=ub.1;rw[ho]at this;exact this
   have ev:ϋ (Λ.eval ⟨fn0,JY σ tmps,.inRegion ops (i::rest)::(l++k),defers,.run,kind,oc⟩) o=ϋ (Λ.eval ⟨fn0,tmps,.inRegion ops (i::rest)::(l++[qg]),defers,.run,kind,oc⟩) o:=
    execOp_congr o (xN hjo).2.1 λy hy=>Bh (zcd.1 (xN hjo).1 y hy) ⟨fn0,tmps,[],defers,.run,kind,oc⟩ _ _
   rw[ho]at hr;simp only[zbp,zbg]at hr ⊢;rw[CP hjo];by_cases hw:φ o (ψ ops tmps)=true
   ·rw[zab hw]at hr ⊢;rw[ev];generalize (ϋ (Λ.eval ⟨fn0,tmps,.inRegion ops (i::rest)::(l++[qg]),defers,.run,kind,oc⟩) o)=ex at hr ⊢;rw[bO]at hr ⊢;cases hrun:ex.runT P w #[]with
    |mk r dA=>
     rw[hrun]at hr;cases r with
     |halt hh w1=>simp at hr
     |ok nx w1=>
      dsimp only at hr ⊢;cases nx with
      |value v=>
       simp only[pure,Φ,zaf,zan]at hr;obtain⟨⟨⟨rfl,rfl⟩,rfl⟩,rfl⟩:=hr;exact .inl ⟨_,bot v,hall,rfl,rfl,by simp only[pure,Φ,fin];rfl⟩
      |skip=>
       simp only[pure,Φ,zaf,zan]at hr;obtain⟨⟨⟨rfl,rfl⟩,rfl⟩,rfl⟩:=hr;exact .inl ⟨_,bot ϊ,hall,rfl,rfl,by simp only[pure,Φ,fin];rfl⟩
      |enter f args=>
       simp only[pure,Φ,zaf,zan]at hr;obtain⟨⟨⟨rfl,rfl⟩,rfl⟩,rfl⟩:=hr;exact .inr (.inr ⟨rfl,rfl⟩)
      |_=>simp[stuck]at hr
   ·rw[zaa hw]at hr ⊢;simp only[pure,Φ,zaf,zan]at hr;obtain⟨⟨⟨rfl,rfl⟩,rfl⟩,rfl⟩:=hr;exact .inl ⟨_,bot ϊ,hall,rfl,rfl,by simp only[pure,Φ,fin];rfl⟩
 |.code (.rangeFunc ..),hh,_,hr=>simp[aF,bB]at hh
 |.code (.scope ..),hh,_,hr=>simp[aF,bB]at hh
 |.code (.label ..),hh,_,hr=>simp[aF,bB]at hh
 |.code (.goto ..),hh,_,hr=>simp[aF,bB]at hh
 |.code (.refuse ..),hh,_,hr=>simp[ba,stuck]at hr
 |.inScope c,hh,_,hr=>simp[aF]at hh
 |.inRangeFunc c,hh,_,hr=>simp[aF]at hh
 |.endRangeFunc c,hh,_,hr=>simp[aF]at hh
 |.beginRound,hh,_,hr=>simp[aF]at hh
 |.call ..,hh,_,hr=>simp[aF]at hh
 |.extern ..,hh,_,hr=>simp[aF]at hh
end
section
variable {P:Ξ}{F:ι→Bool}{S:Sd}{w W:Θ}{ρ:Rn}{k:List Item}{fn0:ι}{Q:Λ→List Λ→Θ→Prop}{σ:List (Nat×ζ)}
theorem uV (k:List Item)(c:Λ)(r:List Λ):∀p:List Λ,Ex σ k (p++c::r)=p++Ex σ k (c::r)
 |[]=>rfl
 |[x]=>rfl
 |x::y::p=>by
  have:=uV k c r (y::p);simp only[zam]at this ⊢;rw[Ex,this]
theorem CQ (hx:kJ P F S x)(hb:Lx x (h::l)):aF P F S h=true:=by
 have:=hx.todo;rw[hb.todo]at this;simp only[zam,zap,zae]at this;exact this.1
theorem Ey (h:kJ P F S x):kJ P F S (cv ρ x):=⟨h.defers,h.mode,h.kind,h.round,h.todo,h.fn⟩
def LB (σ:List (Nat×ζ))(fn0:ι)(f:Λ)(ab:List Λ):Prop:=
 match ab.getLast? with
 |none=>f.fn=fn0∧(f.mode=.returning∨∃l,Lx f l∧l.all (ft σ)=true)
 |some x=>∃h l,Lx x (h::l)∧(h::l).all (ft σ)=true∧x.fn=fn0
theorem Hw (hx:kJ P F S x)(hb:Lx x (h::l))(k:List Item):Ek P F S (eN σ k x):=⟨hx.defers,hx.mode,hx.kind,hx.round,by
 have e:(eN σ k x).todo=h::(l++k):=by
  show x.todo.dropLast++k=_;rw[hb.todo,im];rfl
 rw[e];simpa using CQ hx hb,hx.fn⟩
theorem Hy {f f1:Λ}{ab:List Λ}{w0 w1 W1:Θ}{es':Array υ}(cG:kJ P F S f)(acP:∀x∈ab,kJ P F S x)(hT:LB σ fn0 f ab)(hn:ab=[]→∃h l,Lx f (h::l)∧(h::l).all (ft σ)=true)
 (hp:(ba P f ab).runT P w0 #[]=(.ok (f1,a1) w1,es))(hr:(ba P (cv ρ f) (ab.map (cv ρ))).runT P W #[]=(.ok (cv ρ f1,a1.map (cv ρ)) W1,es'))(main:Bool)(cs:List Λ):
 LB σ fn0 f1 a1∧π P main (G (sFJ σ k (cv ρ f) ab) (Ex σ k (ab.map (cv ρ))++cs)) W=.go (G (sFJ σ k (cv ρ f1) a1) (Ex σ k (a1.map (cv ρ))++cs)) W1 (seen P f.fn es'):=by
 cases ab with
 |nil=>
  obtain⟨hf,-⟩:=hT;obtain⟨h,l,hb,hj⟩:=hn rfl;have hh:=CQ cG hb;have hb':Lx (cv ρ f) (h::l):=⟨hb.todo,hb.run⟩;have hH:Ek P F S (eN σ k (cv ρ f)):=Hw (Ey cG) hb' k;rcases pH k hb hh hj hp with⟨l1,b1,bj,b2,rfl,_⟩|⟨m1,rfl,_⟩|⟨rfl,_⟩
  ·rcases pH k hb' hh hj hr with⟨l2,c1,_,c2,_,c3⟩|⟨m1,_,m2⟩|⟨e,_⟩
   ·refine⟨⟨b2.trans hf,.inr ⟨l1,b1,bj⟩⟩,?_⟩;exact fq (main:=main) (cs:=cs) hH c3
   ·have:f1.mode=.returning:=zak Λ.mode m1;rw[b1.run]at this;cases this
   ·simp at e
  ·rcases pH k hb' hh hj hr with⟨l2,c1,_,c2,_,c3⟩|⟨_,_,c3⟩|⟨e,_⟩
   ·have:f1.mode=.returning:=zak Λ.mode m1;have c4:f1.mode=.run:=c1.run;rw[c4]at this;cases this
   ·refine⟨⟨by rw[m1];exact hf,.inl (by rw[m1])⟩,?_⟩;exact fq (main:=main) (cs:=cs) hH c3
   ·simp at e
  ·rcases pH k hb' hh hj hr with⟨l2,c1,_,c2,e,c3⟩|⟨m1,e,m2⟩|⟨e,c3⟩
   ·simp at e
   ·simp at e
   ·exact⟨⟨h,l,hb,hj,hf⟩,fq (main:=main) (cs:=cs) hH c3⟩
 |cons c r=>
  have hH:Ek P F S (cv ρ f):=JL (Ey cG);rcases CN hp with⟨p,rfl,_⟩|⟨v,rfl,rfl,_⟩
  ·rcases CN (c:=cv ρ c) (r:=r.map (cv ρ)) hr with⟨p',e,h2⟩|⟨v,_,e,_⟩
   ·have ep:p'=p.map (cv ρ):=by
     rw[zcO,zaB]at e;exact(List.append_cancel_right e).symm
    subst ep;have hT':LB σ fn0 f1 (p++c::r):=by
     unfold LB at hT ⊢;rw[List.getLast?_append];cases hg:(c::r).getLast? with
     |none=>simp at hg
     |some x=>rw[hg]at hT;exact hT
    refine⟨hT',?_⟩;have e1:sFJ σ k (cv ρ f1) (p++c::r)=cv ρ f1:=by cases p<;>rfl
    rw[e1,zcO,zaB,uV];exact fq (main:=main) (cs:=cs) hH (h2 _)
   ·have:=zak List.length e;simp at this;omega
  ·rcases CN (c:=cv ρ c) (r:=a1.map (cv ρ)) hr with⟨p',e,h2⟩|⟨v',e1,_,h2⟩
   ·have:=zak List.length e;simp at this;omega
   ·cases a1 with
    |nil=>
     obtain⟨h,l,hb,hj,hf⟩:=hT;have hcO:=acP c zaD;have hh:=CQ hcO hb;have hj':=hj;simp only[zap,zae]at hj';obtain⟨g1,g2,g3,h',g4,g5⟩:=mR k hb.todo hh hj'.1 v;obtain⟨q1,-,-,-,-⟩:=mR k (x:=cv ρ c) hb.todo hh hj'.1 v';refine⟨⟨g2.trans hf,.inr ⟨h'::l,⟨g4,g3.trans hb.run⟩,by rw[zap,g5,hj'.2];rfl⟩⟩,?_⟩;have h3:=fq (main:=main) (cs:=cs) hH (h2 (eN σ k (cv ρ c)) []);rw[q1,←e1]at h3;exact h3
    |cons d r2=>
     refine⟨?_,?_⟩
     ·unfold LB at hT ⊢;rw[List.getLast?_cons_cons]at hT;exact hT
     ·have h3:=fq (main:=main) (cs:=cs) hH (h2 (cv ρ c) (Ex σ k ((d::r2).map (cv ρ))));rw[←e1]at h3;exact h3
def Yb (P:Ξ)(F:ι→Bool)(S:Sd)(Q:Λ→List Λ→Θ→Prop)(σ:List (Nat×ζ))(k:List Item)(fn0:ι)(cs:List Λ)(kK:Rn)(n₀:Nat)(own:Nat→Prop)(g:Δ)(W:Θ):Prop:=
 ∃fr w ρ,(Lx fr []∨fr.mode=.returning)∧fr.fn=fn0∧Om P Q fr [] w∧PI P F S fr [] w∧ja P S ρ w W∧own=Touch S.d ρ w∧g=G (eN σ k (cv ρ fr)) cs∧n₀≤w.heap.size∧∀r,r<n₀→ρ r=kK r
theorem Ez (hC:lp P F S){ro:Nat→Prop}(hQ:∀f a w,Q f a w→a=[]∧(Lx f []∨f.mode=.returning)){cs:List Λ}{fr:Λ}{above:List Λ}{w:Θ}(hb:Om P Q fr above w):PI P F S fr above w→LB σ fn0 fr above→∀(kK:Rn) (n₀:Nat) (ρ:Rn) (W:Θ),ja P S ρ w W→n₀≤w.heap.size→(∀r,r<n₀→ρ r=kK r)→af P main ro (Yb P F S Q σ k fn0 cs kK n₀) (Touch S.d ρ w) (G (sFJ σ k (cv ρ fr) above) (Ex σ k (above.map (cv ρ))++cs)) W:=by
 induction hb with
 | @stop fr above w h=>
   intro hI hT kK n₀ ρ W hS hn wH;obtain⟨rfl,OL⟩:=hQ _ _ _ h;have hfn:fr.fn=fn0:=hT.1;refine .stop λaS hr=>⟨fr,w,_,OL,hfn,.stop h,hI,hS.rely hr,dN.symm,?_,hn,λr hlt=>by rw[bg (by omega)];exact wH r hlt⟩;show G (eN σ k (cv ρ fr)) ([]++cs)=_;rw[eZ (P:=P) (S:=S) (n:=w.heap.size) (fr:=fr) hI.cl (ρ:=ρ) (ρ':=ek ρ w.heap.size aS.heap.size) (λr hlt=>(bg hlt).symm) (λ_=>rfl)];rfl
 | @step fr above w nf na nw ne h1 h2 ih=>
   intro hI hT kK n₀ ρ W hS hn wH;by_cases hend:above=[]∧(Lx fr []∨fr.mode=.returning)
   ·obtain⟨rfl,OL⟩:=hend;have hfn:fr.fn=fn0:=hT.1;refine .stop λaS hr=>⟨fr,w,_,OL,hfn,.step nf na nw ne h1 h2,hI,hS.rely hr,dN.symm,?_,hn,λr hlt=>by rw[bg (by omega)];exact wH r hlt⟩;show G (eN σ k (cv ρ fr)) ([]++cs)=_;rw[eZ (P:=P) (S:=S) (n:=w.heap.size) (fr:=fr) hI.cl (ρ:=ρ) (ρ':=ek ρ w.heap.size aS.heap.size) (λr hlt=>(bg hlt).symm) (λ_=>rfl)];rfl
   ·refine af.step' rfl λaS hr=>?_;have hS1:=hS.rely hr;generalize tW:ek ρ w.heap.size aS.heap.size=cH at hS1;have Hk:∀r,r<w.heap.size→cH r=ρ r:=λr hlt=>by rw[←tW];exact bg hlt
    have Lr:∀x,cH.f x=ρ.f x:=λx=>by rw[←tW];rfl
    have hrun:=h1 aS.tape aS.drawn;have hW:WR P S cH (w.re aS.tape aS.drawn) aS:=⟨hS1.wr.live,hS1.wr.ok,hS1.wr.dead,hS1.wr.closed,hS1.wr.next,hS1.wr.low,hS1.wr.big⟩;have hIr:=hI.re aS.tape aS.drawn;have hpl:Plain P cH:=⟨λt i v a b=>hC.zero t i v a b _,hS1.inj⟩;have Ag:=Cz (ρ:=cH) hC hpl hS1.fix hIr.ok hIr.oks (λv _=> .inl hS1.lr) (λv hv=>jo (hIr.cl v hv));obtain⟨bb,W2,es',r1,⟨rfl,o1,o2⟩,r3,q1,q2,r6⟩:=dG hpl (λo=> .inl hS1.lr) _ _ _ (λn=>FF P F S (sg S S.d n)) (w.re aS.tape aS.drawn) aS #[] #[] _ _ _ Ag (tV hC hIr) hW (λj _ q=>rfl) hrun;have q3:∀e∈es',nU S.d cH (nw aS.tape aS.drawn) e:=λe he=>(r6 e he).resolve_left (by simp);have Wy:=(eL hC hIr hrun).1;have X0:ja P S cH (w.re aS.tape aS.drawn) aS:=⟨hW,hS1.inj,hS1.lr,hS1.f,hS1.qb⟩;have Oq:ja P S cH (nw aS.tape aS.drawn) W2:=⟨q1,hS1.inj,hS1.lr,hS1.f,by have:=hS1.qb;have h3:=q2.size;have h4:=q2.gK;omega⟩;have hgrow:Touch S.d cH (nw aS.tape aS.drawn)=Grow (Touch S.d ρ w) aS W2:=by
     rw[xG X0 q2];have:Touch S.d cH (w.re aS.tape aS.drawn)=Touch S.d ρ w:=by
      rw[←tW];exact dN
     rw[this]
    have Nv:cv ρ fr=cv cH fr:=eZ hI.cl (λr hlt=>(Hk r hlt).symm) (λx=>(Lr x).symm);have hab:above.map (cv ρ)=above.map (cv cH):=fw (λr hlt=>(Hk r hlt).symm) (λx=>(Lr x).symm) hI.cls;obtain⟨Ah,q4⟩:=Hy (k:=k) (ρ:=cH) hI.ok hI.oks hT (λe=>by
     subst e;rcases hT.2 with hm|⟨l,hl,hj⟩
     ·exact absurd ⟨rfl,.inr hm⟩ hend
     ·cases l with
      |nil=>exact absurd ⟨rfl,.inl hl⟩ hend
      |cons h l=>exact⟨h,l,hl,hj⟩) hrun r1 main cs
    refine⟨_,W2,_,by rw[Nv,hab];exact q4,⟨q2.tape,q2.os,q2.output,by have h3:=q2.size;have h4:=q2.gK;simp only[Θ.re]at h3 h4;omega,λb hb hnb=>?_,λe he=>?_⟩,?_⟩
    ·refine q2.frame b hb λht=>?_;rw[hgrow]at ht;rcases ht with h|⟨h,_⟩
     ·exact hnb h
     ·omega
    ·have:=q3 e (mem_seen he);unfold nU at this;unfold DO;rw[←hgrow];cases hl:e.loc<;>simp only[hl]at this ⊢<;>first|exact .inl this|exact this
    ·rw[←hgrow];refine ih aS.tape aS.drawn Wy Ah kK n₀ cH W2 Oq ?_ λr hlt=>(Hk r (by omega)).trans (wH r hlt);have h4:=q2.gK;simp only[Θ.re]at h4;omega
end
theorem ud (x:ω):xM [] x=true:=by cases x<;>rfl
theorem EA (d:Option Tmp):LA [] d=true:=by cases d<;>first|rfl|exact ud _
theorem Bi {F:ι→Bool}{S:Sd}{ops:Array Oper}{o:Oper}(h:fo P F S o.op=true):su [] ops o=true:=by
 unfold su;rw[zcd.2 λx _=>ud x,EA];have h1:(match o.guard with|some (j,_)=>LA [] ((ops[j]?).bind (·.dst))|none=>true)=true:=by split<;>first|rfl|exact EA _
 have h2:(match o.op with|.select ..=>false|_=>true)=true:=by
  split
  ·rename_i e;rw[e]at h;cases h
  ·rfl
 rw[h1,h2];rfl
theorem jr {P:Ξ}{F:ι→Bool}{S:Sd}:∀c:Code,bB P F S c=true→kO [] c=true
 |.skip,_|.ret,_|.exit _,_|.refuse _,_=>rfl
 |.region _ ops _,h=>zcd.2 λo ho=>Bi (zcd.1 h o ho)
 |.seq a b,h=>by
  simp only[bB,kO,zae]at h ⊢;exact⟨jr a h.1,jr b h.2⟩
 |.cond c a b,h=>by
  simp only[bB,kO,zae]at h ⊢;exact⟨⟨ud c,jr a h.1.2⟩,jr b h.2⟩
 |.block _ a,h=>jr a h
 |.loop a,h=>jr a h
theorem LC {F:ι→Bool}{S:Sd}{x:Item}(h:aF P F S x=true):ft [] x=true:=by
 cases x<;>simp only[aF,ft]at h ⊢<;>first|contradiction|exact jr _ h|skip
 refine zaC.2 λi hi=>?_;have:=zaC.1 h i hi
 revert this
 cases (‹Array Oper›)[i]? with
 |none=>exact λ_=>rfl
 |some o=>exact λq=>Bi q
section
variable {P:Ξ}{F:ι→Bool}{S:Sd}{Ψ:dn}{cs:List Λ}{w:Θ}{b:Λ}{a:Act}{k:List Item}
theorem CR:∀(above:List Λ) (fr:Λ) (w:Θ) (chain:List PanicEntry) (n:Nat) (sf:Λ) (wf:Θ),fr.defers=[]→(∃f,P.funcs[fr.fn]?=some f)→(∀f∈above,kJ P F S f)→runN P n (Go.lone { fr with mode:= .panicking chain } (above++[c0 P]) w)=.next (Go.lone sf [c0 P] wf)→(∀ch,sf.mode≠.panicking ch)→False:=by
 intro above
 induction above with
 |nil=>
  rintro fr w chain n sf wf hd ⟨f,hf⟩ _ hr hm;cases n with
  |zero=>
   simp only[runN,zbD]at hr;obtain⟨rfl,_,_⟩:=iK hr;exact hm _ rfl
  |succ n=>
   have h1:step P (Go.lone { fr with mode:= .panicking chain } ([]++[c0 P]) w)=.next (Go.lone ((c0 P).raise chain) [] w):=by
    refine ko (es:=#[]) ?_;simp[G,π,unwind,hd,Λ.catches,hf]
   simp only[runN,h1]at hr;cases n with
   |zero=>
    simp only[runN,zbD]at hr;obtain⟨_,e,_⟩:=iK hr;cases e
   |succ n=>
    have h2:∃o w3 es,π P true (G ((c0 P).raise chain) []) w=.ended o w3 es:=by
     simp[G,π,unwind,c0,Λ.raise,Λ.catches]
    obtain⟨o,w3,es,h2⟩:=h2;simp only[runN,jq h2]at hr;cases hr
 |cons c rest ih=>
  rintro fr w chain n sf wf hd ⟨f,hf⟩ cG hr hm;cases n with
  |zero=>
   simp only[runN,zbD]at hr;obtain⟨rfl,_,_⟩:=iK hr;exact hm _ rfl
  |succ n=>
   have hc:=cG c (by simp);have h1:step P (Go.lone { fr with mode:= .panicking chain } (c::rest++[c0 P]) w)=.next (Go.lone { c with mode:= .panicking chain } (rest++[c0 P]) w):=by
    refine ko (es:=#[]) ?_;have hcr:c.raise chain={ c with mode:= .panicking chain }:=by
     unfold Λ.raise;rcases hc.mode with e|e<;>rw[e]
    simp[G,π,unwind,hd,Λ.catches,hf,hcr]
   simp only[runN,h1]at hr;exact ih c w chain n sf wf hc.defers hc.fn (λg hg=>cG g (by simp[hg])) hr hm
theorem qA (hC:lp P F S):∀(n:Nat) (fr:Λ) (above:List Λ) (w:Θ) (sf:Λ) (wf:Θ),PI P F S fr above w→runN P n (Go.lone fr (above++[c0 P]) w)=.next (Go.lone sf [c0 P] wf)→(∀ch,sf.mode≠.panicking ch)→∃m,mO P m fr above w sf [] wf:=by
 intro n
 induction n with
 |zero=>
  intro fr above w sf wf h hr hm;simp only[runN,zbD]at hr;obtain⟨rfl,e,rfl⟩:=iK hr;have:above=[]:=by
   have:=zak List.length e;simp at this;exact this
  subst this;exact⟨0,.zero⟩
 |succ n ih=>
  intro fr above w sf wf h hr hm;by_cases hl:above=[]∧fr.mode=.returning
  ·obtain⟨rfl,hl⟩:=hl;exact(uU hC h hl hr).elim
  ·cases hrun:(ba P fr above).runT P w #[]with
   |mk r es=>
    cases r with
    |ok x w1=>
     obtain⟨f1,a1⟩:=x;have hs:=mN (main:=true) (cs:=[c0 P]) h.ok hrun;simp only[runN,ko hs]at hr;obtain⟨m,DN⟩:=ih f1 a1 w1 sf wf (eL hC h hrun).1 hr hm;exact⟨m+1,.succ hrun DN⟩
    |halt hh w1=>
     rcases Bb (cs:=[c0 P]) hC h hl hrun with⟨chain,w2,es',e⟩|⟨o,w2,es',e⟩
     ·simp only[runN,ko e]at hr;exact(CR above fr w2 chain n sf wf h.ok.defers h.ok.fn h.oks hr hm).elim
     ·simp only[runN,jq e]at hr;cases hr
def OM (P:Ξ)(S:Sd)(Ψ:dn)(b:Λ)(k:List Item)(cs:List Λ)(f:Λ)(ab:List Λ)(w:Θ):Prop:=
 ab=[]∧((Lx f []∧aa P S Ψ (b.at ⟨f.tmps,f.defers⟩ k) cs w)∨(f.mode=.returning∧∀todo,aa P S Ψ (gA b ⟨f.tmps,f.defers⟩ todo) cs w))
theorem aa.item (hC:lp P F S){x:Item}(cG:aF P F S x=true)(hk:b.kind=.normal)(hfn:∃f,P.funcs[b.fn]?=some f)(hd:a.defers=[])
 (h:∀τ,(∃a' w',aa P S Ψ (b.at a' k) cs w'∧Steps P (Go.lone (b.at a [x,qg]) [c0 P] (w.re τ 0)) (Go.lone (b.at a' [qg]) [c0 P] w'))∨∃a' w' todo,(∀todo,aa P S Ψ (gA b a' todo) cs w')∧Steps P (Go.lone (b.at a [x,qg]) [c0 P] (w.re τ 0)) (Go.lone { b.at a' todo with mode:= .returning } [c0 P] w')):aa P S Ψ (b.at a (x::k)) cs w:=
 aa.walk λρ W hS hc hcs _=>by
  have hI:PI P F S (b.at a [x,qg]) [] w:=⟨⟨hd,.inl rfl,hk,rfl,by show[x,qg].all _=true;simp only[zap,List.all_nil,cG,zbI,zbZ];rfl,hfn⟩,by simp,hc,by simp,hS.self⟩;have hT:∀τ:Tp,∃n f a1 w',mO P n (b.at a [x,qg]) [] (w.re τ 0) f a1 w'∧OM P S Ψ b k cs f a1 w':=λτ=>by
   rcases h τ with⟨a',w',hK,n,hn⟩|⟨a',w',todo,hK,n,hn⟩
   ·obtain⟨m,hm⟩:=qA hC n _ [] (w.re τ 0) _ w' (hI.re τ 0) hn (λch e=>by cases e);exact⟨m,_,[],w',hm,rfl,.inl ⟨⟨rfl,rfl⟩,hK⟩⟩
   ·obtain⟨m,hm⟩:=qA hC n _ [] (w.re τ 0) _ w' (hI.re τ 0) hn (λch e=>by cases e);exact⟨m,_,[],w',hm,rfl,.inr ⟨rfl,hK⟩⟩
  have X1:=uT (Q:=OM P S Ψ b k cs) hC (λf a1 w τ d _ hx=>⟨hx.1,hx.2.imp (λq=>⟨q.1,q.2.re rfl⟩) λq=>⟨q.1,λtodo=>(q.2 todo).re rfl⟩⟩) hI hT;have key:=Ez (σ:=[]) (k:=k) (fn0:=b.fn) (main:=true) (ro:=Ψ.ro) (cs:=cs.map (cv ρ)++Ψ.bot) hC (λf a1 w' hx=>⟨hx.1,hx.2.imp (·.1) (·.1)⟩) X1 hI ⟨rfl,.inr ⟨[x],⟨rfl,rfl⟩,by simp[LC cG]⟩⟩ ρ w.heap.size ρ W hS (zac _) (λ_ _=>rfl);refine af.bind key λown g W' hst=>?_;obtain⟨J0,w1,xO,hb1,Lr,aat,A9,hS1,rfl,rfl,hn,rF⟩:=hst;have ecs:cs.map (cv ρ)=cs.map (cv xO):=fw (λr hr=>(rF r hr).symm) (λx=>by rw[hS.f,hS1.f]) hcs;rw[ecs];have acQ:OM P S Ψ b k cs J0 [] w1:=by
   cases aat with
   |stop hx=>exact hx
   |step nf na nw ne h1 h2=>
    exfalso;have hr:=h1 w1.tape 0;rcases hb1 with hb1|hb1
    ·obtain⟨fn0,tmps,todo,defers,mode,kind,oc⟩:=J0;obtain⟨ht,hm⟩:=hb1;simp only[zbm]at ht hm;subst ht hm;simp[ba,stuck]at hr
    ·exact OJ (by rw[hb1];simp) hr
  rcases acQ.2 with⟨OL,hK⟩|⟨aau,hK⟩
  ·have efr:eN [] k (cv xO J0)=cv xO (b.at ⟨J0.tmps,J0.defers⟩ k):=by
    obtain⟨fn0,tmps,todo,defers,mode,kind,oc⟩:=J0;obtain⟨ht,hm⟩:=OL;have h3:kind=.normal:=A9.ok.kind;have h4:oc=none:=A9.ok.round;simp only[zbm]at ht hm Lr;subst ht hm h3 h4 Lr;simp[eN,JY,cv,Λ.at,hk]
   rw[efr];exact af.co hK hS1 (λ_ h=>h) A9.cl (λf hf=>iJ hn (hcs f hf)) ⟨hn,rF⟩
  ·have efr:eN [] k (cv xO J0)=cv xO (gA b ⟨J0.tmps,J0.defers⟩ (J0.todo.dropLast++k)):=by
    obtain⟨fn0,tmps,todo,defers,mode,kind,oc⟩:=J0;have h3:kind=.normal:=A9.ok.kind;have h4:oc=none:=A9.ok.round;simp only at aau Lr;subst aau h3 h4 Lr;simp[eN,JY,cv,gA,Λ.at,hk]
   rw[efr];exact af.co (hK _) hS1 (λ_ h=>h) A9.cl (λf hf=>iJ hn (hcs f hf)) ⟨hn,rF⟩
def OO (P:Ξ)(S:Sd)(Ψ:dn)(b:Λ)(k:List Item)(cs:List Λ):Exit→Act→Θ→Prop
 |.normal,a,w=>aa P S Ψ (b.at a k) cs w
 |.ret,a,w=>∀todo,aa P S Ψ (gA b a todo) cs w
 |_,_,_=>False
theorem aa.code (hC:lp P F S){c:Code}(cG:bB P F S c=true)(hk:b.kind=.normal)(hfn:∃f,P.funcs[b.fn]?=some f)(hd:a.defers=[])
 (h:∀τ d,c.wp P (OO P S Ψ b k cs) a (w.re τ d)):aa P S Ψ (b.at a (.code c::k)) cs w:=
 aa.item hC cG hk hfn hd λτ=>by
  obtain⟨e,a',w',hK,qY⟩:=h τ 0 b [qg] [c0 P];cases e with
  |normal=>exact .inl ⟨a',w',hK,qY⟩
  |ret=>obtain⟨todo,hs⟩:=qY;exact .inr ⟨a',w',todo,hK,hs⟩
  |_=>exact hK.elim
theorem aa.ops (hC:lp P F S){ops:Array Oper}(hk:b.kind=.normal)(hfn:∃f,P.funcs[b.fn]?=some f)(hd:a.defers=[]){l:List Nat}(cG:(l.all λi=>(ops[i]?).all λo=>fo P F S o.op)=true)(i:Nat)(rest:List Oper)(hl:l=List.range' i rest.length)(hr:∀j,rest[j]?=ops[i+j]?)
 (h:∀τ d,wpList P ops (OO P S Ψ b k cs) rest a (w.re τ d)):aa P S Ψ (b.at a (.inRegion ops l::k)) cs w:=
 aa.item hC cG hk hfn hd λτ=>by
  have h0:=h τ 0;rw[←wpOps_eq_wpList rest i hr,←hl]at h0;obtain⟨e,a',w',hK,qY⟩:=wp_ops l a (w.re τ 0) h0 b [qg] [c0 P];cases e with
  |normal=>exact .inl ⟨a',w',hK,qY⟩
  |ret=>obtain⟨todo,hs⟩:=qY;exact .inr ⟨a',w',todo,hK,hs⟩
  |_=>exact hK.elim
end
open Go.ConcN (sumTo)
theorem iq {c:Nat}{a b:Δ}{Q:Machine→Ω→Prop}{J:Θ→Ω→Prop}(SJ:awake a)(hwb:awake b)(hrun:a.status=.running∨b.status=.running)
 (hJ:∀w t d ops,J w t→(∀op∈ops,op.act.touch? =none∧∀a,op.act≠.mark (.release a))→(∀B,∀op∈ops,op.act.low B)→Deaf (t++ops) 0=Deaf t 0→Deaf (t++ops) c=Deaf t c→J (w.at d) (t++ops))
 (hst:∀w t,J w t→Es P w a∧Es P w b)
 (H0:a.status=.running→∀gs w sl t q,eM P c t gs q→gs[0]?=some a→gs[c]?=some b→J w t→∃m' ops,runT P (θ gs w sl) 0=(.next m',ops)∧Reach P m' (t++ops) Q)
 (HC:b.status=.running→∀gs w sl t q,eM P c t gs q→gs[0]?=some a→gs[c]?=some b→J w t→∃m' ops,runT P (θ gs w sl) c=(.next m',ops)∧Reach P m' (t++ops) Q):
 ∀gs w sl t q,eM P c t gs q→gs[0]?=some a→gs[c]?=some b→J w t→Reach P (θ gs w sl) t Q:=by
 intro gs w sl t q hC h0 hc hj;generalize hM:sumTo c q=M
 induction M using Nat.strongRecOn generalizing gs w sl t q with
 |_ M ih=>
  have hd:∀w t d,J w t→J (w.at d) t:=λw t d h=>by
   have:=hJ w t d #[] h (by simp) (by simp) (by simp) (by simp);simpa using this
  rcases Hn (sl:=sl) hC h0 hc SJ hwb hrun (hst w t hj).1 (hst w t hj).2 with⟨hr,d,sl',hs⟩|⟨hr,d,sl',hs⟩|⟨gs',d,sl',ops,q',hs,hC',Au,hc',hlt,h1,h2,h3,h4⟩
  ·obtain⟨m',ops,e,hR⟩:=H0 hr gs (w.at d) sl' t q hC h0 hc (hd w t d hj);exact Reach.step (hs.trans e) hR
  ·obtain⟨m',ops,e,hR⟩:=HC hr gs (w.at d) sl' t q hC h0 hc (hd w t d hj);exact Reach.step (hs.trans e) hR
  ·exact Reach.step hs (ih _ (by omega) gs' (w.at d) sl' (t++ops) q' hC' Au hc' (hJ w t d ops hj h1 h2 h3 h4) rfl)
def iM (P:Ξ)(ch:Nat)(z:ζ)(Next:(Nat→Prop)→Δ→Θ→Prop)(own:Nat→Prop)(g:Δ)(w:Θ):Prop:=
 g.status=.running∧π P true g w=.comm (core g) #[rcase ch z] true (.recv true) w #[]∧Next own (core g) w
def lR (P:Ξ)(ro:Nat→Prop)(ch:Nat)(z:ζ)(Fin:(Nat→Prop)→Δ→Θ→Prop):List ζ→(Nat→Prop)→Δ→Θ→Prop
 |[],own,g,w=>af P true ro (iM P ch z λown g w=>Fin own (Conc.served g (.tuple #[z,.bool false])) w) own g w
 |v::vs,own,g,w=>af P true ro (iM P ch z λown g w=>lR P ro ch z Fin vs own (Conc.served g (.tuple #[v,.bool true])) w) own g w
def Bj (P:Ξ)(ro:Nat→Prop)(ch:Nat)(z:ζ)(Fin:(Nat→Prop)→Δ→Θ→Prop):List ζ→(Nat→Prop)→Δ→Θ→Prop
 |[],own,g,w=>Fin own (Conc.served g (.tuple #[z,.bool false])) w
 |v::vs,own,g,w=>lR P ro ch z Fin vs own (Conc.served g (.tuple #[v,.bool true])) w
def J1 (P:Ξ)(ch:Nat)(v:ζ)(Next:(Nat→Prop)→Δ→Θ→Prop)(own:Nat→Prop)(g:Δ)(w:Θ):Prop:=
 g.status=.running∧∃z',π P false g w=.comm (core g) #[scase ch v z'] true .send w #[]∧Next own (Conc.served (core g) ϊ) w
def gV (ch:Nat):Array υ:=#[⟨.obj ch,false,true⟩,⟨.obj ch,true,true⟩]
def xP (P:Ξ)(ch:Nat)(gF:(Nat→Prop)→Δ→Θ→Prop)(own:Nat→Prop)(g:Δ)(w:Θ):Prop:=
 g.status=.running∧mayWake P g=true∧∃g₂,g₂.status=.running∧∀s r tm,w.heap[ch]?=some (.chan 0 #[] false s r tm)→π P false g w=.go g₂ (w.setChan ch 0 #[] true s r tm) (gV ch)∧gF own g₂ (w.setChan ch 0 #[] true s r tm)
def jU (P:Ξ)(ro:Nat→Prop)(ch:Nat)(gF:(Nat→Prop)→Δ→Θ→Prop):List ζ→(Nat→Prop)→Δ→Θ→Prop
 |[],own,g,w=>af P false ro (xP P ch gF) own g w
 |v::vs,own,g,w=>af P false ro (J1 P ch v (jU P ro ch gF vs)) own g w
def StopG (P:Ξ)(ro:Nat→Prop)(ch:Nat)(gF:(Nat→Prop)→Δ→Θ→Prop):List ζ→(Nat→Prop)→Δ→Θ→Prop
 |[]=>xP P ch gF
 |v::vs=>J1 P ch v (jU P ro ch gF vs)
theorem cQ {ro:Nat→Prop}{z:ζ}{Fin:(Nat→Prop)→Δ→Θ→Prop}{own:Nat→Prop}{g:Δ}:lR P ro ch z Fin vs own g w↔af P true ro (iM P ch z (Bj P ro ch z Fin vs)) own g w:=by cases vs<;>exact Iff.rfl
theorem dR {ro:Nat→Prop}{gF:(Nat→Prop)→Δ→Θ→Prop}{own:Nat→Prop}{g:Δ}:jU P ro ch gF vs own g w↔af P false ro (StopG P ro ch gF vs) own g w:=by cases vs<;>exact Iff.rfl
theorem af.running {ro own:Nat→Prop}{Stop:(Nat→Prop)→Δ→Θ→Prop}{g:Δ}(h:af P main ro Stop own g w)(hs:∀own g w,Stop own g w→g.status=.running):g.status=.running:=by
 cases h with
 |stop h=>exact hs _ _ _ (h w (cq.refl _ _ _))
 |step _ _ _ h=>exact h
theorem StopG.running {ro:Nat→Prop}{gF:(Nat→Prop)→Δ→Θ→Prop}{own:Nat→Prop}{g:Δ}(h:StopG P ro ch gF vs own g w):g.status=.running:=by cases vs<;>exact h.1
structure Lay (Q Shun:Loc→Prop) (c ch Low:Nat) (ro:Nat→Prop):Prop where
 c0:c≠0
 JW:∀b,ro b→b<Low
 Hz:ch<Low
 LD:¬ro ch
 QS:∀l,Q l→Shun l
 sr:∀l,Shun l→l.low Low
 rS:∀l,jS ro l→¬Shun l
 Qch:Q (.obj ch)
structure lu (Q Shun:Loc→Prop) (c ch Low:Nat) (ro bG aW X:Nat→Prop) (closed:Bool) (w0 w:Θ) (t:Ω):Prop where
 ti:TI Q Shun c aW ro w.heap.size t
 d0:Deaf t 0=0
 dc:closed=false→Deaf t c=0
 mlt:∀b,bG b→Low≤b∧b<w.heap.size
 HY:∀b,aW b→Low≤b∧b<w.heap.size
 apart:∀b,bG b→¬aW b
 big:Low≤w.heap.size
 chan:∃s r tm,w.heap[ch]?=some (.chan 0 #[] closed s r tm)
 tape:w.tape=w0.tape
 os:w.os=w0.os
 output:w.output=w0.output
 keep:∀b,b<Low→¬X b→w.heap[b]?=w0.heap[b]?
 TM:X ch
section
variable {P:Ξ}{Q Shun:Loc→Prop}{c ch Low:Nat}{ro bG aW X:Nat→Prop}{cl:Bool}{w0 w w':Θ}{t u:Ω}{es:Array υ}{fn:ι}{pos:String}
theorem ue {X:Nat→Prop}(h:∀b,X b→Low≤b){l:Loc}(hi:jS X l)(hl:l.low Low):False:=TF hi (λb hb hlt=>by have:=h b hb;omega) hl
theorem xQ {ro own:Nat→Prop}(h:∀e∈es,DO ro own e):∀op∈Γ g fn pos es,op.g=g∧Oz ro own op:=by
 intro op hop;obtain⟨e,he,rfl⟩:=zbe hop;refine⟨rfl,Bc (h e he),?_,?_⟩
 ·intro e';exact(oz (h e he)).1 (by obtain⟨loc,wr,sy⟩:=e;cases loc<;>cases wr<;>cases sy<;>simp_all [η])
 ·intro e';exact(oz (h e he)).2 (by obtain⟨loc,wr,sy⟩:=e;cases loc<;>cases wr<;>cases sy<;>simp_all [η])
theorem xR {ro own:Nat→Prop}{B:Nat}(hB:∀b,own b→b<B)(hr:∀b,ro b→b<B)(h:∀e∈es,DO ro own e):∀op∈Γ g fn pos es,op.act.low B:=by
 intro op hop;obtain⟨e,he,rfl⟩:=zbe hop;exact JV hB hr (h e he)
theorem xS {ro own:Nat→Prop}(h:∀e∈es,DO ro own e):Deaf (t++Γ g fn pos es) g=Deaf t g:=by
 rw[Deaf_own];exact deafBehind_still (λe he=>oz (h e he)) _
theorem lu.still (h:lu Q Shun c ch Low ro bG aW X cl w0 w t)(d:Nat)(h1:∀op∈u,op.act.touch? =none)(h2:∀op∈u,op.act.low w.heap.size)(h3:Deaf (t++u) 0=Deaf t 0)(h4:Deaf (t++u) c=Deaf t c):lu Q Shun c ch Low ro bG aW X cl w0 (w.at d) (t++u):=
 ⟨h.ti.still h1 h2,h3.trans h.d0,λe=>h4.trans (h.dc e),h.mlt,h.HY,h.apart,h.big,h.chan,h.tape,h.os,h.output,h.keep,h.TM⟩
theorem lu.OP (hY:Lay Q Shun c ch Low ro)(h:lu Q Shun c ch Low ro bG aW X cl w0 w t)(hg:Eo ro bG w w' es):lu Q Shun c ch Low ro (Grow bG w w') aW X cl w0 w' (t++Γ 0 fn pos es)∧cq ro aW w w':=by
 have hs:=hg.size;have hb:=h.big;have jB:∀b,Grow bG w w' b→Low≤b∧b<w'.heap.size:=λb hb'=>hb'.elim (λx=>by have:=h.mlt b x;omega) λx=>by omega
 have hap:∀b,Grow bG w w' b→¬aW b:=λb hb' hgb=>hb'.elim (λx=>h.apart b x hgb) λx=>by have:=h.HY b hgb;omega
 have EB:∀b,b<w.heap.size→¬bG b→w'.heap[b]?=w.heap[b]?:=hg.block;have fV:∀b,b<Low→w'.heap[b]?=w.heap[b]?:=λb hlt=>EB b (by omega) λhm=>by have:=h.mlt b hm;omega
 refine⟨⟨(h.ti.mono hs).app0 (own:=Grow bG w w') hY.c0 (xQ hg.evs) (xR (λb hb'=>(jB b hb').2) (λb hb'=>by have:=hY.JW b hb';omega) hg.evs) ?_ ?_ hap ?_ ?_,(xS hg.evs).trans h.d0,?_,jB,λb hb'=>by have:=h.HY b hb';omega,hap,by omega,?_,hg.tape.trans h.tape,hg.os.trans h.os,hg.output.trans h.output,λb h1 h2=>(fV b h1).trans (h.keep b h1 h2),h.TM⟩,hg.tape,hg.os,hg.output,hs,?_⟩
 ·rintro l (hl|hl) hS
  ·exact ue (λb hb'=>(jB b hb').1) hl (hY.sr l hS)
  ·exact hY.rS l hl hS
 ·rintro l (hl|hl) hS
  ·exact ue (λb hb'=>(jB b hb').1) hl (hY.sr l (hY.QS l hS))
  ·exact hY.rS l hl (hY.QS l hS)
 ·intro b hb' hr;have:=jB b hb';have:=hY.JW b hr;omega
 ·intro b hb' hr;have:=h.HY b hb';have:=hY.JW b hr;omega
 ·intro e;rw[zaN t (Ne.symm hY.c0) _ ofEvents_g];exact h.dc e
 ·obtain⟨s,r,tm,e⟩:=h.chan;exact⟨s,r,tm,by rw[fV ch hY.Hz];exact e⟩
 ·rintro b (hb'|hb')
  ·exact EB b (h.HY b hb').2 λhm=>h.apart b hm hb'
  ·exact fV b (hY.JW b hb')
theorem lu.stepG (hY:Lay Q Shun c ch Low ro)(h:lu Q Shun c ch Low ro bG aW X cl w0 w t)(hg:Eo ro aW w w' es):lu Q Shun c ch Low ro bG (Grow aW w w') X cl w0 w' (t++Γ c fn pos es)∧cq ro bG w w':=by
 have hs:=hg.size;have hb:=h.big;have jB:∀b,Grow aW w w' b→Low≤b∧b<w'.heap.size:=λb hb'=>hb'.elim (λx=>by have:=h.HY b x;omega) λx=>by omega
 have hap:∀b,bG b→¬Grow aW w w' b:=λb hm hgb=>hgb.elim (λx=>h.apart b hm x) λx=>by have:=h.mlt b hm;omega
 have EB:∀b,b<w.heap.size→¬aW b→w'.heap[b]?=w.heap[b]?:=hg.block;have fV:∀b,b<Low→w'.heap[b]?=w.heap[b]?:=λb hlt=>EB b (by omega) λhm=>by have:=h.HY b hm;omega
 refine⟨⟨h.ti.acL (own':=Grow aW w w') hs (xQ hg.evs) (xR (λb hb'=>(jB b hb').2) (λb hb'=>by have:=hY.JW b hb';omega) hg.evs) (λb=>Iff.rfl) ?_,?_,λe=>(xS hg.evs).trans (h.dc e),λb hb'=>by have:=h.mlt b hb';omega,jB,hap,by omega,?_,hg.tape.trans h.tape,hg.os.trans h.os,hg.output.trans h.output,λb h1 h2=>(fV b h1).trans (h.keep b h1 h2),h.TM⟩,hg.tape,hg.os,hg.output,hs,?_⟩
 ·rintro l (hl|hl) hS
  ·exact ue (λb hb'=>(jB b hb').1) hl (hY.sr l (hY.QS l hS))
  ·exact hY.rS l hl (hY.QS l hS)
 ·rw[zaN t hY.c0 _ ofEvents_g];exact h.d0
 ·obtain⟨s,r,tm,e⟩:=h.chan;exact⟨s,r,tm,by rw[fV ch hY.Hz];exact e⟩
 ·rintro b (hb'|hb')
  ·exact EB b (h.mlt b hb').2 λhm=>h.apart b hb' hm
  ·exact fV b (hY.JW b hb')
theorem kP {cl:Bool}{b:Nat}(h:b≠ch):(w.setChan ch cap buf cl s r tm).heap[b]?=w.heap[b]?:=by
 show(w.heap.setIfInBounds ch _)[b]?=_;rw[zaA (Ne.symm h)]
theorem dZ {cl:Bool}:(w.setChan ch cap buf cl s r tm).heap.size=w.heap.size:=by
 show(w.heap.setIfInBounds ch _).size=_;simp
theorem kz {cl:Bool}{own:Nat→Prop}(h:¬own ch)(hr:¬ro ch):cq ro own w (w.setChan ch cap buf cl s r tm):=
 ⟨rfl,rfl,rfl,by rw[dZ];exact zac _,λb hb=>kP λe=>by subst e;exact hb.elim h hr⟩
theorem lu.chG (hY:Lay Q Shun c ch Low ro)(h:lu Q Shun c ch Low ro bG aW X cl w0 w t):¬aW ch:=λx=>by have:=h.HY ch x;have:=hY.Hz;omega
theorem lu.chM (hY:Lay Q Shun c ch Low ro)(h:lu Q Shun c ch Low ro bG aW X cl w0 w t):¬bG ch:=λx=>by have:=h.mlt ch x;have:=hY.Hz;omega
theorem lu.meet (hY:Lay Q Shun c ch Low ro){s' r':Nat}(h:lu Q Shun c ch Low ro bG aW X false w0 w t)(hch:w.heap[ch]?=some (.chan 0 #[] false s r tm))(hu:OA ch u):lu Q Shun c ch Low ro bG aW X false w0 (w.setChan ch 0 #[] false s' r' tm) (t++u):=by
 have hb:=h.big;have fK:=hY.Hz;refine⟨by rw[dZ];exact h.ti.still (λop hop=>(hu op hop).1) λop hop=>(hu op hop).2.2 _ (by omega),by rw[dO t 0 u λop hop=>(hu op hop).2.1];exact h.d0,λe=>by rw[dO t c u λop hop=>(hu op hop).2.1];exact h.dc e,by rw[dZ];exact h.mlt,by rw[dZ];exact h.HY,h.apart,by rw[dZ];exact hb,⟨s',r',tm,heap_put hch⟩,h.tape,h.os,h.output,λb h1 h2=>(kP λe=>h2 (by rw[e];exact h.TM)).trans (h.keep b h1 h2),h.TM⟩
theorem pI (g:Nat):Γ g fn pos (gV ch)=#[{ g:=g,fn:=fn,pos:=pos,act:= .access ⟨.obj ch,false,true⟩ },{ g:=g,fn:=fn,pos:=pos,act:= .close ch }]:=by
 simp[Γ,gV,η]
theorem lu.Bl (h:lu Q Shun c ch Low ro bG aW X false w0 w t):Deaf (t++Γ c fn pos (gV ch)) c=0:=by
 rw[dO t c _ λop hop m e=>?_]
 ·exact h.dc rfl
 ·rw[pI]at hop;simp at hop;rcases hop with rfl|rfl<;>simp at e
theorem lu.close (hY:Lay Q Shun c ch Low ro)(h:lu Q Shun c ch Low ro bG aW X false w0 w t)(hch:w.heap[ch]?=some (.chan 0 #[] false s r tm)):lu Q Shun c ch Low ro bG aW X true w0 (w.setChan ch 0 #[] true s r tm) (t++Γ c fn pos (gV ch)):=by
 have hb:=h.big;have fK:=hY.Hz;have hm:∀op∈Γ c fn pos (gV ch),∀m,op.act≠.mark m:=λop hop m e=>by
  rw[pI]at hop;simp at hop;rcases hop with rfl|rfl<;>simp at e
 refine⟨?_,by rw[dO t 0 _ hm];exact h.d0,(λe=>by cases e),by rw[dZ];exact h.mlt,by rw[dZ];exact h.HY,h.apart,by rw[dZ];exact hb,⟨s,r,tm,heap_put hch⟩,h.tape,h.os,h.output,λb h1 h2=>(kP λe=>h2 (by rw[e];exact h.TM)).trans (h.keep b h1 h2),h.TM⟩;rw[dZ];refine h.ti.TG (g:=c) (.inr rfl) (λop hop=>⟨ofEvents_g op hop,λx hx=>?_⟩) (λop hop=>?_) hY.QS λl hl=>⟨λhi=>?_,λhi=>hY.rS l hi (hY.QS l hl)⟩
 ·rw[pI]at hop;simp at hop;rcases hop with rfl|rfl
  ·simp only[MemAct.touch?,zaE]at hx;subst hx;exact⟨hY.Qch,by simp,by simp⟩
  ·simp[MemAct.touch?]at hx
 ·rw[pI]at hop;simp at hop;have:ch<w.heap.size:=by omega
  rcases hop with rfl|rfl<;>exact this
 ·exact ue (λb hb'=>(h.HY b hb').1) hi (hY.sr l (hY.QS l hl))
end
def LF (P:Ξ)(Q Shun:Loc→Prop)(c ch Low:Nat)(ro X:Nat→Prop)(z:ζ)(Fin gF:(Nat→Prop)→Δ→Θ→Prop)(w0:Θ)(m:Machine)(t:Ω):Prop:=
 ∃gs w sl q bG aW a b t₁ fn pos,m=θ gs w sl∧eM P c t gs q∧gs[0]?=some a∧gs[c]?=some b∧b.status=.running∧lR P ro ch z Fin [] bG a w∧gF aW b w∧lu Q Shun c ch Low ro bG aW X true w0 w t∧t=t₁++Γ c fn pos (gV ch)∧Deaf t c=0
section
variable {P:Ξ}{Q Shun:Loc→Prop}{c ch Low:Nat}{ro X:Nat→Prop}{z:ζ}{Fin gF:(Nat→Prop)→Δ→Θ→Prop}{w0:Θ}
variable (P Q Shun c ch Low ro X z Fin gF w0) in
def EC (vs:List ζ):Prop:=∀gs w sl t q bG aW a b,eM P c t gs q→gs[0]?=some a→gs[c]?=some b→lR P ro ch z Fin vs bG a w→jU P ro ch gF vs aW b w→lu Q Shun c ch Low ro bG aW X false w0 w t→Reach P (θ gs w sl) t (LF P Q Shun c ch Low ro X z Fin gF w0)
theorem iM.again {Next:(Nat→Prop)→Δ→Θ→Prop}{own:Nat→Prop}{g:Δ}(h:iM P ch z Next own g w):iM P ch z Next own { parked (core g) #[rcase ch z] (.recv true)with status:= .running } w:=by
 have e:π P true { parked (core g) #[rcase ch z] (.recv true)with status:= .running } w=π P true g w:=stepG_same rfl rfl rfl w;exact⟨rfl,by rw[e];exact h.2.1,h.2.2⟩
theorem fS {g:Δ}(h:g.status=.running):awake g:=awake_of (.inl h)
theorem kr {g:Δ}{cs:Array CommCase}{sh:CommShape}:awake (parked g cs sh):=awake_of (.inr (.inl rfl))
theorem Bn {g:Δ}(hc:w.heap[ch]?=some (.chan 0 #[] false s r tm)):Es P w (parked g #[rcase ch z] (.recv true)):=λx x' d=>woken_recv_open x x' (w:=w.at d) hc
theorem Bo {g:Δ}{z':ζ}(hc:w.heap[ch]?=some (.chan 0 #[] false s r tm)):Es P w (parked g #[scase ch v z'] .send):=λx x' d=>woken_send_open x x' (w:=w.at d) hc
theorem OQ (hY:Lay Q Shun c ch Low ro)(hK:∀v vs',vs=v::vs'→EC P Q Shun c ch Low ro X z Fin gF w0 vs'){aW:Nat→Prop}{b:Δ}{wG:Θ}
 (hG:af P false ro (StopG P ro ch gF vs) aW b wG):∀(g:Δ) (bG:Nat→Prop) (wM:Θ),(∀w₁,cq ro bG wM w₁→iM P ch z (Bj P ro ch z Fin vs) bG g w₁)→
   ∀gs w sl t q,eM P c t gs q→gs[0]?=some (parked (core g) #[rcase ch z] (.recv true))→gs[c]?=some b→cq ro bG wM w→cq ro aW wG w→lu Q Shun c ch Low ro bG aW X false w0 w t→
   Reach P (θ gs w sl) t (LF P Q Shun c ch Low ro X z Fin gF w0):=by
 induction hG with
 | @stop aW b wG hS=>
   intro g bG wM hM gs w sl t q hC h0 hc lS qh eW;have hb:b.status=.running:=(hS wG (cq.refl _ _ _)).running;refine iq (J:=λw t=>cq ro bG wM w∧cq ro aW wG w∧lu Q Shun c ch Low ro bG aW X false w0 w t) kr (fS hb) (.inr hb)
    (λw t d ops hj h1 h2 h3 h4=>⟨hj.1.trans (fx _ _ _ d),hj.2.1.trans (fx _ _ _ d),hj.2.2.still d (λop hop=>(h1 op hop).1) (h2 _) h3 h4⟩)
    (λw t hj=>by obtain⟨s,r,tm,e⟩:=hj.2.2.chan;exact⟨Bn e,.run hb⟩)
    (λhr=>by cases hr) (λ_ gs w sl t q hC h0 hc hj=>?_) gs w sl t q hC h0 hc ⟨lS,qh,eW⟩
   obtain⟨lS,qh,eW⟩:=hj;obtain⟨s,r,tm,hch⟩:=eW.chan;cases vs with
   |nil=>
    obtain⟨_,hmw,g₂,hg2,hx⟩:=hS w qh;obtain⟨hst,fU⟩:=hx s r tm hch;obtain⟨gs',e1,e2,e3,e4⟩:=kL (sl:=sl) hC h0 hc hst;refine⟨_,_,e1,.here ⟨gs',_,sl,q,bG,aW,_,_,t,_,_,rfl,e2,e3,e4,hg2,?_,fU,eW.close hY hch,rfl,eW.Bl⟩⟩;have hw:woken P b g₂ (w.setChan ch 0 #[] true s r tm) (parked (core g) #[rcase ch z] (.recv true))={ parked (core g) #[rcase ch z] (.recv true)with status:= .running }:=by
     unfold woken;rw[zab (by simp[hmw,hg2])];exact again_recv_closed (heap_put hch)
    rw[hw];exact cQ.2 (.stop λw₂ h₂=>(hM w₂ ((lS.trans (kz (eW.chM hY) hY.LD)).trans h₂)).again)
   |cons v vs'=>
    obtain⟨_,z',hst,sw⟩:=hS w qh;obtain⟨gs',u,e1,e2,e3,e4,e5⟩:=vK (sl:=sl) hC h0 hc hst hch;exact⟨_,_,e1,hK v vs' rfl gs' _ sl _ q bG aW _ _ e3 e4 e5 (cQ.2 ((cQ.1 (hM w lS).2.2).rely (kz (eW.chM hY) hY.LD))) (dR.2 ((dR.1 sw).rely (kz (eW.chG hY) hY.LD))) (eW.meet hY hch e2)⟩
 | @step aW b wG nx nw ne hb h1 h2 _ ih=>
   intro g bG wM hM gs w sl t q hC h0 hc lS qh eW;refine iq (J:=λw t=>cq ro bG wM w∧cq ro aW wG w∧lu Q Shun c ch Low ro bG aW X false w0 w t) kr (fS hb) (.inr hb)
    (λw t d ops hj h1 h2 h3 h4=>⟨hj.1.trans (fx _ _ _ d),hj.2.1.trans (fx _ _ _ d),hj.2.2.still d (λop hop=>(h1 op hop).1) (h2 _) h3 h4⟩)
    (λw t hj=>by obtain⟨s,r,tm,e⟩:=hj.2.2.chan;exact⟨Bn e,.run hb⟩)
    (λhr=>by cases hr) (λ_ gs w sl t q hC h0 hc hj=>?_) gs w sl t q hC h0 hc ⟨lS,qh,eW⟩
   obtain⟨lS,qh,eW⟩:=hj;obtain⟨gs',e1,e2,e3,e4⟩:=kL (sl:=sl) hC h0 hc (h1 w qh);obtain⟨k1,k2⟩:=eW.stepG (fn:=b.frame.fn) (pos:=b.frame.place) hY (h2 w qh);obtain⟨s,r,tm,hch⟩:=k1.chan;rw[woken_recv_open _ _ hch]at e3;exact⟨_,_,e1,ih w qh g bG wM hM gs' _ sl _ q e2 e3 e4 (lS.trans k2) (cq.refl _ _ _) k1⟩
theorem OS (hY:Lay Q Shun c ch Low ro)(hK:EC P Q Shun c ch Low ro X z Fin gF w0 vs){a:Δ}
 (hM:af P true ro (iM P ch z (Bj P ro ch z Fin (v::vs))) bG a wM):∀(g:Δ) (z':ζ) (aW:Nat→Prop) (wG:Θ),jU P ro ch gF vs aW (Conc.served (core g) ϊ) wG→
   ∀gs w sl t q,eM P c t gs q→gs[0]?=some a→gs[c]?=some (parked (core g) #[scase ch v z'] .send)→cq ro bG wM w→cq ro aW wG w→lu Q Shun c ch Low ro bG aW X false w0 w t→
   Reach P (θ gs w sl) t (LF P Q Shun c ch Low ro X z Fin gF w0):=by
 induction hM with
 | @stop bG a wM hS=>
   intro g z' aW wG hG gs w sl t q hC h0 hc lS qh eW;have ha:a.status=.running:=(hS wM (cq.refl _ _ _)).1;refine iq (J:=λw t=>cq ro bG wM w∧cq ro aW wG w∧lu Q Shun c ch Low ro bG aW X false w0 w t) (fS ha) kr (.inl ha)
    (λw t d ops hj h1 h2 h3 h4=>⟨hj.1.trans (fx _ _ _ d),hj.2.1.trans (fx _ _ _ d),hj.2.2.still d (λop hop=>(h1 op hop).1) (h2 _) h3 h4⟩)
    (λw t hj=>by obtain⟨s,r,tm,e⟩:=hj.2.2.chan;exact⟨.run ha,Bo e⟩)
    (λ_ gs w sl t q hC h0 hc hj=>?_) (λhr=>by cases hr) gs w sl t q hC h0 hc ⟨lS,qh,eW⟩
   obtain⟨lS,qh,eW⟩:=hj;obtain⟨s,r,tm,hch⟩:=eW.chan;obtain⟨_,hst,sw⟩:=hS w lS;obtain⟨gs',u,e1,e2,e3,e4,e5⟩:=vJ (sl:=sl) hC h0 hc hst hch;exact⟨_,_,e1,hK gs' _ sl _ q bG aW _ _ e3 e4 e5 (cQ.2 ((cQ.1 sw).rely (kz (eW.chM hY) hY.LD))) (dR.2 ((dR.1 hG).rely (qh.trans (kz (eW.chG hY) hY.LD)))) (eW.meet hY hch e2)⟩
 | @step bG a wM nx nw ne ha h1 h2 _ ih=>
   intro g z' aW wG hG gs w sl t q hC h0 hc lS qh eW;refine iq (J:=λw t=>cq ro bG wM w∧cq ro aW wG w∧lu Q Shun c ch Low ro bG aW X false w0 w t) (fS ha) kr (.inl ha)
    (λw t d ops hj h1 h2 h3 h4=>⟨hj.1.trans (fx _ _ _ d),hj.2.1.trans (fx _ _ _ d),hj.2.2.still d (λop hop=>(h1 op hop).1) (h2 _) h3 h4⟩)
    (λw t hj=>by obtain⟨s,r,tm,e⟩:=hj.2.2.chan;exact⟨.run ha,Bo e⟩)
    (λ_ gs w sl t q hC h0 hc hj=>?_) (λhr=>by cases hr) gs w sl t q hC h0 hc ⟨lS,qh,eW⟩
   obtain⟨lS,qh,eW⟩:=hj;obtain⟨gs',e1,e2,e3,e4⟩:=sk (sl:=sl) hC h0 hc (h1 w lS);obtain⟨k1,k2⟩:=eW.OP (fn:=a.frame.fn) (pos:=a.frame.place) hY (h2 w lS);obtain⟨s,r,tm,hch⟩:=k1.chan;rw[woken_send_open _ _ hch]at e4;exact⟨_,_,e1,ih w lS g z' aW wG hG gs' _ sl _ q e2 e3 e4 (cq.refl _ _ _) (qh.trans k2) k1⟩
theorem Bp (hY:Lay Q Shun c ch Low ro)(hK:∀v vs',vs=v::vs'→EC P Q Shun c ch Low ro X z Fin gF w0 vs'){a:Δ}
 (hM:af P true ro (iM P ch z (Bj P ro ch z Fin vs)) bG a wM)
 (H0:∀aW b wG,af P false ro (StopG P ro ch gF vs) aW b wG→∀gs w sl t q,eM P c t gs q→gs[0]?=some a→gs[c]?=some b→cq ro bG wM w→cq ro aW wG w→lu Q Shun c ch Low ro bG aW X false w0 w t→∃m' ops,runT P (θ gs w sl) 0=(.next m',ops)∧Reach P m' (t++ops) (LF P Q Shun c ch Low ro X z Fin gF w0))
 {aW:Nat→Prop}{b:Δ}{wG:Θ}(hG:af P false ro (StopG P ro ch gF vs) aW b wG):
  ∀gs w sl t q,eM P c t gs q→gs[0]?=some a→gs[c]?=some b→cq ro bG wM w→cq ro aW wG w→lu Q Shun c ch Low ro bG aW X false w0 w t→
  Reach P (θ gs w sl) t (LF P Q Shun c ch Low ro X z Fin gF w0):=by
 have ha:a.status=.running:=hM.running λ_ _ _ h=>h.1
 induction hG with
 | @stop aW b wG hS=>
   intro gs w sl t q hC h0 hc lS qh eW;have hb:b.status=.running:=(hS wG (cq.refl _ _ _)).running;refine iq (J:=λw t=>cq ro bG wM w∧cq ro aW wG w∧lu Q Shun c ch Low ro bG aW X false w0 w t) (fS ha) (fS hb) (.inr hb)
    (λw t d ops hj h1 h2 h3 h4=>⟨hj.1.trans (fx _ _ _ d),hj.2.1.trans (fx _ _ _ d),hj.2.2.still d (λop hop=>(h1 op hop).1) (h2 _) h3 h4⟩)
    (λw t hj=>⟨.run ha,.run hb⟩)
    (λ_ gs w sl t q hC h0 hc hj=>H0 aW b wG (.stop hS) gs w sl t q hC h0 hc hj.1 hj.2.1 hj.2.2) (λ_ gs w sl t q hC h0 hc hj=>?_) gs w sl t q hC h0 hc ⟨lS,qh,eW⟩
   obtain⟨lS,qh,eW⟩:=hj;obtain⟨s,r,tm,hch⟩:=eW.chan;cases vs with
   |nil=>
    obtain⟨_,hmw,g₂,hg2,hx⟩:=hS w qh;obtain⟨hst,fU⟩:=hx s r tm hch;obtain⟨gs',e1,e2,e3,e4⟩:=kL (sl:=sl) hC h0 hc hst;rw[woken_run ha]at e3;exact⟨_,_,e1,.here ⟨gs',_,sl,q,bG,aW,_,_,t,_,_,rfl,e2,e3,e4,hg2,cQ.2 (hM.rely (lS.trans (kz (eW.chM hY) hY.LD))),fU,eW.close hY hch,rfl,eW.Bl⟩⟩
   |cons v vs'=>
    obtain⟨_,z',hst,sw⟩:=hS w qh;obtain⟨gs',e1,e2,e3,e4⟩:=vI (sl:=sl) hC h0 hc (by simp[ha]) hst hch;exact⟨_,_,e1,OS hY (hK v vs' rfl) hM b z' aW w sw gs' w sl _ q e2 e3 e4 lS (cq.refl _ _ _) (by simpa using eW)⟩
 | @step aW b wG nx nw ne hb h1 h2 h3 ih=>
   intro gs w sl t q hC h0 hc lS qh eW;refine iq (J:=λw t=>cq ro bG wM w∧cq ro aW wG w∧lu Q Shun c ch Low ro bG aW X false w0 w t) (fS ha) (fS hb) (.inr hb)
    (λw t d ops hj h1 h2 h3 h4=>⟨hj.1.trans (fx _ _ _ d),hj.2.1.trans (fx _ _ _ d),hj.2.2.still d (λop hop=>(h1 op hop).1) (h2 _) h3 h4⟩)
    (λw t hj=>⟨.run ha,.run hb⟩)
    (λ_ gs w sl t q hC h0 hc hj=>H0 aW b wG (.step nx nw ne hb h1 h2 h3) gs w sl t q hC h0 hc hj.1 hj.2.1 hj.2.2) (λ_ gs w sl t q hC h0 hc hj=>?_) gs w sl t q hC h0 hc ⟨lS,qh,eW⟩
   obtain⟨lS,qh,eW⟩:=hj;obtain⟨gs',e1,e2,e3,e4⟩:=kL (sl:=sl) hC h0 hc (h1 w qh);obtain⟨k1,k2⟩:=eW.stepG (fn:=b.frame.fn) (pos:=b.frame.place) hY (h2 w qh);rw[woken_run ha]at e3;exact⟨_,_,e1,ih w qh gs' _ sl _ q e2 e3 e4 (lS.trans k2) (cq.refl _ _ _) k1⟩
theorem ED (hY:Lay Q Shun c ch Low ro)(hK:∀v vs',vs=v::vs'→EC P Q Shun c ch Low ro X z Fin gF w0 vs'){a:Δ}
 (hM:af P true ro (iM P ch z (Bj P ro ch z Fin vs)) bG a wM):∀(aW:Nat→Prop) (b:Δ) (wG:Θ),af P false ro (StopG P ro ch gF vs) aW b wG→
   ∀gs w sl t q,eM P c t gs q→gs[0]?=some a→gs[c]?=some b→cq ro bG wM w→cq ro aW wG w→lu Q Shun c ch Low ro bG aW X false w0 w t→
   Reach P (θ gs w sl) t (LF P Q Shun c ch Low ro X z Fin gF w0):=by
 induction hM with
 | @stop bG a wM hS=>
   intro aW b wG hG;refine Bp hY hK (.stop hS) (λaW b wG hG gs w sl t q hC h0 hc lS qh eW=>?_) hG;obtain⟨s,r,tm,hch⟩:=eW.chan;have hb:b.status=.running:=hG.running λ_ _ _ h=>h.running;obtain⟨gs',e1,e2,e3,e4⟩:=vH (sl:=sl) hC h0 hc (by simp[hb]) (hS w lS).2.1 hch;exact⟨_,_,e1,OQ hY hK hG a bG wM hS gs' w sl _ q e2 e3 e4 lS qh (by simpa using eW)⟩
 | @step bG a wM nx nw ne ha h1 h2 h3 ih=>
   intro aW b wG hG;refine Bp hY hK (.step nx nw ne ha h1 h2 h3) (λaW b wG hG gs w sl t q hC h0 hc lS qh eW=>?_) hG;have hb:b.status=.running:=hG.running λ_ _ _ h=>h.running;obtain⟨gs',e1,e2,e3,e4⟩:=sk (sl:=sl) hC h0 hc (h1 w lS);obtain⟨k1,k2⟩:=eW.OP (fn:=a.frame.fn) (pos:=a.frame.place) hY (h2 w lS);rw[woken_run hb]at e4;exact⟨_,_,e1,ih w lS aW b wG hG gs' _ sl _ q e2 e3 e4 (cq.refl _ _ _) (qh.trans k2) k1⟩
theorem OT (hY:Lay Q Shun c ch Low ro):∀vs,EC P Q Shun c ch Low ro X z Fin gF w0 vs
 |[],gs,w,sl,t,q,bG,aW,a,b,hC,h0,hc,hM,hG,eW=>ED hY (λ_ _ e=>by cases e) (cQ.1 hM) aW b w (dR.1 hG) gs w sl t q hC h0 hc (cq.refl _ _ _) (cq.refl _ _ _) eW
 |v::vs,gs,w,sl,t,q,bG,aW,a,b,hC,h0,hc,hM,hG,eW=>ED hY (λv' vs' e=>by cases e;exact OT hY vs) (cQ.1 hM) aW b w (dR.1 hG) gs w sl t q hC h0 hc (cq.refl _ _ _) (cq.refl _ _ _) eW
end
open Go.ConcX (stA Acq)
theorem OU {fn:ι}(j:Nat):(t++Γ g fn pos es)[t.size+j]?=(es[j]?).map λe=>{ g:=g,fn:=fn,pos:=pos,act:= .ofEvent e }:=by
 rw[Array.getElem?_append_right (by omega),ofEvents_eq,zaz]
 congr 2
 omega
theorem oB {fn:ι}(j:Nat):(t++Γ g fn pos es).act? (t.size+j)=(es[j]?).map η:=by
 unfold Trace.act?
 rw[OU];cases es[j]?<;>rfl
theorem EE {fn:ι}(j:Nat):(t++Γ g fn pos es).g? (t.size+j)=(es[j]?).map λ_=>g:=by
 unfold Trace.g?
 rw[OU];cases es[j]?<;>rfl
theorem EF {fn:ι}(he:es[j]?=some e):(t++Γ g fn pos es).heard (t.size+j)↔deafBehind (Deaf t g) (es.extract 0 j)=0:=by
 have hj:j≤es.size:=by
  rcases zaw j es.size with h|h
  ·omega
  ·rw[zbQ h]at he;cases he
 unfold Trace.heard;rw[EE,he];simp only[zbp,zaE,exists_eq_left'];rw[deaf_inside t g fn pos es j hj]
theorem uf {s:Ω}{g':Nat}{fn:ι}(he:es[j]?=some e)(hd:Deaf T g'=Deaf s g):(T++Γ g' fn pos es).heard (T.size+j)↔(s++Γ g fn pos es).heard (s.size+j):=by
 rw[EF he,EF he,hd]
theorem H5 {s:Ω}{g':Nat}{fn:ι}(hd:Deaf T g'=Deaf s g):(T++Γ g' fn pos es).counts (T.size+j)→(s++Γ g fn pos es).counts (s.size+j):=by
 rintro ⟨x,hx,hm,hk⟩;rw[oB]at hx;cases he:es[j]? with
 |none=>rw[he]at hx;simp at hx
 |some e=>exact⟨x,by rw[oB];exact hx,hm,hk.imp id (uf he hd).1⟩
theorem mj {fn:ι}(hi:t.size≤i)(hlt:i<(t++Γ g fn pos es).size):∃j e,i=t.size+j∧es[j]?=some e:=by
 rw[ofEvents_eq]at hlt;simp at hlt;exact⟨i-t.size,es[i-t.size]'(by omega),by omega,zaL _⟩
theorem pJ (h:t.g? i=some g):i<t.size:=by
 obtain⟨z,hz,_⟩:=zas.1 h;exact lt_size_of_getElem? hz
structure LH (c Wg:Nat) (T:Ω) (R:Nat):Prop where
 act:T.act? R=some (.mark (.releaseMerge (stA Wg)))
 g:T.g? R=some c
 heard:T.heard R
 after:∀i,R<i→T.g? i=some c→¬T.counts i
 norel:∀i,R<i→T.act? i≠some (.mark (.release (stA Wg)))
 late:∀i a,R<i→T.g? i=some c→touchAt T i=some a→∃ad,a.loc=.cell ad∧ad.block=Wg
def TN (c Wg:Nat)(u:Ω):Prop:=∀op∈u,op.act≠.mark (.release (stA Wg))∧(op.g=c→∀x,op.act.touch? =some x→∃ad,x.loc=.cell ad∧ad.block=Wg)
theorem LH.app {c Wg:Nat}{u:Ω}{R:Nat}(h:LH c Wg T R)(hu:TN c Wg u)(hc:∀i,T.size≤i→(T++u).g? i=some c→¬(T++u).counts i):LH c Wg (T++u) R:=by
 have hR:=lt_of_act? h.act;refine⟨by rw[act?_old hR];exact h.act,by rw[g?_old hR];exact h.g,(heard_old hR).2 h.heard,λi hi hg uS=>?_,λi hi e=>?_,λi a hi hg ha=>?_⟩
 ·rcases zaw i T.size with hlt|jB
  ·exact h.after i hi (by rw[←g?_old (u:=u) hlt];exact hg) ((counts_old hlt).1 uS)
  ·exact hc i jB hg uS
 ·obtain⟨op,ho,TP⟩:=zas.1 e;rcases getElem?_append_cases ho with⟨_,Nw⟩|⟨_,Yc⟩
  ·exact h.norel i hi (by rw[act?_of Nw,TP])
  ·exact(hu op Yc).1 TP
 ·obtain⟨op,ho,TP⟩:=touch_of ha;rcases getElem?_append_cases ho with⟨hlt,Nw⟩|⟨_,Yc⟩
  ·exact h.late i a hi (by rw[←g?_old (u:=u) hlt];exact hg) (by rw[touchAt_of Nw];exact TP)
  ·exact(hu op Yc).2 (by simpa[Trace.g?,ho]using hg) a TP
def OV (c Wg:Nat)(T:Ω):Prop:=∃R Q,LH c Wg T R∧T.act? Q=some (.mark (.acquire (stA Wg)))∧T.g? Q=some 0∧T.heard Q∧R<Q
structure GL (c Wg:Nat) (s T:Ω):Prop where
 d0:Deaf T 0=Deaf s 0
 dc:Deaf T c=Deaf s 1
 rel:∀r,Released (stA Wg) s r→∃R,LH c Wg T R
 acq:Acq Wg s→OV c Wg T
section
variable {c Wg:Nat}{s T u:Ω}
theorem OV.app (h:OV c Wg T)(hu:TN c Wg u)(hc:∀i,T.size≤i→(T++u).g? i=some c→¬(T++u).counts i):OV c Wg (T++u):=by
 obtain⟨R,Q,h1,h2,h3,h4,h5⟩:=h;have hQ:=lt_of_act? h2;exact⟨R,Q,h1.app hu hc,by rw[act?_old hQ];exact h2,by rw[g?_old hQ];exact h3,(heard_old hQ).2 h4,h5⟩
theorem GL.other (h:GL c Wg s T)(hu:∀op∈u,op.act≠.mark (.release (stA Wg))∧(op.g=c→op.act.touch? =none))(h0:Deaf (T++u) 0=Deaf T 0)(hc:Deaf (T++u) c=Deaf T c):GL c Wg s (T++u):=by
 have k:∀i,T.size≤i→(T++u).g? i=some c→¬(T++u).counts i:=by
  rintro i hi hg ⟨x,hx,_⟩;obtain⟨op,ho,hog⟩:=zas.1 hg;rcases getElem?_append_cases ho with⟨hlt,_⟩|⟨_,Yc⟩
  ·omega
  ·rw[act?_of ho]at hx;simp only[zce]at hx;rw[(hu op Yc).2 hog]at hx;cases hx
 have hm:TN c Wg u:=λop hop=>⟨(hu op hop).1,λe x hx=>by rw[(hu op hop).2 e]at hx;cases hx⟩;exact⟨h0.trans h.d0,hc.trans h.dc,λr hr=>let⟨R,hR⟩:=h.rel r hr;⟨R,hR.app hm k⟩,λha=>(h.acq ha).app hm k⟩
theorem Released.back {u:Ω}{a:Addr}(h:Released a (t++u) r)(hr:r<t.size):Released a t r:=
 ⟨by rw[←act?_old (u:=u) hr];exact h.act,by rw[←g?_old (u:=u) hr];exact h.g,(heard_old hr).1 h.heard,λi hi hg hc=>by
   have hlt:=pJ hg;exact h.after i hi (by rw[g?_old hlt];exact hg) ((counts_old hlt).2 hc)⟩
theorem vM (a:Addr)(h:η e=.mark (.release a)):e.loc=.mark (.release a):=by
 obtain⟨loc,wr,sy⟩:=e;cases loc<;>cases wr<;>cases sy<;>simp_all [η]
theorem GL.step (hc0:c≠0)(h:GL c Wg s T){g:Nat}(hg:g=0∨g=1){g':Nat}(tK:g'=if g=0 then 0 else c)(fn:ι)(pos:String)(es:Array υ)(hn:NoRelease (stA Wg) (s++Γ g fn pos es))(hq:∀e∈es,∀x,(η e).touch? =some x→∃ad,x.loc=.cell ad∧ad.block=Wg):GL c Wg (s++Γ g fn pos es) (T++Γ g' fn pos es):=by
 have hd:Deaf T g'=Deaf s g:=by
  rcases hg with rfl|rfl
  ·rw[tK];exact h.d0
  ·rw[tK];exact h.dc
 have hgc:g'=c↔g=1:=by
  rcases hg with rfl|rfl
  ·rw[tK];simp;exact Ne.symm hc0
  ·rw[tK];simp
 have hnu:TN c Wg (Γ g' fn pos es):=by
  intro op hop;obtain⟨ev,iG,rfl⟩:=zbe hop;refine⟨λe=>?_,λ_=>hq ev iG⟩;obtain⟨j,hj⟩:=Array.getElem?_of_mem iG;exact hn (s.size+j) (by rw[oB,hj];exact zak some e)
 have kc:∀r,Released (stA Wg) (s++Γ g fn pos es) r→∀j e,es[j]?=some e→r<s.size+j→g'=c→¬(T++Γ g' fn pos es).counts (T.size+j):=by
  intro r hr j e he hlt SM uS;refine hr.after (s.size+j) hlt ?_ (H5 hd uS);rw[EE,he,hgc.1 SM];rfl
 have aav:∀r,Released (stA Wg) (s++Γ g fn pos es) r→r<s.size→∀i,T.size≤i→(T++Γ g' fn pos es).g? i=some c→¬(T++Γ g' fn pos es).counts i:=by
  intro r hr hlt i hi EG;obtain⟨j,e,rfl,he⟩:=mj hi (pJ EG);refine kc r hr j e he (by omega) ?_;rw[EE,he]at EG;simpa using EG
 have aaw:∀r,Released (stA Wg) (s++Γ g fn pos es) r→∃R,LH c Wg (T++Γ g' fn pos es) R∧(r<s.size→R<T.size):=by
  intro r hr;rcases zaw r s.size with hlt|jB
  ·obtain⟨R,hR⟩:=h.rel r (Released.back hr hlt);exact⟨R,hR.app hnu (aav r hr hlt),λ_=>lt_of_act? hR.act⟩
  ·obtain⟨j,e,rfl,he⟩:=mj jB (pJ hr.g);have h1:=hr.act;have h2:=hr.g;rw[oB,he]at h1;rw[EE,he]at h2;have hg1:g=1:=by simpa using h2
   refine⟨T.size+j,⟨by rw[oB,he];exact h1,by rw[EE,he,hgc.2 hg1];rfl,(uf he hd).2 hr.heard,λi hi EG=>?_,λi hi e'=>?_,λi a hi EG ha=>?_⟩,λhlt=>by omega⟩
   ·obtain⟨j',e',rfl,TQ⟩:=mj (by omega) (pJ EG);exact kc _ hr j' e' TQ (by omega) (hgc.2 hg1)
   ·obtain⟨j',e'',rfl,aax⟩:=mj (by omega) (lt_of_act? e');rw[oB,aax]at e';exact hn (s.size+j') (by rw[oB,aax];exact e')
   ·obtain⟨op,ho,TP⟩:=touch_of ha;rcases getElem?_append_cases ho with⟨hlt,_⟩|⟨_,Yc⟩
    ·omega
    ·obtain⟨ev,iG,rfl⟩:=zbe Yc;exact hq ev iG a TP
 refine⟨?_,?_,λr hr=>let⟨R,hR,_⟩:=aaw r hr;⟨R,hR⟩,?_⟩
 ·rcases hg with rfl|rfl
  ·rw[zab rfl]at tK;subst tK;rw[Deaf_own,Deaf_own,h.d0]
  ·rw[zaa (by decide)]at tK;subst tK;rw[zaN T hc0 _ ofEvents_g,zaN s (by decide) _ ofEvents_g,h.d0]
 ·rcases hg with rfl|rfl
  ·rw[zab rfl]at tK;subst tK;rw[zaN T (Ne.symm hc0) _ ofEvents_g,zaN s (by decide) _ ofEvents_g,h.dc]
  ·rw[zaa (by decide)]at tK;subst tK;rw[Deaf_own,Deaf_own,h.dc]
 ·rintro ⟨q,r,hr,hq,hgq,hh,hrq⟩;rcases zaw q s.size with hlt|jB
  ·have qy:=Released.back hr (by omega);exact(h.acq ⟨q,r,qy,by rw[←act?_old hlt];exact hq,by rw[←g?_old hlt];exact hgq,(heard_old hlt).1 hh,hrq⟩).app hnu (aav r hr (by omega))
  ·obtain⟨j,e,rfl,he⟩:=mj jB (pJ hgq);rw[EE,he]at hgq;have hg0:g=0:=by simpa using hgq
   have qy:r<s.size:=by
    rcases zaw r s.size with hlt|acR
    ·exact hlt
    ·obtain⟨j',e',rfl,TQ⟩:=mj acR (pJ hr.g);have:=hr.g;rw[EE,TQ,hg0]at this;simp at this
   obtain⟨R,hR,hlt⟩:=aaw r hr;refine⟨R,T.size+j,hR,?_,?_,(uf he hd).2 hh,by have:=hlt qy;omega⟩
   ·rw[oB,he]at hq ⊢;exact hq
   ·rw[EE,he,tK];simp[hg0]
end
end Go.Ren
set_option linter.unusedSectionVars false
namespace Go.Ren
open Go Go.Conc
open Go.ConcX (Payload Shy stA smA Base CA JInv RCa RCd DCs AtR0 RPa DPi AtKd PA KK WgAt ChanAt Full Aside2 runTX JT CAOut)
section
variable [Payload] {P:Ξ}{ty:χ}{Wg C Low:Nat} [Shy Wg C] {vals:List ζ}{Mine:Loc→Prop}
def Half (P:Ξ)(ty:χ)(Wg C Low:Nat) [Shy Wg C] (vals:List ζ)(Mine:Loc→Prop)(μ:Nat×Nat)(b:Δ)(w:Θ)(s:Ω):Prop:=
 (∃p d1 rc mc rel cl sent vs,μ=(rc,mc)∧sent++vs=vals∧Base Mine ty Wg C vals.length KK 0 sent.toArray cl sent.length 0 0 d1 rel w s p∧CA P ty Wg C Low vals Mine rc d1 rel vs cl mc b w)∨
 (∃p d1 q,μ=(0,q)∧Base Mine ty Wg C vals.length 0 0 vals.toArray true vals.length 0 0 d1 true w s p∧QuitsD P q d1 b)
theorem xT {a b:Δ}{w:Θ}{m':Machine}{ops:Array MemOp}(h:runTX P (duo a b w none) 1=(.next m',ops)):∃b' w' es,π P false b w=.go b' w' es∧m'=duo (Conc.woken P b b' w' a) b' w' none∧ops=Γ 1 b.frame.fn b.frame.place es:=by
 rw[duo_eq_crowd]at h;obtain⟨g,g',w',es,hg,hs,hm,ho⟩:=Go.ConcX.runTX_next h;obtain rfl:b=g:=by simpa using hg
 exact⟨g',w',es,hs,by rw[hm];simp[θ,duo],ho⟩
theorem Half.status {μ:Nat×Nat}{b:Δ}{w:Θ}{s:Ω}(h:Half P ty Wg C Low vals Mine μ b w s):b.status=.running∨b.status=.finished:=by
 rcases h with⟨_,_,_,_,_,_,_,_,_,_,_,hc⟩|⟨_,_,_,_,_,hq⟩
 ·exact .inl hc.running
 ·exact hq.status
theorem Half.jt {μ:Nat×Nat}{b:Δ}{w:Θ}{s:Ω}(h:Half P ty Wg C Low vals Mine μ b w s):∃p,JT Mine Wg C s p:=by
 rcases h with⟨p,_,_,_,_,_,_,_,_,_,hB,_⟩|⟨p,_,_,_,hB,_⟩
 ·exact⟨p,hB.jt⟩
 ·exact⟨p,hB.jt⟩
theorem Half.woken {μ:Nat×Nat}{b:Δ}{w w':Θ}{s:Ω}(h:Half P ty Wg C Low vals Mine μ b w s)(x x':Δ):Conc.woken P x x' w' b=b:=by
 rcases h with⟨_,_,_,_,_,_,_,_,_,_,_,hc⟩|⟨_,_,_,_,_,hq⟩
 ·exact woken_run hc.running
 ·exact woken_quitsD hq
theorem Half.rely (hW:Wg<Low)(hC:C<Low){μ:Nat×Nat}{b:Δ}{w w':Θ}{s:Ω}(h:Half P ty Wg C Low vals Mine μ b w s)(hr:∀b,b<Low→w'.heap[b]?=w.heap[b]?):Half P ty Wg C Low vals Mine μ b w' s:=by
 rcases h with⟨p,d1,rc,mc,rel,cl,sent,vs,e,hs,hB,hc⟩|⟨p,d1,q,e,hB,hq⟩
 ·exact .inl ⟨p,d1,rc,mc,rel,cl,sent,vs,e,hs,⟨hB.wg.of_block (hr Wg hW),hB.ch.of_block (hr C hC),hB.jt,hB.deaf0,hB.deaf1,hB.noacq,hB.rel⟩,hc.rely (Go.ConcX.RCd.toA hW hr)⟩
 ·exact .inr ⟨p,d1,q,e,⟨hB.wg.of_block (hr Wg hW),hB.ch.of_block (hr C hC),hB.jt,hB.deaf0,hB.deaf1,hB.noacq,hB.rel⟩,hq⟩
theorem Half.move (hCW:C≠Wg){μ:Nat×Nat}{b:Δ}{w:Θ}{s:Ω}(h:Half P ty Wg C Low vals Mine μ b w s)(hb:b.status=.running):∃b' w' es oC,π P false b w=.go b' w' es∧Aside2 C Wg w w'∧Lt2 oC μ∧Half P ty Wg C Low vals Mine oC b' w' (s++Γ 1 b.frame.fn b.frame.place es):=by
 rcases h with⟨p,d1,rc,mc,rel,cl,sent,vs,rfl,hs,hB,hc⟩|⟨p,d1,q,rfl,hB,hq⟩
 ·obtain⟨a',b',w',ops,hrun,_,hA,hout⟩:=Go.ConcX.CA.move hCW (a:=ph) (sl:=none) (.inl rfl) hs hB hc (.inl (by simp[ph]));obtain⟨b2,w2,es,hst,hm,rfl⟩:=xT hrun;obtain⟨_,rfl,rfl,_⟩:=Go.ConcX.duo_inj hm;cases hout with
  |stay rc' d1' rel' aay vs' cl' mc' hl hs' TR hc'=>exact⟨b',w',es,(rc',mc'),hst,hA,hl,.inl ⟨p,d1',rc',mc',rel',cl',aay,vs',rfl,hs',TR,hc'⟩⟩
  |lone q _ TR hq=>exact⟨b',w',es,(0,q),hst,hA,.left _ _ (by have:=hc.rank_pos;omega),.inr ⟨p,1,q,rfl,TR,hq⟩⟩
  |met m e _ _=>exact absurd e Go.ConcX.kk1_ne
 ·obtain⟨b',ops,q',d1',hrun,hlt,TR,hq',_⟩:=Go.ConcX.cq_move (a:=ph) (sl:=none) hB hq hb;obtain⟨b2,w2,es,hst,hm,rfl⟩:=xT hrun;obtain⟨_,rfl,rfl,_⟩:=Go.ConcX.duo_inj hm;exact⟨b',w,es,(0,q'),hst,.refl w,.right _ hlt,.inr ⟨p,d1',q',rfl,TR,hq'⟩⟩
theorem Half.inv {AnchW:Δ→Θ→Prop}{Post:ζ→Θ→Prop}{μ:Nat×Nat}{a b:Δ}{w:Θ}{s:Ω}{sl:Option (Nat×Nat)}(h:Half P ty Wg C Low vals Mine μ b w s){m:Nat}(hp:Goes P true (RPa ty Wg C vals) (DPi Mine Wg C Low) (AtKd P ty Wg C Low vals Mine AnchW) m a w):∃oC,JInv P ty Wg C Low vals Mine AnchW Post oC (duo a b w sl) s:=by
 rcases h with⟨p,d1,rc,mc,rel,cl,sent,vs,rfl,hs,hB,hc⟩|⟨p,d1,q,rfl,hB,hq⟩
 ·exact⟨_,.a a b w sl s p 0 d1 rc mc 4 m rel cl sent vs hs hB (.kd hp) hc⟩
 ·exact⟨_,.c a b w sl s p 0 d1 q 4 m hB (.kd hp) hq⟩
def LK:Ω:=((#[]:Ω).push { g:=0,fn:=0,pos:= "",act:= .go 1 }).push { g:=1,fn:=0,pos:= "",act:= .start }
theorem Half.init {b:Δ}{w:Θ}{n:Nat}(hw:WgAt ty Wg w KK 0)(hG:Goes P false (RCa ty Wg Low) (DCs Mine Wg C) (AtR0 P ty Wg C Low vals) n b w):Half P ty Wg C Low vals Mine (7,n) b w LK:=by
 obtain⟨h1,h2,h3,h4⟩:=Go.ConcX.JT.init (Mine:=Mine) (Go.ConcX.ST.nil (Wg:=Wg) (C:=C)) (x:={ g:=0,fn:=0,pos:= "",act:= .go 1 }) (y:={ g:=1,fn:=0,pos:= "",act:= .start }) ⟨rfl,rfl⟩ ⟨rfl,rfl⟩;exact .inl ⟨_,0,7,n,false,false,vals,[],rfl,by simp,⟨hw,(λe=>by cases e),h1,h2,h3,(λ_=>h4),(λe=>by cases e)⟩,.r0 hG⟩
end
theorem LL:Deaf LK 0=0:=by simp[LK,Deaf,Trace.deaf]
theorem LM:Deaf LK 1=0:=by simp[LK,Deaf,Trace.deaf]
theorem Bq {a:Addr}{r:Nat}(h:Released a LK r):False:=by
 have:=h.act;have hlt:=lt_of_act? this;have h2:r<2:=hlt
 match r,h2 with
 |0,_=>simp[LK,Trace.act?]at this
 |1,_=>simp[LK,Trace.act?]at this
theorem GL.init {c Wg:Nat}{T:Ω}(h0:Deaf T 0=0)(hc:Deaf T c=0):GL c Wg LK T:=
 ⟨by rw[h0,LL],by rw[hc,LM],λr hr=>(Bq hr).elim,λ⟨_,_,hr,_⟩=>(Bq hr).elim⟩
end Go.Ren
set_option linter.unusedSectionVars false
namespace Go.Ren
open Go Go.Conc
open Go.ConcX (Payload Shy stA smA Base CA JInv RCa RCd DCs AtR0 RPa DPi AtKd PA KK WgAt ChanAt Full Aside2 runTX JT AtW1)
variable {μ:Nat×Nat}{b:Δ}{w w':Θ}{g:Nat}
structure Side (Wg:Nat) where
 pl:Payload
 C:Nat
 sh:Shy Wg C
 vals:List ζ
 Mine:Loc→Prop
 AnchW:Δ→Θ→Prop
 Post:ζ→Θ→Prop
section
variable {Wg:Nat}
def Side.half (x:Side Wg)(P:Ξ)(ty:χ)(Low:Nat)(μ:Nat×Nat)(b:Δ)(w:Θ)(s:Ω):Prop:=@Half x.pl P ty Wg x.C Low x.sh x.vals x.Mine μ b w s
def Side.jt (x:Side Wg)(s:Ω)(p:Nat):Prop:=@JT x.Mine Wg x.C x.sh s p
theorem Side.kA {x:Side Wg}{P:Ξ}{ty:χ}{Low:Nat}(hW:Wg<Low)(hC:x.C<Low){s:Ω}(h:x.half P ty Low μ b w s)(hr:∀b,b<Low→w'.heap[b]?=w.heap[b]?):x.half P ty Low μ b w' s:=
 @Half.rely x.pl P ty Wg x.C Low x.sh x.vals x.Mine hW hC μ b w w' s h hr
theorem Side.qZ {x:Side Wg}{P:Ξ}{ty:χ}{Low:Nat}{s:Ω}(h:x.half P ty Low μ b w s)(u u':Δ):Conc.woken P u u' w' b=b:=
 @Half.woken x.pl P ty Wg x.C Low x.sh x.vals x.Mine μ b w w' s h u u'
theorem Side.norel {x:Side Wg}{s:Ω}{p:Nat}(h:x.jt s p):NoRelease (stA Wg) s:=@JT.norel x.Mine Wg x.C x.sh s p h
theorem Side.oks {x:Side Wg}{s:Ω}{p:Nat}(h:x.jt s p):∀op∈s,x.sh.ok op.act:=@JT.oks x.Mine Wg x.C x.sh s p h
theorem Side.quiet {x:Side Wg}{s:Ω}{p:Nat}(h:x.jt s p):Quiet (Go.ConcX.ShJ Wg x.C) s:=@JT.quiet x.Mine Wg x.C x.sh s p h
structure fy (P:Ξ) (ty:χ) (Wg Low:Nat) (x:Side Wg):Prop where
 hC:x.C<Low
 hCW:x.C≠Wg
 hAr:∀g w,x.AnchW g w→g.status=.running
 hAn:letI:=x.pl;letI:=x.sh;∀g w,x.AnchW g w→∃m,Goes P true (RPa ty Wg x.C x.vals) (DPi x.Mine Wg x.C Low) (AtW1 P ty Wg x.C Low x.vals x.Mine x.AnchW x.Post) m g w
 ok:∀act,x.sh.ok act→(∀t,act.touch? =some t→∃a,t.loc=.cell a∧(a.block=Wg∨a.block=x.C))∧act.low Low
end
section
variable {P:Ξ}{ty:χ}{Wg Low:Nat}{x y:Side Wg}{s s':Ω}{g:Nat}{fn:ι}{pos:String}{es:Array υ}{p p':Nat}
theorem J2 (hx:fy P ty Wg Low x)(h:x.jt (s++Γ g fn pos es) p):∀e∈es,(∀t,(η e).touch? =some t→∃a,t.loc=.cell a∧((a.block=Wg∧t.kind≠.plain∧(t.kind=.said→g=0))∨a.block=x.C))∧(η e).low Low:=by
 intro e he;obtain⟨j,hj⟩:=Array.getElem?_of_mem he;have hop:(s++Γ g fn pos es)[s.size+j]?=some { g:=g,fn:=fn,pos:=pos,act:= .ofEvent e }:=by rw[OU,hj];rfl
 obtain⟨k1,k2⟩:=hx.ok _ (Side.oks h _ (zbF hop));refine⟨λt ht=>?_,k2⟩;obtain⟨a,ha,hb⟩:=k1 t ht;refine⟨a,ha,hb.imp (λhb=>?_) id⟩;obtain⟨q1,q2⟩:=Side.quiet h _ _ t hop ht (.inl ⟨a,ha,hb⟩);exact⟨hb,q1,q2⟩
theorem ug (hx:fy P ty Wg Low x)(hy:fy P ty Wg Low y)(Br:x.C≠y.C)(h:x.jt (s++Γ g fn pos es) p)(h':y.jt (s'++Γ g fn pos es) p'):∀e∈es,(∀t,(η e).touch? =some t→∃a,t.loc=.cell a∧a.block=Wg∧t.kind≠.plain∧(t.kind=.said→g=0))∧(η e).low Low:=by
 intro e he;obtain⟨k1,k2⟩:=J2 hx h e he;refine⟨λt ht=>?_,k2⟩;obtain⟨a,ha,hb⟩:=k1 t ht;obtain⟨a',ha',hb'⟩:=(J2 hy h' e he).1 t ht;rw[ha]at ha';obtain rfl:a=a':=by simpa using ha'
 rcases hb with hb|hb
 ·exact⟨a,ha,hb⟩
 ·rcases hb' with hb'|hb'
  ·exact⟨a,ha,hb'⟩
  ·exact absurd (hb.symm.trans hb') Br
theorem CS (Br:x.C≠y.C)(h:Aside2 x.C Wg w w')(h':Aside2 y.C Wg w w'):Aside Wg w w':=
 ⟨h.tape,h.os,h.output,h.size,λk hk=>by
   by_cases e:k=x.C
   ·exact h'.block k (by rw[e];exact Br) hk
   ·exact h.block k e hk⟩
end
section
variable {P:Ξ}{ty:χ}{Q Shun:Loc→Prop}{c ch Wg Low:Nat}{ro bG aW X:Nat→Prop}{w0 w w':Θ}{t u:Ω}{x y:Side Wg}
theorem lu.weaken {X':Nat→Prop}{cl:Bool}(h:lu Q Shun c ch Low ro bG aW X cl w0 w t)(hX:∀b,X b→X' b):lu Q Shun c ch Low ro bG aW X' cl w0 w t:=
 ⟨h.ti,h.d0,h.dc,h.mlt,h.HY,h.apart,h.big,h.chan,h.tape,h.os,h.output,λb h1 h2=>h.keep b h1 λe=>h2 (hX b e),hX _ h.TM⟩
structure EH (Q Shun:Loc→Prop) (c ch Wg Low:Nat) (ro X:Nat→Prop):Prop extends Lay Q Shun c ch Low ro where
 Nx:Wg<Low
 wch:Wg≠ch
 wQ:∀a:Addr,a.block=Wg→Q (.cell a)
 wX:X Wg
theorem EH.wro (hY:EH Q Shun c ch Wg Low ro X):¬ro Wg:=λh=>hY.rS (.cell ⟨Wg,0,none⟩) h (hY.QS _ (hY.wQ _ rfl))
theorem lu.WD (hY:EH Q Shun c ch Wg Low ro X)(h:lu Q Shun c ch Low ro bG aW X true w0 w t)(hA:Aside Wg w w')(hg:g=0∨g=c)(hu:∀op∈u,op.g=g∧∀x,op.act.touch? =some x→Q x.loc∧x.kind≠.plain∧(x.kind=.said→g=0))(hl:∀op∈u,op.act.low w.heap.size)(hd:Deaf (t++u) 0=0):lu Q Shun c ch Low ro bG aW X true w0 w' (t++u)∧cq ro bG w w':=by
 have hs:=hA.size;refine⟨⟨?_,hd,(λe=>by cases e),λb hb=>by have:=h.mlt b hb;omega,λb hb=>by have:=h.HY b hb;omega,h.apart,by have:=h.big;omega,?_,hA.tape.trans h.tape,hA.os.trans h.os,hA.output.trans h.output,λb h1 h2=>?_,h.TM⟩,hA.tape,hA.os,hA.output,by omega,λb hb=>hA.block b ?_⟩
 ·rw[hs];exact h.ti.TG hg hu hl hY.QS λl hl=>⟨λhi=>ue (λb hb'=>(h.HY b hb').1) hi (hY.sr l (hY.QS l hl)),λhi=>hY.rS l hi (hY.QS l hl)⟩
 ·obtain⟨s,r,tm,e⟩:=h.chan;exact⟨s,r,tm,by rw[hA.block ch (Ne.symm hY.wch)];exact e⟩
 ·rw[hA.block b λe=>h2 (by rw[e];exact hY.wX)];exact h.keep b h1 h2
 ·rintro rfl;rcases hb with hb|hb
  ·have:=h.mlt _ hb;have:=hY.Nx;omega
  ·exact hY.wro hb
theorem wI {g':Nat}{fn:ι}{pos:String}{es:Array υ}(hQ:∀a:Addr,a.block=Wg→Q (.cell a))(SM:g=0→g'=0)(h:∀e∈es,(∀t,(η e).touch? =some t→∃a,t.loc=.cell a∧a.block=Wg∧t.kind≠.plain∧(t.kind=.said→g=0))∧(η e).low Low):(∀op∈Γ g' fn pos es,op.g=g'∧∀x,op.act.touch? =some x→Q x.loc∧x.kind≠.plain∧(x.kind=.said→g'=0))∧∀op∈Γ g' fn pos es,op.act.low Low:=by
 refine⟨λop hop=>⟨ofEvents_g op hop,λx hx=>?_⟩,λop hop=>?_⟩
 ·obtain⟨e,he,rfl⟩:=zbe hop;obtain⟨a,ha,hb,h1,h2⟩:=(h e he).1 x hx;exact⟨by rw[ha];exact hQ a hb,h1,λhs=>SM (h2 hs)⟩
 ·obtain⟨e,he,rfl⟩:=zbe hop;exact(h e he).2
def acS (P:Ξ)(ty:χ)(Q Shun:Loc→Prop)(c ch:Nat){Wg:Nat}(Low:Nat)(ro X:Nat→Prop)(x y:Side Wg)(Fin:(Nat→Prop)→Δ→Θ→Prop)(w0:Θ)(m:Machine)(t:Ω):Prop:=
 ∃gs w sl q bG aW a b iN js μ ν,m=θ gs w sl∧eM P c t gs q∧gs[0]?=some a∧gs[c]?=some b∧Fin bG a w∧lu Q Shun c ch Low ro bG aW X true w0 w t∧x.half P ty Low μ b w iN∧y.half P ty Low ν b w js∧GL c Wg iN t∧GL c Wg js t
variable {z:ζ}{Fin:(Nat→Prop)→Δ→Θ→Prop}
theorem OW:WellFounded Lt2:=(Prod.lex Nat.lt_wfRel Nat.lt_wfRel).wf
theorem LN {ro own:Nat→Prop}{fn:ι}{pos:String}{es:Array υ}{a:Addr}(h:∀e∈es,DO ro own e):∀op∈Γ g fn pos es,op.act≠.mark (.release a):=by
 intro op hop e';obtain⟨e,he,rfl⟩:=zbe hop;have hl:=vM a e';have:=h e he;unfold DO at this;rw[hl]at this;exact this.1
theorem EI (pK:fy P ty Wg Low x)(xU:fy P ty Wg Low y)(Br:x.C≠y.C){ν:Nat×Nat}{iN js:Ω}(hx:x.half P ty Low μ b w iN)(hy:y.half P ty Low ν b w js)(hb:b.status=.running):∃b' w' es oC H6,π P false b w=.go b' w' es∧Aside Wg w w'∧Lt2 oC μ∧x.half P ty Low oC b' w' (iN++Γ 1 b.frame.fn b.frame.place es)∧y.half P ty Low H6 b' w' (js++Γ 1 b.frame.fn b.frame.place es):=by
 obtain⟨b',w',es,oC,h1,h2,h3,h4⟩:=@Half.move x.pl P ty Wg x.C Low x.sh x.vals x.Mine pK.hCW μ b w iN hx hb;obtain⟨b'',w'',es',H6,k1,k2,k3,k4⟩:=@Half.move y.pl P ty Wg y.C Low y.sh y.vals y.Mine xU.hCW ν b w js hy hb;rw[h1]at k1;obtain⟨rfl,rfl,rfl⟩:b'=b''∧w'=w''∧es=es':=by simpa using k1
 exact⟨b',w',es,oC,H6,h1,CS Br h2 k2,h3,h4,k4⟩
theorem Yd (hY:EH Q Shun c ch Wg Low ro X)(pK:fy P ty Wg Low x)(xU:fy P ty Wg Low y)(Br:x.C≠y.C){a:Δ}{wM:Θ}
 (hM:af P true ro (iM P ch z (Bj P ro ch z Fin [])) bG a wM):∀(μ ν:Nat×Nat) (aW:Nat→Prop) (b:Δ) (iN js:Ω) gs w sl t q,eM P c t gs q→gs[0]?=some a→gs[c]?=some b→cq ro bG wM w→
   lu Q Shun c ch Low ro bG aW X true w0 w t→x.half P ty Low μ b w iN→y.half P ty Low ν b w js→GL c Wg iN t→GL c Wg js t→
   Reach P (θ gs w sl) t (acS P ty Q Shun c ch Low ro X x y Fin w0):=by
 induction hM with
 | @stop bG a wM hS=>
   intro μ
   induction μ using OW.induction with
   |_ μ Ye=>
   intro ν aW b iN js gs w sl t q hC h0 hc hr eW hx hy hg1 hg2;have ha:a.status=.running:=(hS wM (cq.refl _ _ _)).1;have Ny:=@Half.status x.pl P ty Wg x.C Low x.sh x.vals x.Mine μ b w iN hx;refine iq (J:=λw t=>cq ro bG wM w∧lu Q Shun c ch Low ro bG aW X true w0 w t∧x.half P ty Low μ b w iN∧y.half P ty Low ν b w js∧GL c Wg iN t∧GL c Wg js t) (fS ha) (awake_of (Ny.elim .inl λh=> .inr (.inr h))) (.inl ha)
    (λw t d ops hj h1 h2 h3 h4=>⟨hj.1.trans (fx _ _ _ d),hj.2.1.still d (λop hop=>(h1 op hop).1) (h2 _) h3 h4,Side.kA hY.Nx pK.hC hj.2.2.1 (λ_ _=>rfl),Side.kA hY.Nx xU.hC hj.2.2.2.1 (λ_ _=>rfl),hj.2.2.2.2.1.other (λop hop=>⟨(h1 op hop).2 _,λ_=>(h1 op hop).1⟩) h3 h4,hj.2.2.2.2.2.other (λop hop=>⟨(h1 op hop).2 _,λ_=>(h1 op hop).1⟩) h3 h4⟩)
    (λw t hj=>⟨.run ha,λu u' d=>Side.qZ hj.2.2.1 u u'⟩)
    (λ_ gs w sl t q hC h0 hc hj=>?_) (λhb gs w sl t q hC h0 hc hj=>?_) gs w sl t q hC h0 hc ⟨hr,eW,hx,hy,hg1,hg2⟩
   ·obtain⟨hr,eW,hx,hy,hg1,hg2⟩:=hj;obtain⟨s,r,tm,hch⟩:=eW.chan;obtain⟨_,hst,sw⟩:=hS w hr;obtain⟨gs',fn,pos,e1,e2,e3,e4⟩:=tZ (sl:=sl) hC h0 hc (by rcases Ny with h|h<;>simp[h]) hst hch
    have hm:∀op∈(#[{ g:=0,fn:=fn,pos:=pos,act:= .recvClosed ch }]:Ω),∀m,op.act≠.mark m:=by intro op hop m;simp at hop;subst hop;simp
    have ht:∀op∈(#[{ g:=0,fn:=fn,pos:=pos,act:= .recvClosed ch }]:Ω),op.act.touch? =none:=by intro op hop;simp at hop;subst hop;rfl
    have fV:∀op∈(#[{ g:=0,fn:=fn,pos:=pos,act:= .recvClosed ch }]:Ω),op.act.low w.heap.size:=by
     intro op hop;simp at hop;subst hop;have:ch<w.heap.size:=by have:=hY.Hz;have:=eW.big;omega
     exact this
    have acT:=eW.still w.drawn ht fV (dO t 0 _ hm) (dO t c _ hm);exact⟨_,_,e1,.here ⟨gs',w,sl,q,bG,aW,_,b,iN,js,μ,ν,rfl,e2,e3,e4,sw,acT,hx,hy,hg1.other (λop hop=>⟨hm op hop _,λ_=>ht op hop⟩) (dO t 0 _ hm) (dO t c _ hm),hg2.other (λop hop=>⟨hm op hop _,λ_=>ht op hop⟩) (dO t 0 _ hm) (dO t c _ hm)⟩⟩
   ·obtain⟨hr,eW,hx,hy,hg1,hg2⟩:=hj;obtain⟨b',w',es,oC,H6,hst,hA,hlt,tJ,hy'⟩:=EI pK xU Br hx hy hb;obtain⟨gs',e1,e2,e3,e4⟩:=kL (sl:=sl) hC h0 hc hst;rw[woken_run ha]at e3;obtain⟨p1,j1⟩:=@Half.jt x.pl P ty Wg x.C Low x.sh x.vals x.Mine _ _ _ _ tJ;obtain⟨p2,j2⟩:=@Half.jt y.pl P ty Wg y.C Low y.sh y.vals y.Mine _ _ _ _ hy';have Bt:∀e∈es,∀x,(η e).touch? =some x→∃ad,x.loc=.cell ad∧ad.block=Wg:=λe he x hx=>let⟨ad,h1,h2,_⟩:=(ug pK xU Br j1 j2 e he).1 x hx;⟨ad,h1,h2⟩;obtain⟨o1,o2⟩:=wI (Q:=Q) (g':=c) (fn:=b.frame.fn) (pos:=b.frame.place) hY.wQ (by simp) (ug pK xU Br j1 j2);obtain⟨k1,k2⟩:=eW.WD hY hA (.inr rfl) o1 (λop hop=>MemAct.low_mono eW.big (o2 op hop)) (by rw[zaN t hY.c0 _ ofEvents_g];exact eW.d0);exact⟨_,_,e1,Ye oC hlt H6 aW b' _ _ gs' w' sl _ q e2 e3 e4 (hr.trans k2) k1 tJ hy' (hg1.step hY.c0 (.inr rfl) (by simp) _ _ es (Side.norel j1) Bt) (hg2.step hY.c0 (.inr rfl) (by simp) _ _ es (Side.norel j2) Bt)⟩
 | @step bG a wM nx nw ne ha h1 h2 _ ih=>
   intro μ
   induction μ using OW.induction with
   |_ μ Ye=>
   intro ν aW b iN js gs w sl t q hC h0 hc hr eW hx hy hg1 hg2;have Ny:=@Half.status x.pl P ty Wg x.C Low x.sh x.vals x.Mine μ b w iN hx;refine iq (J:=λw t=>cq ro bG wM w∧lu Q Shun c ch Low ro bG aW X true w0 w t∧x.half P ty Low μ b w iN∧y.half P ty Low ν b w js∧GL c Wg iN t∧GL c Wg js t) (fS ha) (awake_of (Ny.elim .inl λh=> .inr (.inr h))) (.inl ha)
    (λw t d ops hj h1 h2 h3 h4=>⟨hj.1.trans (fx _ _ _ d),hj.2.1.still d (λop hop=>(h1 op hop).1) (h2 _) h3 h4,Side.kA hY.Nx pK.hC hj.2.2.1 (λ_ _=>rfl),Side.kA hY.Nx xU.hC hj.2.2.2.1 (λ_ _=>rfl),hj.2.2.2.2.1.other (λop hop=>⟨(h1 op hop).2 _,λ_=>(h1 op hop).1⟩) h3 h4,hj.2.2.2.2.2.other (λop hop=>⟨(h1 op hop).2 _,λ_=>(h1 op hop).1⟩) h3 h4⟩)
    (λw t hj=>⟨.run ha,λu u' d=>Side.qZ hj.2.2.1 u u'⟩)
    (λ_ gs w sl t q hC h0 hc hj=>?_) (λhb gs w sl t q hC h0 hc hj=>?_) gs w sl t q hC h0 hc ⟨hr,eW,hx,hy,hg1,hg2⟩
   ·obtain⟨hr,eW,hx,hy,hg1,hg2⟩:=hj;have SK:=h2 w hr;obtain⟨gs',e1,e2,e3,e4⟩:=sk (sl:=sl) hC h0 hc (h1 w hr);rw[Side.qZ hx]at e4;obtain⟨k1,k2⟩:=eW.OP (fn:=a.frame.fn) (pos:=a.frame.place) hY.toLay SK;have fV:∀b,b<Low→(nw w).heap[b]?=w.heap[b]?:=λb hlt=>SK.block b (by have:=eW.big;omega) λhm=>by have:=eW.mlt b hm;omega
    have hd0:Deaf (t++Γ 0 a.frame.fn a.frame.place (ne w)) 0=Deaf t 0:=xS SK.evs;have hdc:Deaf (t++Γ 0 a.frame.fn a.frame.place (ne w)) c=Deaf t c:=zaN t (Ne.symm hY.c0) _ ofEvents_g;have aaz:∀op∈Γ 0 a.frame.fn a.frame.place (ne w),op.act≠.mark (.release (stA Wg))∧(op.g=c→op.act.touch? =none):=λop hop=>⟨LN SK.evs op hop,λe=>absurd ((ofEvents_g op hop).symm.trans e) (Ne.symm hY.c0)⟩;exact⟨_,_,e1,ih w hr μ ν aW b iN js gs' _ sl _ q e2 e3 e4 (cq.refl _ _ _) k1 (Side.kA hY.Nx pK.hC hx fV) (Side.kA hY.Nx xU.hC hy fV) (hg1.other aaz hd0 hdc) (hg2.other aaz hd0 hdc)⟩
   ·obtain⟨hr,eW,hx,hy,hg1,hg2⟩:=hj;obtain⟨b',w',es,oC,H6,hst,hA,hlt,tJ,hy'⟩:=EI pK xU Br hx hy hb;obtain⟨gs',e1,e2,e3,e4⟩:=kL (sl:=sl) hC h0 hc hst;rw[woken_run ha]at e3;obtain⟨p1,j1⟩:=@Half.jt x.pl P ty Wg x.C Low x.sh x.vals x.Mine _ _ _ _ tJ;obtain⟨p2,j2⟩:=@Half.jt y.pl P ty Wg y.C Low y.sh y.vals y.Mine _ _ _ _ hy';have Bt:∀e∈es,∀x,(η e).touch? =some x→∃ad,x.loc=.cell ad∧ad.block=Wg:=λe he x hx=>let⟨ad,h1,h2,_⟩:=(ug pK xU Br j1 j2 e he).1 x hx;⟨ad,h1,h2⟩;obtain⟨o1,o2⟩:=wI (Q:=Q) (g':=c) (fn:=b.frame.fn) (pos:=b.frame.place) hY.wQ (by simp) (ug pK xU Br j1 j2);obtain⟨k1,k2⟩:=eW.WD hY hA (.inr rfl) o1 (λop hop=>MemAct.low_mono eW.big (o2 op hop)) (by rw[zaN t hY.c0 _ ofEvents_g];exact eW.d0);exact⟨_,_,e1,Ye oC hlt H6 aW b' _ _ gs' w' sl _ q e2 e3 e4 (hr.trans k2) k1 tJ hy' (hg1.step hY.c0 (.inr rfl) (by simp) _ _ es (Side.norel j1) Bt) (hg2.step hY.c0 (.inr rfl) (by simp) _ _ es (Side.norel j2) Bt)⟩
end
end Go.Ren
set_option linter.unusedSectionVars false
namespace Go.Ren
open Go Go.Conc
open Go.ConcX (Payload Shy stA smA Base CA JInv RCa RCd DCs AtR0 RPa DPi AtKd PA KK WgAt ChanAt Full Aside2 runTX JT AtW1 Acquired Lt4 LtG ltG_wf AtRetJ DPj)
open Go.ConcN (sumTo upd sumTo_upd upd_ne upd_same)
section
variable {P:Ξ}{c:Nat}{t:Ω}{gs:Array Δ}{q:Nat→Nat}{a b:Δ}{w:Θ}{sl:Option (Nat×Nat)}
theorem EJ (hC:eM P c t gs q)(h0:gs[0]?=some a)(hc:gs[c]?=some b)(SJ:awake a)(hwb:awake b)(hrun:a.status=.running∨b.status=.running):∃d sl',(a.status=.running∧stepT P (θ gs w sl)=runT P (θ gs (w.at d) sl') 0)∨
 (b.status=.running∧stepT P (θ gs w sl)=runT P (θ gs (w.at d) sl') c)∨
 (∃gs' ops q' x x',stepT P (θ gs w sl)=(.next (θ gs' (w.at d) sl'),ops)∧eM P c (t++ops) gs' q'∧gs'[0]?=some (Conc.woken P x x' (w.at d) a)∧gs'[c]?=some (Conc.woken P x x' (w.at d) b)∧sumTo c q'<sumTo c q∧(∀op∈ops,op.act.touch? =none∧∀a,op.act≠.mark (.release a))∧(∀B,∀op∈ops,op.act.low B)∧Deaf (t++ops) 0=Deaf t 0∧Deaf (t++ops) c=Deaf t c):=by
 have jT:=hC.pos;have X3:∀g∈gs,awake g:=by
  intro g hg;obtain⟨i,hi,rfl⟩:=zcm.1 hg;have hi':=zaL hi;rcases hC.get hi' with rfl|rfl|⟨h1,h2⟩
  ·rw[h0]at hi';obtain rfl:=zaM hi';exact SJ
  ·rw[hc]at hi';obtain rfl:=zaM hi';exact hwb
  ·exact awake_of ((hC.old i _ h1 h2 hi').status.elim .inl λx=> .inr (.inr x))
 obtain⟨i,g,d,sl',hi,hg,hst⟩:=crowd_pick (P:=P) (w:=w) (sl:=sl) X3 (hrun.elim (λh=>⟨0,a,h0,h⟩) λh=>⟨c,b,hc,h⟩);refine⟨d,sl',?_⟩;rcases hC.get hi with rfl|rfl|⟨h1,h2⟩
 ·rw[h0]at hi;obtain rfl:=zaM hi;exact .inl ⟨hg,hst⟩
 ·rw[hc]at hi;obtain rfl:=zaM hi;exact .inr (.inl ⟨hg,hst⟩)
 ·right;right;have hq:=hC.old i g h1 h2 hi;have WB:(i==0)=false:=by simp;omega
  have hlt:i<gs.size:=(zaj.1 hi).1;cases Ho:q i with
  |zero=>rw[Ho]at hq;rw[hq.1]at hg;cases hg
  |succ k=>
   rw[Ho]at hq;rcases hq with⟨hf,_⟩|⟨_,g',es,hm,Hp,hq'⟩
   ·rw[hf]at hg;cases hg
   have sj:=runT_crowd_go (P:=P) (sl:=sl') (i:=i) hi (by rw[WB];exact Hp (w.at d));have Lv:sumTo c (upd q i k)+(k+1)=sumTo c q+k:=by
    have:=sumTo_upd q k id h2;simpa[Ho]using this
   refine⟨_,_,upd q i k,g,g',hst.trans sj,⟨by simp[hC.size],jT,λj x hj X5 hx=>?_,λj hj=>?_⟩,?_,?_,by omega,λop hop=>?_,λB op hop=>?_,zaN t (by omega) _ ofEvents_g,zaN t (by omega) _ ofEvents_g⟩
   ·by_cases xK:i=j
    ·subst xK;rw[zbG (by simpa using hlt)]at hx;obtain rfl:=zaM hx;rw[upd_same,Deaf_own];exact hq'
    ·rw[zaA xK,zaz]at hx;obtain⟨y,hy,rfl⟩:=zas.1 hx;have Hq:=hC.old j y hj X5 hy;rw[woken_quitsD Hq,upd_ne q k (Ne.symm xK),zaN t xK _ ofEvents_g];exact Hq
   ·rw[zaN t (g':=i) (by omega) _ ofEvents_g];exact hC.above j hj
   ·rw[zaA (by omega),zaz,h0];rfl
   ·rw[zaA (by omega),zaz,hc];rfl
   ·obtain⟨e,he,rfl⟩:=zbe hop;exact⟨touch_mute (hm e he),λa=>qX (hm e he) a⟩
   ·obtain⟨e,he,rfl⟩:=zbe hop;exact low_mute (hm e he) B
end
section
variable {Wg:Nat}
def Side.J (x:Side Wg)(P:Ξ)(ty:χ)(Low:Nat)(μ:Nat×Nat×Nat×Nat)(a b:Δ)(w:Θ)(s:Ω):Prop:=@JInv x.pl P ty Wg x.C Low x.sh x.vals x.Mine x.AnchW x.Post μ (duo a b w none) s
def Side.acq (x:Side Wg)(P:Ξ)(ty:χ)(Low:Nat)(a b:Δ)(w:Θ)(s:Ω):Prop:=@Acquired x.pl P ty Wg x.C Low x.sh x.vals x.Mine x.Post (duo a b w none) s
end
theorem TT [Payload] {P:Ξ}{ty:χ}{Wg C Low:Nat} [Shy Wg C] {vals:List ζ}{Mine:Loc→Prop}{AnchW:Δ→Θ→Prop}{Post:ζ→Θ→Prop}{μ:Nat×Nat×Nat×Nat}{m:Machine}{s:Ω}
 (h:JInv P ty Wg C Low vals Mine AnchW Post μ m s):∃p,JT Mine Wg C s p:=by
 cases h with
 |a _ _ _ _ _ p _ _ _ _ _ _ _ _ _ _ _ hB=>exact⟨p,hB.jt⟩
 |b _ _ _ _ _ p _ _ _ _ _ _ _ _ _ _ hB=>exact⟨p,hB.jt⟩
 |c _ _ _ _ _ p _ _ _ _ _ hB=>exact⟨p,hB.jt⟩
 |d _ _ _ _ _ p _ _ _ _ _ hB=>exact⟨p,hB.jt⟩
 |f _ _ _ _ _ p _ _ _ hB=>exact⟨p,hB.jt⟩
 |j _ _ _ _ _ p _ _ _ _ _ _ _ _ _ hB=>exact⟨p,hB.jt⟩
section
variable {P:Ξ}{ty:χ}{Wg Low:Nat}{x:Side Wg}{μ:Nat×Nat×Nat×Nat}{a b:Δ}{w:Θ}{s:Ω}
theorem Side.TU (h:x.J P ty Low μ a b w s):∃p,x.jt s p:=@TT x.pl P ty Wg x.C Low x.sh x.vals x.Mine x.AnchW x.Post μ _ s h
theorem Side.J3 (hx:fy P ty Wg Low x)(h:x.J P ty Low μ a b w s):awake a∧awake b∧(a.status=.running∨b.status=.running)∧∀d,x.J P ty Low μ a b (w.at d) s:=by
 obtain⟨a1,b1,w1,sl1,e,h1,h2,h3,h4⟩:=@Go.ConcX.JInv.shape x.pl P ty Wg x.C Low x.sh x.vals x.Mine x.AnchW x.Post hx.hAr μ _ s h;obtain⟨rfl,rfl,rfl,rfl⟩:=Go.ConcX.duo_inj e;exact⟨h1,h2,h3,λd=>h4 d none⟩
theorem Side.J4 (hx:fy P ty Wg Low x)(h:x.J P ty Low μ a b w s)(g g':Δ):∃oC,x.J P ty Low oC (Conc.woken P g g' w a) (Conc.woken P g g' w b) w s:=by
 obtain⟨a1,b1,w1,sl1,e,oC,h1⟩:=@Go.ConcX.JInv.woken x.pl P ty Wg x.C Low x.sh x.vals x.Mine x.AnchW x.Post hx.hAr μ _ s h g g';obtain⟨rfl,rfl,rfl,rfl⟩:=Go.ConcX.duo_inj e;exact⟨oC,h1⟩
theorem Side.CU (h:x.acq P ty Low a b w s)(d:Nat):x.acq P ty Low a b (w.at d) s:=@Go.ConcX.Acquired.at x.pl P ty Wg x.C Low x.sh x.vals x.Mine x.Post a b w none s h d none
theorem Side.J5 (hW:Wg<Low)(hx:fy P ty Wg Low x)(h:x.J P ty Low μ a b w s)(ha:a.status=.running):x.acq P ty Low a b w s∨∃a' w' es oC,π P true a w=.go a' w' es∧Lt4 oC μ∧x.J P ty Low oC a' (Conc.woken P a a' w' b) w' (s++Γ 0 a.frame.fn a.frame.place es):=by
 rcases @Go.ConcX.join_step x.pl P ty Wg x.C Low x.sh x.vals x.Mine x.AnchW x.Post hW hx.hC hx.hCW hx.hAr hx.hAn μ _ s h (runTX P (duo a b (w.at w.drawn) none) 0)
  (λa2 b2 w2 sl2 e2=>by obtain⟨rfl,rfl,rfl,rfl⟩:=Go.ConcX.duo_inj e2;exact⟨w.drawn,none,.inl ⟨ha,rfl⟩⟩)with xV|⟨m',ops,oC,hX,hlt,hJ'⟩
 ·exact .inl xV
 ·rw[duo_eq_crowd]at hX;obtain⟨g0,g',w',es,hg0,hgo,rfl,rfl⟩:=Go.ConcX.runTX_next hX;obtain rfl:a=g0:=by simpa using hg0
  have em:θ ((#[a,b].map (Conc.woken P a g' w')).setIfInBounds 0 g') w' none=duo g' (Conc.woken P a g' w' b) w' none:=by simp[θ,duo]
  rw[em]at hJ';exact .inr ⟨g',w',es,oC,hgo,hlt,hJ'⟩
theorem Side.J6 (hW:Wg<Low)(hx:fy P ty Wg Low x)(h:x.J P ty Low μ a b w s)(hb:b.status=.running):x.acq P ty Low a b w s∨∃b' w' es oC,π P false b w=.go b' w' es∧Lt4 oC μ∧x.J P ty Low oC (Conc.woken P b b' w' a) b' w' (s++Γ 1 b.frame.fn b.frame.place es):=by
 rcases @Go.ConcX.join_step x.pl P ty Wg x.C Low x.sh x.vals x.Mine x.AnchW x.Post hW hx.hC hx.hCW hx.hAr hx.hAn μ _ s h (runTX P (duo a b (w.at w.drawn) none) 1)
  (λa2 b2 w2 sl2 e2=>by obtain⟨rfl,rfl,rfl,rfl⟩:=Go.ConcX.duo_inj e2;exact⟨w.drawn,none,.inr ⟨hb,rfl⟩⟩)with xV|⟨m',ops,oC,hX,hlt,hJ'⟩
 ·exact .inl xV
 ·obtain⟨b',w',es,hgo,rfl,rfl⟩:=@xT x.pl P a b (w.at w.drawn) m' ops hX;exact .inr ⟨b',w',es,oC,hgo,hlt,hJ'⟩
end
section
variable {P:Ξ}{ty:χ}{Q Shun:Loc→Prop}{c ch Wg Low B:Nat}{ro aW X:Nat→Prop}{x y:Side Wg}
def aaA (P:Ξ)(ty:χ)(Q Shun:Loc→Prop)(c:Nat){Wg:Nat}(Low B:Nat)(ro aW:Nat→Prop)(x y:Side Wg)(m:Machine)(t:Ω):Prop:=
 ∃gs w sl q a b s,m=θ gs w sl∧eM P c t gs q∧gs[0]?=some a∧gs[c]?=some b∧TI Q Shun c aW ro B t∧GL c Wg s t∧(x.acq P ty Low a b w s∨y.acq P ty Low a b w s)
theorem Yf (hY:EH Q Shun c ch Wg Low ro X)(pK:fy P ty Wg Low x)(xU:fy P ty Wg Low y)(Br:x.C≠y.C)(hB:Low≤B)(hown:∀b,aW b→Low≤b):∀(M:Nat×(Nat×Nat×Nat×Nat)) (ν:Nat×Nat×Nat×Nat) (gs:Array Δ) (w:Θ) (sl:Option (Nat×Nat)) (t:Ω) (q:Nat→Nat) (a b:Δ) (iN js:Ω),sumTo c q=M.1→eM P c t gs q→gs[0]?=some a→gs[c]?=some b→TI Q Shun c aW ro B t→x.J P ty Low M.2 a b w iN→y.J P ty Low ν a b w js→GL c Wg iN t→GL c Wg js t→Reach P (θ gs w sl) t (aaA P ty Q Shun c Low B ro aW x y):=by
 intro M
 induction M using ltG_wf.induction with
 |_ M ih=>
 intro ν gs w sl t q a b iN js hM hC h0 hc hT hx hy hg1 hg2;obtain⟨awa,awb,hrun,acU⟩:=Side.J3 pK hx;obtain⟨_,_,_,acV⟩:=Side.J3 xU hy;have hQG:∀l,Q l→¬jS aW l∧¬jS ro l:=λl hl=>⟨λhi=>ue hown hi (hY.sr l (hY.QS l hl)),λhi=>hY.rS l hi (hY.QS l hl)⟩;obtain⟨d,sl',lA⟩:=EJ (w:=w) (sl:=sl) hC h0 hc awa awb hrun;have hx1:=acU d;have hy1:=acV d;rcases lA with⟨hr,hst⟩|⟨hr,hst⟩|⟨gs',ops,q',g,g',hst,hC',Au,hc',hlt,o1,o2,o3,o4⟩
 ·rcases Side.J5 hY.Nx pK hx1 hr with xV|⟨a',w',es,oC,hgo,hl,tJ⟩
  ·exact .here ⟨gs,w,sl,q,a,b,iN,rfl,hC,h0,hc,hT,hg1,.inl (Side.CU xV w.drawn)⟩
  rcases Side.J5 hY.Nx xU hy1 hr with xV|⟨a2,w2,es2,H6,OX,_,hy'⟩
  ·exact .here ⟨gs,w,sl,q,a,b,js,rfl,hC,h0,hc,hT,hg2,.inr (Side.CU xV w.drawn)⟩
  rw[hgo]at OX;obtain⟨rfl,rfl,rfl⟩:a'=a2∧w'=w2∧es=es2:=by simpa using OX
  obtain⟨p1,j1⟩:=Side.TU tJ;obtain⟨p2,j2⟩:=Side.TU hy';have iG:=ug pK xU Br j1 j2;have Bt:∀e∈es,∀x,(η e).touch? =some x→∃ad,x.loc=.cell ad∧ad.block=Wg:=λe he x hx=>let⟨ad,h1,h2,_⟩:=(iG e he).1 x hx;⟨ad,h1,h2⟩;obtain⟨k1,k2⟩:=wI (Q:=Q) (g':=0) (fn:=a.frame.fn) (pos:=a.frame.place) hY.wQ (λ_=>rfl) iG;obtain⟨gs',e1,e2,e3,e4⟩:=sk (sl:=sl') hC h0 hc hgo;exact Reach.step (hst.trans e1) (ih (M.1,oC) (.right _ hl) H6 gs' w' sl' _ q a' _ _ _ hM e2 e3 e4 (hT.TG (.inl rfl) k1 (λop hop=>MemAct.low_mono hB (k2 op hop)) hY.QS hQG) tJ hy' (hg1.step hY.c0 (.inl rfl) (by simp) _ _ es (Side.norel j1) Bt) (hg2.step hY.c0 (.inl rfl) (by simp) _ _ es (Side.norel j2) Bt))
 ·rcases Side.J6 hY.Nx pK hx1 hr with xV|⟨a',w',es,oC,hgo,hl,tJ⟩
  ·exact .here ⟨gs,w,sl,q,a,b,iN,rfl,hC,h0,hc,hT,hg1,.inl (Side.CU xV w.drawn)⟩
  rcases Side.J6 hY.Nx xU hy1 hr with xV|⟨a2,w2,es2,H6,OX,_,hy'⟩
  ·exact .here ⟨gs,w,sl,q,a,b,js,rfl,hC,h0,hc,hT,hg2,.inr (Side.CU xV w.drawn)⟩
  rw[hgo]at OX;obtain⟨rfl,rfl,rfl⟩:a'=a2∧w'=w2∧es=es2:=by simpa using OX
  obtain⟨p1,j1⟩:=Side.TU tJ;obtain⟨p2,j2⟩:=Side.TU hy';have iG:=ug pK xU Br j1 j2;have Bt:∀e∈es,∀x,(η e).touch? =some x→∃ad,x.loc=.cell ad∧ad.block=Wg:=λe he x hx=>let⟨ad,h1,h2,_⟩:=(iG e he).1 x hx;⟨ad,h1,h2⟩;obtain⟨k1,k2⟩:=wI (Q:=Q) (g':=c) (fn:=b.frame.fn) (pos:=b.frame.place) hY.wQ (by simp) iG;obtain⟨gs',e1,e2,e3,e4⟩:=kL (sl:=sl') hC h0 hc hgo;exact Reach.step (hst.trans e1) (ih (M.1,oC) (.right _ hl) H6 gs' w' sl' _ q _ a' _ _ hM e2 e3 e4 (hT.TG (.inr rfl) k1 (λop hop=>MemAct.low_mono hB (k2 op hop)) hY.QS hQG) tJ hy' (hg1.step hY.c0 (.inr rfl) (by simp) _ _ es (Side.norel j1) Bt) (hg2.step hY.c0 (.inr rfl) (by simp) _ _ es (Side.norel j2) Bt))
 ·obtain⟨oC,tJ⟩:=Side.J4 pK hx1 g g';obtain⟨H6,hy'⟩:=Side.J4 xU hy1 g g';exact Reach.step hst (ih (sumTo c q',oC) (.left _ _ (by omega)) H6 gs' (w.at d) sl' _ q' _ _ iN js rfl hC' Au hc' (hT.still (λop hop=>(o1 op hop).1) (o2 _)) tJ hy' (hg1.other (λop hop=>⟨(o1 op hop).2 _,λ_=>(o1 op hop).1⟩) o3 o4) (hg2.other (λop hop=>⟨(o1 op hop).2 _,λ_=>(o1 op hop).1⟩) o3 o4))
theorem EK {t:Ω}(WA:∀a:Addr,a.block=Wg→Shun (.cell a))(hT:TI Q Shun c aW ro B t)(hA:OV c Wg t)(hd:Deaf t 0=0):Past Shun B t:=by
 obtain⟨R,K,hR,hK,hg,hh,hRK⟩:=hA;have aaB:HappensBefore t R K:= .single (.inr ⟨.marked hRK (.inr hR.act) hK (λk h1 _=>hR.norel k h1),hR.heard,hh⟩);obtain⟨z,hz,hzg⟩:=zas.1 hg;have before:∀i,t.g? i=some c→i≤R→HappensBefore t i K:=λi hi hle=>by
  rcases zaw i R with hlt|jB
  ·exact .trans (.single (.inl ⟨hlt,c,hi,hR.g⟩)) aaB
  ·obtain rfl:i=R:=by omega
   exact aaB
 refine⟨hT.clean,λi a ha hm=>?_,λi g EG h0 uS=>?_,hd,hT.seen⟩
 ·rcases hT.known i a ha hm with h|h|⟨h,_⟩
  ·exact .inl h
  ·exact .inr h
  ·rcases zaw R i with hlt|hle
   ·obtain⟨ad,h1,h2⟩:=hR.late i a hlt h ha;refine .inr ⟨by rw[h1];exact WA ad h2,?_⟩;by_cases hk:a.kind=.atomic
    ·exact hk
    ·exact absurd ⟨a,ha,hm,.inl hk⟩ (hR.after i hlt h)
   ·exact .inl ⟨K,z,hz,hzg,.inr (before i h hle)⟩
 ·by_cases hgc:g=c
  ·subst hgc;exact⟨K,hg,before i EG (Nat.le_of_not_lt λhlt=>hR.after i hlt EG uS)⟩
  ·exact hT.over i g EG h0 hgc uS
theorem OY (pK:fy P ty Wg Low x)(hB:Low≤B)(hCS:∀a:Addr,a.block=x.C→¬Shun (.cell a)){e:υ}(h:@Go.ConcX.EvJ x.Mine Wg x.C x.sh e):EvL Shun B e:=by
 obtain⟨h1,h2,h3⟩:=h;obtain⟨_,ht,_,hk⟩:=h1 0 "";obtain⟨k1,k2⟩:=pK.ok _ hk;refine⟨λz hz hs=>?_,h2,h3,MemAct.low_mono hB k2⟩;obtain⟨a,ha,hb|hb⟩:=k1 z hz
 ·exact(ht z hz).2.1 (.inl ⟨a,ha,hb⟩)
 ·rw[ha]at hs;exact absurd hs (hCS a hb)
def acW (P:Ξ)(Shun:Loc→Prop)(c:Nat){Wg:Nat}(B:Nat)(x y:Side Wg)(m:Machine)(t:Ω):Prop:=
 ∃gs w sl q a,m=θ gs w sl∧gs.size=c+1∧gs[0]?=some a∧a.status=.running∧(x.sh.stop a w∨y.sh.stop a w)∧Leavers P t gs q∧Past Shun B t
theorem EL {x:Side Wg}(pK:fy P ty Wg Low x)(hB:Low≤B)(WA:∀a:Addr,a.block=Wg→Shun (.cell a))(hCS:∀a:Addr,a.block=x.C→¬Shun (.cell a)){gs:Array Δ}{w:Θ}{sl:Option (Nat×Nat)}{q:Nat→Nat}{a b:Δ}{s t:Ω}
 (hC:eM P c t gs q)(h0:gs[0]?=some a)(hc:gs[c]?=some b)(hT:TI Q Shun c aW ro B t)(hg:GL c Wg s t)(hA:x.acq P ty Low a b w s):
 Reach P (θ gs w sl) t λm t=>∃gs w sl q a,m=θ gs w sl∧gs.size=c+1∧gs[0]?=some a∧a.status=.running∧x.sh.stop a w∧Leavers P t gs q∧Past Shun B t:=by
 letI:=x.pl
 letI:=x.sh
 obtain⟨a1,b1,w1,sl1,p,d1,k,mp,r,vs,e,WE,hG,hAc,hq⟩:=hA;obtain⟨rfl,rfl,rfl,rfl⟩:=Go.ConcX.duo_inj e;have hP:=EK WA hT (hg.acq hAc) (hg.d0.trans WE.deaf0);have hL:Leavers P t gs (upd q c k):=by
  refine⟨λi g hi EG=>?_,λj hj=>hC.above j (by have:=hC.size;omega)⟩;rcases hC.get EG with rfl|rfl|⟨h1,h2⟩
  ·omega
  ·rw[hc]at EG;obtain rfl:=zaM EG;rw[upd_same,hg.dc,WE.deaf1];exact hq
  ·rw[upd_ne q k (by omega)];exact hC.old i g h1 h2 EG
 obtain⟨N,gs',a',w',sl',T',q',hr,hs',Au,hS,hL',acX⟩:=walk_beside (P:=P) (λ_ _ es hD e he=>OY pK hB hCS (hD.2 e he)) _ mp gs a w sl t _ (zac _) h0 hL hP hG;exact⟨N,_,_,hr,gs',w',sl',q',a',rfl,hs'.trans hC.size,Au,hS.1,hS.2,hL',acX⟩
theorem Yg (pK:fy P ty Wg Low x)(xU:fy P ty Wg Low y)(hB:Low≤B)(WA:∀a:Addr,a.block=Wg→Shun (.cell a))(hxS:∀a:Addr,a.block=x.C→¬Shun (.cell a))(hyS:∀a:Addr,a.block=y.C→¬Shun (.cell a)){m:Machine}{t:Ω}(h:aaA P ty Q Shun c Low B ro aW x y m t):Reach P m t (acW P Shun c B x y):=by
 obtain⟨gs,w,sl,q,a,b,s,rfl,hC,h0,hc,hT,hg,hA|hA⟩:=h
 ·exact(EL pK hB WA hxS hC h0 hc hT hg hA).mono λm t ⟨gs,w,sl,q,a,e,h1,h2,h3,h4,h5,h6⟩=>⟨gs,w,sl,q,a,e,h1,h2,h3,.inl h4,h5,h6⟩
 ·exact(EL xU hB WA hyS hC h0 hc hT hg hA).mono λm t ⟨gs,w,sl,q,a,e,h1,h2,h3,h4,h5,h6⟩=>⟨gs,w,sl,q,a,e,h1,h2,h3,.inr h4,h5,h6⟩
end
end Go.Ren
