import Derived.Conc.Beside
import Derived.Conc.CrowdComm
import Derived.Test.YtlhimdjkkiflhaaGreatDoorDeep08
namespace Go.Ren
open Go Go.Conc
def InB (X:Nat→Prop):Loc→Prop
 | .cell a=>X a.block
 | .obj r=>X r
 |_=>False
def OwnOp (ro own:Nat→Prop)(op:MemOp):Prop:=
 (∀ x,op.act.touch? =some x→InB own x.loc∨(InB ro x.loc∧x.write=false))∧op.act≠ .mark .disable∧op.act≠ .mark .enable
structure TI (Q Shun:Loc→Prop) (c:Nat) (ownG ro:Nat→Prop) (B:Nat) (t:Trace):Prop where
 clean:∀ said,¬ Race said t
 known:∀ i a,touchAt t i=some a→a.loc.isMemory=true→Knows t 0 i∨(Shun a.loc∧a.kind= .atomic)∨(t.g? i=some c∧(InB ownG a.loc∨(InB ro a.loc∧a.write=false)))
 gown:∀ i a,touchAt t i=some a→InB ownG a.loc→t.g? i=some c
 grd:∀ i a,touchAt t i=some a→InB ro a.loc→a.write=true→Knows t c i
 quiet:∀ i a,touchAt t i=some a→Q a.loc→a.kind≠ .plain∧(a.kind= .said→t.g? i=some 0)
 over:∀ i g,t.g? i=some g→g≠0→g≠c→t.counts i→∃ j,t.g? j=some 0∧HappensBefore t i j
 seen:∀ op∈t,op.act.low B
theorem InB.mono {X Y:Nat→Prop}(h:∀ b,X b→Y b):∀ {l:Loc},InB X l→InB Y l
 | .cell _,x=>h _ x
 | .obj _,x=>h _ x
theorem InB.no {X Y:Nat→Prop}(h:∀ b,X b→¬ Y b):∀ {l:Loc},InB X l→¬ InB Y l
 | .cell _,x=>h _ x
 | .obj _,x=>h _ x
theorem evG_touch {ro own:Nat→Prop}{e:Event}(h:EvG ro own e):∀ x,(MemAct.ofEvent e).touch? =some x→InB own x.loc∨(InB ro x.loc∧x.write=false):=by
 intro x hx
 obtain⟨loc,wr,sy⟩:=e
 cases loc with
 |cell a=>
  have:MemAct.ofEvent ⟨.cell a,wr,sy⟩= .access ⟨.cell a,wr,sy⟩:=by cases wr<;>cases sy<;>rfl
  rw[this] at hx
  simp only[MemAct.touch?,Option.some.injEq] at hx
  subst hx
  exact h
 |obj r=>
  obtain⟨h1,h2⟩:=h
  simp only at h2
  subst h2
  have:MemAct.ofEvent ⟨.obj r,wr,false⟩= .access ⟨.obj r,wr,false⟩:=by cases wr<;>rfl
  rw[this] at hx
  simp only[MemAct.touch?,Option.some.injEq] at hx
  subst hx
  exact .inl h1
 |mark m=>
  have:MemAct.ofEvent ⟨.mark m,wr,sy⟩= .mark m:=by cases wr<;>cases sy<;>rfl
  rw[this] at hx
  obtain⟨h1,_⟩:=h
  cases m<;>first|exact h1.elim|cases hx
 |_=>exact h.elim
theorem evG_deaf {ro own:Nat→Prop}{e:Event}(h:EvG ro own e):e.loc≠ .mark .disable∧e.loc≠ .mark .enable:=by
 obtain⟨loc,wr,sy⟩:=e
 cases loc with
 |mark m=>obtain⟨h1,_⟩:=h;cases m<;>first|exact h1.elim|exact⟨by simp,by simp⟩
 |_=>exact⟨by simp,by simp⟩
theorem evG_low {ro own:Nat→Prop}{B:Nat}(hB:∀ b,own b→b<B)(hr:∀ b,ro b→b<B){e:Event}(h:EvG ro own e):(MemAct.ofEvent e).low B:=by
 obtain⟨loc,wr,sy⟩:=e
 cases loc with
 |cell a=>
  have:MemAct.ofEvent ⟨.cell a,wr,sy⟩= .access ⟨.cell a,wr,sy⟩:=by cases wr<;>cases sy<;>rfl
  rw[this]
  exact h.elim (fun x=>hB _ x) fun x=>hr _ x.1
 |obj r=>
  obtain⟨h1,h2⟩:=h
  simp only at h2
  subst h2
  have:MemAct.ofEvent ⟨.obj r,wr,false⟩= .access ⟨.obj r,wr,false⟩:=by cases wr<;>rfl
  rw[this]
  exact hB _ h1
 |mark m=>
  have:MemAct.ofEvent ⟨.mark m,wr,sy⟩= .mark m:=by cases wr<;>cases sy<;>rfl
  rw[this]
  obtain⟨h1,_⟩:=h
  cases m<;>first|exact h1.elim|trivial
 |_=>exact h.elim
section
variable {Q Shun:Loc→Prop} {c:Nat} {ownG ro own:Nat→Prop} {B:Nat} {t u:Trace}
theorem inB_low {X:Nat→Prop}{l:Loc}(h:InB X l)(hX:∀ b,X b→¬ b<B)(hl:l.low B):False:=by
 cases l<;>first|exact hX _ h hl|exact h.elim
theorem touch_low {op:MemOp}{x:Go.Touch}(hl:op.act.low B)(hx:op.act.touch? =some x):x.loc.low B:=by
 obtain⟨g,fn,pos,act⟩:=op
 cases act with
 |access e=>simp only[MemAct.touch?,Option.some.injEq] at hx;subst hx;exact hl
 |mark m=>cases m<;>simp only[MemAct.touch?,Option.some.injEq] at hx<;>first|(subst hx;exact hl)|cases hx
 |_=>cases hx
theorem over_app (h:∀ i g,t.g? i=some g→g≠0→g≠c→t.counts i→∃ j,t.g? j=some 0∧HappensBefore t i j)(hu:∀ op∈u,op.g=0∨op.g=c∨op.act.touch? =none):
 ∀ i g,(t++u).g? i=some g→g≠0→g≠c→(t++u).counts i→∃ j,(t++u).g? j=some 0∧HappensBefore (t++u) i j:=by
 intro i g hg h0 hc hcn
 obtain⟨x,hx,hm,hk⟩:=id hcn
 obtain⟨op,hop,hox⟩:=touch_of hx
 rcases getElem?_append_cases hop with⟨hi,hop'⟩|⟨_,hopu⟩
 ·obtain⟨j,hj,hb⟩:=h i g (by rw[←g?_old (u:=u) hi];exact hg) h0 hc ((counts_old hi).1 hcn)
  have hjl:j<t.size:=by
   unfold Trace.g? at hj
   obtain⟨z,hz,_⟩:=Option.map_eq_some_iff.1 hj
   exact lt_size_of_getElem? hz
  exact⟨j,by rw[g?_old hjl];exact hj,hb_app u hb⟩
 ·have hgo:op.g=g:=by simpa[Trace.g?,hop] using hg
  rcases hu op hopu with h1|h1|h1
  ·exact absurd (hgo.symm.trans h1) h0
  ·exact absurd (hgo.symm.trans h1) hc
  ·rw[h1] at hox;cases hox
theorem TI.mono {B':Nat}(h:TI Q Shun c ownG ro B t)(hB:B≤B'):TI Q Shun c ownG ro B' t:=⟨h.clean,h.known,h.gown,h.grd,h.quiet,h.over,fun op hop=>MemAct.low_mono hB (h.seen op hop)⟩
theorem touch_cases {i:Nat}{a:Go.Touch}(ha:touchAt (t++u) i=some a):(i<t.size∧touchAt t i=some a)∨(t.size≤i∧∃ op∈u,(t++u)[i]? =some op∧op.act.touch? =some a):=by
 obtain⟨x,hx,hxa⟩:=touch_of ha
 rcases getElem?_append_cases hx with⟨hi,hx'⟩|⟨hi,hxu⟩
 ·exact .inl ⟨hi,by rw[touchAt_of hx'];exact hxa⟩
 ·exact .inr ⟨hi,x,hxu,hx,hxa⟩
theorem TI.still (h:TI Q Shun c ownG ro B t)(hn:∀ op∈u,op.act.touch? =none)(hl:∀ op∈u,op.act.low B):TI Q Shun c ownG ro B (t++u):=by
 have old:∀ {i a},touchAt (t++u) i=some a→i<t.size∧touchAt t i=some a:=fun ha=>by
  rcases touch_cases ha with h|⟨_,op,hop,_,hx⟩
  ·exact h
  ·rw[hn op hop] at hx;cases hx
 refine⟨fun said=>?_,fun i a ha hm=>?_,fun i a ha hg=>?_,fun i a ha hg hw=>?_,fun i a ha hq=>?_,over_app h.over fun op hop=> .inr (.inr (hn op hop)),seen_app h.seen hl⟩
 ·rintro ⟨i,j,hij,⟨a,b,ha,hb,hc⟩,n1,n2⟩
  obtain⟨hi,ha'⟩:=old ha
  obtain⟨hj,hb'⟩:=old hb
  exact h.clean said ⟨i,j,hij,⟨a,b,ha',hb',hc⟩,fun e=>n1 (hb_app u e),fun e=>n2 (hb_app u e)⟩
 ·obtain⟨hi,ha'⟩:=old ha
  rw[g?_old hi]
  exact(h.known i a ha' hm).imp (·.app u) id
 ·obtain⟨hi,ha'⟩:=old ha
  rw[g?_old hi];exact h.gown i a ha' hg
 ·obtain⟨hi,ha'⟩:=old ha
  exact(h.grd i a ha' hg hw).app u
 ·obtain⟨hi,ha'⟩:=old ha
  rw[g?_old hi];exact h.quiet i a ha' hq
theorem TI.app0 (_hc0:c≠0)(h:TI Q Shun c ownG ro B t)(hu:∀ op∈u,op.g=0∧OwnOp ro own op)(hl:∀ op∈u,op.act.low B)
 (hS:∀ l,InB own l∨InB ro l→¬ Shun l)(hQ:∀ l,InB own l∨InB ro l→¬ Q l)(hG:∀ b,own b→¬ ownG b)(hR:∀ b,own b→¬ ro b)(hGR:∀ b,ownG b→¬ ro b):TI Q Shun c ownG ro B (t++u):=by
 have place:∀ op∈u,∀ x,op.act.touch? =some x→InB own x.loc∨InB ro x.loc:=fun op hop x hx=>((hu op hop).2.1 x hx).imp id (·.1)
 refine⟨fun said=>noRace_append (h.clean said) (fun op hop=>(hu op hop).1) fun i a ha op hop b hb hc=>?_,fun i a ha hm=>?_,fun i a ha hg=>?_,fun i a ha hg hw=>?_,fun i a ha hq=>?_,over_app h.over fun op hop=> .inl (hu op hop).1,seen_app h.seen hl⟩
 ·rcases h.known i a ha hc.2.1 with hk|⟨hs,_⟩|⟨_,hg|⟨hr,hw⟩⟩
  ·exact hk
  ·exact absurd (hc.1▸hs) (hS _ (place op hop b hb))
  ·rcases place op hop b hb with h1|h1
   ·exact absurd (hc.1▸hg) (InB.no hG h1)
   ·exact absurd h1 (InB.no hGR (hc.1▸hg))
  ·rcases(hu op hop).2.1 b hb with h1|⟨_,h1⟩
   ·exact absurd (hc.1▸hr) (InB.no hR h1)
   ·have:=hc.2.2.1
    rw[hw,h1] at this
    simp at this
 ·rcases touch_cases ha with⟨hi,ha'⟩|⟨_,op,hop,hx,_⟩
  ·rw[g?_old hi];exact(h.known i a ha' hm).imp (·.app u) id
  ·have:=knows_own hx
   rw[(hu op hop).1] at this
   exact .inl this
 ·rcases touch_cases ha with⟨hi,ha'⟩|⟨_,op,hop,_,hb⟩
  ·rw[g?_old hi];exact h.gown i a ha' hg
  ·rcases place op hop a hb with h1|h1
   ·exact absurd hg (InB.no hG h1)
   ·exact absurd h1 (InB.no hGR hg)
 ·rcases touch_cases ha with⟨hi,ha'⟩|⟨_,op,hop,_,hb⟩
  ·exact(h.grd i a ha' hg hw).app u
  ·rcases(hu op hop).2.1 a hb with h1|⟨_,h1⟩
   ·exact absurd hg (InB.no hR h1)
   ·rw[h1] at hw;cases hw
 ·rcases touch_cases ha with⟨hi,ha'⟩|⟨_,op,hop,_,hb⟩
  ·rw[g?_old hi];exact h.quiet i a ha' hq
  ·exact absurd hq (hQ _ (place op hop a hb))
theorem TI.appC {own':Nat→Prop}{B':Nat}(h:TI Q Shun c ownG ro B t)(hB:B≤B')(hu:∀ op∈u,op.g=c∧OwnOp ro own' op)(hl:∀ op∈u,op.act.low B')
 (hown:∀ b,own' b↔ownG b∨(B≤b∧b<B'))(hQ:∀ l,InB own' l∨InB ro l→¬ Q l):TI Q Shun c own' ro B' (t++u):=by
 have place:∀ op∈u,∀ x,op.act.touch? =some x→InB own' x.loc∨InB ro x.loc:=fun op hop x hx=>((hu op hop).2.1 x hx).imp id (·.1)
 have oldG:∀ i a,touchAt t i=some a→InB own' a.loc→InB ownG a.loc:=fun i a ha hi=>by
  obtain⟨x,hx,hxa⟩:=touch_of ha
  have hlow:=touch_low (h.seen x (mem_of_getElem? hx)) hxa
  generalize a.loc=l at hi hlow
  cases l with
  |cell ad=>exact((hown _).1 hi).resolve_right fun h1=>by have:ad.block<B:=hlow;omega
  |obj r=>exact((hown _).1 hi).resolve_right fun h1=>by have:r<B:=hlow;omega
  |_=>exact hi.elim
 refine⟨fun said=>noRace_append (h.clean said) (fun op hop=>(hu op hop).1) fun i a ha op hop b hb hc=>?_,fun i a ha hm=>?_,fun i a ha hg=>?_,fun i a ha hg hw=>?_,fun i a ha hq=>?_,over_app h.over fun op hop=> .inr (.inl (hu op hop).1),seen_app (fun op hop=>MemAct.low_mono hB (h.seen op hop)) hl⟩
 ·rcases(hu op hop).2.1 b hb with h1|⟨h1,h2⟩
  ·have hg:=h.gown i a ha (oldG i a ha (hc.1▸h1))
   obtain⟨x,hx,_⟩:=touch_of ha
   have:=knows_own hx
   have e:x.g=c:=by simpa[Trace.g?,hx] using hg
   rwa[e] at this
  ·refine h.grd i a ha (hc.1▸h1) ?_
   rcases hc.2.2.1 with h3|h3
   ·exact h3
   ·rw[h2] at h3;cases h3
 ·rcases touch_cases ha with⟨hi,ha'⟩|⟨_,op,hop,hx,hb⟩
  ·rw[g?_old hi]
   rcases h.known i a ha' hm with hk|hk|⟨hk,hk2⟩
   ·exact .inl (hk.app u)
   ·exact .inr (.inl hk)
   ·exact .inr (.inr ⟨hk,hk2.imp (InB.mono fun b hb=>(hown b).2 (.inl hb)) id⟩)
  ·exact .inr (.inr ⟨by simp[Trace.g?,hx,(hu op hop).1],(hu op hop).2.1 a hb⟩)
 ·rcases touch_cases ha with⟨hi,ha'⟩|⟨_,op,hop,hx,_⟩
  ·rw[g?_old hi];exact h.gown i a ha' (oldG i a ha' hg)
  ·simp[Trace.g?,hx,(hu op hop).1]
 ·rcases touch_cases ha with⟨hi,ha'⟩|⟨_,op,hop,hx,_⟩
  ·exact(h.grd i a ha' hg hw).app u
  ·have:=knows_own hx
   rwa[(hu op hop).1] at this
 ·rcases touch_cases ha with⟨hi,ha'⟩|⟨_,op,hop,_,hb⟩
  ·rw[g?_old hi];exact h.quiet i a ha' hq
  ·exact absurd hq (hQ _ (place op hop a hb))
theorem TI.appQ {g:Nat}(h:TI Q Shun c ownG ro B t)(hg:g=0∨g=c)(hu:∀ op∈u,op.g=g∧∀ x,op.act.touch? =some x→Q x.loc∧x.kind≠ .plain∧(x.kind= .said→g=0))(hl:∀ op∈u,op.act.low B)
 (hQS:∀ l,Q l→Shun l)(hQG:∀ l,Q l→¬ InB ownG l∧¬ InB ro l):TI Q Shun c ownG ro B (t++u):=by
 refine⟨fun said=>noRace_append (h.clean said) (fun op hop=>(hu op hop).1) fun i a ha op hop b hb hc=>?_,fun i a ha hm=>?_,fun i a ha hgo=>?_,fun i a ha hr hw=>?_,fun i a ha hq=>?_,over_app h.over fun op hop=>hg.elim (fun e=> .inl ((hu op hop).1.trans e)) fun e=> .inr (.inl ((hu op hop).1.trans e)),seen_app h.seen hl⟩
 ·obtain⟨q1,q2,q3⟩:=(hu op hop).2 b hb
  obtain⟨p1,p2⟩:=h.quiet i a ha (hc.1▸q1)
  rcases hc.2.2.2 with h1|h1|⟨_,h1,h2⟩
  ·exact absurd h1 p1
  ·exact absurd h1 q2
  ·have e0:=q3 h2
   subst e0
   obtain⟨x,hx,_⟩:=touch_of ha
   have:=knows_own hx
   have e:x.g=0:=by simpa[Trace.g?,hx] using p2 h1
   rwa[e] at this
 ·rcases touch_cases ha with⟨hi,ha'⟩|⟨_,op,hop,hx,hb⟩
  ·rw[g?_old hi];exact(h.known i a ha' hm).imp (·.app u) id
  ·obtain⟨q1,q2,q3⟩:=(hu op hop).2 a hb
   by_cases hk:a.kind= .atomic
   ·exact .inr (.inl ⟨hQS _ q1,hk⟩)
   ·have hsaid:a.kind= .said:=by
     cases hkk:a.kind<;>simp_all
    have:=knows_own hx
    rw[(hu op hop).1,q3 hsaid] at this
    exact .inl this
 ·rcases touch_cases ha with⟨hi,ha'⟩|⟨_,op,hop,_,hb⟩
  ·rw[g?_old hi];exact h.gown i a ha' hgo
  ·exact absurd hgo (hQG _ ((hu op hop).2 a hb).1).1
 ·rcases touch_cases ha with⟨hi,ha'⟩|⟨_,op,hop,_,hb⟩
  ·exact(h.grd i a ha' hr hw).app u
  ·exact absurd hr (hQG _ ((hu op hop).2 a hb).1).2
 ·rcases touch_cases ha with⟨hi,ha'⟩|⟨_,op,hop,hx,hb⟩
  ·rw[g?_old hi];exact h.quiet i a ha' hq
  ·obtain⟨_,q2,q3⟩:=(hu op hop).2 a hb
   refine⟨q2,fun hs=>?_⟩
   rw[show(t++u).g? i=some op.g by simp[Trace.g?,hx],(hu op hop).1,q3 hs]
end
end Go.Ren
namespace Go.Ren
open Go Go.Conc
open Go.ConcN (sumTo upd sumTo_upd upd_ne upd_same)
def Reach (P:Program)(m:Machine)(t:Trace)(Q:Machine→Trace→Prop):Prop:=∃ N m' t',runNT P N m t=(.next m',t')∧Q m' t'
section
variable {P:Program} {m m':Machine} {t:Trace} {Q Q':Machine→Trace→Prop} {ops:Trace}
theorem Reach.here (h:Q m t):Reach P m t Q:=⟨0,m,t,rfl,h⟩
theorem Reach.step (h:stepT P m=(.next m',ops))(k:Reach P m' (t++ops) Q):Reach P m t Q:=by
 obtain⟨N,a,b,h1,h2⟩:=k
 exact⟨N+1,a,b,by simp only[runNT,h];exact h1,h2⟩
theorem Reach.bind (h:Reach P m t Q)(k:∀ m t,Q m t→Reach P m t Q'):Reach P m t Q':=by
 obtain⟨N,a,b,h1,h2⟩:=h
 induction N generalizing m t with
 |zero=>
  simp only[runNT,Prod.mk.injEq,Stepped.next.injEq] at h1
  obtain⟨rfl,rfl⟩:=h1
  exact k _ _ h2
 |succ N ih=>
  simp only[runNT] at h1
  cases hs:stepT P m with
  |mk e ops=>
   rw[hs] at h1
   cases e with
   |next m1=>exact Reach.step hs (ih h1)
   |_=>simp at h1
theorem Reach.mono (h:Reach P m t Q)(k:∀ m t,Q m t→Q' m t):Reach P m t Q':=h.bind fun _ _ hq=> .here (k _ _ hq)
end
def Stay (P:Program)(w:World)(a:Goroutine):Prop:=∀ x x' d,woken P x x' (w.at d) a=a
theorem Stay.run {P:Program}{w:World}{a:Goroutine}(h:a.status= .running):Stay P w a:=fun _ _ _=>woken_run h
structure Crew (P:Program) (c:Nat) (t:Trace) (gs:Array Goroutine) (q:Nat→Nat):Prop where
 size:gs.size=c+1
 pos:0<c
 old:∀ i g,0<i→i<c→gs[i]? =some g→QuitsD P (q i) (Deaf t i) g
 above:∀ j,c<j→Deaf t j=0
section
variable {P:Program} {c:Nat} {t:Trace} {gs:Array Goroutine} {q:Nat→Nat} {a b a' b':Goroutine} {w w':World} {sl:Option (Nat×Nat)} {es:Array Event}
theorem ofEvents_g {g:Nat}{fn:FuncId}{pos:String}{es:Array Event}:∀ op∈MemOp.ofEvents g fn pos es,op.g=g:=fun op hop=>by obtain⟨e,_,rfl⟩:=Conc.mem_ofEvents hop;rfl
theorem mute_norel {e:Event}(h:e.mute=true)(a:Addr):MemAct.ofEvent e≠ .mark (.release a):=by
 obtain⟨loc,wr,sy⟩:=e
 cases loc<;>simp_all [Event.mute]
 rename_i m
 cases m<;>simp_all [MemAct.ofEvent]
theorem Crew.get (h:Crew P c t gs q){i:Nat}{g:Goroutine}(hi:gs[i]? =some g):i=0∨i=c∨(0<i∧i<c):=by
 have:=(Array.getElem?_eq_some_iff.1 hi).1
 have:=h.size
 omega
theorem crew_cases (hC:Crew P c t gs q)(h0:gs[0]? =some a)(hc:gs[c]? =some b)(hwa:awake a)(hwb:awake b)(hrun:a.status= .running∨b.status= .running)(sa:Stay P w a)(sb:Stay P w b):
 (a.status= .running∧∃ d sl',stepT P (crowd gs w sl)=runT P (crowd gs (w.at d) sl') 0)∨
 (b.status= .running∧∃ d sl',stepT P (crowd gs w sl)=runT P (crowd gs (w.at d) sl') c)∨
 (∃ gs' d sl' ops q',stepT P (crowd gs w sl)=(.next (crowd gs' (w.at d) sl'),ops)∧Crew P c (t++ops) gs' q'∧gs'[0]? =some a∧gs'[c]? =some b∧sumTo c q'<sumTo c q∧(∀ op∈ops,op.act.touch? =none∧∀ a,op.act≠ .mark (.release a))∧(∀ B,∀ op∈ops,op.act.low B)∧Deaf (t++ops) 0=Deaf t 0∧Deaf (t++ops) c=Deaf t c):=by
 have hpos:=hC.pos
 have haw:∀ g∈gs,awake g:=by
  intro g hg
  obtain⟨i,hi,rfl⟩:=Array.mem_iff_getElem.1 hg
  have hi':=Array.getElem?_eq_getElem hi
  rcases hC.get hi' with rfl|rfl|⟨h1,h2⟩
  ·rw[h0] at hi';obtain rfl:=Option.some.inj hi';exact hwa
  ·rw[hc] at hi';obtain rfl:=Option.some.inj hi';exact hwb
  ·exact awake_of ((hC.old i _ h1 h2 hi').status.elim .inl fun x=> .inr (.inr x))
 obtain⟨i,g,d,sl',hi,hg,hst⟩:=crowd_pick (P:=P) (w:=w) (sl:=sl) haw (hrun.elim (fun h=>⟨0,a,h0,h⟩) fun h=>⟨c,b,hc,h⟩)
 rcases hC.get hi with rfl|rfl|⟨h1,h2⟩
 ·rw[h0] at hi;obtain rfl:=Option.some.inj hi
  exact .inl ⟨hg,d,sl',hst⟩
 ·rw[hc] at hi;obtain rfl:=Option.some.inj hi
  exact .inr (.inl ⟨hg,d,sl',hst⟩)
 ·right;right
  have hq:=hC.old i g h1 h2 hi
  have hi0:(i==0)=false:=by simp;omega
  have hlt:i<gs.size:=(Array.getElem?_eq_some_iff.1 hi).1
  cases hqi:q i with
  |zero=>rw[hqi] at hq;rw[hq.1] at hg;cases hg
  |succ k=>
   rw[hqi] at hq
   rcases hq with⟨hf,_⟩|⟨_,g',es,hm,hstp,hq'⟩
   ·rw[hf] at hg;cases hg
   have hrunT:=runT_crowd_go (P:=P) (sl:=sl') (i:=i) hi (by rw[hi0];exact hstp (w.at d))
   have hsum:sumTo c (upd q i k)+(k+1)=sumTo c q+k:=by
    have:=sumTo_upd q k id h2
    simpa[hqi] using this
   refine⟨_,d,sl',_,upd q i k,hst.trans hrunT,⟨by simp[hC.size],hpos,fun j x hj hjc hx=>?_,fun j hj=>?_⟩,?_,?_,by omega,fun op hop=>?_,fun B op hop=>?_,Deaf_other t (by omega) _ ofEvents_g,Deaf_other t (by omega) _ ofEvents_g⟩
   ·by_cases hji:i=j
    ·subst hji
     rw[Array.getElem?_setIfInBounds_self_of_lt (by simpa using hlt)] at hx
     obtain rfl:=Option.some.inj hx
     rw[upd_same,Deaf_own]
     exact hq'
    ·rw[Array.getElem?_setIfInBounds_ne hji,Array.getElem?_map] at hx
     obtain⟨y,hy,rfl⟩:=Option.map_eq_some_iff.1 hx
     have hqj:=hC.old j y hj hjc hy
     rw[woken_quitsD hqj,upd_ne q k (Ne.symm hji),Deaf_other t hji _ ofEvents_g]
     exact hqj
   ·rw[Deaf_other t (g':=i) (by omega) _ ofEvents_g]
    exact hC.above j hj
   ·rw[Array.getElem?_setIfInBounds_ne (by omega),Array.getElem?_map,h0]
    simp[sa g g' d]
   ·rw[Array.getElem?_setIfInBounds_ne (by omega),Array.getElem?_map,hc]
    simp[sb g g' d]
   ·obtain⟨e,he,rfl⟩:=Conc.mem_ofEvents hop;exact⟨touch_mute (hm e he),fun a=>mute_norel (hm e he) a⟩
   ·obtain⟨e,he,rfl⟩:=Conc.mem_ofEvents hop;exact low_mute (hm e he) B
theorem crew_go0 (hC:Crew P c t gs q)(h0:gs[0]? =some a)(hc:gs[c]? =some b)(hs:stepG P true a w= .go a' w' es):
 ∃ gs',runT P (crowd gs w sl) 0=(.next (crowd gs' w' sl),MemOp.ofEvents 0 a.frame.fn a.frame.place es)∧Crew P c (t++MemOp.ofEvents 0 a.frame.fn a.frame.place es) gs' q∧gs'[0]? =some a'∧gs'[c]? =some (woken P a a' w' b):=by
 have hpos:=hC.pos
 have hlt:0<gs.size:=(Array.getElem?_eq_some_iff.1 h0).1
 refine⟨_,runT_crowd_go (P:=P) (sl:=sl) (i:=0) h0 (show stepG P (0==0) a w=_ from hs),⟨by simp[hC.size],hpos,fun j x hj hjc hx=>?_,fun j hj=>?_⟩,by simp[hlt],?_⟩
 ·rw[Array.getElem?_setIfInBounds_ne (by omega),Array.getElem?_map] at hx
  obtain⟨y,hy,rfl⟩:=Option.map_eq_some_iff.1 hx
  have hq:=hC.old j y hj hjc hy
  rw[woken_quitsD hq,Deaf_other t (by omega) _ ofEvents_g]
  exact hq
 ·rw[Deaf_other t (by omega) _ ofEvents_g]
  exact hC.above j hj
 ·rw[Array.getElem?_setIfInBounds_ne (by omega),Array.getElem?_map,hc]
  rfl
theorem crew_goC (hC:Crew P c t gs q)(h0:gs[0]? =some a)(hc:gs[c]? =some b)(hs:stepG P false b w= .go b' w' es):
 ∃ gs',runT P (crowd gs w sl) c=(.next (crowd gs' w' sl),MemOp.ofEvents c b.frame.fn b.frame.place es)∧Crew P c (t++MemOp.ofEvents c b.frame.fn b.frame.place es) gs' q∧gs'[0]? =some (woken P b b' w' a)∧gs'[c]? =some b':=by
 have hpos:=hC.pos
 have hlt:c<gs.size:=(Array.getElem?_eq_some_iff.1 hc).1
 have hc0:(c==0)=false:=by simp;omega
 refine⟨_,runT_crowd_go (P:=P) (sl:=sl) (i:=c) hc (by rw[hc0];exact hs),⟨by simp[hC.size],hpos,fun j x hj hjc hx=>?_,fun j hj=>?_⟩,?_,by simp[hlt]⟩
 ·rw[Array.getElem?_setIfInBounds_ne (by omega),Array.getElem?_map] at hx
  obtain⟨y,hy,rfl⟩:=Option.map_eq_some_iff.1 hx
  have hq:=hC.old j y hj hjc hy
  rw[woken_quitsD hq,Deaf_other t (by omega) _ ofEvents_g]
  exact hq
 ·rw[Deaf_other t (by omega) _ ofEvents_g]
  exact hC.above j hj
 ·rw[Array.getElem?_setIfInBounds_ne (by omega),Array.getElem?_map,h0]
  rfl
theorem Deaf_comm (t:Trace)(g:Nat)(u:Trace)(hu:∀ op∈u,∀ m,op.act≠ .mark m):Deaf (t++u) g=Deaf t g:=by
 obtain⟨l⟩:=u
 rw[Deaf_append]
 generalize Deaf t g=d
 induction l generalizing d with
 |nil=>rfl
 |cons y l ih=>
  have e1:deafStep g d y=d:=by
   unfold deafStep
   split
   ·exact absurd ‹_› (hu y (by simp) _)
   ·exact absurd ‹_› (hu y (by simp) _)
   ·rfl
  rw[List.foldl_cons,e1]
  exact ih (fun op hop=>hu op (by simp at hop ⊢;exact .inr hop)) d
theorem Crew.comm (hC:Crew P c t gs q){gs':Array Goroutine}{u:Trace}(hu:∀ op∈u,∀ m,op.act≠ .mark m)(hsz:gs'.size=gs.size)(hg:∀ i,i≠0→i≠c→gs'[i]? =gs[i]?):Crew P c (t++u) gs' q:=
 ⟨hsz.trans hC.size,hC.pos,fun i g h1 h2 hi=>by rw[Deaf_comm t i u hu];exact hC.old i g h1 h2 (by rw[←hg i (by omega) (by omega)];exact hi),fun j hj=>by rw[Deaf_comm t j u hu];exact hC.above j hj⟩
theorem Crew.offers (hC:Crew P c t gs q){i ch:Nat}{send:Bool}{g:Goroutine}(h1:0<i)(h2:i<c)(hi:gs[i]? =some g):offersAt g ch send=[]:=
 offersAt_of_not_blocked (by rcases(hC.old i g h1 h2 hi).status with h|h<;>simp[h]) _ _
theorem crew_partners0 (hC:Crew P c t gs q)(hc:gs[c]? =some b){ch:Nat}{send:Bool}:partners (gs.setIfInBounds 0 ph) ch send=(offersAt b ch send).map fun k=>(c,k):=by
 have hpos:=hC.pos
 refine partners_one (by rw[Array.getElem?_setIfInBounds_ne (by omega)];exact hc) fun k x hk hx=>?_
 rcases getElem?_stand gs 0 k x hx with⟨_,rfl⟩|⟨h1,h2⟩
 ·rfl
 ·rcases hC.get h2 with h|h|⟨h3,h4⟩
  ·exact absurd h h1
  ·exact absurd h hk
  ·exact hC.offers h3 h4 h2
theorem crew_partnersC (hC:Crew P c t gs q)(h0:gs[0]? =some a){ch:Nat}{send:Bool}:partners (gs.setIfInBounds c ph) ch send=(offersAt a ch send).map fun k=>(0,k):=by
 have hpos:=hC.pos
 refine partners_one (by rw[Array.getElem?_setIfInBounds_ne (by omega)];exact h0) fun k x hk hx=>?_
 rcases getElem?_stand gs c k x hx with⟨_,rfl⟩|⟨h1,h2⟩
 ·rfl
 ·rcases hC.get h2 with h|h|⟨h3,h4⟩
  ·exact absurd h hk
  ·exact absurd h h1
  ·exact hC.offers h3 h4 h2
variable {ch s r:Nat} {tm:Bool} {z z' v:Value} {a₂ b₂:Goroutine}
theorem ofEvents_none (g:Nat)(fn:FuncId)(pos:String):MemOp.ofEvents g fn pos #[]=#[]:=rfl
theorem crew_recv_waits (hC:Crew P c t gs q)(h0:gs[0]? =some a)(hc:gs[c]? =some b)(hb:b.status≠ .blocked)(hs:stepG P true a w= .comm a₂ #[rcase ch z] true (.recv true) w #[])(hch:w.heap[ch]? =some (.chan 0 #[] false s r tm)):
 ∃ gs',runT P (crowd gs w sl) 0=(.next (crowd gs' w sl),#[])∧Crew P c (t++#[]) gs' q∧gs'[0]? =some (parked a₂ #[rcase ch z] (.recv true))∧gs'[c]? =some b:=by
 have hpos:=hC.pos
 have hlt:0<gs.size:=(Array.getElem?_eq_some_iff.1 h0).1
 have:=crowd_waits (P:=P) (sl:=sl) (i:=0) h0 (show stepG P (0==0) a w=_ from hs) fun cc hcc=>by
  simp only[List.mem_toArray,List.mem_cons,List.not_mem_nil,or_false] at hcc
  subst hcc
  exact ways_recv_none hch (by rw[crew_partners0 hC hc,offersAt_of_not_blocked hb];rfl)
 refine⟨_,this,hC.comm (by simp) (by simp) fun i h1 h2=>?_,by simp[hlt],?_⟩
 ·rw[Array.getElem?_setIfInBounds_ne (Ne.symm h1)]
 ·rw[Array.getElem?_setIfInBounds_ne (by omega)];exact hc
theorem crew_send_waits (hC:Crew P c t gs q)(h0:gs[0]? =some a)(hc:gs[c]? =some b)(ha:a.status≠ .blocked)(hs:stepG P false b w= .comm b₂ #[scase ch v z'] true .send w #[])(hch:w.heap[ch]? =some (.chan 0 #[] false s r tm)):
 ∃ gs',runT P (crowd gs w sl) c=(.next (crowd gs' w sl),#[])∧Crew P c (t++#[]) gs' q∧gs'[0]? =some a∧gs'[c]? =some (parked b₂ #[scase ch v z'] .send):=by
 have hpos:=hC.pos
 have hlt:c<gs.size:=(Array.getElem?_eq_some_iff.1 hc).1
 have hc0:(c==0)=false:=by simp;omega
 have:=crowd_waits (P:=P) (sl:=sl) (i:=c) hc (by rw[hc0];exact hs) fun cc hcc=>by
  simp only[List.mem_toArray,List.mem_cons,List.not_mem_nil,or_false] at hcc
  subst hcc
  exact ways_send_none hch (by simp) (by rw[crew_partnersC hC h0,offersAt_of_not_blocked ha];rfl)
 refine⟨_,this,hC.comm (by simp) (by simp) fun i h1 h2=>?_,?_,by simp[hlt]⟩
 ·rw[Array.getElem?_setIfInBounds_ne (Ne.symm h2)]
 ·rw[Array.getElem?_setIfInBounds_ne (by omega)];exact h0
def Meets (ch:Nat)(u:Trace):Prop:=∀ op∈u,op.act.touch? =none∧(∀ m,op.act≠ .mark m)∧∀ B,ch<B→op.act.low B
theorem crew_recv_meets (hC:Crew P c t gs q)(h0:gs[0]? =some a)(hc:gs[c]? =some (parked b₂ #[scase ch v z'] .send))(hs:stepG P true a w= .comm a₂ #[rcase ch z] true (.recv true) w #[])(hch:w.heap[ch]? =some (.chan 0 #[] false s r tm)):
 ∃ gs' u,runT P (crowd gs w sl) 0=(.next (crowd gs' (w.setChan ch 0 #[] false (s+1) (r+1) tm) sl),u)∧Meets ch u∧Crew P c (t++u) gs' q∧gs'[0]? =some (Conc.served a₂ (.tuple #[v,.bool true]))∧gs'[c]? =some (Conc.served b₂ undef):=by
 have hpos:=hC.pos
 have hlt:0<gs.size:=(Array.getElem?_eq_some_iff.1 h0).1
 have hltc:c<gs.size:=(Array.getElem?_eq_some_iff.1 hc).1
 have:=crowd_recv_meets (P:=P) (sl:=sl) (i:=0) h0 (show stepG P (0==0) a w=_ from hs) hch (by omega) hc (by rw[crew_partners0 hC hc,offersAt_parked_send,if_pos rfl];rfl)
 rw[ofEvents_none] at this
 refine⟨_,_,this,fun op hop=>?_,hC.comm (fun op hop m e=>?_) (by simp) fun i h1 h2=>?_,?_,?_⟩
 ·simp at hop
  rcases hop with rfl|rfl|rfl|rfl<;>exact⟨rfl,by simp,fun B h=>h⟩
 ·simp at hop
  rcases hop with rfl|rfl|rfl|rfl<;>simp at e
 ·rw[Array.getElem?_setIfInBounds_ne (Ne.symm h1),Array.getElem?_setIfInBounds_ne (Ne.symm h2)]
 ·simp[hlt,finishComm_recv,recvd]
 ·rw[Array.getElem?_setIfInBounds_ne (by omega),Array.getElem?_setIfInBounds_self_of_lt hltc,finishComm_send]
theorem crew_send_meets (hC:Crew P c t gs q)(h0:gs[0]? =some (parked a₂ #[rcase ch z] (.recv true)))(hc:gs[c]? =some b)(hs:stepG P false b w= .comm b₂ #[scase ch v z'] true .send w #[])(hch:w.heap[ch]? =some (.chan 0 #[] false s r tm)):
 ∃ gs' u,runT P (crowd gs w sl) c=(.next (crowd gs' (w.setChan ch 0 #[] false (s+1) (r+1) tm) sl),u)∧Meets ch u∧Crew P c (t++u) gs' q∧gs'[0]? =some (Conc.served a₂ (.tuple #[v,.bool true]))∧gs'[c]? =some (Conc.served b₂ undef):=by
 have hpos:=hC.pos
 have hlt:0<gs.size:=(Array.getElem?_eq_some_iff.1 h0).1
 have hltc:c<gs.size:=(Array.getElem?_eq_some_iff.1 hc).1
 have hc0:(c==0)=false:=by simp;omega
 have:=crowd_send_meets (P:=P) (sl:=sl) (i:=c) (j:=0) hc (by rw[hc0];exact hs) hch (by omega) h0 (by rw[crew_partnersC hC h0,offersAt_parked_recv,if_pos rfl];rfl)
 rw[ofEvents_none] at this
 refine⟨_,_,this,fun op hop=>?_,hC.comm (fun op hop m e=>?_) (by simp) fun i h1 h2=>?_,?_,?_⟩
 ·simp at hop
  rcases hop with rfl|rfl|rfl|rfl<;>exact⟨rfl,by simp,fun B h=>h⟩
 ·simp at hop
  rcases hop with rfl|rfl|rfl|rfl<;>simp at e
 ·rw[Array.getElem?_setIfInBounds_ne (Ne.symm h2),Array.getElem?_setIfInBounds_ne (Ne.symm h1)]
 ·rw[Array.getElem?_setIfInBounds_ne (by omega),Array.getElem?_setIfInBounds_self_of_lt hlt,finishComm_recv];rfl
 ·rw[Array.getElem?_setIfInBounds_self_of_lt (by simpa using hltc),finishComm_send]
theorem crew_recv_closed (hC:Crew P c t gs q)(h0:gs[0]? =some a)(hc:gs[c]? =some b)(hb:b.status≠ .blocked)(hs:stepG P true a w= .comm a₂ #[rcase ch z] true (.recv true) w #[])(hch:w.heap[ch]? =some (.chan 0 #[] true s r tm)):
 ∃ gs' fn pos,runT P (crowd gs w sl) 0=(.next (crowd gs' w sl),#[{ g:=0,fn:=fn,pos:=pos,act:= .recvClosed ch }])∧Crew P c (t++#[{ g:=0,fn:=fn,pos:=pos,act:= .recvClosed ch }]) gs' q∧gs'[0]? =some (Conc.served a₂ (.tuple #[z,.bool false]))∧gs'[c]? =some b:=by
 have hpos:=hC.pos
 have hlt:0<gs.size:=(Array.getElem?_eq_some_iff.1 h0).1
 have:=crowd_recv_closed (P:=P) (sl:=sl) (i:=0) h0 (show stepG P (0==0) a w=_ from hs) hch (by rw[crew_partners0 hC hc,offersAt_of_not_blocked hb];rfl)
 rw[ofEvents_none,Array.empty_append] at this
 refine⟨_,_,_,this,hC.comm (fun op hop m e=>?_) (by simp) fun i h1 h2=>?_,?_,?_⟩
 ·simp at hop
  subst hop
  simp at e
 ·rw[Array.getElem?_setIfInBounds_ne (Ne.symm h1)]
 ·simp[hlt,finishComm_recv,recvd]
 ·rw[Array.getElem?_setIfInBounds_ne (by omega)];exact hc
end
structure NS (Shun:Loc→Prop) (ro own:Nat→Prop) (w:World):Prop where
 olt:∀ b,own b→b<w.heap.size
 rlt:∀ b,ro b→b<w.heap.size
 shun:∀ l,InB own l∨InB ro l→¬ Shun l
 low:∀ l,Shun l→l.low w.heap.size
structure Kept (own:Nat→Prop) (w w':World):Prop where
 tape:w'.tape=w.tape
 os:w'.os=w.os
 output:w'.output=w.output
 size:w.heap.size≤w'.heap.size
 block:∀ b,b<w.heap.size→¬ own b→w'.heap[b]? =w.heap[b]?
theorem Kept.refl (own:Nat→Prop)(w:World):Kept own w w:=⟨rfl,rfl,rfl,Nat.le_refl _,fun _ _ _=>rfl⟩
theorem rely_at (ro own:Nat→Prop)(w:World)(d:Nat):Rely ro own w (w.at d):=⟨rfl,rfl,rfl,Nat.le_refl _,fun _ _=>rfl⟩
theorem Kept.step {ro own:Nat→Prop}{w w₁ w₂:World}{es:Array Event}(h:Guar ro own w w₁ es)(k:Kept (Grow own w w₁) w₁ w₂):Kept own w w₂:=
 ⟨k.tape.trans h.tape,k.os.trans h.os,k.output.trans h.output,Nat.le_trans h.size k.size,fun b hb hn=>by
   have hs:=h.size
   rw[k.block b (by omega) fun hg=>hg.elim hn fun x=>by omega,h.block b hb hn]⟩
section
variable {P:Program} {Shun:Loc→Prop} {ro own:Nat→Prop} {Stop:(Nat→Prop)→Goroutine→World→Prop}
theorem inB_grow {own:Nat→Prop}{w w':World}{l:Loc}(h:InB (Grow own w w') l)(hl:l.low w.heap.size):InB own l:=by
 cases l with
 |cell a=>exact h.elim id fun x=>by have:a.block<w.heap.size:=hl;omega
 |obj r=>exact h.elim id fun x=>by have:r<w.heap.size:=hl;omega
 |_=>exact h
theorem NS.grow {w w':World}{es:Array Event}(h:NS Shun ro own w)(hg:Guar ro own w w' es):NS Shun ro (Grow own w w') w':=by
 have hs:=hg.size
 refine⟨fun b hb=>hb.elim (fun x=>by have:=h.olt b x;omega) (·.2),fun b hb=>by have:=h.rlt b hb;omega,fun l hl hS=>?_,fun l hl=>Loc.low_mono hs (h.low l hl)⟩
 exact h.shun l (hl.imp (fun x=>inB_grow x (h.low l hS)) id) hS
theorem NS.at {w:World}(h:NS Shun ro own w)(d:Nat):NS Shun ro own (w.at d):=⟨h.olt,h.rlt,h.shun,h.low⟩
theorem NS.evL {w w':World}{es:Array Event}(h:NS Shun ro own w)(hg:Guar ro own w w' es):∀ e∈es,EvL Shun w'.heap.size e:=by
 intro e he
 have hn:=h.grow hg
 have hE:=hg.evs e he
 refine⟨fun x hx hs=>absurd hs (hn.shun _ ?_),(evG_deaf hE).1,(evG_deaf hE).2,evG_low hn.olt hn.rlt hE⟩
 exact(evG_touch hE x hx).imp id (·.1)
def Came (P:Program)(Shun:Loc→Prop)(ro:Nat→Prop)(Stop:(Nat→Prop)→Goroutine→World→Prop)(n:Nat)(own:Nat→Prop)(w:World)(m:Machine)(t:Trace):Prop:=
 ∃ gs own' a' w' sl q,m=crowd gs w' sl∧gs.size=n∧gs[0]? =some a'∧(∀ w₁,Rely ro own' w' w₁→Stop own' a' w₁)∧Leavers P t gs q∧Past Shun w'.heap.size t∧NS Shun ro own' w'∧(∀ b,own b→own' b)∧(∀ b,own' b→own b∨w.heap.size≤b)∧Kept own w w'
theorem walks_beside {a:Goroutine}{w:World}(hW:Walks P true ro Stop own a w):∀ (w₁:World),Rely ro own w w₁→∀ (gs:Array Goroutine) (sl:Option (Nat×Nat)) (t:Trace) (q:Nat→Nat),
 gs[0]? =some a→Leavers P t gs q→Past Shun w₁.heap.size t→NS Shun ro own w₁→Reach P (crowd gs w₁ sl) t (Came P Shun ro Stop gs.size own w₁):=by
 induction hW with
 | @stop own a w h=>
   intro w₁ hr gs sl t q h0 hL hP hN
   exact .here ⟨gs,own,a,w₁,sl,q,rfl,rfl,h0,fun w₂ h₂=>h w₂ (hr.trans h₂),hL,hP,hN,fun _ x=>x,fun _ x=> .inl x,Kept.refl _ _⟩
 | @step own a w nx nw ne hs h1 h2 _ ih=>
   intro w₁ hr gs sl t q h0 hL hP hN
   generalize hM:sumTo gs.size q=M
   induction M using Nat.strongRecOn generalizing w₁ gs sl t q with
   |_ M ihM=>
   have haw:∀ g∈gs,awake g:=by
    intro g hg
    obtain⟨i,hi,rfl⟩:=Array.mem_iff_getElem.1 hg
    rcases Nat.eq_zero_or_pos i with rfl|hpos
    ·have:gs[0]=a:=by simpa[Array.getElem?_eq_getElem hi] using h0
     rw[this];exact awake_of (.inl hs)
    ·exact awake_of ((hL.old i _ hpos (Array.getElem?_eq_getElem hi)).status.elim .inl fun x=> .inr (.inr x))
   obtain⟨i,g,d,sl',hi,hg,hst⟩:=crowd_pick (P:=P) (w:=w₁) (sl:=sl) haw ⟨0,a,h0,hs⟩
   have hrd:Rely ro own w (w₁.at d):=hr.trans (rely_at ro own w₁ d)
   rcases Nat.eq_zero_or_pos i with rfl|hpos
   ·obtain rfl:g=a:=by rw[h0] at hi;exact(Option.some.inj hi).symm
    have hgo:=h1 _ hrd
    have hgu:=h2 _ hrd
    have hrunT:=runT_crowd_go (P:=P) (sl:=sl') (i:=0) hi (show stepG P (0==0) g (w₁.at d)=_ from hgo)
    have hlt:0<gs.size:=(Array.getElem?_eq_some_iff.1 h0).1
    have hN':=(hN.at d).grow hgu
    have hP':=(hP.mono (B':=(nw (w₁.at d)).heap.size) hgu.size).own (fn:=g.frame.fn) (pos:=g.frame.place) ((hN.at d).evL hgu)
    refine Reach.step (hst.trans hrunT) ((ih _ hrd _ (Rely.refl _ _ _) ((gs.map (woken P g (nx (w₁.at d)) (nw (w₁.at d)))).setIfInBounds 0 (nx (w₁.at d))) sl' _ q (by simp[hlt]) ⟨fun j x hj hx=>?_,fun j hj=>?_⟩ hP' hN').mono ?_)
    ·rw[Array.getElem?_setIfInBounds_ne (by omega),Array.getElem?_map] at hx
     obtain⟨y,hy,rfl⟩:=Option.map_eq_some_iff.1 hx
     have hq:=hL.old j y hj hy
     rw[woken_quitsD hq,Deaf_other t (by omega) _ ofEvents_g]
     exact hq
    ·rw[Deaf_other t (g':=0) (by simp at hj;omega) _ ofEvents_g]
     exact hL.above j (by simpa using hj)
    ·rintro m t' ⟨gs',own',a',w',sl'',q',e1,e2,e3,e4,e5,e6,e7,e8,e9,e10⟩
     have hsz:=hgu.size
     exact⟨gs',own',a',w',sl'',q',e1,by rw[e2];simp,e3,e4,e5,e6,e7,fun b hb=>e8 b (.inl hb),fun b hb=>(e9 b hb).elim (fun x=>x.elim .inl fun y=> .inr y.1) (fun x=> .inr (Nat.le_trans hsz x)),by have hk:=Kept.step hgu e10;exact⟨hk.tape,hk.os,hk.output,hk.size,hk.block⟩⟩
   ·have hq:=hL.old i g hpos hi
    have hi0:(i==0)=false:=by simp;omega
    have hlt:i<gs.size:=(Array.getElem?_eq_some_iff.1 hi).1
    cases hqi:q i with
    |zero=>rw[hqi] at hq;rw[hq.1] at hg;cases hg
    |succ k=>
     rw[hqi] at hq
     rcases hq with⟨hf,_⟩|⟨_,g',es,hm,hstp,hq'⟩
     ·rw[hf] at hg;cases hg
     have hrunT:=runT_crowd_go (P:=P) (sl:=sl') (i:=i) hi (by rw[hi0];exact hstp (w₁.at d))
     have hsz:((gs.map (woken P g g' (w₁.at d))).setIfInBounds i g').size=gs.size:=by simp
     have hsum:sumTo gs.size (upd q i k)+(k+1)=sumTo gs.size q+k:=by
      have:=sumTo_upd q k id hlt
      simpa[hqi] using this
     have:=ihM (sumTo gs.size (upd q i k)) (by omega) (w₁.at d) hrd ((gs.map (woken P g g' (w₁.at d))).setIfInBounds i g') sl' (t++MemOp.ofEvents i g.frame.fn g.frame.place es) (upd q i k)
      (by rw[Array.getElem?_setIfInBounds_ne (by omega),Array.getElem?_map,h0];simp[woken_run hs])
      ⟨fun j x hj hx=>by
        by_cases hji:i=j
        ·subst hji
         rw[Array.getElem?_setIfInBounds_self_of_lt (by simpa using hlt)] at hx
         obtain rfl:=Option.some.inj hx
         rw[upd_same,Deaf_own]
         exact hq'
        ·rw[Array.getElem?_setIfInBounds_ne hji,Array.getElem?_map] at hx
         obtain⟨y,hy,rfl⟩:=Option.map_eq_some_iff.1 hx
         have hqj:=hL.old j y hj hy
         rw[woken_quitsD hqj,upd_ne q k (Ne.symm hji),Deaf_other t hji _ ofEvents_g]
         exact hqj,fun j hj=>by
        rw[Deaf_other t (g':=i) (by simp at hj;omega) _ ofEvents_g]
        exact hL.above j (by simpa using hj)⟩
      (hP.mute (by omega) hm) (hN.at d) (by rw[hsz])
     rw[hsz] at this
     refine Reach.step (hst.trans hrunT) (this.mono ?_)
     rintro m t' ⟨gs',own',a',w',sl'',q',e1,e2,e3,e4,e5,e6,e7,e8,e9,e10⟩
     exact⟨gs',own',a',w',sl'',q',e1,e2,e3,e4,e5,e6,e7,e8,e9,⟨e10.tape,e10.os,e10.output,e10.size,e10.block⟩⟩
end
end Go.Ren
namespace Go.Ren
open Go Go.Conc
structure CoGoal where
 base:World
 lo:Nat
 n0:Nat
 r0:Rn
 at_:Machine→Trace→Prop
def CoGoal.mine (Ψ:CoGoal)(x:Nat):Prop:=∃ r,Ψ.lo≤r∧r<Ψ.n0∧x=Ψ.r0 r
structure OldW (Ψ:CoGoal) (W:World):Prop where
 tape:W.tape=Ψ.base.tape
 os:W.os=Ψ.base.os
 output:W.output=Ψ.base.output
 size:Ψ.base.heap.size≤W.heap.size
 block:∀ b,b<Ψ.base.heap.size→¬ Ψ.mine b→W.heap[b]? =Ψ.base.heap[b]?
structure On0 (n0:Nat) (r0:Rn) (w:World) (ρ:Rn):Prop where
 size:n0≤w.heap.size
 same:∀ r,r<n0→ρ r=r0 r
theorem On0.refl (w:World)(ρ:Rn):On0 w.heap.size ρ w ρ:=⟨Nat.le_refl _,fun _ _=>rfl⟩
section
variable {P:Program} {F:FuncId→Bool} {S:Sd} {Ψ:CoGoal} {fr fr':Frame} {cs cs':List Frame} {w w' W:World} {ρ:Rn}
def CoReach (P:Program)(S:Sd)(Ψ:CoGoal)(fr:Frame)(cs:List Frame)(w:World):Prop:=
 ∀ (ρ:Rn) (W:World) (gs:Array Goroutine) (sl:Option (Nat×Nat)) (t:Trace) (q:Nat→Nat) (Shun:Loc→Prop),Sim P S ρ w W→ClFr P S w.heap.size fr→(∀ f∈cs,ClFr P S w.heap.size f)→
   gs[0]? =some (G (rfr ρ fr) (cs.map (rfr ρ)))→Leavers P t gs q→Past Shun W.heap.size t→NS Shun (fun _=>False) (Touch S.d ρ w) W→OldW Ψ W→(∀ x,Touch S.d ρ w x→Ψ.base.heap.size≤x∨Ψ.mine x)→On0 Ψ.n0 Ψ.r0 w ρ→Reach P (crowd gs W sl) t Ψ.at_
theorem Sim.self (h:Sim P S ρ w W):WR P S idR w w:=
 ⟨fun r o _ ho=>by rw[ro_id];exact ho,h.wr.ok,h.wr.dead,h.wr.closed,fun r hr=>by show r=_;omega,fun r _ h2=>h2,⟨h.wr.big.d,h.wr.big.g,Nat.zero_le _,h.wr.big.p,h.wr.big.dp,fun _ _ _=>rfl,fun _ _=> .inr rfl⟩⟩
def CoStop (P:Program)(S:Sd)(Good:Frame→List Frame→World→Prop)(n0:Nat)(r0:Rn)(own:Nat→Prop)(g:Goroutine)(W:World):Prop:=
 ∃ fr cs w ρ,Good fr cs w∧Sim P S ρ w W∧(∀ x,Touch S.d ρ w x→own x)∧g=G (rfr ρ fr) (cs.map (rfr ρ))∧ClFr P S w.heap.size fr∧(∀ f∈cs,ClFr P S w.heap.size f)∧On0 n0 r0 w ρ
theorem Walks.co {main:Bool}{ro own:Nat→Prop}{Good:Frame→List Frame→World→Prop}{n0:Nat}{r0:Rn}(hG:Good fr cs w)(hS:Sim P S ρ w W)(hown:∀ x,Touch S.d ρ w x→own x)(hc:ClFr P S w.heap.size fr)(hcs:∀ f∈cs,ClFr P S w.heap.size f)(h0:On0 n0 r0 w ρ):
 Walks P main ro (CoStop P S Good n0 r0) own (G (rfr ρ fr) (cs.map (rfr ρ))) W:=by
 refine .stop fun W₁ hr=>⟨fr,cs,w,extR ρ w.heap.size W₁.heap.size,hG,hS.grow hr.size fun x hx=>hr.block x (.inl (hown x hx)),fun x hx=>hown x (by rwa[touch_ext] at hx),?_,hc,hcs,⟨h0.size,fun r hr=>by rw[extR_lt (Nat.lt_of_lt_of_le hr h0.size)];exact h0.same r hr⟩⟩
 rw[rfr_agree hc (ρ:=ρ) (ρ':=extR ρ w.heap.size W₁.heap.size) (fun r hlt=>(extR_lt hlt).symm) (fun _=>rfl),rfrs_agree (ρ:=ρ) (ρ':=extR ρ w.heap.size W₁.heap.size) (fun r hlt=>(extR_lt hlt).symm) (fun _=>rfl) hcs]
theorem NS.sub {Shun:Loc→Prop}{ro own own':Nat→Prop}(h:NS Shun ro own W)(hs:∀ x,own' x→own x):NS Shun ro own' W:=
 ⟨fun b hb=>h.olt b (hs b hb),h.rlt,fun l hl=>h.shun l (hl.imp (fun x=>by
   cases l with
   |cell a=>exact hs _ x
   |obj r=>exact hs _ x
   |_=>exact x) id),h.low⟩
theorem CoReach.walk (h:∀ ρ W,Sim P S ρ w W→ClFr P S w.heap.size fr→(∀ f∈cs,ClFr P S w.heap.size f)→Walks P true (fun _=>False) (CoStop P S (CoReach P S Ψ) w.heap.size ρ) (Touch S.d ρ w) (G (rfr ρ fr) (cs.map (rfr ρ))) W):CoReach P S Ψ fr cs w:=by
 intro ρ W gs sl t q Shun hS hc hcs h0 hL hP hN hO hT hρ
 refine(walks_beside (h ρ W hS hc hcs) W (Rely.refl _ _ _) gs sl t q h0 hL hP hN).bind ?_
 rintro m t' ⟨gs',own',a',w',sl',q',rfl,_,h0',hst,hL',hP',hN',_,hnew,hK⟩
 obtain⟨fr2,cs2,w2,ρ2,hG,hS2,hown,rfl,hc2,hcs2,hon⟩:=hst w' (Rely.refl _ _ _)
 have hsz:=hO.size
 exact hG ρ2 w' gs' sl' t' q' Shun hS2 hc2 hcs2 h0' hL' hP' (hN'.sub hown)
  ⟨hK.tape.trans hO.tape,hK.os.trans hO.os,hK.output.trans hO.output,Nat.le_trans hsz hK.size,fun b hb hm=>(hK.block b (by omega) fun ht=>(hT b ht).elim (fun h=>by omega) hm).trans (hO.block b hb hm)⟩
  (fun x hx=>(hnew x (hown x hx)).elim (hT x) fun e=> .inl (by omega)) ⟨Nat.le_trans hρ.size hon.size,fun r hr=>(hon.same r (Nat.lt_of_lt_of_le hr hρ.size)).trans (hρ.same r hr)⟩
theorem CoReach.re (h:CoReach P S Ψ fr cs w)(e:w'.heap=w.heap):CoReach P S Ψ fr cs w':=by
 intro ρ W gs sl t q Shun hS hc hcs h0 hL hP hN hO hT hρ
 have hS':Sim P S ρ w W:=hS.cong e.symm
 have ht:Touch S.d ρ w'=Touch S.d ρ w:=by unfold Touch;rw[e]
 rw[e] at hc hcs
 rw[ht] at hN hT
 exact h ρ W gs sl t q Shun hS' hc hcs h0 hL hP hN hO hT ⟨by have:=hρ.size;rwa[e] at this,hρ.same⟩
theorem CoReach.silent (hst:∀ ρ W,stepG P true (G (rfr ρ fr) (cs.map (rfr ρ))) W= .go (G (rfr ρ fr') (cs'.map (rfr ρ))) W #[])
 (hcl:ClFr P S w.heap.size fr→(∀ f∈cs,ClFr P S w.heap.size f)→ClFr P S w.heap.size fr'∧∀ f∈cs',ClFr P S w.heap.size f)(k:CoReach P S Ψ fr' cs' w):CoReach P S Ψ fr cs w:=
 CoReach.walk fun ρ W hS hc hcs=>by
  obtain⟨h1,h2⟩:=hcl hc hcs
  refine Walks.silent rfl (fun W₁=>?_) (Walks.co k hS (fun _ h=>h) h1 h2 (On0.refl _ _))
  exact hst ρ W₁
def _root_.Go.Act.rn (a:Act)(ρ:Rn):Act:={ a with tmps:=a.tmps.map (rv ρ) }
theorem rfr_at (b:Frame)(a:Act)(k:List Item):rfr ρ (b.at a k)=b.at (a.rn ρ) k:=rfl
def ClA (_P:Program)(S:Sd)(n:Nat)(a:Act):Prop:=∀ v∈a.tmps,rv (sg S S.d n) v=v
theorem getD_map (c:Array Value)(i:Nat):(c.map (rv ρ)).getD i undef=rv ρ (c.getD i undef):=by
 simp only[Array.getD_eq_getD_getElem?,Array.getElem?_map]
 cases c[i]? with
 |none=>simp[rv_undef]
 |some v=>simp
theorem eval_rn (a:Act):(a.rn ρ).eval=evOf fun t=>rv ρ (a.tmps.getD t undef):=by
 funext x
 cases x with
 |tmp t=>exact getD_map _ _
 |_=>rfl
theorem eval_evOf (a:Act):a.eval=evOf fun t=>a.tmps.getD t undef:=by
 funext x
 cases x<;>rfl
theorem ClA.get {n:Nat}{a:Act}(h:ClA P S n a)(t:Nat):rv (sg S S.d n) (a.tmps.getD t undef)=a.tmps.getD t undef:=by
 rw[Array.getD_eq_getD_getElem?]
 cases he:a.tmps[t]? with
 |none=>simp[rv_undef]
 |some v=>simp;exact h v (Array.mem_of_getElem? he)
theorem rn_put (a:Act)(d:Option Tmp)(v:Value):(a.rn ρ).put d (rv ρ v)=(a.put d v).rn ρ:=by
 cases d with
 |none=>rfl
 |some d=>simp[Act.put,Act.rn,Array.map_setIfInBounds]
theorem ClA.put {n:Nat}{a:Act}(h:ClA P S n a)(d:Option Tmp){v:Value}(hv:rv (sg S S.d n) v=v):ClA P S n (a.put d v):=by
 cases d with
 |none=>exact h
 |some d=>
  intro x hx
  have hx':x∈a.tmps.setIfInBounds d v:=hx
  rcases Array.mem_or_eq_of_mem_setIfInBounds hx' with h1|h1
  ·exact h x h1
  ·rw[h1];exact hv
section
variable {b:Frame} {a:Act} {ops:Array Oper} {i:Nat} {rest:List Nat} {o:Oper} {kk:List Item}
theorem CoReach.opv (hC:Clo P F S)(hok:okOp P F S o.op=true)(ho:ops[i]? =some o)(hw:Region.wanted o (yielded ops a.tmps)=true)(hk:b.kind≠ .early)
 (h:∀ τ d,∃ v w',(execOp a.eval o).run P (w.re τ d)= .ok (.value v) w'∧CoReach P S Ψ (b.at (a.put o.dst v) (.inRegion ops rest::kk)) cs w'):CoReach P S Ψ (b.at a (.inRegion ops (i::rest)::kk)) cs w:=
 CoReach.walk fun ρ W hS hc hcs=>by
  have hca:ClA P S w.heap.size a:=hc
  refine Walks.opv (a:=a.rn ρ) (b:=b) (T:=fun t=>a.tmps.getD t undef) hC hok ho (by show Region.wanted o (yielded ops (a.tmps.map (rv ρ)))=true;rw[show yielded ops (a.tmps.map (rv ρ))=yielded ops a.tmps from funext fun j=>yielded_rfr ops a.tmps j];exact hw) hk (fun t=>hca.get t) hS (fun _ h=>h) (by rw[eval_rn]) (by rw[←eval_evOf];exact h)
   (fun v w' ρ' W' own' hq hS' hag hsz hcl hown _ _ _=>?_) ⟨fun x hx=>hx.elim (fun⟨r,h1,h2,e⟩=>by rw[e];exact hS.low h2) False.elim,fun _ h=>h.elim⟩
  have hfr:(a.rn ρ).put o.dst (rv ρ' v)=(a.put o.dst v).rn ρ':=by
   have e:a.rn ρ=a.rn ρ':=by
    unfold Act.rn
    rw[map_congr' fun x hx=>agree (σ:=sg S S.d w.heap.size) (fun r hr=>(hag r (sg_fix.1 hr).2).symm) (fun y _=>(rv_f hS hS' y).symm) x (hca x hx)]
   rw[e,rn_put]
  have hcsE:cs.map (rfr ρ)=cs.map (rfr ρ'):=rfrs_agree (fun r hr=>(hag r hr).symm) (fun x=>(rv_f hS hS' x).symm) hcs
  rw[hfr,hcsE]
  exact Walks.co (fr:=b.at (a.put o.dst v) (.inRegion ops rest::kk)) hq hS' hown (ClA.put (P:=P) (fun x hx=>fix_mono (sg_mono hsz).1 (sg_mono hsz).2 x (hca x hx)) o.dst hcl) (fun f hf=>cl_mono hsz (hcs f hf)) ⟨hsz,hag⟩
end
end
end Go.Ren
