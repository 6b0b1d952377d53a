import Derived.Test.YtlhimdjkkiflhaaGreatDoorRet08
set_option maxHeartbeats 8000000
set_option maxRecDepth 100000
open Go renaming Goroutine→Γ,World→Δ,Value→Θ,Frame→Λ,TypeInfo→Ξ,Program→Φ,TypeId→Ω,stepG→η,Trace→θ,execOp→ι,FuncId→π
open Go.Conc renaming Leavers→ζ,crowd→ξ
namespace Go.Ren
open Go
theorem oD {cs:Array Θ}(h:∀x∈cs,gq x):gq (.agg cs):=λρ=>by
 rw[rv];have h':∀x∈cs,rv ρ x=id x:=λx hx=>h x hx ρ;rw[et h',Array.map_id]
theorem xX {v:Θ}(h:gq v):∀x∈v.cells,gq x:=by
 intro x hx;cases v with
 |agg cs=>
  intro ρ;have:=h ρ;rw[rv]at this;simp only[Θ.agg.injEq]at this;obtain⟨i,hi,rfl⟩:=zcm.1 (show x∈cs from hx);have h2:=zak (λa=>a[i]?) this;simp only[zaz,zaL hi,zbp,zaE]at h2;exact h2
 |_=>simp only[Θ.cells,zca,zal,zcb,or_false]at hx;subst hx;exact h
theorem Bu {α β:Type}(I:β→Prop){f:α→β→Option (ForInStep β)}(hs:∀a b s,I b→f a b=some s→I s.value):∀(l:List α) (init r:β),I init→forIn l init f=some r→I r
 |[],init,r,h0,h=>by
  simp only[List.forIn_nil,pure,zaE]at h;exact h▸h0
 |a::l,init,r,h0,h=>by
  simp only[List.forIn_cons,bind,zaO]at h;obtain⟨s,h1,h2⟩:=h;have hI:=hs a init s h0 h1;cases s with
  |done b=>simp only[pure,zaE]at h2;exact h2▸hI
  |yield b=>exact Bu I hs l b r hI h2
theorem sB {info:Ω→Option Ξ}(hi:∀t i v,info t=some i→i.zero=some v→gq v){fs:Array Field}{i:Ξ}(h:Made.reckonStruct info fs=some i){v:Θ}(hz:i.zero=some v):gq v:=by
 unfold Made.reckonStruct at h;simp only[bind,zaO,pure,←zbP]at h;obtain⟨a,ha,h⟩:=h;have key:∀arr,a.2.2.2.2.2.2.2.1=some arr→∀x∈arr,gq x:=by
  refine Bu (λs=>∀arr,s.2.2.2.2.2.2.2.1=some arr→∀x∈arr,gq x) ?_ _ _ _ ?_ ha
  ·intro f b s hb hf;simp only[zaO]at hf;obtain⟨j,hj,hf⟩:=hf;have fin:∀arr,(if b.2.1+j.size>Made.mostCells then none else b.2.2.2.2.2.2.2.1.bind λy=>j.zero.bind λz=>some (y++z.cells))=some arr→∀x∈arr,gq x:=by
    intro arr qY x hx;split at qY
    ·cases qY
    ·simp only[zaO]at qY;obtain⟨y,hy,z,hz,e⟩:=qY;cases e;rcases Array.mem_append.1 hx with h1|h1
     ·exact hb y hy x h1
     ·exact xX (hi _ _ _ hj hz) x h1
   by_cases c1:j.str.isEmpty=true
   ·rw[zab c1]at hf;cases hf
   rw[zaa c1]at hf;by_cases c2:f.embedded=true
   ·rw[zab c2]at hf;cases hf
   rw[zaa c2]at hf;by_cases c3:f.tag.isEmpty=true
   ·rw[zab c3]at hf;by_cases c4:j.bytes=0
    ·simp only[zce,zab c4]at hf;cases hf;exact fin
    ·simp only[zce,zaa c4]at hf;cases hf;exact fin
   ·rw[zaa c3]at hf;rw[zaO]at hf;obtain⟨tag,_,hf⟩:=hf;by_cases c4:j.bytes=0
    ·rw[zab c4]at hf;cases hf;exact fin
    ·rw[zaa c4]at hf;cases hf;exact fin
  ·intro arr qY x hx;simp only[zaE]at qY;subst qY;simp at hx
 split at h
 all_goals
  cases h;simp only[zas]at hz;obtain⟨arr,qY,rfl⟩:=hz;exact oD (key arr qY)
theorem EN {info:Ω→Option Ξ}(hi:∀t i v,info t=some i→i.zero=some v→gq v){d:TypeDesc}{i:Ξ}(h:Made.reckon info d=some i){v:Θ}(hz:i.zero=some v):gq v:=by
 have w0:∀(d:TypeDesc) (s:String) (z:Θ) (c:Bool) (n:Nat),gq z→some (Made.word d s z c n)=some i→gq v:=by
  intro d s z c n hb e;cases e;simp only[Made.word]at hz;cases hz;exact hb
 unfold Made.reckon at h;split at h
 ·simp only[bind,zaO,pure]at h;obtain⟨j,_,h⟩:=h;split at h
  ·cases h
  ·split at h
   ·cases h
   ·simp only[zaO]at h;obtain⟨s,_,h⟩:=h;exact w0 _ _ _ _ _ (λρ=>by simp[rv]) h
  ·simp only[zaO]at h;obtain⟨s,_,h⟩:=h;exact w0 _ _ _ _ _ (λρ=>by simp[rv]) h
 ·simp only[bind,zaO,pure]at h;obtain⟨j,_,s,_,h⟩:=h;exact w0 _ _ _ _ _ (λρ=>by simp[rv]) h
 ·simp only[bind,zaO,pure]at h;obtain⟨_,_,_,_,_,_,_,_,h⟩:=h;exact w0 _ _ _ _ _ (λρ=>by simp[rv]) h
 ·simp only[bind,zaO,pure]at h;obtain⟨_,_,_,_,h⟩:=h;exact w0 _ _ _ _ _ (λρ=>by simp[rv]) h
 ·simp only[bind,zaO,pure]at h;obtain⟨_,_,h⟩:=h;exact w0 _ _ _ _ _ (λρ=>by simp[rv]) h
 ·simp only[bind,zaO,pure]at h;obtain⟨j,hj,s,_,h⟩:=h;cases h;simp only at hz;split at hz
  ·cases hz
  ·split at hz
   ·cases hz;exact oD λx hx=>by simp at hx
   ·simp only[zas]at hz;obtain⟨zz,hzz,rfl⟩:=hz;refine oD λx hx=>?_;rw[Array.mem_flatten]at hx;obtain⟨ys,h1,h2⟩:=hx;rw[Array.mem_replicate]at h1;obtain⟨_,rfl⟩:=h1;exact xX (hi _ _ _ hj hzz) x h2
 ·exact sB hi h hz
 ·cases h
theorem uX {T:Tables}(hT:∀(t:Ω) (i:Ξ) (v:Θ),T.types[t]?=some i→i.zero=some v→gq v):∀(n:Nat) (t:Ω) (i:Ξ) (v:Θ),Made.infoAt T n t=some i→i.zero=some v→gq v
 |0,t,i,v,h,_=>by simp[Made.infoAt]at h
 |n+1,t,i,v,h,hz=>by
  unfold Made.infoAt at h;split at h
  ·exact hT t i v h hz
  ·simp only[zaO]at h;obtain⟨d,_,h⟩:=h;exact EN (uX hT n) h hz
def Ka:Θ→Bool
 |.agg cs=>cs.toList.all jl
 |v=>jl v
def O7:Θ→Bool
 |.tuple cs=>cs.toList.all Ka
 |v=>Ka v
def tyB (i:Ξ):Bool:=match i.zero with|some v=>O7 v|none=>true
theorem xY {v:Θ}(h:Ka v=true):gq v:=by
 unfold Ka at h;split at h
 ·rename_i cs;rw[zaC]at h;exact oD λx hx=>ik (h x (Array.mem_toList_iff.2 hx))
 ·exact ik h
theorem H7 {v:Θ}(h:O7 v=true):gq v:=by
 unfold O7 at h;split at h
 ·rename_i cs;rw[zaC]at h;intro ρ;rw[rv];have h':∀x∈cs,rv ρ x=id x:=λx hx=>xY (h x (Array.mem_toList_iff.2 hx)) ρ;rw[et h',Array.map_id]
 ·exact xY h
theorem Kb {P:Φ}(h:P.types.toList.all tyB=true):∀(t:Ω) (i:Ξ) (v:Θ),P.info? t=some i→i.zero=some v→∀ρ:Rn,rv ρ v=v:=by
 have hT:∀(t:Ω) (i:Ξ) (v:Θ),P.types[t]?=some i→i.zero=some v→gq v:=by
  intro t i v hi hz;rw[zaC]at h;have:=h i (Array.mem_toList_iff.2 (zbF hi));unfold tyB at this;rw[hz]at this;exact H7 this
 intro t i v hi hz;unfold Tables.info? at hi;split at hi
 ·exact hT t i v hi hz
 ·exact uX hT _ t i v hi hz
end Go.Ren
namespace Go.Ren
open Go Go.Conc
section
variable {P:Φ}{main:Bool}{ro own:Nat→Prop}{Stop:(Nat→Prop)→Γ→Δ→Prop}{W:Δ}{b:Λ}{a:Act}{ops:Array Oper}{i:Nat}{rest:List Nat}{o:Oper}{kk:List Item}{cs:List Λ}
theorem af.Ib (ho:ops[i]?=some o)(hw:Region.wanted o (yielded ops a.tmps)=true)(hk:b.kind≠.early){dd:Option Tmp}(hdd:o.dst=dd){e:Ω}{x:Operand}(hop:o.op=.load e x){ad:Addr}(hx:a.eval x=.pointer (some ad))(hr:ro ad.block){v:Θ}(hv:W.cell? ad=some v)
 (hl:∀(w:Δ),w.cell? ad=some v→(Instr.loadAt e (.pointer (some ad))).run P w=.ok v w∧∀ev∈(Instr.loadAt e (.pointer (some ad))).events P w #[],ev.loc=.cell ad∧ev.write=false)
 (k:af P main ro Stop own (G (b.at (a.put dd v) (.inRegion ops rest::kk)) cs) W):af P main ro Stop own (G (b.at a (.inRegion ops (i::rest)::kk)) cs) W:=by
 subst hdd;refine af.step' rfl λaS hR=>?_;have hc:aS.cell? ad=some v:=by
  rw[←hv];simp only[Δ.cell?,hR.block _ (.inr hr)]
 obtain⟨h1,h2⟩:=hl aS hc;have hrun:(ι a.eval o).run P aS=.ok (.value v) aS:=by
  unfold ι;simp[hop,hx,h1]
 have iG:(ι a.eval o).events P aS #[]=(Instr.loadAt e (.pointer (some ad))).events P aS #[]:=by
  unfold ι;simp[hop,hx]
 refine⟨_,aS,_,stepG_value ho hw hk hrun,⟨rfl,rfl,rfl,zac _,λ_ _ _=>rfl,λev he=>?_⟩,?_⟩
 ·unfold listed at he;rw[iG]at he;obtain⟨h3,h4⟩:=h2 ev (mem_seen he);unfold DO;rw[h3];exact .inr ⟨hr,h4⟩
 ·rw[tX own rfl];exact k.rely hR
end
end Go.Ren
namespace Go.Ren
open Go Go.Conc
open Go.ConcN (sumTo upd sumTo_upd upd_ne upd_same)
structure fO (Q Shun:Loc→Prop) (B d:Nat) (t:θ):Prop where
 clean:∀said,¬Race said t
 known:∀i a,touchAt t i=some a→a.loc.isMemory=true→Knows t 0 i∨(Shun a.loc∧a.kind=.atomic)
 over:t.HandedOver
 deaf:Deaf t 0=d
 seen:∀op∈t,op.act.low B
 quiet:∀i a,touchAt t i=some a→Q a.loc→a.kind≠.plain∧(a.kind=.said→t.g? i=some 0)
section
variable {Q Shun:Loc→Prop}{B d d':Nat}{t u:θ}
theorem fO.past (h:fO Q Shun B 0 t):Past Shun B t:=⟨h.clean,h.known,h.over,h.deaf,h.seen⟩
theorem fO.Ke (h:Past Shun B t)(hq:∀i a,touchAt t i=some a→¬Q a.loc):fO Q Shun B 0 t:=⟨h.clean,h.known,h.over,h.hears,h.seen,λi a ha hl=>absurd hl (hq i a ha)⟩
theorem fO.app0 (h:fO Q Shun B d t)(hu:∀op∈u,op.g=0)(hs:∀op∈u,∀b,op.act.touch? =some b→(Shun b.loc∨Q b.loc)→b.kind≠.plain)(hd:Deaf (t++u) 0=d')(hl:∀op∈u,op.act.low B):fO Q Shun B d' (t++u):=by
 refine⟨λsaid=>noRace_append (h.clean said) hu λi a ha op hop b hb hc=>?_,λi a ha hm=>?_,handedOver_app h.over λop hop=> .inl (hu op hop),hd,seen_app h.seen hl,λi a ha hq=>?_⟩
 ·rcases h.known i a ha hc.2.1 with hk|⟨Nu,hka⟩
  ·exact hk
  ·have hkb:=hs op hop b hb (.inl (hc.1▸Nu));obtain⟨_,_,_,lA⟩:=hc;rw[hka]at lA;rcases lA with x|x|⟨_,x,_⟩
   ·cases x
   ·exact absurd x hkb
   ·cases x
 ·rcases bU ha with⟨_,ha'⟩|⟨_,op,hop,hx,_⟩
  ·exact(h.known i a ha' hm).imp (·.app u) id
  ·have:=knows_own hx;rw[hu op hop]at this;exact .inl this
 ·rcases bU ha with⟨hi,ha'⟩|⟨_,op,hop,hx,hb⟩
  ·rw[g?_old hi];exact h.quiet i a ha' hq
  ·exact⟨hs op hop a hb (.inr hq),λ_=>by simp[Trace.g?,hx,hu op hop]⟩
theorem fO.appMute {g:Nat}(h:fO Q Shun B d t)(hg:g≠0)(hu:∀op∈u,op.g=g)(hn:∀op∈u,op.act.touch? =none)(hl:∀op∈u,op.act.low B):fO Q Shun B d (t++u):=by
 have old:∀{i a},touchAt (t++u) i=some a→i<t.size∧touchAt t i=some a:=λha=>by
  rcases bU ha with h|⟨_,op,hop,_,hx⟩
  ·exact h
  ·rw[hn op hop]at hx;cases hx
 refine⟨λsaid=>noRace_append (h.clean said) hu λi a _ op hop b hb _=>(by rw[hn op hop]at hb;cases hb),λi a ha hm=>?_,handedOver_app h.over λop hop=> .inr (hn op hop),(zaN t hg u hu).trans h.deaf,seen_app h.seen hl,λi a ha hq=>?_⟩
 ·exact(h.known i a (old ha).2 hm).imp (·.app u) id
 ·rw[g?_old (old ha).1];exact h.quiet i a (old ha).2 hq
end
section
variable {P:Φ}{Q Shun:Loc→Prop}{B d:Nat}{K:Machine→θ→Prop}{a:Γ}
theorem oG {J:Δ→θ→Prop}{n:Nat}(ha:a.status=.running)
 (hJ:∀w t d ops,J w t→(∃g,g≠0∧∀op∈ops,op.g=g)→(∀op∈ops,op.act.touch? =none∧∀a,op.act≠.mark (.release a))→(∀B,∀op∈ops,op.act.low B)→J (w.at d) (t++ops))
 (H:∀gs w sl t q,gs.size=n→ζ P t gs q→gs[0]?=some a→J w t→∃m' ops,runT P (ξ gs w sl) 0=(.next m',ops)∧Reach P m' (t++ops) K):
 ∀gs w sl t q,gs.size=n→ζ P t gs q→gs[0]?=some a→J w t→Reach P (ξ gs w sl) t K:=by
 intro gs w sl t q hn hL h0 hj;generalize hM:sumTo n q=M
 induction M using Nat.strongRecOn generalizing gs w sl t q with
 |_ M ih=>
 have X3:∀g∈gs,awake g:=by
  intro g hg;obtain⟨i,hi,rfl⟩:=zcm.1 hg;rcases zcB i with rfl|jT
  ·have:gs[0]=a:=by simpa[Array.getElem?_eq_getElem hi]using h0
   rw[this];exact awake_of (.inl ha)
  ·exact awake_of ((hL.old i _ jT (zaL hi)).status.elim .inl λx=> .inr (.inr x))
 obtain⟨i,g,dd,sl',hi,hg,hst⟩:=crowd_pick (P:=P) (w:=w) (sl:=sl) X3 ⟨0,a,h0,ha⟩;have hjd:J (w.at dd) t:=by
  have:=hJ w t dd #[] hj ⟨1,by decide,by simp⟩ (by simp) (by simp);simpa using this
 rcases zcB i with rfl|jT
 ·obtain⟨m',ops,e,hR⟩:=H gs (w.at dd) sl' t q hn hL h0 hjd;exact Reach.step (hst.trans e) hR
 ·have hq:=hL.old i g jT hi;have WB:(i==0)=false:=by simp;omega
  have hlt:i<gs.size:=(zaj.1 hi).1;cases Ho:q i with
  |zero=>rw[Ho]at hq;rw[hq.1]at hg;cases hg
  |succ k=>
   rw[Ho]at hq;rcases hq with⟨hf,_⟩|⟨_,g',es,hm,Hp,hq'⟩
   ·rw[hf]at hg;cases hg
   have sj:=runT_crowd_go (P:=P) (sl:=sl') (i:=i) hi (by rw[WB];exact Hp (w.at dd));have Lv:sumTo n (upd q i k)+(k+1)=sumTo n q+k:=by
    have:=sumTo_upd q k id (hn▸hlt);simpa[Ho]using this
   refine Reach.step (hst.trans sj) (ih (sumTo n (upd q i k)) (by omega) _ (w.at dd) sl' _ (upd q i k) (by simp[hn]) ⟨λj x hj hx=>?_,λj hj=>?_⟩ ?_ (hJ w t dd _ hj ⟨i,by omega,ofEvents_g⟩ (λop hop=>?_) (λB op hop=>?_)) rfl)
   ·by_cases xK:i=j
    ·subst xK;rw[zbG (by simpa using hlt)]at hx;obtain rfl:=zaM hx;rw[upd_same,Deaf_own];exact hq'
    ·rw[zaA xK,zaz]at hx;obtain⟨y,hy,rfl⟩:=zas.1 hx;have Hq:=hL.old j y hj hy;rw[woken_quitsD Hq,upd_ne q k (Ne.symm xK),zaN t xK _ ofEvents_g];exact Hq
   ·rw[zaN t (g':=i) (by simp at hj;omega) _ ofEvents_g];exact hL.above j (by simpa using hj)
   ·rw[zaA (by omega),zaz,h0];simp[woken_run ha]
   ·obtain⟨e,he,rfl⟩:=zbe hop;exact⟨touch_mute (hm e he),λa=>qX (hm e he) a⟩
   ·obtain⟨e,he,rfl⟩:=zbe hop;exact low_mute (hm e he) B
theorem yh {t:θ}{gs:Array Γ}{q:Nat→Nat}{a':Γ}{w w':Δ}{sl:Option (Nat×Nat)}{es:Array Event}(hL:ζ P t gs q)(h0:gs[0]?=some a)(hs:η P true a w=.go a' w' es):∃gs',runT P (ξ gs w sl) 0=(.next (ξ gs' w' sl),MemOp.ofEvents 0 a.frame.fn a.frame.place es)∧gs'.size=gs.size∧ζ P (t++MemOp.ofEvents 0 a.frame.fn a.frame.place es) gs' q∧gs'[0]?=some a':=by
 have hlt:0<gs.size:=(zaj.1 h0).1;refine⟨_,runT_crowd_go (P:=P) (sl:=sl) (i:=0) h0 (show η P (0==0) a w=_ from hs),by simp,⟨λj x hj hx=>?_,λj hj=>?_⟩,by simp[hlt]⟩
 ·rw[zaA (by omega),zaz]at hx;obtain⟨y,hy,rfl⟩:=zas.1 hx;have hq:=hL.old j y hj hy;rw[woken_quitsD hq,zaN t (by omega) _ ofEvents_g];exact hq
 ·rw[zaN t (g':=0) (by simp at hj;omega) _ ofEvents_g];exact hL.above j (by simpa using hj)
def At0 (P:Φ)(Q Shun:Loc→Prop)(B d n:Nat)(Stop:Γ→Δ→Prop)(m:Machine)(t:θ):Prop:=
 ∃gs a w sl q,m=ξ gs w sl∧gs.size=n∧gs[0]?=some a∧(∀w₁,AtRel w w₁→Stop a w₁)∧ζ P t gs q∧fO Q Shun B d t
theorem jJ {D:Δ→Δ→Array Event→Prop}{Stop:Γ→Δ→Prop}(hD:∀w w' es,D w w' es→∀e∈es,EvL (λl=>Shun l∨Q l) B e){n:Nat}:∀(N:Nat) (a:Γ) (w:Δ),Goes P true AtRel D Stop N a w→∀gs sl t q,gs.size=n→ζ P t gs q→gs[0]?=some a→fO Q Shun B d t→Reach P (ξ gs w sl) t (At0 P Q Shun B d n Stop):=by
 intro N
 induction N with
 |zero=>intro a w hG gs sl t q hn hL h0 hP;exact .here ⟨gs,a,w,sl,q,rfl,hn,h0,hG,hL,hP⟩
 |succ N ih=>
  intro a w hG gs sl t q hn hL h0 hP;rcases hG with aaR|⟨hrun,hstep⟩
  ·exact .here ⟨gs,a,w,sl,q,rfl,hn,h0,aaR,hL,hP⟩
  refine oG (J:=λw₁ t=>AtRel w w₁∧fO Q Shun B d t) hrun (λw₁ t dd ops hj ⟨g,hg,hgo⟩ h1 h2=>⟨atRel_trans _ _ _ hj.1 ⟨dd,rfl⟩,hj.2.appMute hg hgo (λop hop=>(h1 op hop).1) (h2 B)⟩) (λgs w₁ sl t q hn hL h0 hj=>?_) gs w sl t q hn hL h0 ⟨atRel_refl w,hP⟩;obtain⟨a',w',es,hgo,hd,hG'⟩:=goes_elim (hstep w₁ hj.1);obtain⟨gs',e1,e2,e3,e4⟩:=yh (sl:=sl) hL h0 hgo;have iG:=hD _ _ _ hd;refine⟨_,_,e1,ih a' w' hG' gs' sl _ q (e2.trans hn) e3 e4 (hj.2.app0 ofEvents_g (λop hop b hb hs=>?_) ?_ (λop hop=>?_))⟩
  ·obtain⟨e,he,rfl⟩:=zbe hop;exact(iG e he).1 b hb hs
  ·rw[Deaf_own,deafBehind_still (λe he=>⟨(iG e he).2.1,(iG e he).2.2.1⟩)];exact hj.2.deaf
  ·obtain⟨e,he,rfl⟩:=zbe hop;exact(iG e he).2.2.2
theorem uY {mk:Mark}{Next:Γ→Δ→Prop}{n:Nat}(hm:(MemAct.mark mk).touch? =none)(hl:(MemAct.mark mk).low B){gs:Array Γ}{a:Γ}{w:Δ}{sl:Option (Nat×Nat)}{t:θ}{q:Nat→Nat}(hn:gs.size=n)(hL:ζ P t gs q)(h0:gs[0]?=some a)(hP:fO Q Shun B d t)
 (hS:∀w₁,AtRel w w₁→Go.ConcX.AtMkS P mk Next a w₁):Reach P (ξ gs w sl) t λm t=>∃gs a w sl q,m=ξ gs w sl∧gs.size=n∧gs[0]?=some a∧Next a w∧ζ P t gs q∧fO Q Shun B (deafBehind d #[Go.ConcX.mk mk]) t:=by
 refine oG (J:=λw₁ t=>AtRel w w₁∧fO Q Shun B d t) (hS w (atRel_refl w)).1 (λw₁ t dd ops hj ⟨g,hg,hgo⟩ h1 h2=>⟨atRel_trans _ _ _ hj.1 ⟨dd,rfl⟩,hj.2.appMute hg hgo (λop hop=>(h1 op hop).1) (h2 B)⟩) (λgs w₁ sl t q hn hL h0 hj=>?_) gs w sl t q hn hL h0 ⟨atRel_refl w,hP⟩;obtain⟨_,a',hgo,sw⟩:=hS w₁ hj.1;obtain⟨gs',e1,e2,e3,e4⟩:=yh (sl:=sl) hL h0 hgo;refine⟨_,_,e1,.here ⟨gs',a',w₁,sl,q,rfl,e2.trans hn,e4,sw,e3,hj.2.app0 ofEvents_g (λop hop b hb hs=>?_) ?_ (λop hop=>?_)⟩⟩
 ·obtain⟨e,he,rfl⟩:=zbe hop;simp at he;subst he;rw[show(MemAct.ofEvent (Go.ConcX.mk mk))=.mark mk from rfl,hm]at hb;cases hb
 ·rw[Deaf_own,hj.2.deaf]
 ·obtain⟨e,he,rfl⟩:=zbe hop;simp at he;subst he;exact hl
end
end Go.Ren
namespace Go.Ren
open Go Go.Conc
open Go.ConcX (KK WgAt)
section
variable {P:Φ}{Q Shun Shun':Loc→Prop}{B c:Nat}{ro:Nat→Prop}{t:θ}
theorem T9 (hP:fO Q Shun B 0 t)(ia:∀l,Shun l→Shun' l)(hro:∀l,jS ro l→¬Shun l)(hc0:c≠0)(Ps:Deaf t c=0){x y:MemOp}(hx:x.g=0∧x.act=.go c)(hy:y.g=c∧y.act=.start):TI Q Shun' c (λ_=>False) ro B (t++#[x,y])∧∀g,Deaf (t++#[x,y]) g=Deaf t g:=by
 have e:t++#[x,y]=(t++#[x])++#[y]:=by apply Array.toList_inj.1;simp
 have dx:∀g,Deaf (t++#[x]) g=Deaf t g:=λg=>dO t g _ λop hop m=>by simp at hop;subst hop;rw[hx.2];simp
 have dy:∀g,Deaf (t++#[x]++#[y]) g=Deaf (t++#[x]) g:=λg=>dO _ g _ λop hop m=>by simp at hop;subst hop;rw[hy.2];simp
 have h1:fO Q Shun B 0 (t++#[x]):=hP.app0 (λop hop=>by simp at hop;subst hop;exact hx.1) (λop hop b hb=>by simp at hop;subst hop;rw[hx.2]at hb;cases hb) ((dx 0).trans hP.deaf) (λop hop=>by simp at hop;subst hop;rw[hx.2];trivial);have h2:fO Q Shun B 0 (t++#[x]++#[y]):=h1.appMute hc0 (λop hop=>by simp at hop;subst hop;exact hy.1) (λop hop=>by simp at hop;subst hop;rw[hy.2];rfl) (λop hop=>by simp at hop;subst hop;rw[hy.2];trivial);rw[e];refine⟨⟨h2.clean,λi a ha hm=>(h2.known i a ha hm).imp id λh=> .inl ⟨ia _ h.1,h.2⟩,λi a _ hg=>?_,λi a ha hr hw=>?_,h2.quiet,λi g hg h0 _ uS=>h2.over i g hg h0 uS,h2.seen⟩,λg=>(dy g).trans (dx g)⟩
 ·generalize a.loc=l at hg;cases l<;>exact hg.elim
 ·have AH:a.loc.isMemory=true:=by
   generalize a.loc=l at hr;cases l<;>first|rfl|exact hr.elim
  have hold:touchAt t i=some a:=by
   rcases bU ha with⟨hi,ha'⟩|⟨_,op,hop,_,hb⟩
   ·rcases bU ha' with⟨hi',adj⟩|⟨_,op,hop,_,hb⟩
    ·exact adj
    ·simp at hop;subst hop;rw[hx.2]at hb;cases hb
   ·simp at hop;subst hop;rw[hy.2]at hb;cases hb
  have hk:Knows t 0 i:=(hP.known i a hold AH).resolve_right λh=>hro _ hr h.1;have gx:(t++#[x])[t.size]?=some x:=by simp
  have gx':(t++#[x]++#[y])[t.size]?=some x:=by rw[getElem?_append_old (by simp)];exact gx
  have gy:(t++#[x]++#[y])[t.size+1]?=some y:=by
   rw[Array.getElem?_append_right (by simp)];simp
  have b1:HappensBefore (t++#[x]++#[y]) i t.size:=hb_app _ (hk.hb_new (zac _) gx hx.1);have hh1:(t++#[x]++#[y]).heard t.size:=⟨0,by unfold Trace.g?;rw[gx'];simp[hx.1],by
   rw[deaf_old (by simp),deaf_old (zac _)];exact hP.deaf⟩
  have hh2:(t++#[x]++#[y]).heard (t.size+1):=⟨c,by unfold Trace.g?;rw[gy];simp[hy.1],by
   have hs:(t++#[x]).size=t.size+1:=by simp
   rw[←hs,deaf_old (zac _)];exact(dx c).trans Ps⟩
  have b2:HappensBefore (t++#[x]++#[y]) t.size (t.size+1):= .single (.inr ⟨.spawn (child:=c) (by rw[act?_of gx',hx.2]) (by rw[act?_of gy,hy.2]) (by unfold Trace.g?;rw[gy];simp[hy.1]),hh1,hh2⟩);exact⟨t.size+1,y,gy,hy.1,.inr (b1.trans b2)⟩
theorem E0 {n:Nat}(ia:∀l,Shun l→Shun' l)(hro:∀l,jS ro l→¬Shun l){gs:Array Γ}{a a' child:Γ}{w:Δ}{sl:Option (Nat×Nat)}{q:Nat→Nat}(hn:gs.size=n)(hL:ζ P t gs q)(h0:gs[0]?=some a)(hP:fO Q Shun B 0 t)(ha:a.status=.running)
 (hS:∀w₁,AtRel w w₁→η P true a w₁=.spawn a' child w₁ #[]):
 Reach P (ξ gs w sl) t λm t=>∃gs w₁ sl q,m=ξ gs w₁ sl∧AtRel w w₁∧eM P n t gs q∧gs[0]?=some a'∧gs[n]?=some child∧TI Q Shun' n (λ_=>False) ro B t∧Deaf t 0=0∧Deaf t n=0:=by
 refine oG (J:=λw₁ t=>AtRel w w₁∧fO Q Shun B 0 t) ha (λw₁ t dd ops hj ⟨g,hg,hgo⟩ h1 h2=>⟨atRel_trans _ _ _ hj.1 ⟨dd,rfl⟩,hj.2.appMute hg hgo (λop hop=>(h1 op hop).1) (h2 B)⟩) (λgs w₁ sl t q hn hL h0 hj=>?_) gs w sl t q hn hL h0 ⟨atRel_refl w,hP⟩;have hlt:0<gs.size:=(zaj.1 h0).1;have hrun:=runT_crowd_spawn (P:=P) (sl:=sl) (i:=0) h0 (show η P (0==0) a w₁=_ from hS w₁ hj.1);have Ps:Deaf t n=0:=hL.above n (by omega);have adk:∀(x y:MemOp),((MemOp.ofEvents 0 a.frame.fn a.frame.place #[]).push x).push y=#[x,y]:=λ_ _=>rfl;rw[adk,hn]at hrun;obtain⟨hT,hD⟩:=T9 (c:=n) (x:={ g:=0,fn:=a.frame.fn,pos:=a.frame.place,act:= .go n }) (y:={ g:=n,fn:=child.frame.fn,pos:=a.frame.place,act:= .start }) hj.2 ia hro (by omega) Ps ⟨rfl,rfl⟩ ⟨rfl,rfl⟩;refine⟨_,_,hrun,.here ⟨_,w₁,sl,q,rfl,hj.1,⟨by simp[hn],by omega,λi g h1 h2 hg=>?_,λj hj'=>?_⟩,?_,?_,hT,(hD 0).trans hj.2.deaf,(hD n).trans Ps⟩⟩
 ·rw[hD i];refine hL.old i g h1 ?_;rw[zbY,zaa (by simp;omega),zaA (by omega)]at hg;exact hg
 ·rw[hD j];exact hL.above j (by omega)
 ·rw[Array.getElem?_push_lt (by simp;omega)];simp
 ·have:(gs.setIfInBounds 0 a').size=n:=by simp[hn]
  rw[←this,Array.getElem?_push_size]
end
section
variable {P:Φ}{ty:Ω}{Q Shun Shun':Loc→Prop}{ch Wg n:Nat}{ro:Nat→Prop}{z:Θ}{w:Δ}{x y:uh Wg w.heap.size}{After:(Nat→Prop)→Δ→Γ→Δ→Prop}
theorem Ua (hY:EH Q Shun' n ch Wg w.heap.size ro (λb=>b=ch∨b=Wg))(ia:∀l,Shun l→Shun' l)(Br:x.C≠y.C)(hxS:∀a:Addr,a.block=x.C→¬Shun' (.cell a))(hyS:∀a:Addr,a.block=y.C→¬Shun' (.cell a))
 {vs:List Θ}{gs:Array Γ}{sl:Option (Nat×Nat)}{t:θ}{q:Nat→Nat}{a a' child:Γ}(hn:gs.size=n)(hL:ζ P t gs q)(h0:gs[0]?=some a)(hP:fO Q Shun w.heap.size 0 t)(ha:a.status=.running)
 (hS:∀w₁,AtRel w w₁→η P true a w₁=.spawn a' child w₁ #[])(hch:∃s r tm,w.heap[ch]?=some (.chan 0 #[] false s r tm))(hw:WgAt ty Wg w KK 0)
 (hM:∀w₁,AtRel w w₁→lR P ro ch z (OZ P ty x y After) vs (λ_=>False) a' w₁)(hG:∀w₁,AtRel w w₁→jU P ro ch (LO P ty x y) vs (λ_=>False) child w₁):
 Reach P (ξ gs w sl) t λm t=>∃w₁,AtRel w w₁∧Joined P Shun' n ch Wg w.heap.size After w₁ m t:=by
 refine(E0 (Shun':=Shun') (ro:=ro) ia (λl hl hs=>hY.rS l hl (ia l hs)) hn hL h0 hP ha hS).bind ?_;rintro m t ⟨gs,w₁,sl,q,rfl,hr,hC,h0,hc,hT,hd0,hdc⟩;have mh:w₁.heap=w.heap:=by obtain⟨d,rfl⟩:=hr;rfl
 refine(LP hY Br hxS hyS hC h0 hc (hM w₁ hr) (hG w₁ hr) ⟨by rw[mh];exact hT,hd0,λ_=>hdc,λ_ h=>h.elim,λ_ h=>h.elim,λ_ h=>h.elim,by rw[mh];exact zac _,by rw[mh];exact hch,rfl,rfl,rfl,λ_ _ _=>rfl,rfl⟩ (hw.of_block (by rw[mh]))).mono λm t h=>⟨w₁,hr,h⟩
end
end Go.Ren
namespace Go.Ren
open Go Go.Conc
section
variable {P:Φ}{F:π→Bool}{S:Sd}{Ψ:dn}{cs:List Λ}{w W:Δ}{ρ:Rn}{b:Λ}{a:Act}{k:List Item}
theorem Ix (hC:lp P F S){main:Bool}{fr:Λ}(hH:Ek P F S fr)(fK:iH P S w.heap.size fr)(hS:ja P S ρ w W){v:Θ}{fn:Func}(h1:fr.mode=.returning)(h4:P.funcs[fr.fn]?=some fn)(h5:(results fn fr.tmps).run P w=.ok v w)(c:Λ)(cs:List Λ):rv (sg S S.d w.heap.size) v=v∧∃es,η P main (G (cv ρ fr) (c::cs)) W=.go (G (c.finish (rv ρ v)) cs) W es∧∀e∈es,nU S.d ρ w e:=by
 have hp:Plain P ρ:=⟨λt i v a b=>hC.zero t i v a b _,hS.inj⟩;cases hrun:(results fn fr.tmps).runT P w #[]with
 |mk r es=>
  have q1:=zak Prod.fst hrun;simp at q1;rw[h5]at q1;subst q1;have se:∀n,w.heap.size≤n→ae P (sg S S.d n) (VV (sg S S.d n)) (results fn fr.tmps) (results fn fr.tmps):=λn hn=>by
   have:=jm (mg hC n) fn fr.tmps eu;have e:fr.tmps.map (rv (sg S S.d n))=fr.tmps:=bF.2 (iJ hn fK);rwa[e]at this
  obtain⟨x,W1,es',r1,r2,r3,r4,r5,r6⟩:=dG hp (λo=> .inl hS.lr) _ _ _ _ w W #[] #[] _ _ _ (jm hp fn fr.tmps eu) se hS.wr (λj hj=>by omega) hrun;have hb:x=rv ρ v:=r2;have hv:rv (sg S S.d w.heap.size) v=v:=by
   have:=r3 w.heap.size (zac _);unfold VV at this;exact this.symm
  have hs:=r5.size;have hW1:W1=W:=by
   refine pD (Array.ext_getElem? λi=>?_) r5.tape (by have:=r5.drawn;omega) r5.os r5.output;rcases zaw i W.heap.size with hlt|jB
   ·by_cases ht:Touch S.d ρ w i
    ·obtain⟨k,hr1,hr2,rfl⟩:=ht;have En:=r4.live _ _ hr1 (zaL hr2);have xF:=hS.wr.live _ _ hr1 (zaL hr2);exact En.trans xF.symm
    ·exact r5.frame i hlt ht
   ·rw[zbQ (by omega),zbQ jB]
  subst hb hW1;have cG:Ek P F S (cv ρ fr):=⟨hH.defers,hH.mode,hH.kind,hH.round,hH.todo,hH.fn⟩;have hps:(ba P (cv ρ fr) [c]).runT P W1 #[]=(.ok (c.finish (rv ρ v),[]) W1,es'):=by
   have hm:(cv ρ fr).mode=.returning:=h1;have hf:P.funcs[(cv ρ fr).fn]?=some fn:=h4;unfold ba;rw[hm];simp only[hf];rw[bO];have:(results fn (cv ρ fr).tmps).runT P W1 #[]=(.ok (rv ρ v) W1,es'):=r1;rw[this];rfl
  have hst:=fq (main:=main) (cs:=cs) cG hps;refine⟨hv,_,hst,λe he=>?_⟩;rcases r6 e (mem_seen he)with h|h
  ·simp at h
  ·exact h
theorem PT (hn:b.kind=.normal)(hd:a.defers=[])(hf:∃fn,P.funcs[b.fn]?=some fn){todo:List Item}(ht:(todo.take 1).all (aF P F S)=true):Ek P F S (gA b a todo):=⟨hd,.inr rfl,hn,rfl,ht,hf⟩
theorem Mf {main:Bool}{c:Λ}(todo aa2:List Item)(hn:b.kind=.normal)(hd:a.defers=[]){g:Γ}{w':Δ}{es:Array Event}(h:η P main (G (gA b a todo) (c::cs)) w=.go g w' es):η P main (G (gA b a aa2) (c::cs)) w=.go g w' es:=by
 unfold gA G η unwind doReturn at h ⊢;simp only[Λ.at,hd,hn]at h ⊢;cases hf:P.funcs[b.fn]? with
 |none=>simpa[hf]using h
 |some fn=>
  cases hr:(results fn a.tmps).run P w with
  |ok v w2=>simpa[hf,hr]using h
  |halt hh w2=>cases hh<;>simp[hf,hr,GStep.after]at h
theorem aa.yD (hC:lp P F S){fn:Func}{todo:List Item}{v:Θ}{b':Λ}{a':Act}{ops:Array Oper}{i:Nat}{rest:List Nat}{kk:List Item}(hn:b.kind=.normal)(hd:a.defers=[])(hf:P.funcs[b.fn]?=some fn)
 (hr:(results fn a.tmps).run P w=.ok v w)(h:aa P S Ψ (b'.at (a'.put ((ops[i]?).bind (·.dst)) v) (.inRegion ops rest::kk)) cs w):aa P S Ψ (gA b a todo) (b'.at a' (.inRegion ops (i::rest)::kk)::cs) w:=
 aa.walk λρ W hS fK hcs _=>by
  refine af.step' rfl λaS hr1=>?_;have hS1:=hS.rely hr1;obtain⟨hv,es,hstep,iG⟩:=Ix (main:=true) (fr:=gA b a []) hC (PT hn hd ⟨fn,hf⟩ rfl) fK hS1 rfl hf hr (cv ρ (b'.at a' (.inRegion ops (i::rest)::kk))) (cs.map (cv ρ)++Ψ.bot);have rF:∀r,r<w.heap.size→ek ρ w.heap.size aS.heap.size r=ρ r:=λr hlt=>bg hlt;have e0:cv ρ (gA b a todo)=cv (ek ρ w.heap.size aS.heap.size) (gA b a todo):=eZ fK (λr hlt=>(rF r hlt).symm) (λ_=>rfl);have e1:cv ρ (b'.at a' (.inRegion ops (i::rest)::kk))=cv (ek ρ w.heap.size aS.heap.size) (b'.at a' (.inRegion ops (i::rest)::kk)):=eZ (hcs _ zaD) (λr hlt=>(rF r hlt).symm) (λ_=>rfl);have e2:cs.map (cv ρ)=cs.map (cv (ek ρ w.heap.size aS.heap.size)):=fw (λr hlt=>(rF r hlt).symm) (λ_=>rfl) λf hf=>hcs f (zaQ _ hf);have fU:(cv ρ (b'.at a' (.inRegion ops (i::rest)::kk))).finish (rv (ek ρ w.heap.size aS.heap.size) v)=cv (ek ρ w.heap.size aS.heap.size) (b'.at (a'.put ((ops[i]?).bind (·.dst)) v) (.inRegion ops rest::kk)):=by
   rw[e1,mP,mP,zcj,Hs]
  rw[fU]at hstep;refine⟨_,aS,es,by rw[e0,TH];exact Mf (a:=a.rn (ek ρ w.heap.size aS.heap.size)) [] todo hn hd hstep,⟨rfl,rfl,rfl,zac _,λ_ _ _=>rfl,λe he=>?_⟩,?_⟩
  ·have:=pE (ro:=Ψ.ro) (iG e he);rw[dN]at this;exact this.mono λb hb=> .inl hb
  ·rw[tX _ rfl,e2];exact af.co h hS1 (λx hx=>by rwa[dN]at hx) (OE.put (P:=P) (hcs _ zaD) _ hv) (λf hf=>hcs f (zaQ _ hf)) ⟨zac _,λr hr=>bg hr⟩
end
section
variable {P:Φ}{F:π→Bool}{S:Sd}{Post:Θ→Δ→Prop}{W:Δ}
def z8 (P:Φ)(W:Δ)(lo n0:Nat)(r0:Rn)(Post:Θ→Δ→Prop):dn:=
 { base:=W,lo:=lo,n0:=n0,r0:=r0,at_:=λm t=>∃gs g W' sl q Shun,m=ξ gs W' sl∧gs[0]?=some g∧ζ P t gs q∧Past Shun W'.heap.size t∧∀d,AtEnd P Shun W'.heap.size Post g (W'.at d) }
theorem aa.last {lo n0:Nat}{r0:Rn}{b:Λ}{a:Act}{todo:List Item}{fn:Func}{v:Θ}{w:Δ}(hn:b.kind=.normal)(hd:a.defers=[])(hf:P.funcs[b.fn]?=some fn)(hi:P.inits.idxOf? b.fn=none)
 (hr:∀(ρ:Rn) (W:Δ),(results fn (a.rn ρ).tmps).run P W=.ok v W)(he:∀(ρ:Rn) (W:Δ),(results fn (a.rn ρ).tmps).events P W #[]=#[])(hP:∀W' ρ,X8 (z8 P W lo n0 r0 Post) W'→ja P S ρ w W'→SL n0 r0 w ρ→Post v W'):aa P S (z8 P W lo n0 r0 Post) (gA b a todo) [] w:=by
 intro ρ W' gs sl t q Shun hS hc hcs h0 hL hPa hN hO hT wH _;have h0:gs[0]?=some (G (cv ρ (gA b a todo)) []):=h0;refine Reach.here ⟨gs,_,W',sl,q,Shun,rfl,h0,hL,hPa,λd=>⟨rfl,v,#[],?_,by simp,hP _ ρ ⟨hO.tape,hO.os,hO.output,hO.size,hO.block⟩ ⟨⟨hS.wr.live,hS.wr.ok,hS.wr.dead,hS.wr.closed,hS.wr.next,hS.wr.low,hS.wr.big⟩,hS.inj,hS.lr,hS.f,hS.qb⟩ wH⟩⟩;have h1:=hr ρ (W'.at d);have h2:=he ρ (W'.at d);simp[cv,gA,Λ.at,G,η,unwind,doReturn,hd,hn,hf,hi,GStep.after,seen]at h1 h2 ⊢;unfold Act.rn at h1 h2;simp[h1,h2]
theorem Cj {m m1:Machine}{t t1:θ}{N:Nat}(h:runNT P N m t=(.next m1,t1))(K:Nat):runNT P (N+K) m t=runNT P K m1 t1:=by
 induction N generalizing m t with
 |zero=>
  simp only[runNT,zaf,zbD]at h;obtain⟨rfl,rfl⟩:=h;rw[Nat.zero_add]
 |succ N ih=>
  rw[show N+1+K=(N+K)+1 by omega];simp only[runNT]at h ⊢;cases hs:stepT P m with
  |mk e ops=>
   rw[hs]at h;cases e with
   |next m2=>exact ih h
   |_=>simp at h
theorem Vl {ρ r0:Rn}{w w0 W':Δ}(Vm:ja P S r0 w0 W)(hO:X8 (z8 P W S.d w0.heap.size r0 Post) W')(hS:ja P S ρ w W')(wH:SL w0.heap.size r0 w ρ)(hB:∀r,r<w0.heap.size→w.heap[r]?=w0.heap[r]?){b:Nat}(hb:b<W.heap.size):W'.heap[b]?=W.heap[b]?:=by
 by_cases hm:(z8 P W S.d w0.heap.size r0 Post).mine b
 ·obtain⟨r,h1,h2,rfl⟩:=hm;have SQ:S.d≤r:=h1;have jA:r<w0.heap.size:=h2;have ho:w0.heap[r]?=some w0.heap[r]:=zaL jA;have e1:=Vm.wr.live r _ SQ ho;have e2:=hS.wr.live r _ SQ ((hB r jA).trans ho);rw[wH.same r jA]at e2;show W'.heap[r0 r]?=W.heap[r0 r]?
  rw[e1,e2]
  congr 1
  exact tO (σ:=sg S S.d w0.heap.size) (λx hx=>wH.same x (bY.1 hx).2) (λx _=>by rw[hS.f,Vm.f]) (Vm.wr.closed r _ SQ ho)
 ·exact hO.block b hb hm
theorem JC {f:π}{args:Array Θ}{w0:Δ}{r0:Rn}(Vm:ja P S r0 w0 W)(ha:∀v∈args,rv (sg S S.d w0.heap.size) v=v)(h:aa P S (z8 P W S.d w0.heap.size r0 Post) (Λ.enter P f args .normal) [] w0):∃N last o w' t',runNT P (N+1) (solo (G (Λ.enter P f (args.map (rv r0)) .normal) []) W) #[]=(.ended o w',t')∧runN P N (solo (G (Λ.enter P f (args.map (rv r0)) .normal) []) W)=.next last∧step P last=.ended o w'∧Go.Conc.Good P Post last o w' t':=by
 have e1:cv r0 (Λ.enter P f args .normal)=Λ.enter P f (args.map (rv r0)) .normal:=by
  rw[←il]
 have fK:iH P S w0.heap.size (Λ.enter P f args .normal):=Eu ha;have Z2:=h r0 W #[G (Λ.enter P f (args.map (rv r0)) .normal) []] none #[] (λ_=>0) (λ_=>False) Vm fK (λf hf=>by cases hf) (by rw[e1];rfl) (leavers_one P _) (past_nil.mono (zaq _)) ⟨λx ⟨r,_,h2,e⟩=>by rw[e];exact Vm.low h2,λ_ hx=>hx.elim,λ_ _ hx=>hx,λ_ hx=>hx.elim⟩ ⟨rfl,rfl,rfl,zac _,λ_ _ _=>rfl⟩ (λx ⟨r,h1,h2,e⟩=> .inr ⟨r,h1,h2,e⟩) ⟨zac _,λ_ _=>rfl⟩ ⟨zaq _,λr hr=>absurd hr (Nat.not_lt_zero r)⟩;obtain⟨N0,m,t,hrun,gs,g,W',sl,q,Shun,rfl,h0,hL,hPa,hE⟩:=Z2;obtain⟨N,last,o,w',t',r1,r2,r3,r4⟩:=beside_ends (P:=P) (Post:=Post) (Shun:=Shun) (B:=W'.heap.size) (D:=λ_ _ _=>False) (sl:=sl) (n:=0) (λ_ _ _ hx=>hx.elim) h0 hL hPa (λw₁ hw=>by obtain⟨d,rfl⟩:=hw;exact hE d);refine⟨N0+N,last,o,w',t',?_,?_,r3,r4⟩
 ·rw[show N0+N+1=N0+(N+1) by omega];exact(Cj hrun (N+1)).trans r1
 ·have:=zak Prod.fst (Cj hrun N);rw[runNT_fst,runNT_fst]at this;exact this.trans r2
def XQ (P:Φ)(S:Sd)(W:Δ):Δ:={ W with heap:=(Array.range P.globals.size).map λr=>if r<S.d then iE else(W.heap[r]?).getD iE }
theorem Sk (W:Δ):(XQ P S W).heap.size=P.globals.size:=by simp[XQ]
theorem DJ (W:Δ){r:Nat}(h:r<P.globals.size):(XQ P S W).heap[r]?=some (if r<S.d then iE else(W.heap[r]?).getD iE):=by
 simp only[XQ,zaz];rw[zaL (by simpa using h)];simp
theorem tG (hb:P.globals.size≤W.heap.size){r:Nat}(h1:S.d≤r)(h2:r<P.globals.size):(XQ P S W).heap[r]?=W.heap[r]?:=by
 rw[DJ W h2,zaa (by omega),zaL (by omega:r<W.heap.size)];rfl
theorem Vn (hd:S.d≤P.globals.size)(hg:S.g≤P.globals.size)(hb:P.globals.size≤W.heap.size)(hl:∀r o,S.d≤r→r<P.globals.size→W.heap[r]?=some o→l6 o∧∀ρ:Rn,ro ρ o=o):ja P S (ek jR P.globals.size W.heap.size) (XQ P S W) W:=by
 have hs:=Sk (P:=P) (S:=S) W;refine⟨⟨λr o jB ho=>?_,λr o ho=>?_,λr hr=>?_,λr o jB ho=>?_,λr hr=>by rw[hs]at hr ⊢;exact eC hr,λr h1 h2=>?_,⟨by omega,by omega,zaq _,by omega,hd,λg h1 h2=>bg (by omega),λg h1=> .inr (bg (by omega))⟩⟩,λa b e=>?_,λr=>?_,λ_=>rfl,hb⟩
 ·have hlt:=gg ho;rw[hs]at hlt;rw[tG hb jB hlt]at ho;rw[bg hlt,(hl r o jB hlt ho).2];exact ho
 ·have hlt:=gg ho;rw[hs]at hlt;rcases zaw r S.d with h|h
  ·rw[DJ W hlt,zab h]at ho;cases ho;trivial
  ·rw[tG hb h hlt]at ho;exact(hl r o h hlt ho).1
 ·rw[DJ W (by omega),zab hr]
 ·have hlt:=gg ho;rw[hs]at hlt;rw[tG hb jB hlt]at ho;exact(hl r o jB hlt ho).2 _
 ·rw[hs]at h2;rw[bg h2];show r<_;omega
 ·rcases zaw a P.globals.size with ha|ha<;>rcases zaw b P.globals.size with hb'|hb'
  ·rw[bg ha,bg hb']at e;exact e
  ·rw[bg ha,eC hb']at e;have:jR.b a=a:=rfl;omega
  ·rw[eC ha,bg hb']at e;have:jR.b b=b:=rfl;omega
  ·rw[eC ha,eC hb']at e;omega
 ·rcases zaw r P.globals.size with ha|ha
  ·rw[bg ha];exact Iff.rfl
  ·rw[eC ha];constructor<;>intro<;>omega
end
end Go.Ren
