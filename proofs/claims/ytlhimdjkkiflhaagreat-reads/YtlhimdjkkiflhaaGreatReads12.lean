import Derived.Test.YtlhimdjkkiflhaaGreatReads11
set_option maxHeartbeats 8000000
set_option maxRecDepth 100000
open Go renaming World→Γ,Frame→Δ,Goroutine→Θ,Program→Λ,stepG→Ξ,Value→Φ,FuncId→Ω
namespace Go.Ren
open Go Go.Conc
open Go.ConcX (KK WgAt)
section
variable {P:Λ}{Q Shun Shun':Loc→Prop}{B c:Nat}{ro:Nat→Prop}{t:Trace}
theorem PU (hP:fp Q Shun B 0 t)(lg:∀l,Shun l→Shun' l)(hro:∀l,jS ro l→¬Shun l)(hc0:c≠0)(Hf:Deaf t c=0){x y:MemOp}(hx:x.g=0∧x.act=.go c)(hy:y.g=c∧y.act=.start):TI Q Shun' c (λ_=>False) ro B (t++#[x,y])∧∀g,Deaf (t++#[x,y]) g=Deaf t g:=by
 have e:t++#[x,y]=(t++#[x])++#[y]:=by apply Array.toList_inj.1;simp
 have dx:∀g,Deaf (t++#[x]) g=Deaf t g:=λg=>dH t g _ λop hop m=>by simp at hop;subst hop;rw[hx.2];simp
 have dy:∀g,Deaf (t++#[x]++#[y]) g=Deaf (t++#[x]) g:=λg=>dH _ g _ λop hop m=>by simp at hop;subst hop;rw[hy.2];simp
 have h1:fp Q Shun B 0 (t++#[x]):=hP.app0 (λop hop=>by simp at hop;subst hop;exact hx.1) (λop hop b hb=>by simp at hop;subst hop;rw[hx.2]at hb;cases hb) ((dx 0).trans hP.deaf) (λop hop=>by simp at hop;subst hop;rw[hx.2];trivial);have h2:fp Q Shun B 0 (t++#[x]++#[y]):=h1.appMute hc0 (λop hop=>by simp at hop;subst hop;exact hy.1) (λop hop=>by simp at hop;subst hop;rw[hy.2];rfl) (λop hop=>by simp at hop;subst hop;rw[hy.2];trivial);rw[e];refine⟨⟨h2.clean,λi a ha hm=>(h2.known i a ha hm).imp id λh=> .inl ⟨lg _ h.1,h.2⟩,λi a _ hg=>?_,λi a ha hr hw=>?_,h2.quiet,λi g hg h0 _ B3=>h2.over i g hg h0 B3,h2.seen⟩,λg=>(dy g).trans (dx g)⟩
 ·generalize a.loc=l at hg;cases l<;>exact hg.elim
 ·have yz:a.loc.isMemory=true:=by
   generalize a.loc=l at hr;cases l<;>first|rfl|exact hr.elim
  have hold:touchAt t i=some a:=by
   rcases bI ha with⟨hi,ha'⟩|⟨_,op,hop,_,hb⟩
   ·rcases bI ha' with⟨hi',acE⟩|⟨_,op,hop,_,hb⟩
    ·exact acE
    ·simp at hop;subst hop;rw[hx.2]at hb;cases hb
   ·simp at hop;subst hop;rw[hy.2]at hb;cases hb
  have hk:Knows t 0 i:=(hP.known i a hold yz).resolve_right λh=>hro _ hr h.1;have gx:(t++#[x])[t.size]?=some x:=by simp
  have gx':(t++#[x]++#[y])[t.size]?=some x:=by rw[getElem?_append_old (by simp)];exact gx
  have gy:(t++#[x]++#[y])[t.size+1]?=some y:=by
   rw[Array.getElem?_append_right (by simp)];simp
  have b1:HappensBefore (t++#[x]++#[y]) i t.size:=hb_app _ (hk.hb_new (zab _) gx hx.1);have hh1:(t++#[x]++#[y]).heard t.size:=⟨0,by unfold Trace.g?;rw[gx'];simp[hx.1],by
   rw[deaf_old (by simp),deaf_old (zab _)];exact hP.deaf⟩
  have hh2:(t++#[x]++#[y]).heard (t.size+1):=⟨c,by unfold Trace.g?;rw[gy];simp[hy.1],by
   have hs:(t++#[x]).size=t.size+1:=by simp
   rw[←hs,deaf_old (zab _)];exact(dx c).trans Hf⟩
  have b2:HappensBefore (t++#[x]++#[y]) t.size (t.size+1):= .single (.inr ⟨.spawn (child:=c) (by rw[act?_of gx',hx.2]) (by rw[act?_of gy,hy.2]) (by unfold Trace.g?;rw[gy];simp[hy.1]),hh1,hh2⟩);exact⟨t.size+1,y,gy,hy.1,.inr (b1.trans b2)⟩
theorem CZ {n:Nat}(lg:∀l,Shun l→Shun' l)(hro:∀l,jS ro l→¬Shun l){gs:Array Θ}{a a' child:Θ}{w:Γ}{sl:Option (Nat×Nat)}{q:Nat→Nat}(hn:gs.size=n)(hL:Leavers P t gs q)(h0:gs[0]?=some a)(hP:fp Q Shun B 0 t)(ha:a.status=.running)
 (hS:∀w₁,AtRel w w₁→Ξ P true a w₁=.spawn a' child w₁ #[]):
 Reach P (crowd gs w sl) t λm t=>∃gs w₁ sl q,m=crowd gs w₁ sl∧AtRel w w₁∧ew P n t gs q∧gs[0]?=some a'∧gs[n]?=some child∧TI Q Shun' n (λ_=>False) ro B t∧Deaf t 0=0∧Deaf t n=0:=by
 refine nT (J:=λw₁ t=>AtRel w w₁∧fp Q Shun B 0 t) ha (λw₁ t dd ops hj ⟨g,hg,hgo⟩ h1 h2=>⟨atRel_trans _ _ _ hj.1 ⟨dd,rfl⟩,hj.2.appMute hg hgo (λop hop=>(h1 op hop).1) (h2 B)⟩) (λgs w₁ sl t q hn hL h0 hj=>?_) gs w sl t q hn hL h0 ⟨atRel_refl w,hP⟩;have hlt:0<gs.size:=(zag.1 h0).1;have hrun:=runT_crowd_spawn (P:=P) (sl:=sl) (i:=0) h0 (show Ξ P (0==0) a w₁=_ from hS w₁ hj.1);have Hf:Deaf t n=0:=hL.above n (by omega);have acF:∀(x y:MemOp),((MemOp.ofEvents 0 a.frame.fn a.frame.place #[]).push x).push y=#[x,y]:=λ_ _=>rfl;rw[acF,hn]at hrun;obtain⟨hT,hD⟩:=PU (c:=n) (x:={ g:=0,fn:=a.frame.fn,pos:=a.frame.place,act:= .go n }) (y:={ g:=n,fn:=child.frame.fn,pos:=a.frame.place,act:= .start }) hj.2 lg hro (by omega) Hf ⟨rfl,rfl⟩ ⟨rfl,rfl⟩;refine⟨_,_,hrun,.here ⟨_,w₁,sl,q,rfl,hj.1,⟨by simp[hn],by omega,λi g h1 h2 hg=>?_,λj hj'=>?_⟩,?_,?_,hT,(hD 0).trans hj.2.deaf,(hD n).trans Hf⟩⟩
 ·rw[hD i];refine hL.old i g h1 ?_;rw[zbl,zaa (by simp;omega),zax (by omega)]at hg;exact hg
 ·rw[hD j];exact hL.above j (by omega)
 ·rw[Array.getElem?_push_lt (by simp;omega)];simp
 ·have:(gs.setIfInBounds 0 a').size=n:=by simp[hn]
  rw[←this,Array.getElem?_push_size]
end
section
variable {P:Λ}{ty:TypeId}{Q Shun Shun':Loc→Prop}{ch Wg n:Nat}{ro:Nat→Prop}{z:Φ}{w:Γ}{x y:tu Wg w.heap.size}{After:(Nat→Prop)→Γ→Θ→Γ→Prop}
theorem PV (hY:CJ Q Shun' n ch Wg w.heap.size ro (λb=>b=ch∨b=Wg))(lg:∀l,Shun l→Shun' l)(zB:x.C≠y.C)(W9:∀a:Addr,a.block=x.C→¬Shun' (.cell a))(Xa:∀a:Addr,a.block=y.C→¬Shun' (.cell a))
 {vs:List Φ}{gs:Array Θ}{sl:Option (Nat×Nat)}{t:Trace}{q:Nat→Nat}{a a' child:Θ}(hn:gs.size=n)(hL:Leavers P t gs q)(h0:gs[0]?=some a)(hP:fp Q Shun w.heap.size 0 t)(ha:a.status=.running)
 (hS:∀w₁,AtRel w w₁→Ξ P true a w₁=.spawn a' child w₁ #[])(hch:∃s r tm,w.heap[ch]?=some (.chan 0 #[] false s r tm))(hw:WgAt ty Wg w KK 0)
 (hM:∀w₁,AtRel w w₁→lF P ro ch z (LO P ty x y After) vs (λ_=>False) a' w₁)(hG:∀w₁,AtRel w w₁→jU P ro ch (Jd P ty x y) vs (λ_=>False) child w₁):
 Reach P (crowd gs w sl) t λm t=>∃w₁,AtRel w w₁∧Joined P Shun' n ch Wg w.heap.size After w₁ m t:=by
 refine(CZ (Shun':=Shun') (ro:=ro) lg (λl hl hs=>hY.rS l hl (lg l hs)) hn hL h0 hP ha hS).bind ?_;rintro m t ⟨gs,w₁,sl,q,rfl,hr,hC,h0,hc,hT,Pv,Pw⟩;have lX:w₁.heap=w.heap:=by obtain⟨d,rfl⟩:=hr;rfl
 refine(Je hY zB W9 Xa hC h0 hc (hM w₁ hr) (hG w₁ hr) ⟨by rw[lX];exact hT,Pv,λ_=>Pw,λ_ h=>h.elim,λ_ h=>h.elim,λ_ h=>h.elim,by rw[lX];exact zab _,by rw[lX];exact hch,rfl,rfl,rfl,λ_ _ _=>rfl,rfl⟩ (hw.of_block (by rw[lX]))).mono λm t h=>⟨w₁,hr,h⟩
end
end Go.Ren
namespace Go.Ren
open Go Go.Conc
section
variable {P:Λ}{F:Ω→Bool}{S:Sd}{Ψ:dZ}{cs:List Δ}{w W:Γ}{ρ:Rn}{b:Δ}{a:Act}{k:List Item}
theorem FT (hC:kZ P F S){main:Bool}{fr:Δ}(hH:Co P F S fr)(gz:iw P S w.heap.size fr)(hS:iO P S ρ w W){v:Φ}{fn:Func}(h1:fr.mode=.returning)(h4:P.funcs[fr.fn]?=some fn)(h5:(results fn fr.tmps).run P w=.ok v w)(c:Δ)(cs:List Δ):rv (sg S S.d w.heap.size) v=v∧∃es,Ξ P main (G (b8 ρ fr) (c::cs)) W=.go (G (c.finish (rv ρ v)) cs) W es∧∀e∈es,nh S.d ρ w e:=by
 have hp:Plain P ρ:=⟨λt i v a b=>hC.zero t i v a b _,hS.inj⟩;cases hrun:(results fn fr.tmps).runT P w #[]with
 |mk r es=>
  have q1:=zal Prod.fst hrun;simp at q1;rw[h5]at q1;subst q1;have qP:∀n,w.heap.size≤n→aa P (sg S S.d n) (VV (sg S S.d n)) (results fn fr.tmps) (results fn fr.tmps):=λn hn=>by
   have:=ja (lW hC n) fn fr.tmps dY;have e:fr.tmps.map (rv (sg S S.d n))=fr.tmps:=bt.2 (ix hn gz);rwa[e]at this
  obtain⟨x,W1,es',r1,r2,r3,r4,r5,r6⟩:=dn hp (λo=> .inl hS.ld) _ _ _ _ w W #[] #[] _ _ _ (ja hp fn fr.tmps dY) qP hS.wr (λj hj=>by omega) hrun;have hb:x=rv ρ v:=r2;have hv:rv (sg S S.d w.heap.size) v=v:=by
   have:=r3 w.heap.size (zab _);unfold VV at this;exact this.symm
  have hs:=r5.size;have hW1:W1=W:=by
   refine oK (Array.ext_getElem? λi=>?_) r5.tape (by have:=r5.drawn;omega) r5.os r5.output;rcases zar i W.heap.size with hlt|ft
   ·by_cases ht:Touch S.d ρ w i
    ·obtain⟨k,hr1,hr2,rfl⟩:=ht;have Cr:=r4.live _ _ hr1 (zaE hr2);have wu:=hS.wr.live _ _ hr1 (zaE hr2);exact Cr.trans wu.symm
    ·exact r5.frame i hlt ht
   ·rw[zbW (by omega),zbW ft]
  subst hb hW1;have bM:Co P F S (b8 ρ fr):=⟨hH.defers,hH.mode,hH.kind,hH.round,hH.todo,hH.fn⟩;have hps:(aS P (b8 ρ fr) [c]).runT P W1 #[]=(.ok (c.finish (rv ρ v),[]) W1,es'):=by
   have hm:(b8 ρ fr).mode=.returning:=h1;have hf:P.funcs[(b8 ρ fr).fn]?=some fn:=h4;unfold aS;rw[hm];simp only[hf];rw[bB];have:(results fn (b8 ρ fr).tmps).runT P W1 #[]=(.ok (rv ρ v) W1,es'):=r1;rw[this];rfl
  have hst:=eR (main:=main) (cs:=cs) bM hps;refine⟨hv,_,hst,λe he=>?_⟩;rcases r6 e (mem_seen he)with h|h
  ·simp at h
  ·exact h
theorem Mx (hn:b.kind=.normal)(hd:a.defers=[])(hf:∃fn,P.funcs[b.fn]?=some fn){todo:List Item}(ht:(todo.take 1).all (az P F S)=true):Co P F S (fJ b a todo):=⟨hd,.inr rfl,hn,rfl,ht,hf⟩
theorem JA {main:Bool}{c:Δ}(todo Yq:List Item)(hn:b.kind=.normal)(hd:a.defers=[]){g:Θ}{w':Γ}{es:Array Event}(h:Ξ P main (G (fJ b a todo) (c::cs)) w=.go g w' es):Ξ P main (G (fJ b a Yq) (c::cs)) w=.go g w' es:=by
 unfold fJ G Ξ unwind doReturn at h ⊢;simp only[Δ.at,hd,hn]at h ⊢;cases hf:P.funcs[b.fn]? with
 |none=>simpa[hf]using h
 |some fn=>
  cases hr:(results fn a.tmps).run P w with
  |ok v w2=>simpa[hf,hr]using h
  |halt hh w2=>cases hh<;>simp[hf,hr,GStep.after]at h
theorem ae.xo (hC:kZ P F S){fn:Func}{todo:List Item}{v:Φ}{b':Δ}{a':Act}{ops:Array Oper}{i:Nat}{rest:List Nat}{kk:List Item}(hn:b.kind=.normal)(hd:a.defers=[])(hf:P.funcs[b.fn]?=some fn)
 (hr:(results fn a.tmps).run P w=.ok v w)(h:ae P S Ψ (b'.at (a'.put ((ops[i]?).bind (·.dst)) v) (.inRegion ops rest::kk)) cs w):ae P S Ψ (fJ b a todo) (b'.at a' (.inRegion ops (i::rest)::kk)::cs) w:=
 ae.walk λρ W hS gz hcs _=>by
  refine af.step' rfl λaG hr1=>?_;have hS1:=hS.rely hr1;obtain⟨hv,es,hstep,ia⟩:=FT (main:=true) (fr:=fJ b a []) hC (Mx hn hd ⟨fn,hf⟩ rfl) gz hS1 rfl hf hr (b8 ρ (b'.at a' (.inRegion ops (i::rest)::kk))) (cs.map (b8 ρ)++Ψ.bot);have sV:∀r,r<w.heap.size→dT ρ w.heap.size aG.heap.size r=ρ r:=λr hlt=>aV hlt;have e0:b8 ρ (fJ b a todo)=b8 (dT ρ w.heap.size aG.heap.size) (fJ b a todo):=eK gz (λr hlt=>(sV r hlt).symm) (λ_=>rfl);have e1:b8 ρ (b'.at a' (.inRegion ops (i::rest)::kk))=b8 (dT ρ w.heap.size aG.heap.size) (b'.at a' (.inRegion ops (i::rest)::kk)):=eK (hcs _ zbt) (λr hlt=>(sV r hlt).symm) (λ_=>rfl);have e2:cs.map (b8 ρ)=cs.map (b8 (dT ρ w.heap.size aG.heap.size)):=eV (λr hlt=>(sV r hlt).symm) (λ_=>rfl) λf hf=>hcs f (zbm _ hf);have lD:(b8 ρ (b'.at a' (.inRegion ops (i::rest)::kk))).finish (rv (dT ρ w.heap.size aG.heap.size) v)=b8 (dT ρ w.heap.size aG.heap.size) (b'.at (a'.put ((ops[i]?).bind (·.dst)) v) (.inRegion ops rest::kk)):=by
   rw[e1,p9,p9,zbT,E4]
  rw[lD]at hstep;refine⟨_,aG,es,by rw[e0,Pn];exact JA (a:=a.rn (dT ρ w.heap.size aG.heap.size)) [] todo hn hd hstep,⟨rfl,rfl,rfl,zab _,λ_ _ _=>rfl,λe he=>?_⟩,?_⟩
  ·have:=oM (ro:=Ψ.ro) (ia e he);rw[dG]at this;exact this.mono λb hb=> .inl hb
  ·rw[sX _ rfl,e2];exact af.co h hS1 (λx hx=>by rwa[dG]at hx) (Lu.put (P:=P) (hcs _ zbt) _ hv) (λf hf=>hcs f (zbm _ hf)) ⟨zab _,λr hr=>aV hr⟩
end
section
variable {P:Λ}{F:Ω→Bool}{S:Sd}{Post:Φ→Γ→Prop}{W:Γ}
def xE (P:Λ)(W:Γ)(lo n0:Nat)(r0:Rn)(Post:Φ→Γ→Prop):dZ:=
 { base:=W,lo:=lo,n0:=n0,r0:=r0,at_:=λm t=>∃gs g W' sl q Shun,m=crowd gs W' sl∧gs[0]?=some g∧Leavers P t gs q∧Past Shun W'.heap.size t∧∀d,AtEnd P Shun W'.heap.size Post g (W'.at d) }
theorem ae.last {lo n0:Nat}{r0:Rn}{b:Δ}{a:Act}{todo:List Item}{fn:Func}{v:Φ}{w:Γ}(hn:b.kind=.normal)(hd:a.defers=[])(hf:P.funcs[b.fn]?=some fn)(hi:P.inits.idxOf? b.fn=none)
 (hr:∀(ρ:Rn) (W:Γ),(results fn (a.rn ρ).tmps).run P W=.ok v W)(he:∀(ρ:Rn) (W:Γ),(results fn (a.rn ρ).tmps).events P W #[]=#[])(hP:∀W' ρ,S1 (xE P W lo n0 r0 Post) W'→iO P S ρ w W'→Oo n0 r0 w ρ→Post v W'):ae P S (xE P W lo n0 r0 Post) (fJ b a todo) [] w:=by
 intro ρ W' gs sl t q Shun hS hc hcs h0 hL hPa hN hO hT vk _;have h0:gs[0]?=some (G (b8 ρ (fJ b a todo)) []):=h0;refine Reach.here ⟨gs,_,W',sl,q,Shun,rfl,h0,hL,hPa,λd=>⟨rfl,v,#[],?_,by simp,hP _ ρ ⟨hO.tape,hO.os,hO.output,hO.size,hO.block⟩ ⟨⟨hS.wr.live,hS.wr.ok,hS.wr.dead,hS.wr.closed,hS.wr.next,hS.wr.low,hS.wr.big⟩,hS.inj,hS.ld,hS.f,hS.px⟩ vk⟩⟩;have h1:=hr ρ (W'.at d);have h2:=he ρ (W'.at d);simp[b8,fJ,Δ.at,G,Ξ,unwind,doReturn,hd,hn,hf,hi,GStep.after,seen]at h1 h2 ⊢;unfold Act.rn at h1 h2;simp[h1,h2]
theorem zX {m m1:Machine}{t t1:Trace}{N:Nat}(h:runNT P N m t=(.next m1,t1))(K:Nat):runNT P (N+K) m t=runNT P K m1 t1:=by
 induction N generalizing m t with
 |zero=>
  simp only[runNT,zah,zbx]at h;obtain⟨rfl,rfl⟩:=h;rw[Nat.zero_add]
 |succ N ih=>
  rw[show N+1+K=(N+K)+1 by omega];simp only[runNT]at h ⊢;cases hs:stepT P m with
  |mk e ops=>
   rw[hs]at h;cases e with
   |next m2=>exact ih h
   |_=>simp at h
theorem Qx {ρ r0:Rn}{w w0 W':Γ}(hS0:iO P S r0 w0 W)(hO:S1 (xE P W S.d w0.heap.size r0 Post) W')(hS:iO P S ρ w W')(vk:Oo w0.heap.size r0 w ρ)(hB:∀r,r<w0.heap.size→w.heap[r]?=w0.heap[r]?){b:Nat}(hb:b<W.heap.size):W'.heap[b]?=W.heap[b]?:=by
 by_cases hm:(xE P W S.d w0.heap.size r0 Post).mine b
 ·obtain⟨r,h1,h2,rfl⟩:=hm;have VB:S.d≤r:=h1;have jQ:r<w0.heap.size:=h2;have ho:w0.heap[r]?=some w0.heap[r]:=zaE jQ;have e1:=hS0.wr.live r _ VB ho;have e2:=hS.wr.live r _ VB ((hB r jQ).trans ho);rw[vk.same r jQ]at e2;show W'.heap[r0 r]?=W.heap[r0 r]?
  rw[e1,e2]
  congr 1
  exact sM (σ:=sg S S.d w0.heap.size) (λx hx=>vk.same x (bO.1 hx).2) (λx _=>by rw[hS.f,hS0.f]) (hS0.wr.closed r _ VB ho)
 ·exact hO.block b hb hm
theorem F8 {f:Ω}{args:Array Φ}{w0:Γ}{r0:Rn}(hS0:iO P S r0 w0 W)(ha:∀v∈args,rv (sg S S.d w0.heap.size) v=v)(h:ae P S (xE P W S.d w0.heap.size r0 Post) (Δ.enter P f args .normal) [] w0):∃N last o w' t',runNT P (N+1) (solo (G (Δ.enter P f (args.map (rv r0)) .normal) []) W) #[]=(.ended o w',t')∧runN P N (solo (G (Δ.enter P f (args.map (rv r0)) .normal) []) W)=.next last∧step P last=.ended o w'∧Go.Conc.Good P Post last o w' t':=by
 have e1:b8 r0 (Δ.enter P f args .normal)=Δ.enter P f (args.map (rv r0)) .normal:=by
  rw[←gU]
 have gz:iw P S w0.heap.size (Δ.enter P f args .normal):=Cx ha;have Uc:=h r0 W #[G (Δ.enter P f (args.map (rv r0)) .normal) []] none #[] (λ_=>0) (λ_=>False) hS0 gz (λf hf=>by cases hf) (by rw[e1];rfl) (leavers_one P _) (past_nil.mono (zap _)) ⟨λx ⟨r,_,h2,e⟩=>by rw[e];exact hS0.low h2,λ_ hx=>hx.elim,λ_ _ hx=>hx,λ_ hx=>hx.elim⟩ ⟨rfl,rfl,rfl,zab _,λ_ _ _=>rfl⟩ (λx ⟨r,h1,h2,e⟩=> .inr ⟨r,h1,h2,e⟩) ⟨zab _,λ_ _=>rfl⟩ ⟨zap _,λr hr=>absurd hr (Nat.not_lt_zero r)⟩;obtain⟨N0,m,t,hrun,gs,g,W',sl,q,Shun,rfl,h0,hL,hPa,hE⟩:=Uc;obtain⟨N,last,o,w',t',r1,r2,r3,r4⟩:=beside_ends (P:=P) (Post:=Post) (Shun:=Shun) (B:=W'.heap.size) (D:=λ_ _ _=>False) (sl:=sl) (n:=0) (λ_ _ _ hx=>hx.elim) h0 hL hPa (λw₁ hw=>by obtain⟨d,rfl⟩:=hw;exact hE d);refine⟨N0+N,last,o,w',t',?_,?_,r3,r4⟩
 ·rw[show N0+N+1=N0+(N+1) by omega];exact(zX hrun (N+1)).trans r1
 ·have:=zal Prod.fst (zX hrun N);rw[runNT_fst,runNT_fst]at this;exact this.trans r2
def Ud (P:Λ)(S:Sd)(W:Γ):Γ:={ W with heap:=(Array.range P.globals.size).map λr=>if r<S.d then ir else(W.heap[r]?).getD ir }
theorem MZ (W:Γ):(Ud P S W).heap.size=P.globals.size:=by simp[Ud]
theorem Bx (W:Γ){r:Nat}(h:r<P.globals.size):(Ud P S W).heap[r]?=some (if r<S.d then ir else(W.heap[r]?).getD ir):=by
 simp only[Ud,zaw];rw[zaE (by simpa using h)];simp
theorem xF (hb:P.globals.size≤W.heap.size){r:Nat}(h1:S.d≤r)(h2:r<P.globals.size):(Ud P S W).heap[r]?=W.heap[r]?:=by
 rw[Bx W h2,zaa (by omega),zaE (by omega:r<W.heap.size)];rfl
theorem Qy (hd:S.d≤P.globals.size)(hg:S.g≤P.globals.size)(hb:P.globals.size≤W.heap.size)(hl:∀r o,S.d≤r→r<P.globals.size→W.heap[r]?=some o→qC o∧∀ρ:Rn,ro ρ o=o):iO P S (dT jR P.globals.size W.heap.size) (Ud P S W) W:=by
 have hs:=MZ (P:=P) (S:=S) W;refine⟨⟨λr o ft ho=>?_,λr o ho=>?_,λr hr=>?_,λr o ft ho=>?_,λr hr=>by rw[hs]at hr ⊢;exact ed hr,λr h1 h2=>?_,⟨by omega,by omega,zap _,by omega,hd,λg h1 h2=>aV (by omega),λg h1=> .inr (aV (by omega))⟩⟩,λa b e=>?_,λr=>?_,λ_=>rfl,hb⟩
 ·have hlt:=fI ho;rw[hs]at hlt;rw[xF hb ft hlt]at ho;rw[aV hlt,(hl r o ft hlt ho).2];exact ho
 ·have hlt:=fI ho;rw[hs]at hlt;rcases zar r S.d with h|h
  ·rw[Bx W hlt,zac h]at ho;cases ho;trivial
  ·rw[xF hb h hlt]at ho;exact(hl r o h hlt ho).1
 ·rw[Bx W (by omega),zac hr]
 ·have hlt:=fI ho;rw[hs]at hlt;rw[xF hb ft hlt]at ho;exact(hl r o ft hlt ho).2 _
 ·rw[hs]at h2;rw[aV h2];show r<_;omega
 ·rcases zar a P.globals.size with ha|ha<;>rcases zar b P.globals.size with hb'|hb'
  ·rw[aV ha,aV hb']at e;exact e
  ·rw[aV ha,ed hb']at e;have:jR.b a=a:=rfl;omega
  ·rw[ed ha,aV hb']at e;have:jR.b b=b:=rfl;omega
  ·rw[ed ha,ed hb']at e;omega
 ·rcases zar r P.globals.size with ha|ha
  ·rw[aV ha];exact Iff.rfl
  ·rw[ed ha];constructor<;>intro<;>omega
end
end Go.Ren
