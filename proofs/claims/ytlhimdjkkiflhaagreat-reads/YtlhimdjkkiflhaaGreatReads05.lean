import Derived.Conc.Listed
import Derived.Test.YtlhimdjkkiflhaaGreatReads04
set_option maxHeartbeats 8000000
set_option maxRecDepth 100000
open Go renaming Frame→Γ,World→Λ,stepG→Φ,Program→Ω,Event→ζ,execOp→θ,FuncId→ι,Value→ξ,yielded→π
open Go.Sem renaming runT→Δ
open Classical renaming choose→Θ
open Go.stepG renaming exec→Ξ
open Go.GStep renaming after→η
open Go.Region renaming wanted→υ
namespace Go.Ren
open Go Go.Conc
theorem bB (P:Ω){α β:Type}:∀(s:Sem α) (f:α→Sem β) (w:Λ) (es0:Array ζ),(s>>=f).runT P w es0=match s.runT P w es0 with|(.ok a w1,di)=>(f a).runT P w1 di|(.halt h w1,di)=>(.halt h w1,di)
 |.pure a,f,w,es=>rfl
 |.load m a k,f,w,es=>by
  show(Sem.load m a λv=>(k v>>=f)).runT P w es=_;simp only[Δ];split
  ·exact bB P _ f _ _
  ·split
   ·exact bB P _ f _ _
   ·rfl
 |.store m a v k,f,w,es=>by
  show(Sem.store m a v (k>>=f)).runT P w es=_;cases v<;>simp only[Δ]<;>(try rfl)<;>(split<;>(try split)<;>first|exact bB P _ f _ _|rfl)
 |.new o k,f,w,es=>by show(Sem.new o λv=>(k v>>=f)).runT P w es=_;simp only[Δ];exact bB P _ f _ _
 |.shape r k,f,w,es=>by show(Sem.shape r λv=>(k v>>=f)).runT P w es=_;simp only[Δ];exact bB P _ f _ _
 |.freeze a n k,f,w,es=>by show(Sem.freeze a n (k>>=f)).runT P w es=_;simp only[Δ];exact bB P _ f _ _
 |.frozen a k,f,w,es=>by show(Sem.frozen a λv=>(k v>>=f)).runT P w es=_;simp only[Δ];exact bB P _ f _ _
 |.getObj r k,f,w,es=>by
  show(Sem.getObj r λv=>(k v>>=f)).runT P w es=_;simp only[Δ];split<;>first|exact bB P _ f _ _|rfl
 |.setObj r o k,f,w,es=>by
  show(Sem.setObj r o (k>>=f)).runT P w es=_;simp only[Δ];split<;>first|exact bB P _ f _ _|rfl
 |.choose q k,f,w,es=>by
  show(Sem.choose q λv=>(k v>>=f)).runT P w es=_;simp only[Δ];split<;>exact bB P _ f _ _
 |.sys c k,f,w,es=>by show(Sem.sys c λv=>(k v>>=f)).runT P w es=_;simp only[Δ];exact bB P _ f _ _
 |.program k,f,w,es=>by show(Sem.program λv=>(k v>>=f)).runT P w es=_;simp only[Δ];exact bB P _ f _ _
 |.mark m k,f,w,es=>by show(Sem.mark m (k>>=f)).runT P w es=_;simp only[Δ];exact bB P _ f _ _
 |.halt h,f,w,es=>rfl
structure Co (P:Ω) (F:ι→Bool) (S:Sd) (fr:Γ):Prop where
 defers:fr.defers=[]
 mode:fr.mode=.run∨fr.mode=.returning
 kind:fr.kind=.normal
 round:fr.roundOf=none
 todo:(fr.todo.take 1).all (az P F S)=true
 fn:∃f,P.funcs[fr.fn]?=some f
section
variable {P:Ω}{F:ι→Bool}{S:Sd}{main:Bool}{cs:List Γ}
theorem eR {fr fr':Γ}{above wk:List Γ}(h:Co P F S fr){w w':Λ}{es:Array ζ}(hr:(aS P fr above).runT P w #[]=(.ok (fr',wk) w',es)):Φ P main (G fr (above++cs)) w=.go (G fr' (wk++cs)) w' (seen P fr.fn es):=by
 obtain⟨fn0,tmps,todo,defers,mode,kind,np⟩:=fr;obtain⟨hd,hm,hk,et,hand,RG⟩:=h;simp only at hd hm hk et hand RG;subst hd hk et;have none_:seen P fn0 #[]=#[]:=by simp[seen]
 rcases hm with rfl|rfl
 ·match todo,hand,hr with
  |[],hand,hr=>
   simp only[aS,pure,Δ,zah,zam]at hr;obtain⟨⟨⟨rfl,rfl⟩,rfl⟩,rfl⟩:=hr;simp[G,Φ,Ξ,none_]
  |.code .ret::k,hand,hr=>
   simp only[aS,pure,Δ,zah,zam]at hr;obtain⟨⟨⟨rfl,rfl⟩,rfl⟩,rfl⟩:=hr;simp[G,Φ,Ξ,none_]
  |.code .skip::k,hand,hr=>
   simp only[aS,pure,Δ,zah,zam]at hr;obtain⟨⟨⟨rfl,rfl⟩,rfl⟩,rfl⟩:=hr;simp[G,Φ,Ξ,none_]
  |.inBlock _::k,hand,hr=>
   simp only[aS,pure,Δ,zah,zam]at hr;obtain⟨⟨⟨rfl,rfl⟩,rfl⟩,rfl⟩:=hr;simp[G,Φ,Ξ,none_]
  |.code (.seq a b)::k,hand,hr=>
   simp only[aS,pure,Δ,zah,zam]at hr;obtain⟨⟨⟨rfl,rfl⟩,rfl⟩,rfl⟩:=hr;simp[G,Φ,Ξ,none_]
  |.code (.block id a)::k,hand,hr=>
   simp only[aS,pure,Δ,zah,zam]at hr;obtain⟨⟨⟨rfl,rfl⟩,rfl⟩,rfl⟩:=hr;simp[G,Φ,Ξ,none_]
  |.code (.loop a)::k,hand,hr=>
   simp only[aS,pure,Δ,zah,zam]at hr;obtain⟨⟨⟨rfl,rfl⟩,rfl⟩,rfl⟩:=hr;simp[G,Φ,Ξ,none_]
  |.inLoop a::k,hand,hr=>
   simp only[aS,pure,Δ,zah,zam]at hr;obtain⟨⟨⟨rfl,rfl⟩,rfl⟩,rfl⟩:=hr;simp[G,Φ,Ξ,none_]
  |.inRegion _ []::k,hand,hr=>
   simp only[aS,pure,Δ,zah,zam]at hr;obtain⟨⟨⟨rfl,rfl⟩,rfl⟩,rfl⟩:=hr;simp[G,Φ,Ξ,none_]
  |.code (.cond c a b)::k,hand,hr=>
   simp only[aS]at hr;generalize hq:Γ.eval _ c=q at hr;cases q with
   |bool t=>
    simp only[pure,Δ,zah,zam]at hr;obtain⟨⟨⟨rfl,rfl⟩,rfl⟩,rfl⟩:=hr;simp[G,Φ,Ξ,none_,hq]
   |_=>simp[stuck]at hr
  |.code (.exit id)::k,hand,hr=>
   simp only[aS]at hr;cases he:exitTo id k with
   |none=>rw[he]at hr;simp[stuck]at hr
   |some k'=>
    rw[he]at hr;simp only[pure,Δ,zah,zam]at hr;obtain⟨⟨⟨rfl,rfl⟩,rfl⟩,rfl⟩:=hr;simp[G,Φ,Ξ,none_,he]
  |.code (.region id ops draw)::k,hand,hr=>
   cases draw with
   |false=>
    simp only[aS,pure,Δ,zah,zam,zaN,if_false]at hr;obtain⟨⟨⟨rfl,rfl⟩,rfl⟩,rfl⟩:=hr;simp[G,Φ,Ξ,none_]
   |true=>
    simp only[aS,if_true,bind,choose,Sem.bind,Δ,Question.forced,zaN,if_false,pure,zah,zam,Question.cut]at hr;obtain⟨⟨⟨rfl,rfl⟩,rfl⟩,rfl⟩:=hr;simp[G,Φ,Ξ,none_,choose,Sem.run,Question.forced,Question.cut]
  |.inRegion ops (i::rest)::k,hand,hr=>
   simp only[aS]at hr;by_cases hw:((ops[i]?).map (υ · (π ops tmps))).getD false=true
   ·rw[zac hw]at hr;cases ho:ops[i]? with
    |none=>rw[ho]at hr;simp[stuck]at hr
    |some o=>
     rw[ho]at hr;dsimp only at hr;have hstep:Φ P main (G ⟨fn0,tmps,.inRegion ops (i::rest)::k,[],.run,.normal,none⟩ (above++cs)) w=
      stepG.apply P true ⟨fn0,tmps,.inRegion ops (i::rest)::k,[],.run,.normal,none⟩ (above++cs) none (θ (Γ.eval ⟨fn0,tmps,.inRegion ops (i::rest)::k,[],.run,.normal,none⟩) o) w:=by
      rw[ho]at hw;have hw':υ o (π ops tmps)=true:=by simpa using hw
      simp[G,Φ,Ξ,stepG.oper,Γ.oper?,ho,hw']
     rw[hstep];generalize hex:(θ (Γ.eval ⟨fn0,tmps,.inRegion ops (i::rest)::k,[],.run,.normal,none⟩) o)=ex at hr;rw[bB]at hr;cases hrun:ex.runT P w #[]with
     |mk r di=>
      rw[hrun]at hr;cases r with
      |halt hh w1=>simp at hr
      |ok nx w1=>
       dsimp only at hr;cases nx<;>simp only[pure,stuck,Δ,zah,zam,reduceCtorEq,false_and]at hr;all_goals
        obtain⟨⟨⟨rfl,rfl⟩,rfl⟩,rfl⟩:=hr;have h1:=zal Prod.fst hrun;have h2:=zal Prod.snd hrun;simp at h1 h2;simp[stepG.apply,h1,h2,G,η]
   ·rw[zaa hw]at hr;simp only[pure,Δ,zah,zam]at hr;obtain⟨⟨⟨rfl,rfl⟩,rfl⟩,rfl⟩:=hr;simp only[Bool.not_eq_true]at hw;simp[G,Φ,Ξ,none_,hw,Γ.finish]
  |.code (.rangeFunc ..)::k,hand,hr=>simp[az,br]at hand
  |.code (.scope ..)::k,hand,hr=>simp[az,br]at hand
  |.code (.label ..)::k,hand,hr=>simp[az,br]at hand
  |.code (.goto ..)::k,hand,hr=>simp[az,br]at hand
  |.code (.refuse ..)::k,hand,hr=>simp[aS,stuck]at hr
  |.inScope c::k,hand,hr=>simp[az]at hand
  |.inRangeFunc c::k,hand,hr=>simp[az]at hand
  |.endRangeFunc c::k,hand,hr=>simp[az]at hand
  |.beginRound::k,hand,hr=>simp[az]at hand
  |.call ..::k,hand,hr=>simp[az]at hand
  |.extern ..::k,hand,hr=>simp[az]at hand
 ·obtain⟨fn,h1⟩:=RG;simp only[aS,h1]at hr;rw[bB]at hr;cases hrun:(results fn tmps).runT P w #[]with
  |mk r di=>
   rw[hrun]at hr;cases r with
   |halt hh w1=>simp at hr
   |ok v w1=>
    dsimp only at hr;cases above with
    |nil=>simp[stuck]at hr
    |cons c rest=>
     simp only[pure,Δ,zah,zam]at hr;obtain⟨⟨⟨rfl,rfl⟩,rfl⟩,rfl⟩:=hr;have q1:=zal Prod.fst hrun;have q2:=zal Prod.snd hrun;simp at q1 q2;simp[G,Φ,unwind,h1,q1,q2,doReturn,η]
theorem Gz {f:Γ}(h:kD P F S f):Co P F S f:=⟨h.defers,h.mode,h.kind,h.round,by
 have:=h.todo;cases hq:f.todo with
 |nil=>rfl
 |cons x l=>rw[hq]at this;simp only[zaq,zai]at this;simpa using this.1,h.fn⟩
theorem mz {fr fr':Γ}{above wk:List Γ}(h:kD P F S fr){w w':Λ}{es:Array ζ}(hr:(aS P fr above).runT P w #[]=(.ok (fr',wk) w',es)):Φ P main (G fr (above++cs)) w=.go (G fr' (wk++cs)) w' (seen P fr.fn es):=eR (Gz h) hr
end
def jR:Rn:={ b:=id,f:=id,d:=0 }
theorem nI:∀v:ξ,rv jR v=v
 |.pointer none=>by simp[rv]
 |.pointer (some a)=>by simp[rv,ra,jR]
 |.slice none _ _=>by simp[rv]
 |.slice (some a) l c=>by simp[rv,ra,jR]
 |.map none=>by simp[rv]
 |.map (some r)=>by simp[rv,jR]
 |.chan none=>by simp[rv]
 |.chan (some r)=>by simp[rv,jR]
 |.func fn first captured=>by
  simp only[rv,ξ.func.injEq];refine⟨rfl,bt.2 λx hx=>?_,bt.2 λx hx=>?_⟩
  ·have:=zbi hx;exact nI x
  ·have:=zbi hx;exact nI x
 |.iface t v=>by simp only[rv,ξ.iface.injEq,true_and];exact nI v
 |.agg cs=>by
  simp only[rv,ξ.agg.injEq];refine bt.2 λx hx=>?_;have:=zbi hx;exact nI x
 |.tuple cs=>by
  simp only[rv,ξ.tuple.injEq];refine bt.2 λx hx=>?_;have:=zbi hx;exact nI x
 |.bool _=>by simp[rv]
 |.int _ _=>by simp[rv]
 |.float _ _=>by simp[rv]
 |.complex _ _ _=>by simp[rv]
 |.string _=>by simp[rv]
 |.nilFunc=>by simp[rv]
 |.nilIface=>by simp[rv]
termination_by v=>SizeOf.sizeOf v
theorem map_id' (cs:Array ξ):cs.map (rv jR)=cs:=bt.2 λx _=>nI x
theorem RH (a:Addr):ra jR a=a:=rfl
theorem Cp (o:Obj):ro jR o=o:=by
 cases o with
 |cells c t f=>simp[ro,map_id']
 |pending c t=>simp[ro,map_id']
 |chan a b c d e f=>simp[ro,map_id']
 |view a t=>simp[ro,RH]
 |number a t=>simp[ro,RH]
 |map es c=>
  simp only[ro,Obj.map.injEq,zat];apply Array.ext
  ·simp
  ·intro i h1 h2;simp[nI]
 |_=>rfl
theorem ER (fr:Γ):b8 jR fr=fr:=by simp[b8,map_id']
theorem AD:∀l:List Γ,l.map (b8 jR)=l
 |[]=>rfl
 |f::l=>by rw[zaC,ER,AD l]
section
variable {P:Ω}{F:ι→Bool}{S:Sd}
theorem lV (hC:kZ P F S):Plain P jR:=⟨λt i v h1 h2=>hC.zero t i v h1 h2 _,λ_a _b h=>h⟩
theorem lW (hC:kZ P F S)(n:Nat):Plain P (sg S S.d n):=⟨λt i v h1 h2=>hC.zero t i v h1 h2 _,SM⟩
theorem GC:qJ S jR:=⟨λ_ _=>rfl,λ_ _ _=>rfl,λ_ _=> .inr rfl⟩
theorem AE:yj P jR:=λ_=>Iff.rfl
theorem K7 (o:Obj):GO P jR o:= .inl AE
def iw (_P:Ω)(S:Sd)(n:Nat)(fr:Γ):Prop:=∀v∈fr.tmps,rv (sg S S.d n) v=v
structure PI (P:Ω) (F:ι→Bool) (S:Sd) (fr:Γ) (above:List Γ) (w:Λ):Prop where
 ok:kD P F S fr
 oks:∀f∈above,kD P F S f
 cl:iw P S w.heap.size fr
 cls:∀f∈above,iw P S w.heap.size f
 wr:WR P S jR w w
theorem jb {n:Nat}{v:ξ}(h:rv (sg S S.d n) v=v):FV S v:=by
 intro fn a b e;subst e;simp only[rv,ξ.func.injEq]at h;exact iq.1 h.1
theorem ix {n m:Nat}(h:n≤m){fr:Γ}(hc:iw P S n fr):iw P S m fr:=λv hv=>eJ (dO h).1 (dO h).2 v (hc v hv)
theorem AG {n:Nat}{fr:Γ}(hc:iw P S n fr):b8 (sg S S.d n) fr=fr:=by
 unfold b8;rw[bt.2 hc]
theorem sT {n:Nat}{fr:Γ}(h:b8 (sg S S.d n) fr=fr):iw P S n fr:=by
 have:fr.tmps.map (rv (sg S S.d n))=fr.tmps:=zal Γ.tmps h;exact bt.1 this
theorem Pe {n:Nat}{above:List Γ}(hc:∀f∈above,iw P S n f):above.map (b8 (sg S S.d n))=above:=by
 induction above with
 |nil=>rfl
 |cons f l ih=>rw[zaC,AG (hc f (by simp)),ih λg hg=>hc g (by simp[hg])]
theorem wo {n:Nat}:∀{above:List Γ},above.map (b8 (sg S S.d n))=above→∀f∈above,iw P S n f
 |[],_,f,hf=>by cases hf
 |g::l,h,f,hf=>by
  simp only[zaC,List.cons.injEq]at h;rcases zaI.1 hf with rfl|hf
  ·exact sT h.1
  ·exact wo h.2 f hf
theorem sU (hC:kZ P F S){fr:Γ}{above:List Γ}{w:Λ}(h:PI P F S fr above w):∀n,w.heap.size≤n→aa P (sg S S.d n) (FF P F S (sg S S.d n)) (aS P fr above) (aS P fr above):=λn hn=>by
 have:=AB (ρ:=sg S S.d n) hC (lW hC n) (vd (zaj h.wr.big.g hn)) h.ok h.oks (λv hv=> .inr (ix hn h.cl v hv)) (λv hv=>jb (h.cl v hv));rwa[AG (ix hn h.cl),Pe λf hf=>ix hn (h.cls f hf)]at this
theorem Pf (hC:kZ P F S){fr:Γ}{above:List Γ}{w:Λ}(h:PI P F S fr above w):aa P jR (FF P F S jR) (aS P fr above) (aS P fr above):=by
 have:=AB (ρ:=jR) hC (lV hC) GC h.ok h.oks (λv _=> .inl AE) (λv hv=>jb (h.cl v hv));rwa[ER,AD]at this
theorem Wm {x y:Γ×List Γ}(h:FF P F S jR x y):y=x:=by
 obtain⟨h,_⟩:=h;rw[ER,AD]at h;exact h
def _root_.Go.World.re (w:Λ)(τ:Nat→Question→Nat)(d:Nat):Λ:={ w with tape:=τ,drawn:=d }
theorem oK {a b:Λ}(h1:a.heap=b.heap)(h2:a.tape=b.tape)(h3:a.drawn=b.drawn)(h4:a.os=b.os)(h5:a.output=b.output):a=b:=by
 obtain⟨a1,a2,a3,a4,a5⟩:=a;obtain⟨b1,b2,b3,b4,b5⟩:=b;simp only at h1 h2 h3 h4 h5;subst h1 h2 h3 h4 h5;rfl
theorem eu (hC:kZ P F S){fr:Γ}{above:List Γ}{w:Λ}(h:PI P F S fr above w){f1:Γ}{a1:List Γ}{w1:Λ}{es:Array ζ}
 (hr:(aS P fr above).runT P w #[]=(.ok (f1,a1) w1,es)):PI P F S f1 a1 w1∧w1.tape=w.tape∧w.drawn≤w1.drawn∧∀τ d,Vh w w1 (w.re τ d)→∃es',(aS P fr above).runT P (w.re τ d) #[]=(.ok (f1,a1) (w1.re τ (d+(w1.drawn-w.drawn))),es'):=by
 have qP:=sU hC h;have key:∀τ d,Vh w w1 (w.re τ d)→∃es',(aS P fr above).runT P (w.re τ d) #[]=(.ok (f1,a1) (w1.re τ (d+(w1.drawn-w.drawn))),es')∧PI P F S f1 a1 w1∧w1.tape=w.tape∧w.drawn≤w1.drawn:=λτ d wq=>by
  have hW:WR P S jR w (w.re τ d):=⟨h.wr.live,h.wr.ok,h.wr.dead,h.wr.closed,h.wr.next,h.wr.low,h.wr.big⟩;obtain⟨b,W1,es',r1,r2,r3,r4,r5,r6⟩:=dn (lV hC) K7 _ _ _ (λn=>FF P F S (sg S S.d n)) w (w.re τ d) #[] #[] _ _ _ (Pf hC h) qP hW wq hr;obtain rfl:=Wm r2;have hsz:W1.heap.size=w1.heap.size:=by have:=r5.size;simp only[Λ.re]at this;omega
  have lX:W1.heap=w1.heap:=by
   apply Array.ext hsz;intro i hi1 Wn;have e:W1.heap[i]?=w1.heap[i]?:=by
    rcases zar i S.d with hlt|ft
    ·rw[r5.frame i (by have:=h.wr.big.d;show i<w.heap.size;omega) (by rintro ⟨r,hr1,_,e⟩;have e':i=r:=e;omega)];show w.heap[i]?=_;rw[h.wr.dead i hlt,r4.dead i hlt]
    ·have hs:w1.heap[i]?=some w1.heap[i]:=zaE Wn;have:=r4.live i _ ft hs;rw[Cp]at this;rw[hs];exact this
   rw[zaE hi1,zaE Wn]at e;exact zaY e
  have hWe:W1=w1.re τ (d+(w1.drawn-w.drawn)):=by
   refine oK lX r5.tape ?_ (r5.os.trans r5.Wk.symm) (r5.output.trans r5.K5.symm);have:=r5.drawn;have:=r5.sQ;show W1.drawn=d+(w1.drawn-w.drawn);simp only[Λ.re]at *;omega
  have gz:=r3 w1.heap.size (zab _);have K8:b8 (sg S S.d w1.heap.size) f1=f1:=(zal Prod.fst gz.1).symm;have K9:a1.map (b8 (sg S S.d w1.heap.size))=a1:=(zal Prod.snd gz.1).symm;have hwr:WR P S jR w1 w1:=by
   subst hWe;exact⟨r4.live,r4.ok,r4.dead,r4.closed,r4.next,r4.low,r4.big⟩
  exact⟨es',by rw[r1,hWe],⟨gz.2.1,gz.2.2,sT K8,wo K9,hwr⟩,r5.Cn,r5.sQ⟩
 obtain⟨_,_,k1,k2,k3⟩:=key w.tape w.drawn (λj _ q=>rfl);exact⟨k1,k2,k3,λτ d wq=>by obtain⟨es',e,_⟩:=key τ d wq;exact⟨es',e⟩⟩
theorem La (hC:kZ P F S){ρ:Rn}(hp:Plain P ρ)(IP:yj P ρ)(hx:qJ S ρ){fr:Γ}{above:List Γ}{w W:Λ}(h:PI P F S fr above w)(hW:WR P S ρ w W){f1:Γ}{a1:List Γ}{w1:Λ}{es:Array ζ}
 (hn:Vh w w1 W)(hr:(aS P fr above).runT P w #[]=(.ok (f1,a1) w1,es)):∃W1 es',WR P S ρ w1 W1∧B1 S.d ρ w w1 W W1∧(∀e∈es',nh S.d ρ w1 e)∧
   ∀main cs,Φ P main (G (b8 ρ fr) (above.map (b8 ρ)++cs)) W=.go (G (b8 ρ f1) (a1.map (b8 ρ)++cs)) W1 (seen P fr.fn es'):=by
 have qP:=sU hC h;have AH:=AB (ρ:=ρ) hC hp hx h.ok h.oks (λv _=> .inl IP) (λv hv=>jb (h.cl v hv));obtain⟨b,W1,es',r1,⟨rfl,o1,o2⟩,r3,r4,r5,r6⟩:=dn hp (λo=> .inl IP) _ _ _ (λn=>FF P F S (sg S S.d n)) w W #[] #[] _ _ _ AH qP hW hn hr;refine⟨W1,es',r4,r5,λe he=>(r6 e he).resolve_left (by simp),λmain cs=>?_⟩;have bM:kD P F S (b8 ρ fr):=⟨h.ok.defers,h.ok.mode,h.ok.kind,h.ok.round,h.ok.todo,h.ok.fn⟩;exact mz bM r1
end
abbrev Tp:=Nat→Question→Nat
inductive Lb (P:Ω) (Q:Γ→List Γ→Λ→Prop):Γ→List Γ→Λ→Prop
 |stop {fr:Γ} {above:List Γ} {w:Λ}:Q fr above w→Lb P Q fr above w
 |step {fr:Γ} {above:List Γ} {w:Λ} (nf:Tp→Nat→Γ) (na:Tp→Nat→List Γ) (nw:Tp→Nat→Λ) (ne:Tp→Nat→Array ζ):
   (∀τ d,(aS P fr above).runT P (w.re τ d) #[]=(.ok (nf τ d,na τ d) (nw τ d),ne τ d))→(∀τ d,Lb P Q (nf τ d) (na τ d) (nw τ d))→Lb P Q fr above w
inductive mA (P:Ω):Nat→Γ→List Γ→Λ→Γ→List Γ→Λ→Prop
 |zero {fr:Γ} {above:List Γ} {w:Λ}:mA P 0 fr above w fr above w
 |succ {n:Nat} {fr f1 f2:Γ} {above a1 a2:List Γ} {w w1 w2:Λ} {es:Array ζ}:(aS P fr above).runT P w #[]=(.ok (f1,a1) w1,es)→mA P n f1 a1 w1 f2 a2 w2→mA P (n+1) fr above w f2 a2 w2
section
variable {P:Ω}{F:ι→Bool}{S:Sd}{Q:Γ→List Γ→Λ→Prop}
theorem RI (w:Λ)(τ AJ:Tp)(d d':Nat):(w.re τ d).re AJ d'=w.re AJ d':=rfl
theorem PI.re {fr:Γ}{above:List Γ}{w:Λ}(h:PI P F S fr above w)(τ:Tp)(d:Nat):PI P F S fr above (w.re τ d):=
 ⟨h.ok,h.oks,h.cl,h.cls,⟨h.wr.live,h.wr.ok,h.wr.dead,h.wr.closed,h.wr.next,h.wr.low,h.wr.big⟩⟩
theorem mA.stays (hC:kZ P F S):∀{n:Nat} {fr f:Γ} {above a:List Γ} {w w':Λ},mA P n fr above w f a w'→PI P F S fr above w→Ren.PI P F S f a w'
 |0,fr,f,above,a,w,w',h,hI=>by cases h;exact hI
 |n+1,fr,f,above,a,w,w',h,hI=>by
  cases h with
  | @succ _ _ f1 _ _ a1 _ _ w1 _ es h1 h2=>exact mA.stays hC h2 (eu hC hI h1).1
theorem mA.shift (hC:kZ P F S):∀{n:Nat} {fr f:Γ} {above a:List Γ} {w w':Λ},mA P n fr above w f a w'→PI P F S fr above w→∀(τ:Tp) (d:Nat),(∀j q,τ (d+j) q=w.tape (w.drawn+j) q)→∃d',mA P n fr above (w.re τ d) f a (w'.re τ d')
 |0,fr,f,above,a,w,w',h,hI,τ,d,Wj=>by cases h;exact⟨d,.zero⟩
 |n+1,fr,f,above,a,w,w',h,hI,τ,d,Wj=>by
  cases h with
  | @succ _ _ f1 _ _ a1 _ _ w1 _ es h1 h2=>
    obtain⟨Kw,ht,hd,wq⟩:=eu hC hI h1;obtain⟨es',e⟩:=wq τ d (λj _ q=>Wj j q);obtain⟨d',h3⟩:=mA.shift hC h2 Kw τ (d+(w1.drawn-w.drawn)) (λj q=>by
     have:=Wj (w1.drawn-w.drawn+j) q;rw[ht,show d+(w1.drawn-w.drawn)+j=d+(w1.drawn-w.drawn+j) by omega,this,show w.drawn+(w1.drawn-w.drawn+j)=w1.drawn+j by omega])
    exact⟨d',.succ e h3⟩
theorem ue (hC:kZ P F S)(hQ:∀f a w τ d,PI P F S f a w→Q f a w→Q f a (w.re τ d)){fr:Γ}{above:List Γ}{w:Λ}(hI:PI P F S fr above w)
 (hT:∀τ:Tp,∃n f a w',mA P n fr above (w.re τ 0) f a w'∧Q f a w'):Lb P Q fr above w:=by
 refine Classical.byContradiction λhN=>?_;have hQ':∀f a (w:Λ) τ d,PI P F S f a w→Q f a (w.re τ d)→Q f a w:=λf a w τ d hI h=>by
  have:=hQ f a (w.re τ d) w.tape w.drawn (hI.re _ _) h;exact this
 let Wo:Γ×List Γ×Λ→Prop:=λs=>PI P F S s.1 s.2.1 s.2.2∧(∀τ:Tp,∃n f a w',mA P n s.1 s.2.1 (s.2.2.re τ 0) f a w'∧Q f a w')∧¬Lb P Q s.1 s.2.1 s.2.2;have next:∀s:{ s // Wo s },∃s':{ s // Wo s },∃(τ:Tp) (d:Nat) (es:Array ζ),(aS P s.1.1 s.1.2.1).runT P (s.1.2.2.re τ d) #[]=(.ok (s'.1.1,s'.1.2.1) s'.1.2.2,es):=by
  rintro ⟨⟨fr,above,w⟩,hI,hT,hN⟩;simp only at hI hT hN;have nq:¬Q fr above w:=λh=>hN (.stop h);have run:∀(τ:Tp) (d:Nat),∃f1 a1 w1 es,(aS P fr above).runT P (w.re τ d) #[]=(.ok (f1,a1) w1,es):=λτ d=>by
   obtain⟨n,f,a,w',hr,hq⟩:=hT (λj=>τ (d+j));cases hr with
   |zero=>exact absurd (hQ' _ _ _ _ _ hI hq) nq
   | @succ _ _ f1 _ _ a1 _ _ w1 _ es h1 h2=>
     obtain⟨_,_,_,wq⟩:=eu hC (hI.re _ _) h1;obtain⟨es',e⟩:=wq τ d (λj _ q=>by show τ (d+j) q=τ (d+(0+j)) q;rw[Nat.zero_add]);exact⟨_,_,_,_,e⟩
  have ex:∃(τ:Tp) (d:Nat),∀f1 a1 w1 es,(aS P fr above).runT P (w.re τ d) #[]=(.ok (f1,a1) w1,es)→¬Lb P Q f1 a1 w1:=by
   refine Classical.byContradiction λhno=>hN ?_;have all:∀(τ:Tp) (d:Nat),∃f1 a1 w1 es,(aS P fr above).runT P (w.re τ d) #[]=(.ok (f1,a1) w1,es)∧Lb P Q f1 a1 w1:=λτ d=>by
    refine Classical.byContradiction λhx=>hno ⟨τ,d,λf1 a1 w1 es he hb=>hx ⟨f1,a1,w1,es,he,hb⟩⟩
   exact .step (λτ d=>Θ (all τ d)) (λτ d=>Θ (zaL (all τ d))) (λτ d=>Θ (zaL (zaL (all τ d))))
    (λτ d=>Θ (zaL (zaL (zaL (all τ d))))) (λτ d=>(zaL (zaL (zaL (zaL (all τ d))))).1)
    (λτ d=>(zaL (zaL (zaL (zaL (all τ d))))).2)
  obtain⟨τ,d,hb⟩:=ex;obtain⟨f1,a1,w1,es,he⟩:=run τ d;obtain⟨Kw,ht,hd,wq⟩:=eu hC (hI.re τ d) he;refine⟨⟨⟨f1,a1,w1⟩,Kw,λVj=>?_,hb _ _ _ _ he⟩,τ,d,es,he⟩;let m:=w1.drawn-d;obtain⟨n,f,a,w',hr,hq⟩:=hT (λi=>if i<m then τ (d+i)else Vj (i-m));cases hr with
  |zero=>exact absurd (hQ' _ _ _ _ _ hI hq) nq
  | @succ n' _ f2 _ _ a2 _ _ w2 _ Wp h1 h2=>
    obtain⟨es3,e3⟩:=wq (λi=>if i<m then τ (d+i)else Vj (i-m)) 0 (λj hj q=>by
     show(if 0+j<m then τ (d+(0+j))else Vj (0+j-m)) q=τ (d+j) q;rw[Nat.zero_add,zac (show j<m from hj)])
    rw[RI,h1]at e3;simp only[zah,zam]at e3;obtain⟨⟨⟨rfl,rfl⟩,rfl⟩,_⟩:=e3;obtain⟨d',h3⟩:=mA.shift hC h2 (Kw.re _ _) Vj 0 (λj q=>by
     show Vj (0+j) q=(if 0+m+j<m then τ (d+(0+m+j))else Vj (0+m+j-m)) q;rw[zaa (by omega),show 0+m+j-m=0+j by omega])
    exact⟨n',f,a,_,h3,hQ _ _ _ _ _ (mA.stays hC h2 (Kw.re _ _)) hq⟩
 let nx:{ s // Wo s }→{ s // Wo s }:=λs=>Θ (next s);let sq:Nat→{ s // Wo s }:=λk=>Nat.rec ⟨(fr,above,w),hI,hT,hN⟩ (λ_ s=>nx s) k;have hsq:∀k,∃(τ:Tp) (d:Nat) (es:Array ζ),(aS P (sq k).1.1 (sq k).1.2.1).runT P ((sq k).1.2.2.re τ d) #[]=(.ok ((sq (k+1)).1.1,(sq (k+1)).1.2.1) (sq (k+1)).1.2.2,es):=λk=>zaL (next (sq k));let Wq:Nat→Tp:=λk=>Θ (hsq k);let ds:Nat→Nat:=λk=>Θ (zaL (hsq k));have hrun:∀k,∃es,(aS P (sq k).1.1 (sq k).1.2.1).runT P ((sq k).1.2.2.re (Wq k) (ds k)) #[]=(.ok ((sq (k+1)).1.1,(sq (k+1)).1.2.1) (sq (k+1)).1.2.2,es):=λk=>zaL (zaL (hsq k));let ms:Nat→Nat:=λk=>(sq (k+1)).1.2.2.drawn - ds k;let cs:Nat→Nat:=λk=>Nat.rec 0 (λk c=>c+ms k) k;have hcs:∀k,cs (k+1)=cs k+ms k:=λk=>rfl;have RJ:∀a b,a≤b→cs a≤cs b:=λa b hab=>by
  induction hab with
  |refl=>exact zab _
  |step _ ih=>rw[hcs];omega
 let T:Tp:=λi q=>open Classical in if h:∃k,cs k≤i∧i<cs (k+1)then Wq (Θ h) (ds (Θ h)+(i-cs (Θ h))) q else 0
 have hTs:∀k j q,j<ms k→T (cs k+j) q=Wq k (ds k+j) q:=λk j q hj=>by
  have hex:∃k',cs k'≤cs k+j∧cs k+j<cs (k'+1):=⟨k,by omega,by rw[hcs];omega⟩;have Ws:Θ hex=k:=by
   have h1:=zaL hex;rcases Nat.lt_trichotomy (Θ hex) k with h|h|h
   ·have h2:=RJ (Θ hex+1) k h;omega
   ·exact h
   ·have h2:=RJ (k+1) (Θ hex) h;rw[hcs]at h2;omega
  show(open Classical in if h:∃k',cs k'≤cs k+j∧cs k+j<cs (k'+1)then Wq (Θ h) (ds (Θ h)+(cs k+j-cs (Θ h))) q else 0)=_;rw[dif_pos hex,Ws,show cs k+j-cs k=j by omega]
 have walk:∀(n k:Nat) (f:Γ) (a:List Γ) (w':Λ),mA P n (sq k).1.1 (sq k).1.2.1 ((sq k).1.2.2.re T (cs k)) f a w'→f=(sq (k+n)).1.1∧a=(sq (k+n)).1.2.1∧w'=(sq (k+n)).1.2.2.re T (cs (k+n)):=by
  intro n
  induction n with
  |zero=>intro k f a w' h;cases h;exact⟨rfl,rfl,rfl⟩
  |succ n ih=>
   intro k f a w' h;cases h with
   | @succ _ _ f1 _ _ a1 _ _ w1 _ es h1 h2=>
     obtain⟨Wp,he⟩:=hrun k;obtain⟨_,_,hd,wq⟩:=eu hC ((sq k).2.1.re (Wq k) (ds k)) he;obtain⟨es3,e3⟩:=wq T (cs k) (λj hj q=>hTs k j q hj);rw[RI,h1]at e3;simp only[zah,zam]at e3;obtain⟨⟨⟨rfl,rfl⟩,rfl⟩,_⟩:=e3;have:=ih (k+1) f a w' h2;rwa[show k+1+n=k+(n+1) by omega]at this
 obtain⟨n,f,a,w',hr,hq⟩:=hT T;obtain⟨rfl,rfl,rfl⟩:=walk n 0 f a w' hr;exact(sq (0+n)).2.2.2 (.stop (hQ' _ _ _ _ _ (sq (0+n)).2.1 hq))
end
section
variable {P:Ω}{F:ι→Bool}{S:Sd}
theorem GD:∀a b,jR a=jR b→a=b:=λ_ _ h=>h
theorem cH {α:Type}:∀(t:Sem α) (Rs:Nat→α→α→Prop) (w:Λ) (es:Array ζ) (h:Halt) (w1:Λ) (di:Array ζ),(∀n,w.heap.size≤n→aa P (sg S S.d n) (Rs n) t t)→WR P S jR w w→t.runT P w es=(.halt h w1,di)→B8 h
 |.pure a0,Rs,w,es,h,w1,di,h2,hW,hr=>by simp[Δ]at hr
 |.load m ad k,Rs,w,es,h,w1,di,h2,hW,hr=>by
  by_cases hlt:ad.block<S.d
  ·simp only[Δ,zh hW hlt,Λ.farLoad,hW.dead _ hlt,ir,zah,Λ.noCell]at hr;have e:=hr.1;simp only[zbq]at e;rw[←e.1];trivial
  have cw:S.d≤ad.block∧ad.block<w.heap.size:=by
   rcases h2 w.heap.size (zab _)with h|⟨k',e,_⟩
   ·exact absurd h hlt
   ·simp only[Sem.load.injEq]at e;exact bO.1 (gM.1 e.2.1.symm)
  have jQ:∀v,(∀n,w.heap.size≤n→rv (sg S S.d n) v=v)→∀n,w.heap.size≤n→aa P (sg S S.d n) (Rs n) (k v) (k v):=λv hv n hn=>by
   rcases h2 n hn with h|⟨k',e,hk⟩
   ·exact absurd h hlt
   ·simp only[Sem.load.injEq]at e;obtain⟨_,_,rfl⟩:=e;have:=hk v;rwa[hv n hn]at this
  simp only[Δ]at hr;cases hc:w.cell? ad with
  |some v=>
   rw[hc]at hr;have gz:=ud hW cw.1 hc;exact cH (k v) Rs w _ h w1 di (jQ v λn hn=>eJ (dO hn).1 (dO hn).2 v gz) hW hr
  |none=>
   rw[hc]at hr;simp only at hr;obtain⟨o,ho⟩:∃o,w.heap[ad.block]?=some o:=⟨_,zaE cw.2⟩;have bM:=hW.ok _ o ho;cases o with
   |view at_ u=>
    cases hv:w.viewLoad P at_ u ad (m== .atomic)with
    |error e=>
     simp only[Λ.farLoad,ho,hv,zah,zbq]at hr;rw[←hr.1.1];trivial
    |ok x=>
     simp only[Λ.farLoad,ho,hv]at hr;have gz:=hW.closed _ _ cw.1 ho;simp only[ro,Obj.view.injEq,zat]at gz;have hat:=bO.1 (gM.1 gz);obtain⟨v,ts⟩:=x;obtain⟨yn,q1,q2,q3,q4⟩:=qN hW.Live hat.1 hv;exact cH (k v) Rs w _ h w1 di (jQ v λn _=>q3 _) hW hr
   |cells c e f=>
    simp only[Λ.farLoad,ho,Λ.noCell,zah,zbq]at hr;rw[←hr.1.1];trivial
   |number c e=>
    simp only[Λ.farLoad,ho,Λ.noCell,zah,zbq]at hr;rw[←hr.1.1];trivial
   |map c e=>
    simp only[Λ.farLoad,ho,Λ.noCell,zah,zbq]at hr;rw[←hr.1.1];trivial
   |_=>exact bM.elim
 |.store m ad v k,Rs,w,es,h,w1,di,h2,hW,hr=>by
  have cw:(S.d≤ad.block∧ad.block<w.heap.size)∧rv (sg S S.d w.heap.size) v=v:=by
   obtain⟨k',e,_⟩:=h2 w.heap.size (zab _);simp only[Sem.store.injEq]at e;exact⟨bO.1 (gM.1 e.2.1.symm),e.2.2.1.symm⟩
  obtain⟨cw,hv⟩:=cw;have jQ:∀n,w.heap.size≤n→aa P (sg S S.d n) (Rs n) k k:=λn hn=>by
   obtain⟨k',e,hk⟩:=h2 n hn;simp only[Sem.store.injEq]at e;obtain⟨_,_,_,rfl⟩:=e;exact hk
  cases hc:w.cell? ad with
  |some v0=>
   cases EP:w.frozen? ad with
   |true=>cases v<;>simp only[Δ,hc,EP,if_true,zah,zbq]at hr<;>(rw[←hr.1.1];trivial)
   |false=>
    have key:(∃s,h=.stuck s)∨k.runT P (w.setCell ad v) (es.push ⟨.cell ad,true,m== .atomic⟩)=(.halt h w1,di):=by
     cases v<;>simp only[Δ,hc,EP,zaN,if_false]at hr<;>first|exact .inr hr|(simp only[zah,zbq]at hr;exact .inl ⟨_,hr.1.1.symm⟩)
    rcases key with⟨s,rfl⟩|key
    ·trivial
    ·have hs:=hW.setCell GD cw.1 hv;rw[nI]at hs;exact cH k Rs _ _ h w1 di (by simpa[Λ.setCell]using jQ) hs key
  |none=>
   obtain⟨o,ho⟩:∃o,w.heap[ad.block]?=some o:=⟨_,zaE cw.2⟩;have bM:=hW.ok _ o ho;have soft:∀x,w.farStore P ad v (m== .atomic)=.error x→B8 x:=λx hx=>by
    unfold Λ.farStore at hx;rw[ho]at hx;cases o with
    |view at_ u=>
     simp only at hx;split at hx
     ·cases hx
     ·cases hx;trivial
    |cells c e f=>simp only[Λ.noCell,ho,Except.error.injEq]at hx;rw[←hx];trivial
    |number c e=>simp only[Λ.noCell,ho,Except.error.injEq]at hx;rw[←hx];trivial
    |map c e=>simp only[Λ.noCell,ho,Except.error.injEq]at hx;rw[←hx];trivial
    |_=>exact bM.elim
   cases hf:w.farStore P ad v (m== .atomic)with
   |error x=>
    have:(∃s,h=.stuck s)∨h=x:=by
     cases v<;>simp only[Δ,hc,hf,zah,zbq]at hr<;>first|exact .inr hr.1.1.symm|exact .inl ⟨_,hr.1.1.symm⟩
    rcases this with⟨s,rfl⟩|rfl
    ·trivial
    ·exact soft _ hf
   |ok x=>
    obtain⟨w2,ts⟩:=x;have hf0:=hf;unfold Λ.farStore at hf;rw[ho]at hf;cases o with
    |view at_ u=>
     simp only at hf;cases Ok:w.viewStore P at_ u ad v (m== .atomic)with
     |error e=>rw[Ok]at hf;cases hf
     |ok x=>
      rw[Ok]at hf;simp only[zbE]at hf;subst hf;have gz:=hW.closed _ _ cw.1 ho;simp only[ro,Obj.view.injEq,zat]at gz;have hat:=bO.1 (gM.1 gz);obtain⟨c,c',ty,fz,yn,q1,q2,q3,q4,q5⟩:=pL hW.Live hat.1 Ok;subst q2;have key:(∃s,h=.stuck s)∨k.runT P { w with heap:=w.heap.setIfInBounds at_.block (.cells c' ty fz) } (es++ts.toArray.map (⟨.cell ·,true,m== .atomic⟩))=(.halt h w1,di):=by
       cases v<;>simp only[Δ,hc,hf0]at hr<;>first|exact .inr hr|(simp only[zah,zbq]at hr;exact .inl ⟨_,hr.1.1.symm⟩)
      rcases key with⟨s,rfl⟩|key
      ·trivial
      ·have Az:WR P S jR { w with heap:=w.heap.setIfInBounds at_.block (.cells c' ty fz) } { w with heap:=w.heap.setIfInBounds (jR at_.block) (.cells c' ty fz) }:=by
        refine hW.upd GD hat.1 (gI _ _ _) (gI _ _ _) (λo ho=>⟨trivial,by rw[Cp],λhs=>?_⟩);rw[q1]at ho;cases ho;simp only[ro,Obj.cells.injEq,zat]at hs ⊢;exact q3 _ hs
       exact cH k Rs _ _ h w1 di (by simpa using jQ) Az key
    |_=>cases hf
 |.new o k,Rs,w,es,h,w1,di,h2,hW,hr=>by
  have hs:qC o∧ro (sg S S.d w.heap.size) o=o:=by
   obtain⟨ho,k',e,_⟩:=h2 w.heap.size (zab _);simp only[Sem.new.injEq]at e;exact⟨ho,e.1.symm⟩
  have jQ:∀n,w.heap.size+1≤n→aa P (sg S S.d n) (Rs n) (k w.heap.size) (k w.heap.size):=λn hn=>by
   obtain⟨_,k',e,hk⟩:=h2 n (by omega);simp only[Sem.new.injEq]at e;obtain⟨_,rfl⟩:=e;have:=hk w.heap.size;rwa[show sg S S.d n w.heap.size=w.heap.size from bO.2 ⟨hW.big.d,by omega⟩]at this
  simp only[Δ]at hr;have RL:=hW.push hs.1 hs.2;rw[Cp]at RL;exact cH (k w.heap.size) Rs _ es h w1 di (by simpa using jQ) RL hr
 |.shape r k,Rs,w,es,h,w1,di,h2,hW,hr=>by
  simp only[Δ]at hr;refine cH _ Rs w es h w1 di (λn hn=>?_) hW hr;obtain⟨k',e,hk⟩:=h2 n hn;simp only[Sem.shape.injEq]at e;obtain⟨_,rfl⟩:=e;exact hk _
 |.freeze ad n k,Rs,w,es,h,w1,di,h2,hW,hr=>by
  have cw:S.d≤ad.block∧ad.block<w.heap.size:=by
   obtain⟨k',e,_⟩:=h2 w.heap.size (zab _);simp only[Sem.freeze.injEq]at e;exact bO.1 (gM.1 e.1.symm)
  have jQ:∀n,w.heap.size≤n→aa P (sg S S.d n) (Rs n) k k:=λn hn=>by
   obtain⟨k',e,hk⟩:=h2 n hn;simp only[Sem.freeze.injEq]at e;obtain⟨_,_,rfl⟩:=e;exact hk
  simp only[Δ]at hr;have hsz:(w.freeze ad n).heap.size=w.heap.size:=by unfold Λ.freeze;split<;>simp
  exact cH k Rs (w.freeze ad n) es h w1 di (by rw[hsz];exact jQ) (hW.freeze GD cw.1) hr
 |.frozen ad k,Rs,w,es,h,w1,di,h2,hW,hr=>by
  simp only[Δ]at hr;refine cH _ Rs w es h w1 di (λn hn=>?_) hW hr;obtain⟨k',e,hk⟩:=h2 n hn;simp only[Sem.frozen.injEq]at e;obtain⟨_,rfl⟩:=e;exact hk _
 |.getObj r k,Rs,w,es,h,w1,di,h2,hW,hr=>by
  have cw:S.d≤r∧r<w.heap.size:=by
   obtain⟨k',e,_⟩:=h2 w.heap.size (zab _);simp only[Sem.getObj.injEq]at e;exact bO.1 e.1.symm
  obtain⟨o,ho⟩:∃o,w.heap[r]?=some o:=⟨_,zaE cw.2⟩;have gz:=hW.closed _ o cw.1 ho;have bM:=hW.ok _ o ho;have B3:∀n,w.heap.size≤n→ro (sg S S.d n) o=o:=λn hn=>oI (dO hn).1 (dO hn).2 gz;have jQ:∀n,w.heap.size≤n→aa P (sg S S.d n) (Rs n) (k o) (k o):=λn hn=>by
   obtain⟨k',e,hk⟩:=h2 n hn;simp only[Sem.getObj.injEq]at e;obtain⟨_,rfl⟩:=e;have:=hk o (.inr (B3 n hn));rwa[B3 n hn]at this
  simp only[Δ,ho]at hr;cases o with
  |cells c e f=>simp only[zah,zbq]at hr;rw[←hr.1.1];trivial
  |view x t=>exact cH _ Rs w _ h w1 di jQ hW hr
  |number x t=>exact cH _ Rs w _ h w1 di jQ hW hr
  |map x t=>exact cH _ Rs w _ h w1 di jQ hW hr
  |_=>exact bM.elim
 |.setObj r o k,Rs,w,es,h,w1,di,h2,hW,hr=>by
  have cw:((S.d≤r∧r<w.heap.size)∧ro (sg S S.d w.heap.size) o=o)∧KW o:=by
   obtain⟨hs,k',e,_⟩:=h2 w.heap.size (zab _);simp only[Sem.setObj.injEq]at e;exact⟨⟨bO.1 e.1.symm,e.2.1.symm⟩,hs⟩
  obtain⟨⟨cw,gz⟩,Pb⟩:=cw;have jQ:∀n,w.heap.size≤n→aa P (sg S S.d n) (Rs n) k k:=λn hn=>by
   obtain⟨_,k',e,hk⟩:=h2 n hn;simp only[Sem.setObj.injEq]at e;obtain⟨_,_,rfl⟩:=e;exact hk
  obtain⟨o0,ho⟩:∃o,w.heap[r]?=some o:=⟨_,zaE cw.2⟩;have bM:=hW.ok _ o0 ho;have Az:WR P S jR { w with heap:=w.heap.setIfInBounds r o } { w with heap:=w.heap.setIfInBounds r o }:=by
   refine hW.upd GD cw.1 (gI _ _ _) (gI _ _ _) (λo1 _=>⟨?_,by rw[Cp],λ_=>gz⟩);cases o<;>first|exact Pb.elim|trivial
  simp only[Δ,ho]at hr;cases o0 with
  |cells c e f=>simp only[zah,zbq]at hr;rw[←hr.1.1];trivial
  |view x t=>exact cH k Rs _ _ h w1 di (by simpa using jQ) Az hr
  |number x t=>exact cH k Rs _ _ h w1 di (by simpa using jQ) Az hr
  |map x t=>exact cH k Rs _ _ h w1 di (by simpa using jQ) Az hr
  |_=>exact bM.elim
 |.choose q k,Rs,w,es,h,w1,di,h2,hW,hr=>by
  have jQ:∀x n,w.heap.size≤n→aa P (sg S S.d n) (Rs n) (k x) (k x):=λx n hn=>by
   obtain⟨k',e,hk⟩:=h2 n hn;simp only[Sem.choose.injEq]at e;obtain⟨_,rfl⟩:=e;exact hk x
  simp only[Δ]at hr;split at hr
  ·exact cH _ Rs w es h w1 di (jQ _) hW hr
  ·exact cH _ Rs { w with drawn:=w.drawn+1 } es h w1 di (jQ _) (hW.drew _ _) hr
 |.sys c k,Rs,w,es,h,w1,di,h2,hW,hr=>vh (.sys c k) _ _ _ _ _ (h2 w.heap.size (zab _)) hr
 |.program k,Rs,w,es,h,w1,di,h2,hW,hr=>by
  simp only[Δ]at hr;refine cH _ Rs w es h w1 di (λn hn=>?_) hW hr;obtain⟨k',e,hk⟩:=h2 n hn;simp only[Sem.program.injEq]at e;obtain rfl:=e;exact hk
 |.mark m k,Rs,w,es,h,w1,di,h2,hW,hr=>by
  simp only[Δ]at hr;refine cH k Rs w _ h w1 di (λn hn=>?_) hW hr;obtain⟨_,k',e,hk⟩:=h2 n hn;simp only[Sem.mark.injEq]at e;obtain⟨_,rfl⟩:=e;exact hk
 |.halt h0,Rs,w,es,h,w1,di,h2,hW,hr=>by
  simp only[Δ,zah,zbq]at hr;rw[←hr.1.1];exact h2 w.heap.size (zab _)
end
def c0 (P:Ω):Γ:={ fn:=P.funcs.size,tmps:=#[],todo:=[.call default false "fmt's door" #[]],defers:=[],mode:= .run,kind:= .normal,roundOf:=none }
theorem Wt:Extern.next "fmt's door" =none:=by
 have:(Extern.next "fmt's door").isNone=true:=by rfl
 simpa using this
section
variable {P:Ω}{F:ι→Bool}{S:Sd}
theorem GF (fr:Γ)(cs:List Γ)(w:Λ):Φ P true { frame:=fr,callers:=cs,status:= .running,dying:=none } w=Φ P true (G fr cs) w:=rfl
theorem ki {fr fr':Γ}{cs cs':List Γ}{w w':Λ}{es:Array ζ}(h:Φ P true (G fr cs) w=.go (G fr' cs') w' es):step P (lone fr cs w)=.next (lone fr' cs' w'):=by
 refine step_lone_go ?_;rw[GF,h];rfl
theorem jc {fr:Γ}{cs:List Γ}{w w':Λ}{o:Outcome}{es:Array ζ}(h:Φ P true (G fr cs) w=.ended o w' es):step P (lone fr cs w)=.ended o w':=by
 refine step_lone_ended ?_;rw[GF,h];rfl
theorem iy {fr fr':Γ}{cs cs':List Γ}{w w':Λ}(h:lone fr cs w=lone fr' cs' w'):fr=fr'∧cs=cs'∧w=w':=by
 simp only[lone,Machine.mk.injEq,Array.mk.injEq,List.cons.injEq,Goroutine.mk.injEq,zat]at h;exact⟨h.2.1,h.2.2,h.1⟩
theorem zk (hC:kZ P F S){fr:Γ}{above:List Γ}{w:Λ}(h:PI P F S fr above w){o:Oper}(ho:jx P F S o.op=true)(n:Nat)(hn:w.heap.size≤n):aa P (sg S S.d n) (NN F (sg S S.d n)) (θ fr.eval o) (θ fr.eval o):=by
 have hf:qJ S (sg S S.d n):=vd (zaj h.wr.big.g hn);have gz:=ix hn h.cl;have ia:∀x,gN S x=true→rv (sg S S.d n) (fr.eval x)=fr.eval x:=λx hx=>by
  have e:=qO (ρ:=sg S S.d n) (fr:=fr) hx hf;rw[AG gz]at e;exact e.symm
 refine nE (F:=F) (lW hC n) hf hC.SF hC.fn o ho (λx hx=>(ia x hx).symm) (λx hx=> .inr (ia x hx)) (λx hx=>jb (ia x hx)) (λ_=>rfl) (λ_=>rfl) (λ_=>rfl) (λ_=>rfl)
theorem Pg (hC:kZ P F S){fr:Γ}{above:List Γ}{w w1:Λ}(h:PI P F S fr above w){o:Oper}(ho:jx P F S o.op=true){nx:Next}{es:Array ζ}(hr:(θ fr.eval o).runT P w #[]=(.ok nx w1,es)):∃b,NN F jR nx b:=by
 have hid:aa P jR (NN F jR) (θ fr.eval o) (θ fr.eval o):=by
  have ia:∀x,gN S x=true→FV S (fr.eval x):=λx hx=>by
   have e:=qO (ρ:=sg S S.d w.heap.size) (fr:=fr) hx (vd h.wr.big.g);rw[AG h.cl]at e;exact jb e.symm
  exact nE (F:=F) (lV hC) (S:=S) GC hC.SF hC.fn o ho (λx hx=>(nI _).symm) (λx hx=> .inl AE) ia (λ_=>rfl) (λ_=>rfl) (λ_=>rfl) (λ_=>rfl)
 obtain⟨b,W1,es',r1,r2,_⟩:=dn (lV hC) K7 _ _ _ (λn=>NN F (sg S S.d n)) w w #[] #[] _ _ _ hid (λn hn=>zk hC h ho n hn) h.wr (λ_ _ _=>rfl) hr;exact⟨b,r2⟩
theorem zl (hC:kZ P F S){fr:Γ}{above cs:List Γ}{w w1:Λ}(h:PI P F S fr above w)(hnl:¬(above=[]∧fr.mode=.returning)){hh:Halt}{es:Array ζ}(hr:(aS P fr above).runT P w #[]=(.halt hh w1,es)):(∃chain w2 es',Φ P true (G fr (above++cs)) w=.go (G { fr with mode:= .panicking chain } (above++cs)) w2 es')∨(∃o w2 es',Φ P true (G fr (above++cs)) w=.ended o w2 es'):=by
 have hI:=h;obtain⟨fn0,tmps,todo,defers,mode,kind,np⟩:=fr;obtain⟨hd,hm,hk,et,hand,RG⟩:=h.ok;simp only at hd hm hk et hand RG;subst hd hk et;rcases hm with rfl|rfl
 ·match todo,hand,hr,hI with
  |[],hand,hr,hI=>simp[aS,pure]at hr
  |.code .ret::k,hand,hr,hI=>simp[aS,pure]at hr
  |.code .skip::k,hand,hr,hI=>simp[aS,pure]at hr
  |.inBlock _::k,hand,hr,hI=>simp[aS,pure]at hr
  |.code (.seq a b)::k,hand,hr,hI=>simp[aS,pure]at hr
  |.code (.block id a)::k,hand,hr,hI=>simp[aS,pure]at hr
  |.code (.loop a)::k,hand,hr,hI=>simp[aS,pure]at hr
  |.inLoop a::k,hand,hr,hI=>simp[aS,pure]at hr
  |.inRegion _ []::k,hand,hr,hI=>simp[aS,pure]at hr
  |.code (.cond c a b)::k,hand,hr,hI=>
   simp only[aS]at hr;generalize hq:Γ.eval _ c=q at hr;cases q with
   |bool t=>simp[pure]at hr
   |_=>exact .inr (by simp[G,Φ,Ξ,hq])
  |.code (.exit id)::k,hand,hr,hI=>
   simp only[aS]at hr;cases he:exitTo id k with
   |none=>exact .inr (by simp[G,Φ,Ξ,he])
   |some k'=>rw[he]at hr;simp[pure]at hr
  |.code (.region id ops draw)::k,hand,hr,hI=>
   cases draw with
   |false=>simp[aS,pure]at hr
   |true=>
    exfalso;simp only[aS,if_true,bind,choose,Sem.bind,Δ,Question.forced,zaN,if_false,pure,zah,reduceCtorEq,false_and]at hr
  |.inRegion ops (i::rest)::k,hand,hr,hI=>
   simp only[aS]at hr;by_cases hw:((ops[i]?).map (υ · (π ops tmps))).getD false=true
   ·rw[zac hw]at hr;cases ho:ops[i]? with
    |none=>rw[ho]at hw;simp at hw
    |some o=>
     rw[ho]at hr;dsimp only at hr;have bM:jx P F S o.op=true:=by
      simp only[zaq,az,zai]at hand;have:=hand.1.1;rw[ho]at this;simpa using this
     have hstep:Φ P true (G ⟨fn0,tmps,.inRegion ops (i::rest)::k,[],.run,.normal,none⟩ (above++cs)) w=
      stepG.apply P true ⟨fn0,tmps,.inRegion ops (i::rest)::k,[],.run,.normal,none⟩ (above++cs) none (θ (Γ.eval ⟨fn0,tmps,.inRegion ops (i::rest)::k,[],.run,.normal,none⟩) o) w:=by
      rw[ho]at hw;have hw':υ o (π ops tmps)=true:=by simpa using hw
      simp[G,Φ,Ξ,stepG.oper,Γ.oper?,ho,hw']
     rw[hstep];rw[bB]at hr;cases hrun:(θ (Γ.eval ⟨fn0,tmps,.inRegion ops (i::rest)::k,[],.run,.normal,none⟩) o).runT P w #[]with
     |mk r di=>
      rw[hrun]at hr;have q1:=zal Prod.fst hrun;have q2:=zal Prod.snd hrun;simp at q1 q2;cases r with
      |halt h3 w3=>
       simp only[zah,zbq]at hr;obtain⟨⟨rfl,rfl⟩,rfl⟩:=hr;have soft:=cH _ (λn=>NN F (sg S S.d n)) w #[] h3 w3 di (λn hn=>zk hC hI bM n hn) hI.wr hrun;cases h3 with
       |panic v=>exact .inl ⟨_,_,_,by simp[stepG.apply,q1,G,η,Γ.raise];exact⟨rfl,rfl,rfl⟩⟩
       |stuck s=>exact .inr ⟨_,_,_,by simp[stepG.apply,q1,η];exact⟨rfl,rfl,rfl⟩⟩
       |unsupported u=>
        cases u with
        |initOrder g=>exact soft.elim
        |_=>exact .inr ⟨_,_,_,by simp[stepG.apply,q1,η];exact⟨rfl,rfl,rfl⟩⟩
       |_=>exact soft.elim
      |ok nx w3=>
       obtain⟨b,hb⟩:=Pg hC hI bM hrun;dsimp only at hr;cases nx<;>simp only[NN]at hb<;>simp[pure]at hr
   ·rw[zaa hw]at hr;simp[pure]at hr
  |.code (.rangeFunc ..)::k,hand,hr,hI=>simp[az,br]at hand
  |.code (.scope ..)::k,hand,hr,hI=>simp[az,br]at hand
  |.code (.label ..)::k,hand,hr,hI=>simp[az,br]at hand
  |.code (.goto ..)::k,hand,hr,hI=>simp[az,br]at hand
  |.code (.refuse ..)::k,hand,hr,hI=>exact .inr (by simp[G,Φ,Ξ])
  |.inScope c::k,hand,hr,hI=>simp[az]at hand
  |.inRangeFunc c::k,hand,hr,hI=>simp[az]at hand
  |.endRangeFunc c::k,hand,hr,hI=>simp[az]at hand
  |.beginRound::k,hand,hr,hI=>simp[az]at hand
  |.call ..::k,hand,hr,hI=>simp[az]at hand
  |.extern ..::k,hand,hr,hI=>simp[az]at hand
 ·obtain⟨fn,h1⟩:=RG;simp only[aS,h1]at hr;rw[bB]at hr;cases hrun:(results fn tmps).runT P w #[]with
  |mk r di=>
   rw[hrun]at hr;have q1:=zal Prod.fst hrun;simp at q1;cases r with
   |ok v w3=>
    dsimp only at hr;cases above with
    |nil=>exact absurd ⟨rfl,rfl⟩ hnl
    |cons c rest=>simp[pure]at hr
   |halt h3 w3=>
    refine .inr ?_;cases h3<;>exact⟨_,_,_,by simp[G,Φ,unwind,h1,q1,η];exact⟨rfl,rfl,rfl⟩⟩
theorem Cq:∀(above:List Γ) (fr:Γ) (w:Λ) (chain:List PanicEntry) (n:Nat) (qQ:Γ) (wf:Λ),fr.defers=[]→(∃f,P.funcs[fr.fn]?=some f)→(∀f∈above,kD P F S f)→runN P n (lone { fr with mode:= .panicking chain } (above++[c0 P]) w)=.next (lone qQ [c0 P] wf)→qQ.mode=.returning→False:=by
 intro above
 induction above with
 |nil=>
  rintro fr w chain n qQ wf hd ⟨f,hf⟩ _ hr hm;cases n with
  |zero=>
   simp only[runN,zbx]at hr;obtain⟨rfl,_,_⟩:=iy hr;cases hm
  |succ n=>
   have h1:step P (lone { fr with mode:= .panicking chain } ([]++[c0 P]) w)=.next (lone ((c0 P).raise chain) [] w):=by
    refine ki (es:=#[]) ?_;simp[G,Φ,unwind,hd,Γ.catches,hf]
   simp only[runN,h1]at hr;cases n with
   |zero=>
    simp only[runN,zbx]at hr;obtain⟨_,e,_⟩:=iy hr;cases e
   |succ n=>
    have h2:∃o w3 es,Φ P true (G ((c0 P).raise chain) []) w=.ended o w3 es:=by
     simp[G,Φ,unwind,c0,Γ.raise,Γ.catches]
    obtain⟨o,w3,es,h2⟩:=h2;simp only[runN,jc h2]at hr;cases hr
 |cons c rest ih=>
  rintro fr w chain n qQ wf hd ⟨f,hf⟩ bM hr hm;cases n with
  |zero=>
   simp only[runN,zbx]at hr;obtain⟨rfl,_,_⟩:=iy hr;cases hm
  |succ n=>
   have hc:=bM c (by simp);have h1:step P (lone { fr with mode:= .panicking chain } (c::rest++[c0 P]) w)=.next (lone { c with mode:= .panicking chain } (rest++[c0 P]) w):=by
    refine ki (es:=#[]) ?_;have Wu:c.raise chain={ c with mode:= .panicking chain }:=by
     unfold Γ.raise;rcases hc.mode with e|e<;>rw[e]
    simp[G,Φ,unwind,hd,Γ.catches,hf,Wu]
   simp only[runN,h1]at hr;exact ih c w chain n qQ wf hc.defers hc.fn (λg hg=>bM g (by simp[hg])) hr hm
theorem uf (_hC:kZ P F S){fr:Γ}{w:Λ}(h:PI P F S fr [] w)(hm:fr.mode=.returning){n:Nat}{qQ:Γ}{wf:Λ}(hr:runN P (n+1) (lone fr [c0 P] w)=.next (lone qQ [c0 P] wf)):False:=by
 obtain⟨f,hf⟩:=h.ok.fn;have key:(∃v w2 es,Φ P true (G fr [c0 P]) w=.go (G ((c0 P).finish v) []) w2 es)∨∃o w2 es,Φ P true (G fr [c0 P]) w=.ended o w2 es:=by
  have hk:=h.ok.kind;cases hrun:(results f fr.tmps).run P w with
  |ok v w2=>
   refine .inl ⟨v,w2,?_⟩;simp[G,Φ,unwind,hm,h.ok.defers,hf,hrun,doReturn,hk,η]
  |halt h3 w2=>
   refine .inr ?_;cases h3<;>simp[G,Φ,unwind,hm,h.ok.defers,hf,hrun,η]
 rcases key with⟨v,w2,es,e⟩|⟨o,w2,es,e⟩
 ·simp only[runN,ki e]at hr;cases n with
  |zero=>
   simp only[runN,zbx]at hr;obtain⟨_,e,_⟩:=iy hr;cases e
  |succ n=>
   have h2:∃o w3 es,Φ P true (G ((c0 P).finish v) []) w2=.ended o w3 es:=by
    simp[G,Φ,Ξ,c0,Γ.finish,Wt]
   obtain⟨o,w3,es,h2⟩:=h2;simp only[runN,jc h2]at hr;cases hr
 ·simp only[runN,jc e]at hr;cases hr
theorem AK (hC:kZ P F S):∀(n:Nat) (fr:Γ) (above:List Γ) (w:Λ) (qQ:Γ) (wf:Λ),PI P F S fr above w→runN P n (lone fr (above++[c0 P]) w)=.next (lone qQ [c0 P] wf)→qQ.mode=.returning→∃m,mA P m fr above w qQ [] wf:=by
 intro n
 induction n with
 |zero=>
  intro fr above w qQ wf h hr hm;simp only[runN,zbx]at hr;obtain⟨rfl,e,rfl⟩:=iy hr;have:above=[]:=by
   have:=zal List.length e;simp at this;exact this
  subst this;exact⟨0,.zero⟩
 |succ n ih=>
  intro fr above w qQ wf h hr hm;by_cases hl:above=[]∧fr.mode=.returning
  ·obtain⟨rfl,hl⟩:=hl;exact(uf hC h hl hr).elim
  ·cases hrun:(aS P fr above).runT P w #[]with
   |mk r es=>
    cases r with
    |ok x w1=>
     obtain⟨f1,a1⟩:=x;have hs:=mz (main:=true) (cs:=[c0 P]) h.ok hrun;simp only[runN,ki hs]at hr;obtain⟨m,GG⟩:=ih f1 a1 w1 qQ wf (eu hC h hrun).1 hr hm;exact⟨m+1,.succ hrun GG⟩
    |halt hh w1=>
     rcases zl (cs:=[c0 P]) hC h hl hrun with⟨chain,w2,es',e⟩|⟨o,w2,es',e⟩
     ·simp only[runN,ki e]at hr;exact(Cq above fr w2 chain n qQ wf h.ok.defers h.ok.fn h.oks hr hm).elim
     ·simp only[runN,jc e]at hr;cases hr
end
end Go.Ren
