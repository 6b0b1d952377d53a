import Derived.Conc.Listed
import Derived.Calls
import Derived.Test.YtlhimdjkkiflhaaGreatDoorKnown04
set_option maxHeartbeats 8000000
set_option maxRecDepth 100000
namespace Go.Ren
open Go Go.Conc
theorem br (P:Program){α β:Type}:∀(s:Sem α) (f:α→Sem β) (w:World) (es0:Array Event),(s>>=f).runT P w es0=match s.runT P w es0 with|(.ok a w1,cM)=>(f a).runT P w1 cM|(.halt h w1,cM)=>(.halt h w1,cM)
 |.pure a,f,w,es=>rfl
 |.load m a k,f,w,es=>by
  show(Sem.load m a λv=>(k v>>=f)).runT P w es=_;simp only[Sem.runT];split
  ·exact br P _ f _ _
  ·split
   ·exact br P _ f _ _
   ·rfl
 |.store m a v k,f,w,es=>by
  show(Sem.store m a v (k>>=f)).runT P w es=_;cases v<;>simp only[Sem.runT]<;>(try rfl)<;>(split<;>(try split)<;>first|exact br P _ f _ _|rfl)
 |.new o k,f,w,es=>by show(Sem.new o λv=>(k v>>=f)).runT P w es=_;simp only[Sem.runT];exact br P _ f _ _
 |.shape r k,f,w,es=>by show(Sem.shape r λv=>(k v>>=f)).runT P w es=_;simp only[Sem.runT];exact br P _ f _ _
 |.freeze a n k,f,w,es=>by show(Sem.freeze a n (k>>=f)).runT P w es=_;simp only[Sem.runT];exact br P _ f _ _
 |.frozen a k,f,w,es=>by show(Sem.frozen a λv=>(k v>>=f)).runT P w es=_;simp only[Sem.runT];exact br P _ f _ _
 |.getObj r k,f,w,es=>by
  show(Sem.getObj r λv=>(k v>>=f)).runT P w es=_;simp only[Sem.runT];split<;>first|exact br P _ f _ _|rfl
 |.setObj r o k,f,w,es=>by
  show(Sem.setObj r o (k>>=f)).runT P w es=_;simp only[Sem.runT];split<;>first|exact br P _ f _ _|rfl
 |.choose q k,f,w,es=>by
  show(Sem.choose q λv=>(k v>>=f)).runT P w es=_;simp only[Sem.runT];split<;>exact br P _ f _ _
 |.sys c k,f,w,es=>by show(Sem.sys c λv=>(k v>>=f)).runT P w es=_;simp only[Sem.runT];exact br P _ f _ _
 |.program k,f,w,es=>by show(Sem.program λv=>(k v>>=f)).runT P w es=_;simp only[Sem.runT];exact br P _ f _ _
 |.mark m k,f,w,es=>by show(Sem.mark m (k>>=f)).runT P w es=_;simp only[Sem.runT];exact br P _ f _ _
 |.halt h,f,w,es=>rfl
section
variable {P:Program}{F:FuncId→Bool}{S:Sd}{main:Bool}{cs:List Frame}
theorem mi {fr fr':Frame}{above vT:List Frame}(h:jV P F S fr){w w':World}{es:Array Event}(hr:(aJ P fr above).runT P w #[]=(.ok (fr',vT) w',es)):stepG P main (G fr (above++cs)) w=.go (G fr' (vT++cs)) w' (seen P fr.fn es):=by
 obtain⟨fn0,tmps,todo,defers,mode,kind,oH⟩:=fr;obtain⟨hd,hm,hk,et,hand,Mk⟩:=h;simp only at hd hm hk et hand Mk;subst hd hk et;have none_:seen P fn0 #[]=#[]:=by simp[seen]
 rcases hm with rfl|rfl
 ·match todo,hand,hr with
  |[],hand,hr=>
   simp only[aJ,pure,Sem.runT,zab,Result.ok.injEq]at hr;obtain⟨⟨⟨rfl,rfl⟩,rfl⟩,rfl⟩:=hr;simp[G,stepG,stepG.exec,none_]
  |.code .ret::k,hand,hr=>
   simp only[aJ,pure,Sem.runT,zab,Result.ok.injEq]at hr;obtain⟨⟨⟨rfl,rfl⟩,rfl⟩,rfl⟩:=hr;simp[G,stepG,stepG.exec,none_]
  |.code .skip::k,hand,hr=>
   simp only[aJ,pure,Sem.runT,zab,Result.ok.injEq]at hr;obtain⟨⟨⟨rfl,rfl⟩,rfl⟩,rfl⟩:=hr;simp[G,stepG,stepG.exec,none_]
  |.inBlock _::k,hand,hr=>
   simp only[aJ,pure,Sem.runT,zab,Result.ok.injEq]at hr;obtain⟨⟨⟨rfl,rfl⟩,rfl⟩,rfl⟩:=hr;simp[G,stepG,stepG.exec,none_]
  |.code (.seq a b)::k,hand,hr=>
   simp only[aJ,pure,Sem.runT,zab,Result.ok.injEq]at hr;obtain⟨⟨⟨rfl,rfl⟩,rfl⟩,rfl⟩:=hr;simp[G,stepG,stepG.exec,none_]
  |.code (.block id a)::k,hand,hr=>
   simp only[aJ,pure,Sem.runT,zab,Result.ok.injEq]at hr;obtain⟨⟨⟨rfl,rfl⟩,rfl⟩,rfl⟩:=hr;simp[G,stepG,stepG.exec,none_]
  |.code (.loop a)::k,hand,hr=>
   simp only[aJ,pure,Sem.runT,zab,Result.ok.injEq]at hr;obtain⟨⟨⟨rfl,rfl⟩,rfl⟩,rfl⟩:=hr;simp[G,stepG,stepG.exec,none_]
  |.inLoop a::k,hand,hr=>
   simp only[aJ,pure,Sem.runT,zab,Result.ok.injEq]at hr;obtain⟨⟨⟨rfl,rfl⟩,rfl⟩,rfl⟩:=hr;simp[G,stepG,stepG.exec,none_]
  |.inRegion _ []::k,hand,hr=>
   simp only[aJ,pure,Sem.runT,zab,Result.ok.injEq]at hr;obtain⟨⟨⟨rfl,rfl⟩,rfl⟩,rfl⟩:=hr;simp[G,stepG,stepG.exec,none_]
  |.code (.cond c a b)::k,hand,hr=>
   simp only[aJ]at hr;generalize hq:Frame.eval _ c=q at hr;cases q with
   |bool t=>
    simp only[pure,Sem.runT,zab,Result.ok.injEq]at hr;obtain⟨⟨⟨rfl,rfl⟩,rfl⟩,rfl⟩:=hr;simp[G,stepG,stepG.exec,none_,hq]
   |_=>simp[stuck]at hr
  |.code (.exit id)::k,hand,hr=>
   simp only[aJ]at hr;cases he:exitTo id k with
   |none=>rw[he]at hr;simp[stuck]at hr
   |some k'=>
    rw[he]at hr;simp only[pure,Sem.runT,zab,Result.ok.injEq]at hr;obtain⟨⟨⟨rfl,rfl⟩,rfl⟩,rfl⟩:=hr;simp[G,stepG,stepG.exec,none_,he]
  |.code (.region id ops draw)::k,hand,hr=>
   cases draw with
   |false=>
    simp only[aJ,pure,Sem.runT,zab,Result.ok.injEq,zau,if_false]at hr;obtain⟨⟨⟨rfl,rfl⟩,rfl⟩,rfl⟩:=hr;simp[G,stepG,stepG.exec,none_]
   |true=>
    simp only[aJ,if_true,bind,choose,Sem.bind,Sem.runT,Question.forced,zau,if_false,pure,zab,Result.ok.injEq,Question.cut]at hr;obtain⟨⟨⟨rfl,rfl⟩,rfl⟩,rfl⟩:=hr;simp[G,stepG,stepG.exec,none_,choose,Sem.run,Question.forced,Question.cut]
  |.inRegion ops (i::rest)::k,hand,hr=>
   simp only[aJ]at hr;by_cases hw:((ops[i]?).map (Region.wanted · (yielded ops tmps))).getD false=true
   ·rw[if_pos hw]at hr;cases ho:ops[i]? with
    |none=>rw[ho]at hr;simp[stuck]at hr
    |some o=>
     rw[ho]at hr;dsimp only at hr;have hstep:stepG P main (G ⟨fn0,tmps,.inRegion ops (i::rest)::k,[],.run,.normal,none⟩ (above++cs)) w=
      stepG.apply P true ⟨fn0,tmps,.inRegion ops (i::rest)::k,[],.run,.normal,none⟩ (above++cs) none (execOp (Frame.eval ⟨fn0,tmps,.inRegion ops (i::rest)::k,[],.run,.normal,none⟩) o) w:=by
      rw[ho]at hw;have hw':Region.wanted o (yielded ops tmps)=true:=by simpa using hw
      simp[G,stepG,stepG.exec,stepG.oper,Frame.oper?,ho,hw']
     rw[hstep];generalize hex:(execOp (Frame.eval ⟨fn0,tmps,.inRegion ops (i::rest)::k,[],.run,.normal,none⟩) o)=ex at hr;rw[br]at hr;cases hrun:ex.runT P w #[]with
     |mk r cM=>
      rw[hrun]at hr;cases r with
      |halt hh w1=>simp at hr
      |ok nx w1=>
       dsimp only at hr;cases nx<;>simp only[pure,stuck,Sem.runT,zab,Result.ok.injEq,reduceCtorEq,false_and]at hr;all_goals
        obtain⟨⟨⟨rfl,rfl⟩,rfl⟩,rfl⟩:=hr;have h1:=congrArg Prod.fst hrun;have h2:=congrArg Prod.snd hrun;simp at h1 h2;simp[stepG.apply,h1,h2,G,GStep.after]
   ·rw[if_neg hw]at hr;simp only[pure,Sem.runT,zab,Result.ok.injEq]at hr;obtain⟨⟨⟨rfl,rfl⟩,rfl⟩,rfl⟩:=hr;simp only[Bool.not_eq_true]at hw;simp[G,stepG,stepG.exec,none_,hw,Frame.finish]
  |.code (.rangeFunc ..)::k,hand,hr=>simp[aB,aG]at hand
  |.code (.scope ..)::k,hand,hr=>simp[aB,aG]at hand
  |.code (.label ..)::k,hand,hr=>simp[aB,aG]at hand
  |.code (.goto ..)::k,hand,hr=>simp[aB,aG]at hand
  |.code (.refuse ..)::k,hand,hr=>simp[aJ,stuck]at hr
  |.inScope c::k,hand,hr=>simp[aB]at hand
  |.inRangeFunc c::k,hand,hr=>simp[aB]at hand
  |.endRangeFunc c::k,hand,hr=>simp[aB]at hand
  |.beginRound::k,hand,hr=>simp[aB]at hand
  |.call ..::k,hand,hr=>simp[aB]at hand
  |.extern ..::k,hand,hr=>simp[aB]at hand
 ·obtain⟨fn,h1⟩:=Mk;simp only[aJ,h1]at hr;rw[br]at hr;cases hrun:(results fn tmps).runT P w #[]with
  |mk r cM=>
   rw[hrun]at hr;cases r with
   |halt hh w1=>simp at hr
   |ok v w1=>
    dsimp only at hr;cases above with
    |nil=>simp[stuck]at hr
    |cons c rest=>
     simp only[pure,Sem.runT,zab,Result.ok.injEq]at hr;obtain⟨⟨⟨rfl,rfl⟩,rfl⟩,rfl⟩:=hr;have q1:=congrArg Prod.fst hrun;have q2:=congrArg Prod.snd hrun;simp at q1 q2;simp[G,stepG,unwind,h1,q1,q2,doReturn,GStep.after]
end
def jA:Rn:={ b:=id,f:=id,d:=0 }
theorem nD:∀v:Value,rv jA v=v
 |.pointer none=>by simp[rv]
 |.pointer (some a)=>by simp[rv,ra,jA]
 |.slice none _ _=>by simp[rv]
 |.slice (some a) l c=>by simp[rv,ra,jA]
 |.map none=>by simp[rv]
 |.map (some r)=>by simp[rv,jA]
 |.chan none=>by simp[rv]
 |.chan (some r)=>by simp[rv,jA]
 |.func fn first captured=>by
  simp only[rv,Value.func.injEq];refine⟨rfl,bj.2 λx hx=>?_,bj.2 λx hx=>?_⟩
  ·have:=zaB hx;exact nD x
  ·have:=zaB hx;exact nD x
 |.iface t v=>by simp only[rv,Value.iface.injEq,true_and];exact nD v
 |.agg cs=>by
  simp only[rv,Value.agg.injEq];refine bj.2 λx hx=>?_;have:=zaB hx;exact nD x
 |.tuple cs=>by
  simp only[rv,Value.tuple.injEq];refine bj.2 λx hx=>?_;have:=zaB hx;exact nD x
 |.bool _=>by simp[rv]
 |.int _ _=>by simp[rv]
 |.float _ _=>by simp[rv]
 |.complex _ _ _=>by simp[rv]
 |.string _=>by simp[rv]
 |.nilFunc=>by simp[rv]
 |.nilIface=>by simp[rv]
termination_by v=>SizeOf.sizeOf v
theorem map_id' (cs:Array Value):cs.map (rv jA)=cs:=bj.2 λx _=>nD x
theorem SQ (a:Addr):ra jA a=a:=rfl
theorem B7 (o:Obj):ro jA o=o:=by
 cases o with
 |cells c t f=>simp[ro,map_id']
 |pending c t=>simp[ro,map_id']
 |chan a b c d e f=>simp[ro,map_id']
 |view a t=>simp[ro,SQ]
 |number a t=>simp[ro,SQ]
 |map es c=>
  simp only[ro,Obj.map.injEq,and_true];apply Array.ext
  ·simp
  ·intro i h1 h2;simp[nD]
 |_=>rfl
theorem Fb (fr:Frame):bV jA fr=fr:=by simp[bV,map_id']
theorem Ak:∀l:List Frame,l.map (bV jA)=l
 |[]=>rfl
 |f::l=>by rw[zan,Fb,Ak l]
section
variable {P:Program}{F:FuncId→Bool}{S:Sd}
theorem lB (hC:kO P F S):Plain P jA:=⟨λt i v h1 h2=>hC.zero t i v h1 h2 _,λ_a _b h=>h⟩
theorem lC (hC:kO P F S)(n:Nat):Plain P (sg S S.d n):=⟨λt i v h1 h2=>hC.zero t i v h1 h2 _,Ug⟩
theorem Hg:qE S jA:=⟨λ_ _=>rfl,λ_ _ _=>rfl,λ_ _=> .inr rfl⟩
theorem Al:yc P jA:=λ_=>Iff.rfl
theorem Ml (o:Obj):GO P jA o:= .inl Al
def fY (_P:Program)(S:Sd)(n:Nat)(fr:Frame):Prop:=∀v∈fr.tmps,rv (sg S S.d n) v=v
structure PI (P:Program) (F:FuncId→Bool) (S:Sd) (fr:Frame) (above:List Frame) (w:World):Prop where
 ok:jV P F S fr
 oks:∀f∈above,jV P F S f
 cl:fY P S w.heap.size fr
 cls:∀f∈above,fY P S w.heap.size f
 wr:WR P S jA w w
theorem iN {n:Nat}{v:Value}(h:rv (sg S S.d n) v=v):FV S v:=by
 intro fn a b e;subst e;simp only[rv,Value.func.injEq]at h;exact gY.1 h.1
theorem ie {n m:Nat}(h:n≤m){fr:Frame}(hc:fY P S n fr):fY P S m fr:=λv hv=>eu (dv h).1 (dv h).2 v (hc v hv)
theorem Am {n:Nat}{fr:Frame}(hc:fY P S n fr):bV (sg S S.d n) fr=fr:=by
 unfold bV;rw[bj.2 hc]
theorem sK {n:Nat}{fr:Frame}(h:bV (sg S S.d n) fr=fr):fY P S n fr:=by
 have:fr.tmps.map (rv (sg S S.d n))=fr.tmps:=congrArg Frame.tmps h;exact bj.1 this
theorem QB {n:Nat}{above:List Frame}(hc:∀f∈above,fY P S n f):above.map (bV (sg S S.d n))=above:=by
 induction above with
 |nil=>rfl
 |cons f l ih=>rw[zan,Am (hc f (by simp)),ih λg hg=>hc g (by simp[hg])]
theorem vU {n:Nat}:∀{above:List Frame},above.map (bV (sg S S.d n))=above→∀f∈above,fY P S n f
 |[],_,f,hf=>by cases hf
 |g::l,h,f,hf=>by
  simp only[zan,List.cons.injEq]at h;rcases zao.1 hf with rfl|hf
  ·exact sK h.1
  ·exact vU h.2 f hf
theorem sL (hC:kO P F S){fr:Frame}{above:List Frame}{w:World}(h:PI P F S fr above w):∀n,w.heap.size≤n→ae P (sg S S.d n) (FF P F S (sg S S.d n)) (aJ P fr above) (aJ P fr above):=λn hn=>by
 have:=Aj (ρ:=sg S S.d n) hC (lC hC n) (uT (zad h.wr.big.g hn)) h.ok h.oks (λv hv=> .inr (ie hn h.cl v hv)) (λv hv=>iN (h.cl v hv));rwa[Am (ie hn h.cl),QB λf hf=>ie hn (h.cls f hf)]at this
theorem QC (hC:kO P F S){fr:Frame}{above:List Frame}{w:World}(h:PI P F S fr above w):ae P jA (FF P F S jA) (aJ P fr above) (aJ P fr above):=by
 have:=Aj (ρ:=jA) hC (lB hC) Hg h.ok h.oks (λv _=> .inl Al) (λv hv=>iN (h.cl v hv));rwa[Fb,Ak]at this
theorem XW {x y:Frame×List Frame}(h:FF P F S jA x y):y=x:=by
 obtain⟨h,_⟩:=h;rw[Fb,Ak]at h;exact h
def _root_.Go.World.re (w:World)(τ:Nat→Question→Nat)(d:Nat):World:={ w with tape:=τ,drawn:=d }
theorem oI {a b:World}(h1:a.heap=b.heap)(h2:a.tape=b.tape)(h3:a.drawn=b.drawn)(h4:a.os=b.os)(h5:a.output=b.output):a=b:=by
 obtain⟨a1,a2,a3,a4,a5⟩:=a;obtain⟨b1,b2,b3,b4,b5⟩:=b;simp only at h1 h2 h3 h4 h5;subst h1 h2 h3 h4 h5;rfl
theorem dU (hC:kO P F S){fr:Frame}{above:List Frame}{w:World}(h:PI P F S fr above w){f1:Frame}{a1:List Frame}{w1:World}{es:Array Event}
 (hr:(aJ P fr above).runT P w #[]=(.ok (f1,a1) w1,es)):PI P F S f1 a1 w1∧w1.tape=w.tape∧w.drawn≤w1.drawn∧∀τ d,WC w w1 (w.re τ d)→∃es',(aJ P fr above).runT P (w.re τ d) #[]=(.ok (f1,a1) (w1.re τ (d+(w1.drawn-w.drawn))),es'):=by
 have qK:=sL hC h;have key:∀τ d,WC w w1 (w.re τ d)→∃es',(aJ P fr above).runT P (w.re τ d) #[]=(.ok (f1,a1) (w1.re τ (d+(w1.drawn-w.drawn))),es')∧PI P F S f1 a1 w1∧w1.tape=w.tape∧w.drawn≤w1.drawn:=λτ d vV=>by
  have hW:WR P S jA w (w.re τ d):=⟨h.wr.live,h.wr.ok,h.wr.dead,h.wr.closed,h.wr.next,h.wr.low,h.wr.big⟩;obtain⟨b,W1,es',r1,r2,r3,r4,r5,r6⟩:=cS (lB hC) Ml _ _ _ (λn=>FF P F S (sg S S.d n)) w (w.re τ d) #[] #[] _ _ _ (QC hC h) qK hW vV hr;obtain rfl:=XW r2;have hsz:W1.heap.size=w1.heap.size:=by have:=r5.size;simp only[World.re]at this;omega
  have lD:W1.heap=w1.heap:=by
   apply Array.ext hsz;intro i hi1 hi2;have e:W1.heap[i]?=w1.heap[i]?:=by
    rcases zag i S.d with hlt|i6
    ·rw[r5.frame i (by have:=h.wr.big.d;show i<w.heap.size;omega) (by rintro ⟨r,hr1,_,e⟩;have e':i=r:=e;omega)];show w.heap[i]?=_;rw[h.wr.dead i hlt,r4.dead i hlt]
    ·have hs:w1.heap[i]?=some w1.heap[i]:=zaq hi2;have:=r4.live i _ i6 hs;rw[B7]at this;rw[hs];exact this
   rw[zaq hi1,zaq hi2]at e;exact Option.some.inj e
  have hWe:W1=w1.re τ (d+(w1.drawn-w.drawn)):=by
   refine oI lD r5.tape ?_ (r5.os.trans r5.XU.symm) (r5.output.trans r5.Me.symm);have:=r5.drawn;have:=r5.sH;show W1.drawn=d+(w1.drawn-w.drawn);simp only[World.re]at *;omega
  have fe:=r3 w1.heap.size (zaa _);have Mm:bV (sg S S.d w1.heap.size) f1=f1:=(congrArg Prod.fst fe.1).symm;have Mn:a1.map (bV (sg S S.d w1.heap.size))=a1:=(congrArg Prod.snd fe.1).symm;have hwr:WR P S jA w1 w1:=by
   subst hWe;exact⟨r4.live,r4.ok,r4.dead,r4.closed,r4.next,r4.low,r4.big⟩
  exact⟨es',by rw[r1,hWe],⟨fe.2.1,fe.2.2,sK Mm,vU Mn,hwr⟩,r5.B5,r5.sH⟩
 obtain⟨_,_,k1,k2,k3⟩:=key w.tape w.drawn (λj _ q=>rfl);exact⟨k1,k2,k3,λτ d vV=>by obtain⟨es',e,_⟩:=key τ d vV;exact⟨es',e⟩⟩
theorem Mo (hC:kO P F S){ρ:Rn}(hp:Plain P ρ)(E9:yc P ρ)(hx:qE S ρ){fr:Frame}{above:List Frame}{w W:World}(h:PI P F S fr above w)(hW:WR P S ρ w W){f1:Frame}{a1:List Frame}{w1:World}{es:Array Event}
 (hn:WC w w1 W)(hr:(aJ P fr above).runT P w #[]=(.ok (f1,a1) w1,es)):∃W1 es',WR P S ρ w1 W1∧BH S.d ρ w w1 W W1∧(∀e∈es',mX S.d ρ w1 e)∧
   ∀main cs,stepG P main (G (bV ρ fr) (above.map (bV ρ)++cs)) W=.go (G (bV ρ f1) (a1.map (bV ρ)++cs)) W1 (seen P fr.fn es'):=by
 have qK:=sL hC h;have yj:=Aj (ρ:=ρ) hC hp hx h.ok h.oks (λv _=> .inl E9) (λv hv=>iN (h.cl v hv));obtain⟨b,W1,es',r1,⟨rfl,o1,o2⟩,r3,r4,r5,r6⟩:=cS hp (λo=> .inl E9) _ _ _ (λn=>FF P F S (sg S S.d n)) w W #[] #[] _ _ _ yj qK hW hn hr;refine⟨W1,es',r4,r5,λe he=>(r6 e he).resolve_left (by simp),λmain cs=>?_⟩;have bX:jV P F S (bV ρ fr):=⟨h.ok.defers,h.ok.mode,h.ok.kind,h.ok.round,h.ok.todo,h.ok.fn⟩;exact mi bX r1
end
abbrev Tp:=Nat→Question→Nat
inductive Mp (P:Program) (Q:Frame→List Frame→World→Prop):Frame→List Frame→World→Prop
 |stop {fr:Frame} {above:List Frame} {w:World}:Q fr above w→Mp P Q fr above w
 |step {fr:Frame} {above:List Frame} {w:World} (nf:Tp→Nat→Frame) (na:Tp→Nat→List Frame) (nw:Tp→Nat→World) (ne:Tp→Nat→Array Event):
   (∀τ d,(aJ P fr above).runT P (w.re τ d) #[]=(.ok (nf τ d,na τ d) (nw τ d),ne τ d))→(∀τ d,Mp P Q (nf τ d) (na τ d) (nw τ d))→Mp P Q fr above w
inductive mj (P:Program):Nat→Frame→List Frame→World→Frame→List Frame→World→Prop
 |zero {fr:Frame} {above:List Frame} {w:World}:mj P 0 fr above w fr above w
 |succ {n:Nat} {fr f1 f2:Frame} {above a1 a2:List Frame} {w w1 w2:World} {es:Array Event}:(aJ P fr above).runT P w #[]=(.ok (f1,a1) w1,es)→mj P n f1 a1 w1 f2 a2 w2→mj P (n+1) fr above w f2 a2 w2
section
variable {P:Program}{F:FuncId→Bool}{S:Sd}{Q:Frame→List Frame→World→Prop}
theorem SR (w:World)(τ pz:Tp)(d d':Nat):(w.re τ d).re pz d'=w.re pz d':=rfl
theorem PI.re {fr:Frame}{above:List Frame}{w:World}(h:PI P F S fr above w)(τ:Tp)(d:Nat):PI P F S fr above (w.re τ d):=
 ⟨h.ok,h.oks,h.cl,h.cls,⟨h.wr.live,h.wr.ok,h.wr.dead,h.wr.closed,h.wr.next,h.wr.low,h.wr.big⟩⟩
theorem mj.stays (hC:kO P F S):∀{n:Nat} {fr f:Frame} {above a:List Frame} {w w':World},mj P n fr above w f a w'→PI P F S fr above w→Ren.PI P F S f a w'
 |0,fr,f,above,a,w,w',h,hI=>by cases h;exact hI
 |n+1,fr,f,above,a,w,w',h,hI=>by
  cases h with
  | @succ _ _ f1 _ _ a1 _ _ w1 _ es h1 h2=>exact mj.stays hC h2 (dU hC hI h1).1
theorem mj.shift (hC:kO P F S):∀{n:Nat} {fr f:Frame} {above a:List Frame} {w w':World},mj P n fr above w f a w'→PI P F S fr above w→∀(τ:Tp) (d:Nat),(∀j q,τ (d+j) q=w.tape (w.drawn+j) q)→∃d',mj P n fr above (w.re τ d) f a (w'.re τ d')
 |0,fr,f,above,a,w,w',h,hI,τ,d,XT=>by cases h;exact⟨d,.zero⟩
 |n+1,fr,f,above,a,w,w',h,hI,τ,d,XT=>by
  cases h with
  | @succ _ _ f1 _ _ a1 _ _ w1 _ es h1 h2=>
    obtain⟨LG,ht,hd,vV⟩:=dU hC hI h1;obtain⟨es',e⟩:=vV τ d (λj _ q=>XT j q);obtain⟨d',h3⟩:=mj.shift hC h2 LG τ (d+(w1.drawn-w.drawn)) (λj q=>by
     have:=XT (w1.drawn-w.drawn+j) q;rw[ht,show d+(w1.drawn-w.drawn)+j=d+(w1.drawn-w.drawn+j) by omega,this,show w.drawn+(w1.drawn-w.drawn+j)=w1.drawn+j by omega])
    exact⟨d',.succ e h3⟩
theorem tV (hC:kO P F S)(hQ:∀f a w τ d,PI P F S f a w→Q f a w→Q f a (w.re τ d)){fr:Frame}{above:List Frame}{w:World}(hI:PI P F S fr above w)
 (hT:∀τ:Tp,∃n f a w',mj P n fr above (w.re τ 0) f a w'∧Q f a w'):Mp P Q fr above w:=by
 refine Classical.byContradiction λhN=>?_;have hQ':∀f a (w:World) τ d,PI P F S f a w→Q f a (w.re τ d)→Q f a w:=λf a w τ d hI h=>by
  have:=hQ f a (w.re τ d) w.tape w.drawn (hI.re _ _) h;exact this
 let XX:Frame×List Frame×World→Prop:=λs=>PI P F S s.1 s.2.1 s.2.2∧(∀τ:Tp,∃n f a w',mj P n s.1 s.2.1 (s.2.2.re τ 0) f a w'∧Q f a w')∧¬Mp P Q s.1 s.2.1 s.2.2;have next:∀s:{ s // XX s },∃s':{ s // XX s },∃(τ:Tp) (d:Nat) (es:Array Event),(aJ P s.1.1 s.1.2.1).runT P (s.1.2.2.re τ d) #[]=(.ok (s'.1.1,s'.1.2.1) s'.1.2.2,es):=by
  rintro ⟨⟨fr,above,w⟩,hI,hT,hN⟩;simp only at hI hT hN;have nq:¬Q fr above w:=λh=>hN (.stop h);have run:∀(τ:Tp) (d:Nat),∃f1 a1 w1 es,(aJ P fr above).runT P (w.re τ d) #[]=(.ok (f1,a1) w1,es):=λτ d=>by
   obtain⟨n,f,a,w',hr,hq⟩:=hT (λj=>τ (d+j));cases hr with
   |zero=>exact absurd (hQ' _ _ _ _ _ hI hq) nq
   | @succ _ _ f1 _ _ a1 _ _ w1 _ es h1 h2=>
     obtain⟨_,_,_,vV⟩:=dU hC (hI.re _ _) h1;obtain⟨es',e⟩:=vV τ d (λj _ q=>by show τ (d+j) q=τ (d+(0+j)) q;rw[Nat.zero_add]);exact⟨_,_,_,_,e⟩
  have ex:∃(τ:Tp) (d:Nat),∀f1 a1 w1 es,(aJ P fr above).runT P (w.re τ d) #[]=(.ok (f1,a1) w1,es)→¬Mp P Q f1 a1 w1:=by
   refine Classical.byContradiction λhno=>hN ?_;have all:∀(τ:Tp) (d:Nat),∃f1 a1 w1 es,(aJ P fr above).runT P (w.re τ d) #[]=(.ok (f1,a1) w1,es)∧Mp P Q f1 a1 w1:=λτ d=>by
    refine Classical.byContradiction λhx=>hno ⟨τ,d,λf1 a1 w1 es he hb=>hx ⟨f1,a1,w1,es,he,hb⟩⟩
   exact .step (λτ d=>Classical.choose (all τ d)) (λτ d=>Classical.choose (Classical.choose_spec (all τ d))) (λτ d=>Classical.choose (Classical.choose_spec (Classical.choose_spec (all τ d))))
    (λτ d=>Classical.choose (Classical.choose_spec (Classical.choose_spec (Classical.choose_spec (all τ d))))) (λτ d=>(Classical.choose_spec (Classical.choose_spec (Classical.choose_spec (Classical.choose_spec (all τ d))))).1)
    (λτ d=>(Classical.choose_spec (Classical.choose_spec (Classical.choose_spec (Classical.choose_spec (all τ d))))).2)
  obtain⟨τ,d,hb⟩:=ex;obtain⟨f1,a1,w1,es,he⟩:=run τ d;obtain⟨LG,ht,hd,vV⟩:=dU hC (hI.re τ d) he;refine⟨⟨⟨f1,a1,w1⟩,LG,λWD=>?_,hb _ _ _ _ he⟩,τ,d,es,he⟩;let m:=w1.drawn-d;obtain⟨n,f,a,w',hr,hq⟩:=hT (λi=>if i<m then τ (d+i)else WD (i-m));cases hr with
  |zero=>exact absurd (hQ' _ _ _ _ _ hI hq) nq
  | @succ n' _ f2 _ _ a2 _ _ w2 _ XY h1 h2=>
    obtain⟨es3,e3⟩:=vV (λi=>if i<m then τ (d+i)else WD (i-m)) 0 (λj hj q=>by
     show(if 0+j<m then τ (d+(0+j))else WD (0+j-m)) q=τ (d+j) q;rw[Nat.zero_add,if_pos (show j<m from hj)])
    rw[SR,h1]at e3;simp only[zab,Result.ok.injEq]at e3;obtain⟨⟨⟨rfl,rfl⟩,rfl⟩,_⟩:=e3;obtain⟨d',h3⟩:=mj.shift hC h2 (LG.re _ _) WD 0 (λj q=>by
     show WD (0+j) q=(if 0+m+j<m then τ (d+(0+m+j))else WD (0+m+j-m)) q;rw[if_neg (by omega),show 0+m+j-m=0+j by omega])
    exact⟨n',f,a,_,h3,hQ _ _ _ _ _ (mj.stays hC h2 (LG.re _ _)) hq⟩
 let nx:{ s // XX s }→{ s // XX s }:=λs=>Classical.choose (next s);let sq:Nat→{ s // XX s }:=λk=>Nat.rec ⟨(fr,above,w),hI,hT,hN⟩ (λ_ s=>nx s) k;have hsq:∀k,∃(τ:Tp) (d:Nat) (es:Array Event),(aJ P (sq k).1.1 (sq k).1.2.1).runT P ((sq k).1.2.2.re τ d) #[]=(.ok ((sq (k+1)).1.1,(sq (k+1)).1.2.1) (sq (k+1)).1.2.2,es):=λk=>Classical.choose_spec (next (sq k));let XZ:Nat→Tp:=λk=>Classical.choose (hsq k);let ds:Nat→Nat:=λk=>Classical.choose (Classical.choose_spec (hsq k));have hrun:∀k,∃es,(aJ P (sq k).1.1 (sq k).1.2.1).runT P ((sq k).1.2.2.re (XZ k) (ds k)) #[]=(.ok ((sq (k+1)).1.1,(sq (k+1)).1.2.1) (sq (k+1)).1.2.2,es):=λk=>Classical.choose_spec (Classical.choose_spec (hsq k));let ms:Nat→Nat:=λk=>(sq (k+1)).1.2.2.drawn - ds k;let cs:Nat→Nat:=λk=>Nat.rec 0 (λk c=>c+ms k) k;have hcs:∀k,cs (k+1)=cs k+ms k:=λk=>rfl;have SS:∀a b,a≤b→cs a≤cs b:=λa b hab=>by
  induction hab with
  |refl=>exact zaa _
  |step _ ih=>rw[hcs];omega
 let T:Tp:=λi q=>open Classical in if h:∃k,cs k≤i∧i<cs (k+1)then XZ (Classical.choose h) (ds (Classical.choose h)+(i-cs (Classical.choose h))) q else 0
 have hTs:∀k j q,j<ms k→T (cs k+j) q=XZ k (ds k+j) q:=λk j q hj=>by
  have hex:∃k',cs k'≤cs k+j∧cs k+j<cs (k'+1):=⟨k,by omega,by rw[hcs];omega⟩;have yX:Classical.choose hex=k:=by
   have h1:=Classical.choose_spec hex;rcases Nat.lt_trichotomy (Classical.choose hex) k with h|h|h
   ·have h2:=SS (Classical.choose hex+1) k h;omega
   ·exact h
   ·have h2:=SS (k+1) (Classical.choose hex) h;rw[hcs]at h2;omega
  show(open Classical in if h:∃k',cs k'≤cs k+j∧cs k+j<cs (k'+1)then XZ (Classical.choose h) (ds (Classical.choose h)+(cs k+j-cs (Classical.choose h))) q else 0)=_;rw[dif_pos hex,yX,show cs k+j-cs k=j by omega]
 have walk:∀(n k:Nat) (f:Frame) (a:List Frame) (w':World),mj P n (sq k).1.1 (sq k).1.2.1 ((sq k).1.2.2.re T (cs k)) f a w'→f=(sq (k+n)).1.1∧a=(sq (k+n)).1.2.1∧w'=(sq (k+n)).1.2.2.re T (cs (k+n)):=by
  intro n
  induction n with
  |zero=>intro k f a w' h;cases h;exact⟨rfl,rfl,rfl⟩
  |succ n ih=>
   intro k f a w' h;cases h with
   | @succ _ _ f1 _ _ a1 _ _ w1 _ es h1 h2=>
     obtain⟨XY,he⟩:=hrun k;obtain⟨_,_,hd,vV⟩:=dU hC ((sq k).2.1.re (XZ k) (ds k)) he;obtain⟨es3,e3⟩:=vV T (cs k) (λj hj q=>hTs k j q hj);rw[SR,h1]at e3;simp only[zab,Result.ok.injEq]at e3;obtain⟨⟨⟨rfl,rfl⟩,rfl⟩,_⟩:=e3;have:=ih (k+1) f a w' h2;rwa[show k+1+n=k+(n+1) by omega]at this
 obtain⟨n,f,a,w',hr,hq⟩:=hT T;obtain⟨rfl,rfl,rfl⟩:=walk n 0 f a w' hr;exact(sq (0+n)).2.2.2 (.stop (hQ' _ _ _ _ _ (sq (0+n)).2.1 hq))
end
section
variable {P:Program}{F:FuncId→Bool}{S:Sd}
theorem Hh:∀a b,jA a=jA b→a=b:=λ_ _ h=>h
theorem cD {α:Type}:∀(t:Sem α) (Rs:Nat→α→α→Prop) (w:World) (es:Array Event) (h:Halt) (w1:World) (cM:Array Event),(∀n,w.heap.size≤n→ae P (sg S S.d n) (Rs n) t t)→WR P S jA w w→t.runT P w es=(.halt h w1,cM)→BR h
 |.pure a0,Rs,w,es,h,w1,cM,h2,hW,hr=>by simp[Sem.runT]at hr
 |.load m ad k,Rs,w,es,h,w1,cM,h2,hW,hr=>by
  by_cases hlt:ad.block<S.d
  ·simp only[Sem.runT,yU hW hlt,World.farLoad,hW.dead _ hlt,ia,zab,World.noCell]at hr;have e:=hr.1;simp only[Result.halt.injEq]at e;rw[←e.1];trivial
  have cj:S.d≤ad.block∧ad.block<w.heap.size:=by
   rcases h2 w.heap.size (zaa _)with h|⟨k',e,_⟩
   ·exact absurd h hlt
   ·simp only[Sem.load.injEq]at e;exact bH.1 (gF.1 e.2.1.symm)
  have iZ:∀v,(∀n,w.heap.size≤n→rv (sg S S.d n) v=v)→∀n,w.heap.size≤n→ae P (sg S S.d n) (Rs n) (k v) (k v):=λv hv n hn=>by
   rcases h2 n hn with h|⟨k',e,hk⟩
   ·exact absurd h hlt
   ·simp only[Sem.load.injEq]at e;obtain⟨_,_,rfl⟩:=e;have:=hk v;rwa[hv n hn]at this
  simp only[Sem.runT]at hr;cases hc:w.cell? ad with
  |some v=>
   rw[hc]at hr;have fe:=tU hW cj.1 hc;exact cD (k v) Rs w _ h w1 cM (iZ v λn hn=>eu (dv hn).1 (dv hn).2 v fe) hW hr
  |none=>
   rw[hc]at hr;simp only at hr;obtain⟨o,ho⟩:∃o,w.heap[ad.block]?=some o:=⟨_,zaq cj.2⟩;have bX:=hW.ok _ o ho;cases o with
   |view at_ u=>
    cases hv:w.viewLoad P at_ u ad (m== .atomic)with
    |error e=>
     simp only[World.farLoad,ho,hv,zab,Result.halt.injEq]at hr;rw[←hr.1.1];trivial
    |ok x=>
     simp only[World.farLoad,ho,hv]at hr;have fe:=hW.closed _ _ cj.1 ho;simp only[ro,Obj.view.injEq,and_true]at fe;have hat:=bH.1 (gF.1 fe);obtain⟨v,ts⟩:=x;obtain⟨yg,q1,q2,q3,q4⟩:=qI hW.Live hat.1 hv;exact cD (k v) Rs w _ h w1 cM (iZ v λn _=>q3 _) hW hr
   |cells c e f=>
    simp only[World.farLoad,ho,World.noCell,zab,Result.halt.injEq]at hr;rw[←hr.1.1];trivial
   |number c e=>
    simp only[World.farLoad,ho,World.noCell,zab,Result.halt.injEq]at hr;rw[←hr.1.1];trivial
   |map c e=>
    simp only[World.farLoad,ho,World.noCell,zab,Result.halt.injEq]at hr;rw[←hr.1.1];trivial
   |_=>exact bX.elim
 |.store m ad v k,Rs,w,es,h,w1,cM,h2,hW,hr=>by
  have cj:(S.d≤ad.block∧ad.block<w.heap.size)∧rv (sg S S.d w.heap.size) v=v:=by
   obtain⟨k',e,_⟩:=h2 w.heap.size (zaa _);simp only[Sem.store.injEq]at e;exact⟨bH.1 (gF.1 e.2.1.symm),e.2.2.1.symm⟩
  obtain⟨cj,hv⟩:=cj;have iZ:∀n,w.heap.size≤n→ae P (sg S S.d n) (Rs n) k k:=λn hn=>by
   obtain⟨k',e,hk⟩:=h2 n hn;simp only[Sem.store.injEq]at e;obtain⟨_,_,_,rfl⟩:=e;exact hk
  cases hc:w.cell? ad with
  |some v0=>
   cases Mh:w.frozen? ad with
   |true=>cases v<;>simp only[Sem.runT,hc,Mh,if_true,zab,Result.halt.injEq]at hr<;>(rw[←hr.1.1];trivial)
   |false=>
    have key:(∃s,h=.stuck s)∨k.runT P (w.setCell ad v) (es.push ⟨.cell ad,true,m== .atomic⟩)=(.halt h w1,cM):=by
     cases v<;>simp only[Sem.runT,hc,Mh,zau,if_false]at hr<;>first|exact .inr hr|(simp only[zab,Result.halt.injEq]at hr;exact .inl ⟨_,hr.1.1.symm⟩)
    rcases key with⟨s,rfl⟩|key
    ·trivial
    ·have hs:=hW.setCell Hh cj.1 hv;rw[nD]at hs;exact cD k Rs _ _ h w1 cM (by simpa[World.setCell]using iZ) hs key
  |none=>
   obtain⟨o,ho⟩:∃o,w.heap[ad.block]?=some o:=⟨_,zaq cj.2⟩;have bX:=hW.ok _ o ho;have soft:∀x,w.farStore P ad v (m== .atomic)=.error x→BR x:=λx hx=>by
    unfold World.farStore at hx;rw[ho]at hx;cases o with
    |view at_ u=>
     simp only at hx;split at hx
     ·cases hx
     ·cases hx;trivial
    |cells c e f=>simp only[World.noCell,ho,Except.error.injEq]at hx;rw[←hx];trivial
    |number c e=>simp only[World.noCell,ho,Except.error.injEq]at hx;rw[←hx];trivial
    |map c e=>simp only[World.noCell,ho,Except.error.injEq]at hx;rw[←hx];trivial
    |_=>exact bX.elim
   cases hf:w.farStore P ad v (m== .atomic)with
   |error x=>
    have:(∃s,h=.stuck s)∨h=x:=by
     cases v<;>simp only[Sem.runT,hc,hf,zab,Result.halt.injEq]at hr<;>first|exact .inr hr.1.1.symm|exact .inl ⟨_,hr.1.1.symm⟩
    rcases this with⟨s,rfl⟩|rfl
    ·trivial
    ·exact soft _ hf
   |ok x=>
    obtain⟨w2,ts⟩:=x;have Y0:=hf;unfold World.farStore at hf;rw[ho]at hf;cases o with
    |view at_ u=>
     simp only at hf;cases PC:w.viewStore P at_ u ad v (m== .atomic)with
     |error e=>rw[PC]at hf;cases hf
     |ok x=>
      rw[PC]at hf;simp only[Except.ok.injEq]at hf;subst hf;have fe:=hW.closed _ _ cj.1 ho;simp only[ro,Obj.view.injEq,and_true]at fe;have hat:=bH.1 (gF.1 fe);obtain⟨c,c',ty,fz,yg,q1,q2,q3,q4,q5⟩:=py hW.Live hat.1 PC;subst q2;have key:(∃s,h=.stuck s)∨k.runT P { w with heap:=w.heap.setIfInBounds at_.block (.cells c' ty fz) } (es++ts.toArray.map (⟨.cell ·,true,m== .atomic⟩))=(.halt h w1,cM):=by
       cases v<;>simp only[Sem.runT,hc,Y0]at hr<;>first|exact .inr hr|(simp only[zab,Result.halt.injEq]at hr;exact .inl ⟨_,hr.1.1.symm⟩)
      rcases key with⟨s,rfl⟩|key
      ·trivial
      ·have Ai:WR P S jA { w with heap:=w.heap.setIfInBounds at_.block (.cells c' ty fz) } { w with heap:=w.heap.setIfInBounds (jA at_.block) (.cells c' ty fz) }:=by
        refine hW.upd Hh hat.1 (gq _ _ _) (gq _ _ _) (λo ho=>⟨trivial,by rw[B7],λhs=>?_⟩);rw[q1]at ho;cases ho;simp only[ro,Obj.cells.injEq,and_true]at hs ⊢;exact q3 _ hs
       exact cD k Rs _ _ h w1 cM (by simpa using iZ) Ai key
    |_=>cases hf
 |.new o k,Rs,w,es,h,w1,cM,h2,hW,hr=>by
  have hs:lr o∧ro (sg S S.d w.heap.size) o=o:=by
   obtain⟨ho,k',e,_⟩:=h2 w.heap.size (zaa _);simp only[Sem.new.injEq]at e;exact⟨ho,e.1.symm⟩
  have iZ:∀n,w.heap.size+1≤n→ae P (sg S S.d n) (Rs n) (k w.heap.size) (k w.heap.size):=λn hn=>by
   obtain⟨_,k',e,hk⟩:=h2 n (by omega);simp only[Sem.new.injEq]at e;obtain⟨_,rfl⟩:=e;have:=hk w.heap.size;rwa[show sg S S.d n w.heap.size=w.heap.size from bH.2 ⟨hW.big.d,by omega⟩]at this
  simp only[Sem.runT]at hr;have SU:=hW.push hs.1 hs.2;rw[B7]at SU;exact cD (k w.heap.size) Rs _ es h w1 cM (by simpa using iZ) SU hr
 |.shape r k,Rs,w,es,h,w1,cM,h2,hW,hr=>by
  simp only[Sem.runT]at hr;refine cD _ Rs w es h w1 cM (λn hn=>?_) hW hr;obtain⟨k',e,hk⟩:=h2 n hn;simp only[Sem.shape.injEq]at e;obtain⟨_,rfl⟩:=e;exact hk _
 |.freeze ad n k,Rs,w,es,h,w1,cM,h2,hW,hr=>by
  have cj:S.d≤ad.block∧ad.block<w.heap.size:=by
   obtain⟨k',e,_⟩:=h2 w.heap.size (zaa _);simp only[Sem.freeze.injEq]at e;exact bH.1 (gF.1 e.1.symm)
  have iZ:∀n,w.heap.size≤n→ae P (sg S S.d n) (Rs n) k k:=λn hn=>by
   obtain⟨k',e,hk⟩:=h2 n hn;simp only[Sem.freeze.injEq]at e;obtain⟨_,_,rfl⟩:=e;exact hk
  simp only[Sem.runT]at hr;have hsz:(w.freeze ad n).heap.size=w.heap.size:=by unfold World.freeze;split<;>simp
  exact cD k Rs (w.freeze ad n) es h w1 cM (by rw[hsz];exact iZ) (hW.freeze Hh cj.1) hr
 |.frozen ad k,Rs,w,es,h,w1,cM,h2,hW,hr=>by
  simp only[Sem.runT]at hr;refine cD _ Rs w es h w1 cM (λn hn=>?_) hW hr;obtain⟨k',e,hk⟩:=h2 n hn;simp only[Sem.frozen.injEq]at e;obtain⟨_,rfl⟩:=e;exact hk _
 |.getObj r k,Rs,w,es,h,w1,cM,h2,hW,hr=>by
  have cj:S.d≤r∧r<w.heap.size:=by
   obtain⟨k',e,_⟩:=h2 w.heap.size (zaa _);simp only[Sem.getObj.injEq]at e;exact bH.1 e.1.symm
  obtain⟨o,ho⟩:∃o,w.heap[r]?=some o:=⟨_,zaq cj.2⟩;have fe:=hW.closed _ o cj.1 ho;have bX:=hW.ok _ o ho;have BI:∀n,w.heap.size≤n→ro (sg S S.d n) o=o:=λn hn=>oF (dv hn).1 (dv hn).2 fe;have iZ:∀n,w.heap.size≤n→ae P (sg S S.d n) (Rs n) (k o) (k o):=λn hn=>by
   obtain⟨k',e,hk⟩:=h2 n hn;simp only[Sem.getObj.injEq]at e;obtain⟨_,rfl⟩:=e;have:=hk o (.inr (BI n hn));rwa[BI n hn]at this
  simp only[Sem.runT,ho]at hr;cases o with
  |cells c e f=>simp only[zab,Result.halt.injEq]at hr;rw[←hr.1.1];trivial
  |view x t=>exact cD _ Rs w _ h w1 cM iZ hW hr
  |number x t=>exact cD _ Rs w _ h w1 cM iZ hW hr
  |map x t=>exact cD _ Rs w _ h w1 cM iZ hW hr
  |_=>exact bX.elim
 |.setObj r o k,Rs,w,es,h,w1,cM,h2,hW,hr=>by
  have cj:((S.d≤r∧r<w.heap.size)∧ro (sg S S.d w.heap.size) o=o)∧L4 o:=by
   obtain⟨hs,k',e,_⟩:=h2 w.heap.size (zaa _);simp only[Sem.setObj.injEq]at e;exact⟨⟨bH.1 e.1.symm,e.2.1.symm⟩,hs⟩
  obtain⟨⟨cj,fe⟩,Hf⟩:=cj;have iZ:∀n,w.heap.size≤n→ae P (sg S S.d n) (Rs n) k k:=λn hn=>by
   obtain⟨_,k',e,hk⟩:=h2 n hn;simp only[Sem.setObj.injEq]at e;obtain⟨_,_,rfl⟩:=e;exact hk
  obtain⟨o0,ho⟩:∃o,w.heap[r]?=some o:=⟨_,zaq cj.2⟩;have bX:=hW.ok _ o0 ho;have Ai:WR P S jA { w with heap:=w.heap.setIfInBounds r o } { w with heap:=w.heap.setIfInBounds r o }:=by
   refine hW.upd Hh cj.1 (gq _ _ _) (gq _ _ _) (λo1 _=>⟨?_,by rw[B7],λ_=>fe⟩);cases o<;>first|exact Hf.elim|trivial
  simp only[Sem.runT,ho]at hr;cases o0 with
  |cells c e f=>simp only[zab,Result.halt.injEq]at hr;rw[←hr.1.1];trivial
  |view x t=>exact cD k Rs _ _ h w1 cM (by simpa using iZ) Ai hr
  |number x t=>exact cD k Rs _ _ h w1 cM (by simpa using iZ) Ai hr
  |map x t=>exact cD k Rs _ _ h w1 cM (by simpa using iZ) Ai hr
  |_=>exact bX.elim
 |.choose q k,Rs,w,es,h,w1,cM,h2,hW,hr=>by
  have iZ:∀x n,w.heap.size≤n→ae P (sg S S.d n) (Rs n) (k x) (k x):=λx n hn=>by
   obtain⟨k',e,hk⟩:=h2 n hn;simp only[Sem.choose.injEq]at e;obtain⟨_,rfl⟩:=e;exact hk x
  simp only[Sem.runT]at hr;split at hr
  ·exact cD _ Rs w es h w1 cM (iZ _) hW hr
  ·exact cD _ Rs { w with drawn:=w.drawn+1 } es h w1 cM (iZ _) (hW.drew _ _) hr
 |.sys c k,Rs,w,es,h,w1,cM,h2,hW,hr=>uW (.sys c k) _ _ _ _ _ (h2 w.heap.size (zaa _)) hr
 |.program k,Rs,w,es,h,w1,cM,h2,hW,hr=>by
  simp only[Sem.runT]at hr;refine cD _ Rs w es h w1 cM (λn hn=>?_) hW hr;obtain⟨k',e,hk⟩:=h2 n hn;simp only[Sem.program.injEq]at e;obtain rfl:=e;exact hk
 |.mark m k,Rs,w,es,h,w1,cM,h2,hW,hr=>by
  simp only[Sem.runT]at hr;refine cD k Rs w _ h w1 cM (λn hn=>?_) hW hr;obtain⟨_,k',e,hk⟩:=h2 n hn;simp only[Sem.mark.injEq]at e;obtain⟨_,rfl⟩:=e;exact hk
 |.halt h0,Rs,w,es,h,w1,cM,h2,hW,hr=>by
  simp only[Sem.runT,zab,Result.halt.injEq]at hr;rw[←hr.1.1];exact h2 w.heap.size (zaa _)
end
def c0 (P:Program):Frame:={ fn:=P.funcs.size,tmps:=#[],todo:=[.call default false "fmt's door" #[]],defers:=[],mode:= .run,kind:= .normal,roundOf:=none }
theorem X0:Extern.next "fmt's door" =none:=by
 have:(Extern.next "fmt's door").isNone=true:=by rfl
 simpa using this
section
variable {P:Program}{F:FuncId→Bool}{S:Sd}
theorem Hi (fr:Frame)(cs:List Frame)(w:World):stepG P true { frame:=fr,callers:=cs,status:= .running,dying:=none } w=stepG P true (G fr cs) w:=rfl
theorem jG {fr fr':Frame}{cs cs':List Frame}{w w':World}{es:Array Event}(h:stepG P true (G fr cs) w=.go (G fr' cs') w' es):step P (lone fr cs w)=.next (lone fr' cs' w'):=by
 refine step_lone_go ?_;rw[Hi,h];rfl
theorem iO {fr:Frame}{cs:List Frame}{w w':World}{o:Outcome}{es:Array Event}(h:stepG P true (G fr cs) w=.ended o w' es):step P (lone fr cs w)=.ended o w':=by
 refine step_lone_ended ?_;rw[Hi,h];rfl
theorem ig {fr fr':Frame}{cs cs':List Frame}{w w':World}(h:lone fr cs w=lone fr' cs' w'):fr=fr'∧cs=cs'∧w=w':=by
 simp only[lone,Machine.mk.injEq,Array.mk.injEq,List.cons.injEq,Goroutine.mk.injEq,and_true]at h;exact⟨h.2.1,h.2.2,h.1⟩
theorem yY (hC:kO P F S){fr:Frame}{above:List Frame}{w:World}(h:PI P F S fr above w){o:Oper}(ho:fw P F S o.op=true)(n:Nat)(hn:w.heap.size≤n):ae P (sg S S.d n) (NN F (sg S S.d n)) (execOp fr.eval o) (execOp fr.eval o):=by
 have hf:qE S (sg S S.d n):=uT (zad h.wr.big.g hn);have fe:=ie hn h.cl;have ic:∀x,fV S x=true→rv (sg S S.d n) (fr.eval x)=fr.eval x:=λx hx=>by
  have e:=qJ (ρ:=sg S S.d n) (fr:=fr) hx hf;rw[Am fe]at e;exact e.symm
 refine nB (F:=F) (lC hC n) hf hC.SF hC.fn o ho (λx hx=>(ic x hx).symm) (λx hx=> .inr (ic x hx)) (λx hx=>iN (ic x hx)) (λ_=>rfl) (λ_=>rfl) (λ_=>rfl) (λ_=>rfl)
theorem QD (hC:kO P F S){fr:Frame}{above:List Frame}{w w1:World}(h:PI P F S fr above w){o:Oper}(ho:fw P F S o.op=true){nx:Next}{es:Array Event}(hr:(execOp fr.eval o).runT P w #[]=(.ok nx w1,es)):∃b,NN F jA nx b:=by
 have hid:ae P jA (NN F jA) (execOp fr.eval o) (execOp fr.eval o):=by
  have ic:∀x,fV S x=true→FV S (fr.eval x):=λx hx=>by
   have e:=qJ (ρ:=sg S S.d w.heap.size) (fr:=fr) hx (uT h.wr.big.g);rw[Am h.cl]at e;exact iN e.symm
  exact nB (F:=F) (lB hC) (S:=S) Hg hC.SF hC.fn o ho (λx hx=>(nD _).symm) (λx hx=> .inl Al) ic (λ_=>rfl) (λ_=>rfl) (λ_=>rfl) (λ_=>rfl)
 obtain⟨b,W1,es',r1,r2,_⟩:=cS (lB hC) Ml _ _ _ (λn=>NN F (sg S S.d n)) w w #[] #[] _ _ _ hid (λn hn=>yY hC h ho n hn) h.wr (λ_ _ _=>rfl) hr;exact⟨b,r2⟩
theorem yZ (hC:kO P F S){fr:Frame}{above cs:List Frame}{w w1:World}(h:PI P F S fr above w)(hnl:¬(above=[]∧fr.mode=.returning)){hh:Halt}{es:Array Event}(hr:(aJ P fr above).runT P w #[]=(.halt hh w1,es)):(∃chain w2 es',stepG P true (G fr (above++cs)) w=.go (G { fr with mode:= .panicking chain } (above++cs)) w2 es')∨(∃o w2 es',stepG P true (G fr (above++cs)) w=.ended o w2 es'):=by
 have hI:=h;obtain⟨fn0,tmps,todo,defers,mode,kind,oH⟩:=fr;obtain⟨hd,hm,hk,et,hand,Mk⟩:=h.ok;simp only at hd hm hk et hand Mk;subst hd hk et;rcases hm with rfl|rfl
 ·match todo,hand,hr,hI with
  |[],hand,hr,hI=>simp[aJ,pure]at hr
  |.code .ret::k,hand,hr,hI=>simp[aJ,pure]at hr
  |.code .skip::k,hand,hr,hI=>simp[aJ,pure]at hr
  |.inBlock _::k,hand,hr,hI=>simp[aJ,pure]at hr
  |.code (.seq a b)::k,hand,hr,hI=>simp[aJ,pure]at hr
  |.code (.block id a)::k,hand,hr,hI=>simp[aJ,pure]at hr
  |.code (.loop a)::k,hand,hr,hI=>simp[aJ,pure]at hr
  |.inLoop a::k,hand,hr,hI=>simp[aJ,pure]at hr
  |.inRegion _ []::k,hand,hr,hI=>simp[aJ,pure]at hr
  |.code (.cond c a b)::k,hand,hr,hI=>
   simp only[aJ]at hr;generalize hq:Frame.eval _ c=q at hr;cases q with
   |bool t=>simp[pure]at hr
   |_=>exact .inr (by simp[G,stepG,stepG.exec,hq])
  |.code (.exit id)::k,hand,hr,hI=>
   simp only[aJ]at hr;cases he:exitTo id k with
   |none=>exact .inr (by simp[G,stepG,stepG.exec,he])
   |some k'=>rw[he]at hr;simp[pure]at hr
  |.code (.region id ops draw)::k,hand,hr,hI=>
   cases draw with
   |false=>simp[aJ,pure]at hr
   |true=>
    exfalso;simp only[aJ,if_true,bind,choose,Sem.bind,Sem.runT,Question.forced,zau,if_false,pure,zab,reduceCtorEq,false_and]at hr
  |.inRegion ops (i::rest)::k,hand,hr,hI=>
   simp only[aJ]at hr;by_cases hw:((ops[i]?).map (Region.wanted · (yielded ops tmps))).getD false=true
   ·rw[if_pos hw]at hr;cases ho:ops[i]? with
    |none=>rw[ho]at hw;simp at hw
    |some o=>
     rw[ho]at hr;dsimp only at hr;have bX:fw P F S o.op=true:=by
      simp only[zax,aB,zae]at hand;have:=hand.1.1;rw[ho]at this;simpa using this
     have hstep:stepG P true (G ⟨fn0,tmps,.inRegion ops (i::rest)::k,[],.run,.normal,none⟩ (above++cs)) w=
      stepG.apply P true ⟨fn0,tmps,.inRegion ops (i::rest)::k,[],.run,.normal,none⟩ (above++cs) none (execOp (Frame.eval ⟨fn0,tmps,.inRegion ops (i::rest)::k,[],.run,.normal,none⟩) o) w:=by
      rw[ho]at hw;have hw':Region.wanted o (yielded ops tmps)=true:=by simpa using hw
      simp[G,stepG,stepG.exec,stepG.oper,Frame.oper?,ho,hw']
     rw[hstep];rw[br]at hr;cases hrun:(execOp (Frame.eval ⟨fn0,tmps,.inRegion ops (i::rest)::k,[],.run,.normal,none⟩) o).runT P w #[]with
     |mk r cM=>
      rw[hrun]at hr;have q1:=congrArg Prod.fst hrun;have q2:=congrArg Prod.snd hrun;simp at q1 q2;cases r with
      |halt h3 w3=>
       simp only[zab,Result.halt.injEq]at hr;obtain⟨⟨rfl,rfl⟩,rfl⟩:=hr;have soft:=cD _ (λn=>NN F (sg S S.d n)) w #[] h3 w3 cM (λn hn=>yY hC hI bX n hn) hI.wr hrun;cases h3 with
       |panic v=>exact .inl ⟨_,_,_,by simp[stepG.apply,q1,G,GStep.after,Frame.raise];exact⟨rfl,rfl,rfl⟩⟩
       |stuck s=>exact .inr ⟨_,_,_,by simp[stepG.apply,q1,GStep.after];exact⟨rfl,rfl,rfl⟩⟩
       |unsupported u=>
        cases u with
        |initOrder g=>exact soft.elim
        |_=>exact .inr ⟨_,_,_,by simp[stepG.apply,q1,GStep.after];exact⟨rfl,rfl,rfl⟩⟩
       |_=>exact soft.elim
      |ok nx w3=>
       obtain⟨b,hb⟩:=QD hC hI bX hrun;dsimp only at hr;cases nx<;>simp only[NN]at hb<;>simp[pure]at hr
   ·rw[if_neg hw]at hr;simp[pure]at hr
  |.code (.rangeFunc ..)::k,hand,hr,hI=>simp[aB,aG]at hand
  |.code (.scope ..)::k,hand,hr,hI=>simp[aB,aG]at hand
  |.code (.label ..)::k,hand,hr,hI=>simp[aB,aG]at hand
  |.code (.goto ..)::k,hand,hr,hI=>simp[aB,aG]at hand
  |.code (.refuse ..)::k,hand,hr,hI=>exact .inr (by simp[G,stepG,stepG.exec])
  |.inScope c::k,hand,hr,hI=>simp[aB]at hand
  |.inRangeFunc c::k,hand,hr,hI=>simp[aB]at hand
  |.endRangeFunc c::k,hand,hr,hI=>simp[aB]at hand
  |.beginRound::k,hand,hr,hI=>simp[aB]at hand
  |.call ..::k,hand,hr,hI=>simp[aB]at hand
  |.extern ..::k,hand,hr,hI=>simp[aB]at hand
 ·obtain⟨fn,h1⟩:=Mk;simp only[aJ,h1]at hr;rw[br]at hr;cases hrun:(results fn tmps).runT P w #[]with
  |mk r cM=>
   rw[hrun]at hr;have q1:=congrArg Prod.fst hrun;simp at q1;cases r with
   |ok v w3=>
    dsimp only at hr;cases above with
    |nil=>exact absurd ⟨rfl,rfl⟩ hnl
    |cons c rest=>simp[pure]at hr
   |halt h3 w3=>
    refine .inr ?_;cases h3<;>exact⟨_,_,_,by simp[G,stepG,unwind,h1,q1,GStep.after];exact⟨rfl,rfl,rfl⟩⟩
theorem B8:∀(above:List Frame) (fr:Frame) (w:World) (chain:List PanicEntry) (n:Nat) (qL:Frame) (wf:World),fr.defers=[]→(∃f,P.funcs[fr.fn]?=some f)→(∀f∈above,jV P F S f)→runN P n (lone { fr with mode:= .panicking chain } (above++[c0 P]) w)=.next (lone qL [c0 P] wf)→qL.mode=.returning→False:=by
 intro above
 induction above with
 |nil=>
  rintro fr w chain n qL wf hd ⟨f,hf⟩ _ hr hm;cases n with
  |zero=>
   simp only[runN,Stepped.next.injEq]at hr;obtain⟨rfl,_,_⟩:=ig hr;cases hm
  |succ n=>
   have h1:step P (lone { fr with mode:= .panicking chain } ([]++[c0 P]) w)=.next (lone ((c0 P).raise chain) [] w):=by
    refine jG (es:=#[]) ?_;simp[G,stepG,unwind,hd,Frame.catches,hf]
   simp only[runN,h1]at hr;cases n with
   |zero=>
    simp only[runN,Stepped.next.injEq]at hr;obtain⟨_,e,_⟩:=ig hr;cases e
   |succ n=>
    have h2:∃o w3 es,stepG P true (G ((c0 P).raise chain) []) w=.ended o w3 es:=by
     simp[G,stepG,unwind,c0,Frame.raise,Frame.catches]
    obtain⟨o,w3,es,h2⟩:=h2;simp only[runN,iO h2]at hr;cases hr
 |cons c rest ih=>
  rintro fr w chain n qL wf hd ⟨f,hf⟩ bX hr hm;cases n with
  |zero=>
   simp only[runN,Stepped.next.injEq]at hr;obtain⟨rfl,_,_⟩:=ig hr;cases hm
  |succ n=>
   have hc:=bX c (by simp);have h1:step P (lone { fr with mode:= .panicking chain } (c::rest++[c0 P]) w)=.next (lone { c with mode:= .panicking chain } (rest++[c0 P]) w):=by
    refine jG (es:=#[]) ?_;have X1:c.raise chain={ c with mode:= .panicking chain }:=by
     unfold Frame.raise;rcases hc.mode with e|e<;>rw[e]
    simp[G,stepG,unwind,hd,Frame.catches,hf,X1]
   simp only[runN,h1]at hr;exact ih c w chain n qL wf hc.defers hc.fn (λg hg=>bX g (by simp[hg])) hr hm
theorem tW (_hC:kO P F S){fr:Frame}{w:World}(h:PI P F S fr [] w)(hm:fr.mode=.returning){n:Nat}{qL:Frame}{wf:World}(hr:runN P (n+1) (lone fr [c0 P] w)=.next (lone qL [c0 P] wf)):False:=by
 obtain⟨f,hf⟩:=h.ok.fn;have key:(∃v w2 es,stepG P true (G fr [c0 P]) w=.go (G ((c0 P).finish v) []) w2 es)∨∃o w2 es,stepG P true (G fr [c0 P]) w=.ended o w2 es:=by
  have hk:=h.ok.kind;cases hrun:(results f fr.tmps).run P w with
  |ok v w2=>
   refine .inl ⟨v,w2,?_⟩;simp[G,stepG,unwind,hm,h.ok.defers,hf,hrun,doReturn,hk,GStep.after]
  |halt h3 w2=>
   refine .inr ?_;cases h3<;>simp[G,stepG,unwind,hm,h.ok.defers,hf,hrun,GStep.after]
 rcases key with⟨v,w2,es,e⟩|⟨o,w2,es,e⟩
 ·simp only[runN,jG e]at hr;cases n with
  |zero=>
   simp only[runN,Stepped.next.injEq]at hr;obtain⟨_,e,_⟩:=ig hr;cases e
  |succ n=>
   have h2:∃o w3 es,stepG P true (G ((c0 P).finish v) []) w2=.ended o w3 es:=by
    simp[G,stepG,stepG.exec,c0,Frame.finish,X0]
   obtain⟨o,w3,es,h2⟩:=h2;simp only[runN,iO h2]at hr;cases hr
 ·simp only[runN,iO e]at hr;cases hr
theorem Ao (hC:kO P F S):∀(n:Nat) (fr:Frame) (above:List Frame) (w:World) (qL:Frame) (wf:World),PI P F S fr above w→runN P n (lone fr (above++[c0 P]) w)=.next (lone qL [c0 P] wf)→qL.mode=.returning→∃m,mj P m fr above w qL [] wf:=by
 intro n
 induction n with
 |zero=>
  intro fr above w qL wf h hr hm;simp only[runN,Stepped.next.injEq]at hr;obtain⟨rfl,e,rfl⟩:=ig hr;have:above=[]:=by
   have:=congrArg List.length e;simp at this;exact this
  subst this;exact⟨0,.zero⟩
 |succ n ih=>
  intro fr above w qL wf h hr hm;by_cases hl:above=[]∧fr.mode=.returning
  ·obtain⟨rfl,hl⟩:=hl;exact(tW hC h hl hr).elim
  ·cases hrun:(aJ P fr above).runT P w #[]with
   |mk r es=>
    cases r with
    |ok x w1=>
     obtain⟨f1,a1⟩:=x;have hs:=mi (main:=true) (cs:=[c0 P]) h.ok hrun;simp only[runN,jG hs]at hr;obtain⟨m,LH⟩:=ih f1 a1 w1 qL wf (dU hC h hrun).1 hr hm;exact⟨m+1,.succ hrun LH⟩
    |halt hh w1=>
     rcases yZ (cs:=[c0 P]) hC h hl hrun with⟨chain,w2,es',e⟩|⟨o,w2,es',e⟩
     ·simp only[runN,jG e]at hr;exact(B8 above fr w2 chain n qL wf h.ok.defers h.ok.fn h.oks hr hm).elim
     ·simp only[runN,iO e]at hr;cases hr
end
end Go.Ren
