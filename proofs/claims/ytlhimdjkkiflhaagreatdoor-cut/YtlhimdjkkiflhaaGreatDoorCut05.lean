import Derived.Conc.Listed
import Derived.Calls
import Derived.Test.YtlhimdjkkiflhaaGreatDoorCut04
set_option maxHeartbeats 8000000
set_option maxRecDepth 100000
namespace Go.Ren
open Go Go.Conc
theorem bE (P:Program){α β:Type}:∀(s:Sem α) (f:α→Sem β) (w:World) (es0:Array Event),(s>>=f).runT P w es0=match s.runT P w es0 with|(.ok a w1,dt)=>(f a).runT P w1 dt|(.halt h w1,dt)=>(.halt h w1,dt)
 |.pure a,f,w,es=>rfl
 |.load m a k,f,w,es=>by
  show(Sem.load m a λv=>(k v>>=f)).runT P w es=_;simp only[Sem.runT];split
  ·exact bE P _ f _ _
  ·split
   ·exact bE P _ f _ _
   ·rfl
 |.store m a v k,f,w,es=>by
  show(Sem.store m a v (k>>=f)).runT P w es=_;cases v<;>simp only[Sem.runT]<;>(try rfl)<;>(split<;>(try split)<;>first|exact bE P _ f _ _|rfl)
 |.new o k,f,w,es=>by show(Sem.new o λv=>(k v>>=f)).runT P w es=_;simp only[Sem.runT];exact bE P _ f _ _
 |.shape r k,f,w,es=>by show(Sem.shape r λv=>(k v>>=f)).runT P w es=_;simp only[Sem.runT];exact bE P _ f _ _
 |.freeze a n k,f,w,es=>by show(Sem.freeze a n (k>>=f)).runT P w es=_;simp only[Sem.runT];exact bE P _ f _ _
 |.frozen a k,f,w,es=>by show(Sem.frozen a λv=>(k v>>=f)).runT P w es=_;simp only[Sem.runT];exact bE P _ f _ _
 |.getObj r k,f,w,es=>by
  show(Sem.getObj r λv=>(k v>>=f)).runT P w es=_;simp only[Sem.runT];split<;>first|exact bE P _ f _ _|rfl
 |.setObj r o k,f,w,es=>by
  show(Sem.setObj r o (k>>=f)).runT P w es=_;simp only[Sem.runT];split<;>first|exact bE P _ f _ _|rfl
 |.choose q k,f,w,es=>by
  show(Sem.choose q λv=>(k v>>=f)).runT P w es=_;simp only[Sem.runT];split<;>exact bE P _ f _ _
 |.sys c k,f,w,es=>by show(Sem.sys c λv=>(k v>>=f)).runT P w es=_;simp only[Sem.runT];exact bE P _ f _ _
 |.program k,f,w,es=>by show(Sem.program λv=>(k v>>=f)).runT P w es=_;simp only[Sem.runT];exact bE P _ f _ _
 |.mark m k,f,w,es=>by show(Sem.mark m (k>>=f)).runT P w es=_;simp only[Sem.runT];exact bE P _ f _ _
 |.halt h,f,w,es=>rfl
section
variable {P:Program}{F:FuncId→Bool}{S:Sd}{main:Bool}{cs:List Frame}
theorem mG {fr fr':Frame}{above vM:List Frame}(h:jA P F S fr){w w':World}{es:Array Event}(hr:(aL P fr above).runT P w #[]=(.ok (fr',vM) w',es)):stepG P main (G fr (above++cs)) w=.go (G fr' (vM++cs)) w' (seen P fr.fn es):=by
 obtain⟨fn0,tmps,todo,defers,mode,kind,jC⟩:=fr;obtain⟨hd,hm,hk,gl,hand,KN⟩:=h;simp only at hd hm hk gl hand KN;subst hd hk gl;have none_:seen P fn0 #[]=#[]:=by simp[seen]
 rcases hm with rfl|rfl
 ·match todo,hand,hr with
  |[],hand,hr=>
   simp only[aL,pure,Sem.runT,zab,Result.ok.injEq]at hr;obtain⟨⟨⟨rfl,rfl⟩,rfl⟩,rfl⟩:=hr;simp[G,stepG,stepG.exec,none_]
  |.code .ret::k,hand,hr=>
   simp only[aL,pure,Sem.runT,zab,Result.ok.injEq]at hr;obtain⟨⟨⟨rfl,rfl⟩,rfl⟩,rfl⟩:=hr;simp[G,stepG,stepG.exec,none_]
  |.code .skip::k,hand,hr=>
   simp only[aL,pure,Sem.runT,zab,Result.ok.injEq]at hr;obtain⟨⟨⟨rfl,rfl⟩,rfl⟩,rfl⟩:=hr;simp[G,stepG,stepG.exec,none_]
  |.inBlock _::k,hand,hr=>
   simp only[aL,pure,Sem.runT,zab,Result.ok.injEq]at hr;obtain⟨⟨⟨rfl,rfl⟩,rfl⟩,rfl⟩:=hr;simp[G,stepG,stepG.exec,none_]
  |.code (.seq a b)::k,hand,hr=>
   simp only[aL,pure,Sem.runT,zab,Result.ok.injEq]at hr;obtain⟨⟨⟨rfl,rfl⟩,rfl⟩,rfl⟩:=hr;simp[G,stepG,stepG.exec,none_]
  |.code (.block id a)::k,hand,hr=>
   simp only[aL,pure,Sem.runT,zab,Result.ok.injEq]at hr;obtain⟨⟨⟨rfl,rfl⟩,rfl⟩,rfl⟩:=hr;simp[G,stepG,stepG.exec,none_]
  |.code (.loop a)::k,hand,hr=>
   simp only[aL,pure,Sem.runT,zab,Result.ok.injEq]at hr;obtain⟨⟨⟨rfl,rfl⟩,rfl⟩,rfl⟩:=hr;simp[G,stepG,stepG.exec,none_]
  |.inLoop a::k,hand,hr=>
   simp only[aL,pure,Sem.runT,zab,Result.ok.injEq]at hr;obtain⟨⟨⟨rfl,rfl⟩,rfl⟩,rfl⟩:=hr;simp[G,stepG,stepG.exec,none_]
  |.inRegion _ []::k,hand,hr=>
   simp only[aL,pure,Sem.runT,zab,Result.ok.injEq]at hr;obtain⟨⟨⟨rfl,rfl⟩,rfl⟩,rfl⟩:=hr;simp[G,stepG,stepG.exec,none_]
  |.code (.cond c a b)::k,hand,hr=>
   simp only[aL]at hr;generalize hq:Frame.eval _ c=q at hr;cases q with
   |bool t=>
    simp only[pure,Sem.runT,zab,Result.ok.injEq]at hr;obtain⟨⟨⟨rfl,rfl⟩,rfl⟩,rfl⟩:=hr;simp[G,stepG,stepG.exec,none_,hq]
   |_=>simp[stuck]at hr
  |.code (.exit id)::k,hand,hr=>
   simp only[aL]at hr;cases he:exitTo id k with
   |none=>rw[he]at hr;simp[stuck]at hr
   |some k'=>
    rw[he]at hr;simp only[pure,Sem.runT,zab,Result.ok.injEq]at hr;obtain⟨⟨⟨rfl,rfl⟩,rfl⟩,rfl⟩:=hr;simp[G,stepG,stepG.exec,none_,he]
  |.code (.region id ops draw)::k,hand,hr=>
   cases draw with
   |false=>
    simp only[aL,pure,Sem.runT,zab,Result.ok.injEq,zav,if_false]at hr;obtain⟨⟨⟨rfl,rfl⟩,rfl⟩,rfl⟩:=hr;simp[G,stepG,stepG.exec,none_]
   |true=>
    simp only[aL,if_true,bind,choose,Sem.bind,Sem.runT,Question.forced,zav,if_false,pure,zab,Result.ok.injEq,Question.cut]at hr;obtain⟨⟨⟨rfl,rfl⟩,rfl⟩,rfl⟩:=hr;simp[G,stepG,stepG.exec,none_,choose,Sem.run,Question.forced,Question.cut]
  |.inRegion ops (i::rest)::k,hand,hr=>
   simp only[aL]at hr;by_cases hw:((ops[i]?).map (Region.wanted · (yielded ops tmps))).getD false=true
   ·rw[if_pos hw]at hr;cases ho:ops[i]? with
    |none=>rw[ho]at hr;simp[stuck]at hr
    |some o=>
     rw[ho]at hr;dsimp only at hr;have hstep:stepG P main (G ⟨fn0,tmps,.inRegion ops (i::rest)::k,[],.run,.normal,none⟩ (above++cs)) w=
      stepG.apply P true ⟨fn0,tmps,.inRegion ops (i::rest)::k,[],.run,.normal,none⟩ (above++cs) none (execOp (Frame.eval ⟨fn0,tmps,.inRegion ops (i::rest)::k,[],.run,.normal,none⟩) o) w:=by
      rw[ho]at hw;have hw':Region.wanted o (yielded ops tmps)=true:=by simpa using hw
      simp[G,stepG,stepG.exec,stepG.oper,Frame.oper?,ho,hw']
     rw[hstep];generalize hex:(execOp (Frame.eval ⟨fn0,tmps,.inRegion ops (i::rest)::k,[],.run,.normal,none⟩) o)=ex at hr;rw[bE]at hr;cases hrun:ex.runT P w #[]with
     |mk r dt=>
      rw[hrun]at hr;cases r with
      |halt hh w1=>simp at hr
      |ok nx w1=>
       dsimp only at hr;cases nx<;>simp only[pure,stuck,Sem.runT,zab,Result.ok.injEq,reduceCtorEq,false_and]at hr;all_goals
        obtain⟨⟨⟨rfl,rfl⟩,rfl⟩,rfl⟩:=hr;have h1:=congrArg Prod.fst hrun;have h2:=congrArg Prod.snd hrun;simp at h1 h2;simp[stepG.apply,h1,h2,G,GStep.after]
   ·rw[if_neg hw]at hr;simp only[pure,Sem.runT,zab,Result.ok.injEq]at hr;obtain⟨⟨⟨rfl,rfl⟩,rfl⟩,rfl⟩:=hr;simp only[Bool.not_eq_true]at hw;simp[G,stepG,stepG.exec,none_,hw,Frame.finish]
  |.code (.rangeFunc ..)::k,hand,hr=>simp[aB,bh]at hand
  |.code (.scope ..)::k,hand,hr=>simp[aB,bh]at hand
  |.code (.label ..)::k,hand,hr=>simp[aB,bh]at hand
  |.code (.goto ..)::k,hand,hr=>simp[aB,bh]at hand
  |.code (.refuse ..)::k,hand,hr=>simp[aL,stuck]at hr
  |.inScope c::k,hand,hr=>simp[aB]at hand
  |.inRangeFunc c::k,hand,hr=>simp[aB]at hand
  |.endRangeFunc c::k,hand,hr=>simp[aB]at hand
  |.beginRound::k,hand,hr=>simp[aB]at hand
  |.call ..::k,hand,hr=>simp[aB]at hand
  |.extern ..::k,hand,hr=>simp[aB]at hand
 ·obtain⟨fn,h1⟩:=KN;simp only[aL,h1]at hr;rw[bE]at hr;cases hrun:(results fn tmps).runT P w #[]with
  |mk r dt=>
   rw[hrun]at hr;cases r with
   |halt hh w1=>simp at hr
   |ok v w1=>
    dsimp only at hr;cases above with
    |nil=>simp[stuck]at hr
    |cons c rest=>
     simp only[pure,Sem.runT,zab,Result.ok.injEq]at hr;obtain⟨⟨⟨rfl,rfl⟩,rfl⟩,rfl⟩:=hr;have q1:=congrArg Prod.fst hrun;have q2:=congrArg Prod.snd hrun;simp at q1 q2;simp[G,stepG,unwind,h1,q1,q2,doReturn,GStep.after]
end
def jD:Rn:={ b:=id,f:=id,d:=0 }
theorem nT:∀v:Value,rv jD v=v
 |.pointer none=>by simp[rv]
 |.pointer (some a)=>by simp[rv,ra,jD]
 |.slice none _ _=>by simp[rv]
 |.slice (some a) l c=>by simp[rv,ra,jD]
 |.map none=>by simp[rv]
 |.map (some r)=>by simp[rv,jD]
 |.chan none=>by simp[rv]
 |.chan (some r)=>by simp[rv,jD]
 |.func fn first captured=>by
  simp only[rv,Value.func.injEq];refine⟨rfl,bz.2 λx hx=>?_,bz.2 λx hx=>?_⟩
  ·have:=zaA hx;exact nT x
  ·have:=zaA hx;exact nT x
 |.iface t v=>by simp only[rv,Value.iface.injEq,true_and];exact nT v
 |.agg cs=>by
  simp only[rv,Value.agg.injEq];refine bz.2 λx hx=>?_;have:=zaA hx;exact nT x
 |.tuple cs=>by
  simp only[rv,Value.tuple.injEq];refine bz.2 λx hx=>?_;have:=zaA hx;exact nT x
 |.bool _=>by simp[rv]
 |.int _ _=>by simp[rv]
 |.float _ _=>by simp[rv]
 |.complex _ _ _=>by simp[rv]
 |.string _=>by simp[rv]
 |.nilFunc=>by simp[rv]
 |.nilIface=>by simp[rv]
termination_by v=>SizeOf.sizeOf v
theorem map_id' (cs:Array Value):cs.map (rv jD)=cs:=bz.2 λx _=>nT x
theorem R8 (a:Addr):ra jD a=a:=rfl
theorem BK (o:Obj):ro jD o=o:=by
 cases o with
 |cells c t f=>simp[ro,map_id']
 |pending c t=>simp[ro,map_id']
 |chan a b c d e f=>simp[ro,map_id']
 |view a t=>simp[ro,R8]
 |number a t=>simp[ro,R8]
 |map es c=>
  simp only[ro,Obj.map.injEq,and_true];apply Array.ext
  ·simp
  ·intro i h1 h2;simp[nT]
 |_=>rfl
theorem Ej (fr:Frame):bP jD fr=fr:=by simp[bP,map_id']
theorem zV:∀l:List Frame,l.map (bP jD)=l
 |[]=>rfl
 |f::l=>by rw[zao,Ej,zV l]
section
variable {P:Program}{F:FuncId→Bool}{S:Sd}
theorem lW (hC:jB P F S):Plain P jD:=⟨λt i v h1 h2=>hC.zero t i v h1 h2 _,λ_a _b h=>h⟩
theorem lX (hC:jB P F S)(n:Nat):Plain P (sg S S.d n):=⟨λt i v h1 h2=>hC.zero t i v h1 h2 _,Ts⟩
theorem Gi:qO S jD:=⟨λ_ _=>rfl,λ_ _ _=>rfl,λ_ _=> .inr rfl⟩
theorem zW:xU P jD:=λ_=>Iff.rfl
theorem KO (o:Obj):GO P jD o:= .inl zW
def ib (_P:Program)(S:Sd)(n:Nat)(fr:Frame):Prop:=∀v∈fr.tmps,rv (sg S S.d n) v=v
structure PI (P:Program) (F:FuncId→Bool) (S:Sd) (fr:Frame) (above:List Frame) (w:World):Prop where
 ok:jA P F S fr
 oks:∀f∈above,jA P F S f
 cl:ib P S w.heap.size fr
 cls:∀f∈above,ib P S w.heap.size f
 wr:WR P S jD w w
theorem iv {n:Nat}{v:Value}(h:rv (sg S S.d n) v=v):FV S v:=by
 intro fn a b e;subst e;simp only[rv,Value.func.injEq]at h;exact iF.1 h.1
theorem iI {n m:Nat}(h:n≤m){fr:Frame}(hc:ib P S n fr):ib P S m fr:=λv hv=>ek (cR h).1 (cR h).2 v (hc v hv)
theorem zX {n:Nat}{fr:Frame}(hc:ib P S n fr):bP (sg S S.d n) fr=fr:=by
 unfold bP;rw[bz.2 hc]
theorem sG {n:Nat}{fr:Frame}(h:bP (sg S S.d n) fr=fr):ib P S n fr:=by
 have:fr.tmps.map (rv (sg S S.d n))=fr.tmps:=congrArg Frame.tmps h;exact bz.1 this
theorem OC {n:Nat}{above:List Frame}(hc:∀f∈above,ib P S n f):above.map (bP (sg S S.d n))=above:=by
 induction above with
 |nil=>rfl
 |cons f l ih=>rw[zao,zX (hc f (by simp)),ih λg hg=>hc g (by simp[hg])]
theorem vN {n:Nat}:∀{above:List Frame},above.map (bP (sg S S.d n))=above→∀f∈above,ib P S n f
 |[],_,f,hf=>by cases hf
 |g::l,h,f,hf=>by
  simp only[zao,zbx]at h;rcases zas.1 hf with rfl|hf
  ·exact sG h.1
  ·exact vN h.2 f hf
theorem oQ (hC:jB P F S){fr:Frame}{above:List Frame}{w:World}(h:PI P F S fr above w):∀n,w.heap.size≤n→aa P (sg S S.d n) (FF P F S (sg S S.d n)) (aL P fr above) (aL P fr above):=λn hn=>by
 have:=vL (ρ:=sg S S.d n) hC (lX hC n) (uM (zad h.wr.big.g hn)) h.ok h.oks (λv hv=> .inr (iI hn h.cl v hv)) (λv hv=>iv (h.cl v hv));rwa[zX (iI hn h.cl),OC λf hf=>iI hn (h.cls f hf)]at this
theorem OD (hC:jB P F S){fr:Frame}{above:List Frame}{w:World}(h:PI P F S fr above w):aa P jD (FF P F S jD) (aL P fr above) (aL P fr above):=by
 have:=vL (ρ:=jD) hC (lW hC) Gi h.ok h.oks (λv _=> .inl zW) (λv hv=>iv (h.cl v hv));rwa[Ej,zV]at this
theorem Xx {x y:Frame×List Frame}(h:FF P F S jD x y):y=x:=by
 obtain⟨h,_⟩:=h;rw[Ej,zV]at h;exact h
def _root_.Go.World.re (w:World)(τ:Nat→Question→Nat)(d:Nat):World:={ w with tape:=τ,drawn:=d }
theorem oT {a b:World}(h1:a.heap=b.heap)(h2:a.tape=b.tape)(h3:a.drawn=b.drawn)(h4:a.os=b.os)(h5:a.output=b.output):a=b:=by
 obtain⟨a1,a2,a3,a4,a5⟩:=a;obtain⟨b1,b2,b3,b4,b5⟩:=b;simp only at h1 h2 h3 h4 h5;subst h1 h2 h3 h4 h5;rfl
theorem dY (hC:jB P F S){fr:Frame}{above:List Frame}{w:World}(h:PI P F S fr above w){f1:Frame}{a1:List Frame}{w1:World}{es:Array Event}
 (hr:(aL P fr above).runT P w #[]=(.ok (f1,a1) w1,es)):PI P F S f1 a1 w1∧w1.tape=w.tape∧w.drawn≤w1.drawn∧∀τ d,Wo w w1 (w.re τ d)→∃es',(aL P fr above).runT P (w.re τ d) #[]=(.ok (f1,a1) (w1.re τ (d+(w1.drawn-w.drawn))),es'):=by
 have qU:=oQ hC h;have key:∀τ d,Wo w w1 (w.re τ d)→∃es',(aL P fr above).runT P (w.re τ d) #[]=(.ok (f1,a1) (w1.re τ (d+(w1.drawn-w.drawn))),es')∧PI P F S f1 a1 w1∧w1.tape=w.tape∧w.drawn≤w1.drawn:=λτ d vO=>by
  have hW:WR P S jD w (w.re τ d):=⟨h.wr.live,h.wr.ok,h.wr.dead,h.wr.closed,h.wr.next,h.wr.low,h.wr.big⟩;obtain⟨b,W1,es',r1,r2,r3,r4,r5,r6⟩:=dm (lW hC) KO _ _ _ (λn=>FF P F S (sg S S.d n)) w (w.re τ d) #[] #[] _ _ _ (OD hC h) qU hW vO hr;obtain rfl:=Xx r2;have hsz:W1.heap.size=w1.heap.size:=by have:=r5.size;simp only[World.re]at this;omega
  have lY:W1.heap=w1.heap:=by
   apply Array.ext hsz;intro i hi1 hi2;have e:W1.heap[i]?=w1.heap[i]?:=by
    rcases zag i S.d with hlt|js
    ·rw[r5.frame i (by have:=h.wr.big.d;show i<w.heap.size;omega) (by rintro ⟨r,hr1,_,e⟩;have e':i=r:=e;omega)];show w.heap[i]?=_;rw[h.wr.dead i hlt,r4.dead i hlt]
    ·have hs:w1.heap[i]?=some w1.heap[i]:=zar hi2;have:=r4.live i _ js hs;rw[BK]at this;rw[hs];exact this
   rw[zar hi1,zar hi2]at e;exact Option.some.inj e
  have hWe:W1=w1.re τ (d+(w1.drawn-w.drawn)):=by
   refine oT lY r5.tape ?_ (r5.os.trans r5.Xv.symm) (r5.output.trans r5.KI.symm);have:=r5.drawn;have:=r5.sB;show W1.drawn=d+(w1.drawn-w.drawn);simp only[World.re]at *;omega
  have eG:=r3 w1.heap.size (zaa _);have KP:bP (sg S S.d w1.heap.size) f1=f1:=(congrArg Prod.fst eG.1).symm;have KQ:a1.map (bP (sg S S.d w1.heap.size))=a1:=(congrArg Prod.snd eG.1).symm;have hwr:WR P S jD w1 w1:=by
   subst hWe;exact⟨r4.live,r4.ok,r4.dead,r4.closed,r4.next,r4.low,r4.big⟩
  exact⟨es',by rw[r1,hWe],⟨eG.2.1,eG.2.2,sG KP,vN KQ,hwr⟩,r5.BJ,r5.sB⟩
 obtain⟨_,_,k1,k2,k3⟩:=key w.tape w.drawn (λj _ q=>rfl);exact⟨k1,k2,k3,λτ d vO=>by obtain⟨es',e,_⟩:=key τ d vO;exact⟨es',e⟩⟩
theorem KR (hC:jB P F S){ρ:Rn}(hp:Plain P ρ)(NL:xU P ρ)(hx:qO S ρ){fr:Frame}{above:List Frame}{w W:World}(h:PI P F S fr above w)(hW:WR P S ρ w W){f1:Frame}{a1:List Frame}{w1:World}{es:Array Event}
 (hn:Wo w w1 W)(hr:(aL P fr above).runT P w #[]=(.ok (f1,a1) w1,es)):∃W1 es',WR P S ρ w1 W1∧Bl S.d ρ w w1 W W1∧(∀e∈es',lU S.d ρ w1 e)∧
   ∀main cs,stepG P main (G (bP ρ fr) (above.map (bP ρ)++cs)) W=.go (G (bP ρ f1) (a1.map (bP ρ)++cs)) W1 (seen P fr.fn es'):=by
 have qU:=oQ hC h;have vP:=vL (ρ:=ρ) hC hp hx h.ok h.oks (λv _=> .inl NL) (λv hv=>iv (h.cl v hv));obtain⟨b,W1,es',r1,⟨rfl,o1,o2⟩,r3,r4,r5,r6⟩:=dm hp (λo=> .inl NL) _ _ _ (λn=>FF P F S (sg S S.d n)) w W #[] #[] _ _ _ vP qU hW hn hr;refine⟨W1,es',r4,r5,λe he=>(r6 e he).resolve_left (by simp),λmain cs=>?_⟩;have cC:jA P F S (bP ρ fr):=⟨h.ok.defers,h.ok.mode,h.ok.kind,h.ok.round,h.ok.todo,h.ok.fn⟩;exact mG cC r1
end
abbrev Tp:=Nat→Question→Nat
inductive Ih (P:Program) (Q:Frame→List Frame→World→Prop):Frame→List Frame→World→Prop
 |stop {fr:Frame} {above:List Frame} {w:World}:Q fr above w→Ih P Q fr above w
 |step {fr:Frame} {above:List Frame} {w:World} (nf:Tp→Nat→Frame) (na:Tp→Nat→List Frame) (nw:Tp→Nat→World) (ne:Tp→Nat→Array Event):
   (∀τ d,(aL P fr above).runT P (w.re τ d) #[]=(.ok (nf τ d,na τ d) (nw τ d),ne τ d))→(∀τ d,Ih P Q (nf τ d) (na τ d) (nw τ d))→Ih P Q fr above w
inductive lZ (P:Program):Nat→Frame→List Frame→World→Frame→List Frame→World→Prop
 |zero {fr:Frame} {above:List Frame} {w:World}:lZ P 0 fr above w fr above w
 |succ {n:Nat} {fr f1 f2:Frame} {above a1 a2:List Frame} {w w1 w2:World} {es:Array Event}:(aL P fr above).runT P w #[]=(.ok (f1,a1) w1,es)→lZ P n f1 a1 w1 f2 a2 w2→lZ P (n+1) fr above w f2 a2 w2
section
variable {P:Program}{F:FuncId→Bool}{S:Sd}{Q:Frame→List Frame→World→Prop}
theorem R9 (w:World)(τ nA:Tp)(d d':Nat):(w.re τ d).re nA d'=w.re nA d':=rfl
theorem PI.re {fr:Frame}{above:List Frame}{w:World}(h:PI P F S fr above w)(τ:Tp)(d:Nat):PI P F S fr above (w.re τ d):=
 ⟨h.ok,h.oks,h.cl,h.cls,⟨h.wr.live,h.wr.ok,h.wr.dead,h.wr.closed,h.wr.next,h.wr.low,h.wr.big⟩⟩
theorem lZ.stays (hC:jB P F S):∀{n:Nat} {fr f:Frame} {above a:List Frame} {w w':World},lZ P n fr above w f a w'→PI P F S fr above w→Ren.PI P F S f a w'
 |0,fr,f,above,a,w,w',h,hI=>by cases h;exact hI
 |n+1,fr,f,above,a,w,w',h,hI=>by
  cases h with
  | @succ _ _ f1 _ _ a1 _ _ w1 _ es h1 h2=>exact lZ.stays hC h2 (dY hC hI h1).1
theorem lZ.shift (hC:jB P F S):∀{n:Nat} {fr f:Frame} {above a:List Frame} {w w':World},lZ P n fr above w f a w'→PI P F S fr above w→∀(τ:Tp) (d:Nat),(∀j q,τ (d+j) q=w.tape (w.drawn+j) q)→∃d',lZ P n fr above (w.re τ d) f a (w'.re τ d')
 |0,fr,f,above,a,w,w',h,hI,τ,d,Xu=>by cases h;exact⟨d,.zero⟩
 |n+1,fr,f,above,a,w,w',h,hI,τ,d,Xu=>by
  cases h with
  | @succ _ _ f1 _ _ a1 _ _ w1 _ es h1 h2=>
    obtain⟨zY,ht,hd,vO⟩:=dY hC hI h1;obtain⟨es',e⟩:=vO τ d (λj _ q=>Xu j q);obtain⟨d',h3⟩:=lZ.shift hC h2 zY τ (d+(w1.drawn-w.drawn)) (λj q=>by
     have:=Xu (w1.drawn-w.drawn+j) q;rw[ht,show d+(w1.drawn-w.drawn)+j=d+(w1.drawn-w.drawn+j) by omega,this,show w.drawn+(w1.drawn-w.drawn+j)=w1.drawn+j by omega])
    exact⟨d',.succ e h3⟩
theorem nU (hC:jB P F S)(hQ:∀f a w τ d,PI P F S f a w→Q f a w→Q f a (w.re τ d)){fr:Frame}{above:List Frame}{w:World}(hI:PI P F S fr above w)
 (hT:∀τ:Tp,∃n f a w',lZ P n fr above (w.re τ 0) f a w'∧Q f a w'):Ih P Q fr above w:=by
 refine Classical.byContradiction λhN=>?_;have hQ':∀f a (w:World) τ d,PI P F S f a w→Q f a (w.re τ d)→Q f a w:=λf a w τ d hI h=>by
  have:=hQ f a (w.re τ d) w.tape w.drawn (hI.re _ _) h;exact this
 let Xy:Frame×List Frame×World→Prop:=λs=>PI P F S s.1 s.2.1 s.2.2∧(∀τ:Tp,∃n f a w',lZ P n s.1 s.2.1 (s.2.2.re τ 0) f a w'∧Q f a w')∧¬Ih P Q s.1 s.2.1 s.2.2;have next:∀s:{ s // Xy s },∃s':{ s // Xy s },∃(τ:Tp) (d:Nat) (es:Array Event),(aL P s.1.1 s.1.2.1).runT P (s.1.2.2.re τ d) #[]=(.ok (s'.1.1,s'.1.2.1) s'.1.2.2,es):=by
  rintro ⟨⟨fr,above,w⟩,hI,hT,hN⟩;simp only at hI hT hN;have nq:¬Q fr above w:=λh=>hN (.stop h);have run:∀(τ:Tp) (d:Nat),∃f1 a1 w1 es,(aL P fr above).runT P (w.re τ d) #[]=(.ok (f1,a1) w1,es):=λτ d=>by
   obtain⟨n,f,a,w',hr,hq⟩:=hT (λj=>τ (d+j));cases hr with
   |zero=>exact absurd (hQ' _ _ _ _ _ hI hq) nq
   | @succ _ _ f1 _ _ a1 _ _ w1 _ es h1 h2=>
     obtain⟨_,_,_,vO⟩:=dY hC (hI.re _ _) h1;obtain⟨es',e⟩:=vO τ d (λj _ q=>by show τ (d+j) q=τ (d+(0+j)) q;rw[Nat.zero_add]);exact⟨_,_,_,_,e⟩
  have ex:∃(τ:Tp) (d:Nat),∀f1 a1 w1 es,(aL P fr above).runT P (w.re τ d) #[]=(.ok (f1,a1) w1,es)→¬Ih P Q f1 a1 w1:=by
   refine Classical.byContradiction λhno=>hN ?_;have all:∀(τ:Tp) (d:Nat),∃f1 a1 w1 es,(aL P fr above).runT P (w.re τ d) #[]=(.ok (f1,a1) w1,es)∧Ih P Q f1 a1 w1:=λτ d=>by
    refine Classical.byContradiction λhx=>hno ⟨τ,d,λf1 a1 w1 es he hb=>hx ⟨f1,a1,w1,es,he,hb⟩⟩
   exact .step (λτ d=>Classical.choose (all τ d)) (λτ d=>Classical.choose (Classical.choose_spec (all τ d))) (λτ d=>Classical.choose (Classical.choose_spec (Classical.choose_spec (all τ d))))
    (λτ d=>Classical.choose (Classical.choose_spec (Classical.choose_spec (Classical.choose_spec (all τ d))))) (λτ d=>(Classical.choose_spec (Classical.choose_spec (Classical.choose_spec (Classical.choose_spec (all τ d))))).1)
    (λτ d=>(Classical.choose_spec (Classical.choose_spec (Classical.choose_spec (Classical.choose_spec (all τ d))))).2)
  obtain⟨τ,d,hb⟩:=ex;obtain⟨f1,a1,w1,es,he⟩:=run τ d;obtain⟨zY,ht,hd,vO⟩:=dY hC (hI.re τ d) he;refine⟨⟨⟨f1,a1,w1⟩,zY,λWq=>?_,hb _ _ _ _ he⟩,τ,d,es,he⟩;let m:=w1.drawn-d;obtain⟨n,f,a,w',hr,hq⟩:=hT (λi=>if i<m then τ (d+i)else Wq (i-m));cases hr with
  |zero=>exact absurd (hQ' _ _ _ _ _ hI hq) nq
  | @succ n' _ f2 _ _ a2 _ _ w2 _ Xz h1 h2=>
    obtain⟨es3,e3⟩:=vO (λi=>if i<m then τ (d+i)else Wq (i-m)) 0 (λj hj q=>by
     show(if 0+j<m then τ (d+(0+j))else Wq (0+j-m)) q=τ (d+j) q;rw[Nat.zero_add,if_pos (show j<m from hj)])
    rw[R9,h1]at e3;simp only[zab,Result.ok.injEq]at e3;obtain⟨⟨⟨rfl,rfl⟩,rfl⟩,_⟩:=e3;obtain⟨d',h3⟩:=lZ.shift hC h2 (zY.re _ _) Wq 0 (λj q=>by
     show Wq (0+j) q=(if 0+m+j<m then τ (d+(0+m+j))else Wq (0+m+j-m)) q;rw[if_neg (by omega),show 0+m+j-m=0+j by omega])
    exact⟨n',f,a,_,h3,hQ _ _ _ _ _ (lZ.stays hC h2 (zY.re _ _)) hq⟩
 let nx:{ s // Xy s }→{ s // Xy s }:=λs=>Classical.choose (next s);let sq:Nat→{ s // Xy s }:=λk=>Nat.rec ⟨(fr,above,w),hI,hT,hN⟩ (λ_ s=>nx s) k;have hsq:∀k,∃(τ:Tp) (d:Nat) (es:Array Event),(aL P (sq k).1.1 (sq k).1.2.1).runT P ((sq k).1.2.2.re τ d) #[]=(.ok ((sq (k+1)).1.1,(sq (k+1)).1.2.1) (sq (k+1)).1.2.2,es):=λk=>Classical.choose_spec (next (sq k));let XA:Nat→Tp:=λk=>Classical.choose (hsq k);let ds:Nat→Nat:=λk=>Classical.choose (Classical.choose_spec (hsq k));have hrun:∀k,∃es,(aL P (sq k).1.1 (sq k).1.2.1).runT P ((sq k).1.2.2.re (XA k) (ds k)) #[]=(.ok ((sq (k+1)).1.1,(sq (k+1)).1.2.1) (sq (k+1)).1.2.2,es):=λk=>Classical.choose_spec (Classical.choose_spec (hsq k));let ms:Nat→Nat:=λk=>(sq (k+1)).1.2.2.drawn - ds k;let cs:Nat→Nat:=λk=>Nat.rec 0 (λk c=>c+ms k) k;have hcs:∀k,cs (k+1)=cs k+ms k:=λk=>rfl;have Sa:∀a b,a≤b→cs a≤cs b:=λa b hab=>by
  induction hab with
  |refl=>exact zaa _
  |step _ ih=>rw[hcs];omega
 let T:Tp:=λi q=>open Classical in if h:∃k,cs k≤i∧i<cs (k+1)then XA (Classical.choose h) (ds (Classical.choose h)+(i-cs (Classical.choose h))) q else 0
 have hTs:∀k j q,j<ms k→T (cs k+j) q=XA k (ds k+j) q:=λk j q hj=>by
  have hex:∃k',cs k'≤cs k+j∧cs k+j<cs (k'+1):=⟨k,by omega,by rw[hcs];omega⟩;have XB:Classical.choose hex=k:=by
   have h1:=Classical.choose_spec hex;rcases Nat.lt_trichotomy (Classical.choose hex) k with h|h|h
   ·have h2:=Sa (Classical.choose hex+1) k h;omega
   ·exact h
   ·have h2:=Sa (k+1) (Classical.choose hex) h;rw[hcs]at h2;omega
  show(open Classical in if h:∃k',cs k'≤cs k+j∧cs k+j<cs (k'+1)then XA (Classical.choose h) (ds (Classical.choose h)+(cs k+j-cs (Classical.choose h))) q else 0)=_;rw[dif_pos hex,XB,show cs k+j-cs k=j by omega]
 have walk:∀(n k:Nat) (f:Frame) (a:List Frame) (w':World),lZ P n (sq k).1.1 (sq k).1.2.1 ((sq k).1.2.2.re T (cs k)) f a w'→f=(sq (k+n)).1.1∧a=(sq (k+n)).1.2.1∧w'=(sq (k+n)).1.2.2.re T (cs (k+n)):=by
  intro n
  induction n with
  |zero=>intro k f a w' h;cases h;exact⟨rfl,rfl,rfl⟩
  |succ n ih=>
   intro k f a w' h;cases h with
   | @succ _ _ f1 _ _ a1 _ _ w1 _ es h1 h2=>
     obtain⟨Xz,he⟩:=hrun k;obtain⟨_,_,hd,vO⟩:=dY hC ((sq k).2.1.re (XA k) (ds k)) he;obtain⟨es3,e3⟩:=vO T (cs k) (λj hj q=>hTs k j q hj);rw[R9,h1]at e3;simp only[zab,Result.ok.injEq]at e3;obtain⟨⟨⟨rfl,rfl⟩,rfl⟩,_⟩:=e3;have:=ih (k+1) f a w' h2;rwa[show k+1+n=k+(n+1) by omega]at this
 obtain⟨n,f,a,w',hr,hq⟩:=hT T;obtain⟨rfl,rfl,rfl⟩:=walk n 0 f a w' hr;exact(sq (0+n)).2.2.2 (.stop (hQ' _ _ _ _ _ (sq (0+n)).2.1 hq))
end
section
variable {P:Program}{F:FuncId→Bool}{S:Sd}
theorem Gj:∀a b,jD a=jD b→a=b:=λ_ _ h=>h
theorem cS {α:Type}:∀(t:Sem α) (Rs:Nat→α→α→Prop) (w:World) (es:Array Event) (h:Halt) (w1:World) (dt:Array Event),(∀n,w.heap.size≤n→aa P (sg S S.d n) (Rs n) t t)→WR P S jD w w→t.runT P w es=(.halt h w1,dt)→Bu h
 |.pure a0,Rs,w,es,h,w1,dt,h2,hW,hr=>by simp[Sem.runT]at hr
 |.load m ad k,Rs,w,es,h,w1,dt,h2,hW,hr=>by
  by_cases hlt:ad.block<S.d
  ·simp only[Sem.runT,yK hW hlt,World.farLoad,hW.dead _ hlt,iG,zab,World.noCell]at hr;have e:=hr.1;simp only[Result.halt.injEq]at e;rw[←e.1];trivial
  have cF:S.d≤ad.block∧ad.block<w.heap.size:=by
   rcases h2 w.heap.size (zaa _)with h|⟨k',e,_⟩
   ·exact absurd h hlt
   ·simp only[Sem.load.injEq]at e;exact bW.1 (ia.1 e.2.1.symm)
  have jr:∀v,(∀n,w.heap.size≤n→rv (sg S S.d n) v=v)→∀n,w.heap.size≤n→aa P (sg S S.d n) (Rs n) (k v) (k v):=λv hv n hn=>by
   rcases h2 n hn with h|⟨k',e,hk⟩
   ·exact absurd h hlt
   ·simp only[Sem.load.injEq]at e;obtain⟨_,_,rfl⟩:=e;have:=hk v;rwa[hv n hn]at this
  simp only[Sem.runT]at hr;cases hc:w.cell? ad with
  |some v=>
   rw[hc]at hr;have eG:=tJ hW cF.1 hc;exact cS (k v) Rs w _ h w1 dt (jr v λn hn=>ek (cR hn).1 (cR hn).2 v eG) hW hr
  |none=>
   rw[hc]at hr;simp only at hr;obtain⟨o,ho⟩:∃o,w.heap[ad.block]?=some o:=⟨_,zar cF.2⟩;have cC:=hW.ok _ o ho;cases o with
   |view at_ u=>
    cases hv:w.viewLoad P at_ u ad (m== .atomic)with
    |error e=>
     simp only[World.farLoad,ho,hv,zab,Result.halt.injEq]at hr;rw[←hr.1.1];trivial
    |ok x=>
     simp only[World.farLoad,ho,hv]at hr;have eG:=hW.closed _ _ cF.1 ho;simp only[ro,Obj.view.injEq,and_true]at eG;have hat:=bW.1 (ia.1 eG);obtain⟨v,ts⟩:=x;obtain⟨xX,q1,q2,q3,q4⟩:=qR hW.Live hat.1 hv;exact cS (k v) Rs w _ h w1 dt (jr v λn _=>q3 _) hW hr
   |cells c e f=>
    simp only[World.farLoad,ho,World.noCell,zab,Result.halt.injEq]at hr;rw[←hr.1.1];trivial
   |number c e=>
    simp only[World.farLoad,ho,World.noCell,zab,Result.halt.injEq]at hr;rw[←hr.1.1];trivial
   |map c e=>
    simp only[World.farLoad,ho,World.noCell,zab,Result.halt.injEq]at hr;rw[←hr.1.1];trivial
   |_=>exact cC.elim
 |.store m ad v k,Rs,w,es,h,w1,dt,h2,hW,hr=>by
  have cF:(S.d≤ad.block∧ad.block<w.heap.size)∧rv (sg S S.d w.heap.size) v=v:=by
   obtain⟨k',e,_⟩:=h2 w.heap.size (zaa _);simp only[Sem.store.injEq]at e;exact⟨bW.1 (ia.1 e.2.1.symm),e.2.2.1.symm⟩
  obtain⟨cF,hv⟩:=cF;have jr:∀n,w.heap.size≤n→aa P (sg S S.d n) (Rs n) k k:=λn hn=>by
   obtain⟨k',e,hk⟩:=h2 n hn;simp only[Sem.store.injEq]at e;obtain⟨_,_,_,rfl⟩:=e;exact hk
  cases hc:w.cell? ad with
  |some v0=>
   cases KJ:w.frozen? ad with
   |true=>cases v<;>simp only[Sem.runT,hc,KJ,if_true,zab,Result.halt.injEq]at hr<;>(rw[←hr.1.1];trivial)
   |false=>
    have key:(∃s,h=.stuck s)∨k.runT P (w.setCell ad v) (es.push ⟨.cell ad,true,m== .atomic⟩)=(.halt h w1,dt):=by
     cases v<;>simp only[Sem.runT,hc,KJ,zav,if_false]at hr<;>first|exact .inr hr|(simp only[zab,Result.halt.injEq]at hr;exact .inl ⟨_,hr.1.1.symm⟩)
    rcases key with⟨s,rfl⟩|key
    ·trivial
    ·have hs:=hW.setCell Gj cF.1 hv;rw[nT]at hs;exact cS k Rs _ _ h w1 dt (by simpa[World.setCell]using jr) hs key
  |none=>
   obtain⟨o,ho⟩:∃o,w.heap[ad.block]?=some o:=⟨_,zar cF.2⟩;have cC:=hW.ok _ o ho;have soft:∀x,w.farStore P ad v (m== .atomic)=.error x→Bu x:=λx hx=>by
    unfold World.farStore at hx;rw[ho]at hx;cases o with
    |view at_ u=>
     simp only at hx;split at hx
     ·cases hx
     ·cases hx;trivial
    |cells c e f=>simp only[World.noCell,ho,Except.error.injEq]at hx;rw[←hx];trivial
    |number c e=>simp only[World.noCell,ho,Except.error.injEq]at hx;rw[←hx];trivial
    |map c e=>simp only[World.noCell,ho,Except.error.injEq]at hx;rw[←hx];trivial
    |_=>exact cC.elim
   cases hf:w.farStore P ad v (m== .atomic)with
   |error x=>
    have:(∃s,h=.stuck s)∨h=x:=by
     cases v<;>simp only[Sem.runT,hc,hf,zab,Result.halt.injEq]at hr<;>first|exact .inr hr.1.1.symm|exact .inl ⟨_,hr.1.1.symm⟩
    rcases this with⟨s,rfl⟩|rfl
    ·trivial
    ·exact soft _ hf
   |ok x=>
    obtain⟨w2,ts⟩:=x;have hf0:=hf;unfold World.farStore at hf;rw[ho]at hf;cases o with
    |view at_ u=>
     simp only at hf;cases NM:w.viewStore P at_ u ad v (m== .atomic)with
     |error e=>rw[NM]at hf;cases hf
     |ok x=>
      rw[NM]at hf;simp only[Except.ok.injEq]at hf;subst hf;have eG:=hW.closed _ _ cF.1 ho;simp only[ro,Obj.view.injEq,and_true]at eG;have hat:=bW.1 (ia.1 eG);obtain⟨c,c',ty,fz,xX,q1,q2,q3,q4,q5⟩:=pH hW.Live hat.1 NM;subst q2;have key:(∃s,h=.stuck s)∨k.runT P { w with heap:=w.heap.setIfInBounds at_.block (.cells c' ty fz) } (es++ts.toArray.map (⟨.cell ·,true,m== .atomic⟩))=(.halt h w1,dt):=by
       cases v<;>simp only[Sem.runT,hc,hf0]at hr<;>first|exact .inr hr|(simp only[zab,Result.halt.injEq]at hr;exact .inl ⟨_,hr.1.1.symm⟩)
      rcases key with⟨s,rfl⟩|key
      ·trivial
      ·have zU:WR P S jD { w with heap:=w.heap.setIfInBounds at_.block (.cells c' ty fz) } { w with heap:=w.heap.setIfInBounds (jD at_.block) (.cells c' ty fz) }:=by
        refine hW.upd Gj hat.1 (gT _ _ _) (gT _ _ _) (λo ho=>⟨trivial,by rw[BK],λhs=>?_⟩);rw[q1]at ho;cases ho;simp only[ro,Obj.cells.injEq,and_true]at hs ⊢;exact q3 _ hs
       exact cS k Rs _ _ h w1 dt (by simpa using jr) zU key
    |_=>cases hf
 |.new o k,Rs,w,es,h,w1,dt,h2,hW,hr=>by
  have hs:lO o∧ro (sg S S.d w.heap.size) o=o:=by
   obtain⟨ho,k',e,_⟩:=h2 w.heap.size (zaa _);simp only[Sem.new.injEq]at e;exact⟨ho,e.1.symm⟩
  have jr:∀n,w.heap.size+1≤n→aa P (sg S S.d n) (Rs n) (k w.heap.size) (k w.heap.size):=λn hn=>by
   obtain⟨_,k',e,hk⟩:=h2 n (by omega);simp only[Sem.new.injEq]at e;obtain⟨_,rfl⟩:=e;have:=hk w.heap.size;rwa[show sg S S.d n w.heap.size=w.heap.size from bW.2 ⟨hW.big.d,by omega⟩]at this
  simp only[Sem.runT]at hr;have Sb:=hW.push hs.1 hs.2;rw[BK]at Sb;exact cS (k w.heap.size) Rs _ es h w1 dt (by simpa using jr) Sb hr
 |.shape r k,Rs,w,es,h,w1,dt,h2,hW,hr=>by
  simp only[Sem.runT]at hr;refine cS _ Rs w es h w1 dt (λn hn=>?_) hW hr;obtain⟨k',e,hk⟩:=h2 n hn;simp only[Sem.shape.injEq]at e;obtain⟨_,rfl⟩:=e;exact hk _
 |.freeze ad n k,Rs,w,es,h,w1,dt,h2,hW,hr=>by
  have cF:S.d≤ad.block∧ad.block<w.heap.size:=by
   obtain⟨k',e,_⟩:=h2 w.heap.size (zaa _);simp only[Sem.freeze.injEq]at e;exact bW.1 (ia.1 e.1.symm)
  have jr:∀n,w.heap.size≤n→aa P (sg S S.d n) (Rs n) k k:=λn hn=>by
   obtain⟨k',e,hk⟩:=h2 n hn;simp only[Sem.freeze.injEq]at e;obtain⟨_,_,rfl⟩:=e;exact hk
  simp only[Sem.runT]at hr;have hsz:(w.freeze ad n).heap.size=w.heap.size:=by unfold World.freeze;split<;>simp
  exact cS k Rs (w.freeze ad n) es h w1 dt (by rw[hsz];exact jr) (hW.freeze Gj cF.1) hr
 |.frozen ad k,Rs,w,es,h,w1,dt,h2,hW,hr=>by
  simp only[Sem.runT]at hr;refine cS _ Rs w es h w1 dt (λn hn=>?_) hW hr;obtain⟨k',e,hk⟩:=h2 n hn;simp only[Sem.frozen.injEq]at e;obtain⟨_,rfl⟩:=e;exact hk _
 |.getObj r k,Rs,w,es,h,w1,dt,h2,hW,hr=>by
  have cF:S.d≤r∧r<w.heap.size:=by
   obtain⟨k',e,_⟩:=h2 w.heap.size (zaa _);simp only[Sem.getObj.injEq]at e;exact bW.1 e.1.symm
  obtain⟨o,ho⟩:∃o,w.heap[r]?=some o:=⟨_,zar cF.2⟩;have eG:=hW.closed _ o cF.1 ho;have cC:=hW.ok _ o ho;have Bn:∀n,w.heap.size≤n→ro (sg S S.d n) o=o:=λn hn=>oO (cR hn).1 (cR hn).2 eG;have jr:∀n,w.heap.size≤n→aa P (sg S S.d n) (Rs n) (k o) (k o):=λn hn=>by
   obtain⟨k',e,hk⟩:=h2 n hn;simp only[Sem.getObj.injEq]at e;obtain⟨_,rfl⟩:=e;have:=hk o (.inr (Bn n hn));rwa[Bn n hn]at this
  simp only[Sem.runT,ho]at hr;cases o with
  |cells c e f=>simp only[zab,Result.halt.injEq]at hr;rw[←hr.1.1];trivial
  |view x t=>exact cS _ Rs w _ h w1 dt jr hW hr
  |number x t=>exact cS _ Rs w _ h w1 dt jr hW hr
  |map x t=>exact cS _ Rs w _ h w1 dt jr hW hr
  |_=>exact cC.elim
 |.setObj r o k,Rs,w,es,h,w1,dt,h2,hW,hr=>by
  have cF:((S.d≤r∧r<w.heap.size)∧ro (sg S S.d w.heap.size) o=o)∧Ky o:=by
   obtain⟨hs,k',e,_⟩:=h2 w.heap.size (zaa _);simp only[Sem.setObj.injEq]at e;exact⟨⟨bW.1 e.1.symm,e.2.1.symm⟩,hs⟩
  obtain⟨⟨cF,eG⟩,Oz⟩:=cF;have jr:∀n,w.heap.size≤n→aa P (sg S S.d n) (Rs n) k k:=λn hn=>by
   obtain⟨_,k',e,hk⟩:=h2 n hn;simp only[Sem.setObj.injEq]at e;obtain⟨_,_,rfl⟩:=e;exact hk
  obtain⟨o0,ho⟩:∃o,w.heap[r]?=some o:=⟨_,zar cF.2⟩;have cC:=hW.ok _ o0 ho;have zU:WR P S jD { w with heap:=w.heap.setIfInBounds r o } { w with heap:=w.heap.setIfInBounds r o }:=by
   refine hW.upd Gj cF.1 (gT _ _ _) (gT _ _ _) (λo1 _=>⟨?_,by rw[BK],λ_=>eG⟩);cases o<;>first|exact Oz.elim|trivial
  simp only[Sem.runT,ho]at hr;cases o0 with
  |cells c e f=>simp only[zab,Result.halt.injEq]at hr;rw[←hr.1.1];trivial
  |view x t=>exact cS k Rs _ _ h w1 dt (by simpa using jr) zU hr
  |number x t=>exact cS k Rs _ _ h w1 dt (by simpa using jr) zU hr
  |map x t=>exact cS k Rs _ _ h w1 dt (by simpa using jr) zU hr
  |_=>exact cC.elim
 |.choose q k,Rs,w,es,h,w1,dt,h2,hW,hr=>by
  have jr:∀x n,w.heap.size≤n→aa P (sg S S.d n) (Rs n) (k x) (k x):=λx n hn=>by
   obtain⟨k',e,hk⟩:=h2 n hn;simp only[Sem.choose.injEq]at e;obtain⟨_,rfl⟩:=e;exact hk x
  simp only[Sem.runT]at hr;split at hr
  ·exact cS _ Rs w es h w1 dt (jr _) hW hr
  ·exact cS _ Rs { w with drawn:=w.drawn+1 } es h w1 dt (jr _) (hW.drew _ _) hr
 |.sys c k,Rs,w,es,h,w1,dt,h2,hW,hr=>uP (.sys c k) _ _ _ _ _ (h2 w.heap.size (zaa _)) hr
 |.program k,Rs,w,es,h,w1,dt,h2,hW,hr=>by
  simp only[Sem.runT]at hr;refine cS _ Rs w es h w1 dt (λn hn=>?_) hW hr;obtain⟨k',e,hk⟩:=h2 n hn;simp only[Sem.program.injEq]at e;obtain rfl:=e;exact hk
 |.mark m k,Rs,w,es,h,w1,dt,h2,hW,hr=>by
  simp only[Sem.runT]at hr;refine cS k Rs w _ h w1 dt (λn hn=>?_) hW hr;obtain⟨_,k',e,hk⟩:=h2 n hn;simp only[Sem.mark.injEq]at e;obtain⟨_,rfl⟩:=e;exact hk
 |.halt h0,Rs,w,es,h,w1,dt,h2,hW,hr=>by
  simp only[Sem.runT,zab,Result.halt.injEq]at hr;rw[←hr.1.1];exact h2 w.heap.size (zaa _)
end
def c0 (P:Program):Frame:={ fn:=P.funcs.size,tmps:=#[],todo:=[.call default false "fmt's door" #[]],defers:=[],mode:= .run,kind:= .normal,roundOf:=none }
theorem XC:Extern.next "fmt's door" =none:=by
 have:(Extern.next "fmt's door").isNone=true:=by rfl
 simpa using this
section
variable {P:Program}{F:FuncId→Bool}{S:Sd}
theorem Gk (fr:Frame)(cs:List Frame)(w:World):stepG P true { frame:=fr,callers:=cs,status:= .running,dying:=none } w=stepG P true (G fr cs) w:=rfl
theorem ki {fr fr':Frame}{cs cs':List Frame}{w w':World}{es:Array Event}(h:stepG P true (G fr cs) w=.go (G fr' cs') w' es):step P (lone fr cs w)=.next (lone fr' cs' w'):=by
 refine step_lone_go ?_;rw[Gk,h];rfl
theorem je {fr:Frame}{cs:List Frame}{w w':World}{o:Outcome}{es:Array Event}(h:stepG P true (G fr cs) w=.ended o w' es):step P (lone fr cs w)=.ended o w':=by
 refine step_lone_ended ?_;rw[Gk,h];rfl
theorem iJ {fr fr':Frame}{cs cs':List Frame}{w w':World}(h:lone fr cs w=lone fr' cs' w'):fr=fr'∧cs=cs'∧w=w':=by
 simp only[lone,Machine.mk.injEq,Array.mk.injEq,zbx,Goroutine.mk.injEq,and_true]at h;exact⟨h.2.1,h.2.2,h.1⟩
theorem yM (hC:jB P F S){fr:Frame}{above:List Frame}{w:World}(h:PI P F S fr above w){o:Oper}(ho:eN P F S o.op=true)(n:Nat)(hn:w.heap.size≤n):aa P (sg S S.d n) (NN F (sg S S.d n)) (execOp fr.eval o) (execOp fr.eval o):=by
 have hf:qO S (sg S S.d n):=uM (zad h.wr.big.g hn);have eG:=iI hn h.cl;have gi:∀x,gL S x=true→rv (sg S S.d n) (fr.eval x)=fr.eval x:=λx hx=>by
  have e:=qT (ρ:=sg S S.d n) (fr:=fr) hx hf;rw[zX eG]at e;exact e.symm
 refine nQ (F:=F) (lX hC n) hf hC.SF hC.fn o ho (λx hx=>(gi x hx).symm) (λx hx=> .inr (gi x hx)) (λx hx=>iv (gi x hx)) (λ_=>rfl) (λ_=>rfl) (λ_=>rfl) (λ_=>rfl)
theorem OE (hC:jB P F S){fr:Frame}{above:List Frame}{w w1:World}(h:PI P F S fr above w){o:Oper}(ho:eN P F S o.op=true){nx:Next}{es:Array Event}(hr:(execOp fr.eval o).runT P w #[]=(.ok nx w1,es)):∃b,NN F jD nx b:=by
 have hid:aa P jD (NN F jD) (execOp fr.eval o) (execOp fr.eval o):=by
  have gi:∀x,gL S x=true→FV S (fr.eval x):=λx hx=>by
   have e:=qT (ρ:=sg S S.d w.heap.size) (fr:=fr) hx (uM h.wr.big.g);rw[zX h.cl]at e;exact iv e.symm
  exact nQ (F:=F) (lW hC) (S:=S) Gi hC.SF hC.fn o ho (λx hx=>(nT _).symm) (λx hx=> .inl zW) gi (λ_=>rfl) (λ_=>rfl) (λ_=>rfl) (λ_=>rfl)
 obtain⟨b,W1,es',r1,r2,_⟩:=dm (lW hC) KO _ _ _ (λn=>NN F (sg S S.d n)) w w #[] #[] _ _ _ hid (λn hn=>yM hC h ho n hn) h.wr (λ_ _ _=>rfl) hr;exact⟨b,r2⟩
theorem yN (hC:jB P F S){fr:Frame}{above cs:List Frame}{w w1:World}(h:PI P F S fr above w)(hnl:¬(above=[]∧fr.mode=.returning)){hh:Halt}{es:Array Event}(hr:(aL P fr above).runT P w #[]=(.halt hh w1,es)):(∃chain w2 es',stepG P true (G fr (above++cs)) w=.go (G { fr with mode:= .panicking chain } (above++cs)) w2 es')∨(∃o w2 es',stepG P true (G fr (above++cs)) w=.ended o w2 es'):=by
 have hI:=h;obtain⟨fn0,tmps,todo,defers,mode,kind,jC⟩:=fr;obtain⟨hd,hm,hk,gl,hand,KN⟩:=h.ok;simp only at hd hm hk gl hand KN;subst hd hk gl;rcases hm with rfl|rfl
 ·match todo,hand,hr,hI with
  |[],hand,hr,hI=>simp[aL,pure]at hr
  |.code .ret::k,hand,hr,hI=>simp[aL,pure]at hr
  |.code .skip::k,hand,hr,hI=>simp[aL,pure]at hr
  |.inBlock _::k,hand,hr,hI=>simp[aL,pure]at hr
  |.code (.seq a b)::k,hand,hr,hI=>simp[aL,pure]at hr
  |.code (.block id a)::k,hand,hr,hI=>simp[aL,pure]at hr
  |.code (.loop a)::k,hand,hr,hI=>simp[aL,pure]at hr
  |.inLoop a::k,hand,hr,hI=>simp[aL,pure]at hr
  |.inRegion _ []::k,hand,hr,hI=>simp[aL,pure]at hr
  |.code (.cond c a b)::k,hand,hr,hI=>
   simp only[aL]at hr;generalize hq:Frame.eval _ c=q at hr;cases q with
   |bool t=>simp[pure]at hr
   |_=>exact .inr (by simp[G,stepG,stepG.exec,hq])
  |.code (.exit id)::k,hand,hr,hI=>
   simp only[aL]at hr;cases he:exitTo id k with
   |none=>exact .inr (by simp[G,stepG,stepG.exec,he])
   |some k'=>rw[he]at hr;simp[pure]at hr
  |.code (.region id ops draw)::k,hand,hr,hI=>
   cases draw with
   |false=>simp[aL,pure]at hr
   |true=>
    exfalso;simp only[aL,if_true,bind,choose,Sem.bind,Sem.runT,Question.forced,zav,if_false,pure,zab,reduceCtorEq,false_and]at hr
  |.inRegion ops (i::rest)::k,hand,hr,hI=>
   simp only[aL]at hr;by_cases hw:((ops[i]?).map (Region.wanted · (yielded ops tmps))).getD false=true
   ·rw[if_pos hw]at hr;cases ho:ops[i]? with
    |none=>rw[ho]at hw;simp at hw
    |some o=>
     rw[ho]at hr;dsimp only at hr;have cC:eN P F S o.op=true:=by
      simp only[zaf,aB,zac]at hand;have:=hand.1.1;rw[ho]at this;simpa using this
     have hstep:stepG P true (G ⟨fn0,tmps,.inRegion ops (i::rest)::k,[],.run,.normal,none⟩ (above++cs)) w=
      stepG.apply P true ⟨fn0,tmps,.inRegion ops (i::rest)::k,[],.run,.normal,none⟩ (above++cs) none (execOp (Frame.eval ⟨fn0,tmps,.inRegion ops (i::rest)::k,[],.run,.normal,none⟩) o) w:=by
      rw[ho]at hw;have hw':Region.wanted o (yielded ops tmps)=true:=by simpa using hw
      simp[G,stepG,stepG.exec,stepG.oper,Frame.oper?,ho,hw']
     rw[hstep];rw[bE]at hr;cases hrun:(execOp (Frame.eval ⟨fn0,tmps,.inRegion ops (i::rest)::k,[],.run,.normal,none⟩) o).runT P w #[]with
     |mk r dt=>
      rw[hrun]at hr;have q1:=congrArg Prod.fst hrun;have q2:=congrArg Prod.snd hrun;simp at q1 q2;cases r with
      |halt h3 w3=>
       simp only[zab,Result.halt.injEq]at hr;obtain⟨⟨rfl,rfl⟩,rfl⟩:=hr;have soft:=cS _ (λn=>NN F (sg S S.d n)) w #[] h3 w3 dt (λn hn=>yM hC hI cC n hn) hI.wr hrun;cases h3 with
       |panic v=>exact .inl ⟨_,_,_,by simp[stepG.apply,q1,G,GStep.after,Frame.raise];exact⟨rfl,rfl,rfl⟩⟩
       |stuck s=>exact .inr ⟨_,_,_,by simp[stepG.apply,q1,GStep.after];exact⟨rfl,rfl,rfl⟩⟩
       |unsupported u=>
        cases u with
        |initOrder g=>exact soft.elim
        |_=>exact .inr ⟨_,_,_,by simp[stepG.apply,q1,GStep.after];exact⟨rfl,rfl,rfl⟩⟩
       |_=>exact soft.elim
      |ok nx w3=>
       obtain⟨b,hb⟩:=OE hC hI cC hrun;dsimp only at hr;cases nx<;>simp only[NN]at hb<;>simp[pure]at hr
   ·rw[if_neg hw]at hr;simp[pure]at hr
  |.code (.rangeFunc ..)::k,hand,hr,hI=>simp[aB,bh]at hand
  |.code (.scope ..)::k,hand,hr,hI=>simp[aB,bh]at hand
  |.code (.label ..)::k,hand,hr,hI=>simp[aB,bh]at hand
  |.code (.goto ..)::k,hand,hr,hI=>simp[aB,bh]at hand
  |.code (.refuse ..)::k,hand,hr,hI=>exact .inr (by simp[G,stepG,stepG.exec])
  |.inScope c::k,hand,hr,hI=>simp[aB]at hand
  |.inRangeFunc c::k,hand,hr,hI=>simp[aB]at hand
  |.endRangeFunc c::k,hand,hr,hI=>simp[aB]at hand
  |.beginRound::k,hand,hr,hI=>simp[aB]at hand
  |.call ..::k,hand,hr,hI=>simp[aB]at hand
  |.extern ..::k,hand,hr,hI=>simp[aB]at hand
 ·obtain⟨fn,h1⟩:=KN;simp only[aL,h1]at hr;rw[bE]at hr;cases hrun:(results fn tmps).runT P w #[]with
  |mk r dt=>
   rw[hrun]at hr;have q1:=congrArg Prod.fst hrun;simp at q1;cases r with
   |ok v w3=>
    dsimp only at hr;cases above with
    |nil=>exact absurd ⟨rfl,rfl⟩ hnl
    |cons c rest=>simp[pure]at hr
   |halt h3 w3=>
    refine .inr ?_;cases h3<;>exact⟨_,_,_,by simp[G,stepG,unwind,h1,q1,GStep.after];exact⟨rfl,rfl,rfl⟩⟩
theorem BL:∀(above:List Frame) (fr:Frame) (w:World) (chain:List PanicEntry) (n:Nat) (qV:Frame) (wf:World),fr.defers=[]→(∃f,P.funcs[fr.fn]?=some f)→(∀f∈above,jA P F S f)→runN P n (lone { fr with mode:= .panicking chain } (above++[c0 P]) w)=.next (lone qV [c0 P] wf)→qV.mode=.returning→False:=by
 intro above
 induction above with
 |nil=>
  rintro fr w chain n qV wf hd ⟨f,hf⟩ _ hr hm;cases n with
  |zero=>
   simp only[runN,Stepped.next.injEq]at hr;obtain⟨rfl,_,_⟩:=iJ hr;cases hm
  |succ n=>
   have h1:step P (lone { fr with mode:= .panicking chain } ([]++[c0 P]) w)=.next (lone ((c0 P).raise chain) [] w):=by
    refine ki (es:=#[]) ?_;simp[G,stepG,unwind,hd,Frame.catches,hf]
   simp only[runN,h1]at hr;cases n with
   |zero=>
    simp only[runN,Stepped.next.injEq]at hr;obtain⟨_,e,_⟩:=iJ hr;cases e
   |succ n=>
    have h2:∃o w3 es,stepG P true (G ((c0 P).raise chain) []) w=.ended o w3 es:=by
     simp[G,stepG,unwind,c0,Frame.raise,Frame.catches]
    obtain⟨o,w3,es,h2⟩:=h2;simp only[runN,je h2]at hr;cases hr
 |cons c rest ih=>
  rintro fr w chain n qV wf hd ⟨f,hf⟩ cC hr hm;cases n with
  |zero=>
   simp only[runN,Stepped.next.injEq]at hr;obtain⟨rfl,_,_⟩:=iJ hr;cases hm
  |succ n=>
   have hc:=cC c (by simp);have h1:step P (lone { fr with mode:= .panicking chain } (c::rest++[c0 P]) w)=.next (lone { c with mode:= .panicking chain } (rest++[c0 P]) w):=by
    refine ki (es:=#[]) ?_;have XD:c.raise chain={ c with mode:= .panicking chain }:=by
     unfold Frame.raise;rcases hc.mode with e|e<;>rw[e]
    simp[G,stepG,unwind,hd,Frame.catches,hf,XD]
   simp only[runN,h1]at hr;exact ih c w chain n qV wf hc.defers hc.fn (λg hg=>cC g (by simp[hg])) hr hm
theorem tK (_hC:jB P F S){fr:Frame}{w:World}(h:PI P F S fr [] w)(hm:fr.mode=.returning){n:Nat}{qV:Frame}{wf:World}(hr:runN P (n+1) (lone fr [c0 P] w)=.next (lone qV [c0 P] wf)):False:=by
 obtain⟨f,hf⟩:=h.ok.fn;have key:(∃v w2 es,stepG P true (G fr [c0 P]) w=.go (G ((c0 P).finish v) []) w2 es)∨∃o w2 es,stepG P true (G fr [c0 P]) w=.ended o w2 es:=by
  have hk:=h.ok.kind;cases hrun:(results f fr.tmps).run P w with
  |ok v w2=>
   refine .inl ⟨v,w2,?_⟩;simp[G,stepG,unwind,hm,h.ok.defers,hf,hrun,doReturn,hk,GStep.after]
  |halt h3 w2=>
   refine .inr ?_;cases h3<;>simp[G,stepG,unwind,hm,h.ok.defers,hf,hrun,GStep.after]
 rcases key with⟨v,w2,es,e⟩|⟨o,w2,es,e⟩
 ·simp only[runN,ki e]at hr;cases n with
  |zero=>
   simp only[runN,Stepped.next.injEq]at hr;obtain⟨_,e,_⟩:=iJ hr;cases e
  |succ n=>
   have h2:∃o w3 es,stepG P true (G ((c0 P).finish v) []) w2=.ended o w3 es:=by
    simp[G,stepG,stepG.exec,c0,Frame.finish,XC]
   obtain⟨o,w3,es,h2⟩:=h2;simp only[runN,je h2]at hr;cases hr
 ·simp only[runN,je e]at hr;cases hr
theorem zZ (hC:jB P F S):∀(n:Nat) (fr:Frame) (above:List Frame) (w:World) (qV:Frame) (wf:World),PI P F S fr above w→runN P n (lone fr (above++[c0 P]) w)=.next (lone qV [c0 P] wf)→qV.mode=.returning→∃m,lZ P m fr above w qV [] wf:=by
 intro n
 induction n with
 |zero=>
  intro fr above w qV wf h hr hm;simp only[runN,Stepped.next.injEq]at hr;obtain⟨rfl,e,rfl⟩:=iJ hr;have:above=[]:=by
   have:=congrArg List.length e;simp at this;exact this
  subst this;exact⟨0,.zero⟩
 |succ n ih=>
  intro fr above w qV wf h hr hm;by_cases hl:above=[]∧fr.mode=.returning
  ·obtain⟨rfl,hl⟩:=hl;exact(tK hC h hl hr).elim
  ·cases hrun:(aL P fr above).runT P w #[]with
   |mk r es=>
    cases r with
    |ok x w1=>
     obtain⟨f1,a1⟩:=x;have hs:=mG (main:=true) (cs:=[c0 P]) h.ok hrun;simp only[runN,ki hs]at hr;obtain⟨m,Ii⟩:=ih f1 a1 w1 qV wf (dY hC h hrun).1 hr hm;exact⟨m+1,.succ hrun Ii⟩
    |halt hh w1=>
     rcases yN (cs:=[c0 P]) hC h hl hrun with⟨chain,w2,es',e⟩|⟨o,w2,es',e⟩
     ·simp only[runN,ki e]at hr;exact(BL above fr w2 chain n qV wf h.ok.defers h.ok.fn h.oks hr hm).elim
     ·simp only[runN,je e]at hr;cases hr
end
end Go.Ren
