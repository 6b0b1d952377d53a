import Derived.Conc.Listed
import Derived.Test.YtlhimdjkkiflhaaGreatDoorRet03
set_option maxHeartbeats 8000000
set_option maxRecDepth 100000
open Go renaming Frame→Γ,World→Θ,stepG→Φ,Program→Ω,FuncId→ζ,yielded→η,Value→θ,Event→ι,exitTo→υ,execOp→φ,undef→χ
open Go.Sem renaming runT→Δ
open Classical renaming choose→Λ
open Go.stepG renaming exec→Ξ
open Go.Region renaming wanted→ξ
open Go.GStep renaming after→π
namespace Go.Ren
open Go Go.Conc
section defs
variable (P:Ω)(F:ζ→Bool)(S:Sd)
def bB:Code→Bool
 |.skip |.ret |.exit _|.refuse _=>true
 |.region _ ops _=>ops.all λo=>fo P F S o.op
 |.seq a b=>bB a&&bB b
 |.cond c a b=>gD S c&&bB a&&bB b
 |.block _ a|.loop a=>bB a
 |_=>false
def aF:Item→Bool
 |.code c=>bB P F S c
 |.inBlock _=>true
 |.inLoop c=>bB P F S c
 |.inRegion ops l=>l.all λi=>(ops[i]?).all λo=>fo P F S o.op
 |_=>false
structure kJ (fr:Γ):Prop where
 defers:fr.defers=[]
 mode:fr.mode=.run∨fr.mode=.returning
 kind:fr.kind=.normal
 round:fr.roundOf=none
 todo:fr.todo.all (aF P F S)=true
 fn:∃f,P.funcs[fr.fn]?=some f
structure lp:Prop where
 SF:∀g,S g=true→F g=true
 fn:∀f,F f=true→JI P S f
 body:∀f fn c,F f=true→P.funcs[f]?=some fn→fn.body=some c→bB P F S c=true
 zero:∀t i v,P.info? t=some i→i.zero=some v→∀ρ:Rn,rv ρ v=v
end defs
def ba (P:Ω)(fr:Γ)(above:List Γ):Sem (Γ×List Γ):=
 match fr.mode with
 |.run=>
  match fr.todo with
  |[]=>pure ({ fr with mode:= .returning },above)
  |.code .ret::_=>pure ({ fr with mode:= .returning },above)
  |.code .skip::k|.inBlock _::k=>pure ({ fr with todo:=k },above)
  |.code (.seq a b)::k=>pure ({ fr with todo:= .code a::.code b::k },above)
  |.code (.cond c a b)::k=>match fr.eval c with
   |.bool t=>pure ({ fr with todo:= .code (if t then a else b)::k },above)
   |_=>stuck ""
  |.code (.block id a)::k=>pure ({ fr with todo:= .code a::.inBlock id::k },above)
  |.code (.loop a)::k|.inLoop a::k=>pure ({ fr with todo:= .code a::.inLoop a::k },above)
  |.code (.exit id)::k=>match υ id k with
   |some k'=>pure ({ fr with todo:=k' },above)
   |none=>stuck ""
  |.code (.region id ops draw)::k=>
   if draw then do
    let t ←choose (.order fr.fn id)
    pure ({ fr with todo:= .inRegion ops (Region.schedule (P.follows .mixedOrders) ops t)::k },above)
   else pure ({ fr with todo:= .inRegion ops (List.range ops.size)::k },above)
  |.inRegion _ []::k=>pure ({ fr with todo:=k },above)
  |.inRegion ops (i::_)::_=>
   if((ops[i]?).map (ξ · (η ops fr.tmps))).getD false then
    match ops[i]? with
    |some o=>do
     match ←φ fr.eval o with
     |.value v=>pure (fr.finish v,above)
     |.skip=>pure (fr.finish χ,above)
     |.enter f args=>pure (Γ.enter P f args .normal,fr::above)
     |_=>stuck ""
    |none=>stuck ""
   else pure (fr.finish χ,above)
  |_=>stuck ""
 |_=>match P.funcs[fr.fn]? with
  |some fn=>do
   let v ←results fn fr.tmps
   match above with
   |c::rest=>pure (c.finish v,rest)
   |[]=>stuck ""
  |none=>stuck ""
def cv (ρ:Rn)(fr:Γ):Γ:={ fr with tmps:=fr.tmps.map (rv ρ) }
section
variable {P:Ω}{F:ζ→Bool}{S:Sd}{ρ:Rn}
theorem eu:rv ρ χ=χ:=by simp[χ,rv]
theorem rZ {fr:Γ}{x:Operand}(h:gD S x=true)(hf:rV S ρ):(cv ρ fr).eval x=rv ρ (fr.eval x):=by
 cases x with
 |tmp t=>
  simp only[Γ.eval,cv,zbE,zaz];cases fr.tmps[t]?<;>simp[eu]
 |const v=>exact(ik h ρ).symm
 |global g=>
  simp only[gD,zae,zaK]at h;simp[Γ.eval,rv,ra,hf.g g h.1 h.2]
 |func f=>simp only[Γ.eval,rv,zcs,hf.f f h]
theorem xA (fr:Γ)(v:θ)(ht:fr.todo.all (aF P F S)=true):(cv ρ fr).finish (rv ρ v)=cv ρ (fr.finish v):=by
 obtain⟨fn,tmps,todo,defers,mode,kind,ro⟩:=fr
 match todo with
 |[]=>rfl
 |.inRegion ops []::k=>rfl
 |.inRegion ops (i::rest)::k=>
  simp only[Γ.finish,cv];cases (ops[i]?).bind (·.dst)<;>simp[Array.map_setIfInBounds]
 |.code c::k=>rfl
 |.inBlock c::k=>rfl
 |.inLoop c::k=>rfl
 |.inScope c::k=>simp[aF]at ht
 |.inRangeFunc c::k=>simp[aF]at ht
 |.endRangeFunc c::k=>simp[aF]at ht
 |.beginRound::k=>simp[aF]at ht
 |.call ..::k=>simp[aF]at ht
 |.extern ..::k=>simp[aF]at ht
theorem A8 {fr:Γ}(h:kJ P F S fr)(v:θ):kJ P F S (fr.finish v):=by
 obtain⟨h1,h2,h3,h4,h5,h6⟩:=h;obtain⟨fn,tmps,todo,defers,mode,kind,ro⟩:=fr;simp only at h1 h2 h3 h4 h5 h6
 match todo with
 |[]=>exact⟨h1,h2,h3,h4,h5,h6⟩
 |.inRegion ops []::k=>exact⟨h1,h2,h3,h4,h5,h6⟩
 |.inRegion ops (i::rest)::k=>
  refine⟨h1,h2,h3,h4,?_,h6⟩;simp only[zap,aF,zae]at h5;simp only[Γ.finish,zap,aF,zae];exact⟨h5.1.2,h5.2⟩
 |.code c::k=>exact⟨h1,h2,h3,h4,h5,h6⟩
 |.inBlock c::k=>exact⟨h1,h2,h3,h4,h5,h6⟩
 |.inLoop c::k=>exact⟨h1,h2,h3,h4,h5,h6⟩
 |.inScope c::k=>simp[aF]at h5
 |.inRangeFunc c::k=>simp[aF]at h5
 |.endRangeFunc c::k=>simp[aF]at h5
 |.beginRound::k=>simp[aF]at h5
 |.call ..::k=>simp[aF]at h5
 |.extern ..::k=>simp[aF]at h5
theorem Lp {ops:Array Oper}(h:(ops.all λo=>fo P F S o.op)=true)(l:List Nat):(l.all λi=>(ops[i]?).all λo=>fo P F S o.op)=true:=by
 refine zaC.2 λi _=>?_;cases ho:ops[i]? with
 |none=>rfl
 |some o=>exact Array.all_eq_true'.1 h o (zbF ho)
theorem mb {id:Nat}:∀{k k':List Item},υ id k=some k'→k.all (aF P F S)=true→k'.all (aF P F S)=true
 |.inBlock id'::k,k',h,hk=>by
  simp only[υ]at h;simp only[zap,zae]at hk;split at h
  ·cases h;exact hk.2
  ·exact mb h hk.2
 |.code c::k,k',h,hk=>by
  simp only[υ]at h;simp only[zap,zae]at hk;exact mb h hk.2
 |.inLoop c::k,k',h,hk=>by
  simp only[υ]at h;simp only[zap,zae]at hk;exact mb h hk.2
 |.inRegion ..::k,k',h,hk=>by
  simp only[υ]at h;simp only[zap,zae]at hk;exact mb h hk.2
 |.inScope c::k,k',h,hk=>by simp[aF]at hk
 |.inRangeFunc c::k,k',h,hk=>by simp[aF]at hk
 |.endRangeFunc c::k,k',h,hk=>by simp[aF]at hk
 |.beginRound::k,k',h,hk=>by simp[aF]at hk
 |.call ..::k,k',h,hk=>by simp[aF]at hk
 |.extern ..::k,k',h,hk=>by simp[aF]at hk
 |[],k',h,hk=>by simp[υ]at h
theorem xB (hC:lp P F S){f:ζ}(hf:F f=true)(args:Array θ):kJ P F S (Γ.enter P f args .normal):=by
 obtain⟨fn,h1,_,_⟩:=hC.fn f hf;refine⟨rfl,.inl rfl,rfl,rfl,?_,⟨fn,h1⟩⟩;simp only[Γ.enter,h1,Option.bind,zap,List.all_nil,zbZ,aF];cases hb:fn.body with
 |none=>rfl
 |some c=>exact hC.body f fn c hf h1 hb
theorem il (f:ζ)(args:Array θ):Γ.enter P f (args.map (rv ρ)) .normal=cv ρ (Γ.enter P f args .normal):=by
 simp[Γ.enter,cv,eu]
theorem ov (ops:Array Oper)(tmps:Array θ)(j:Nat):η ops (tmps.map (rv ρ)) j=η ops tmps j:=by
 unfold η;cases (ops[j]?).bind (·.dst)with
 |none=>rfl
 |some d=>
  simp only[Option.bind,zaz];cases tmps[d]? with
  |none=>rfl
  |some v=>cases v<;>simp[rv]
theorem ae.Og {α β:Type}{R:α→β→Prop}{b b':Bool}(hb:b'=b){s t:Sem α}{s' t':Sem β}(h1:ae P ρ R s s')(h2:ae P ρ R t t'):ae P ρ R (if b then s else t) (if b' then s' else t'):=by
 subst hb;cases b'<;>simp[h1,h2]
def FF (P:Ω)(F:ζ→Bool)(S:Sd)(ρ:Rn)(x y:Γ×List Γ):Prop:=y=(cv ρ x.1,x.2.map (cv ρ))∧kJ P F S x.1∧∀f∈x.2,kJ P F S f
theorem Tx {fr:Γ}(h:kJ P F S fr){t:List Item}(ht:t.all (aF P F S)=true):kJ P F S { fr with todo:=t }:=⟨h.defers,h.mode,h.kind,h.round,ht,h.fn⟩
theorem Cz (hC:lp P F S)(hp:Plain P ρ)(hf:rV S ρ){fr:Γ}{above:List Γ}(h:kJ P F S fr)(ha:∀f∈above,kJ P F S f)
 (hg:∀v∈fr.tmps,GV P ρ v)(hv:∀v∈fr.tmps,FV S v):ae P ρ (FF P F S ρ) (ba P fr above) (ba P (cv ρ fr) (above.map (cv ρ))):=by
 have iG:∀x,gD S x=true→GV P ρ (fr.eval x)∧FV S (fr.eval x):=λx hx=>by
  cases x with
  |tmp t=>
   simp only[Γ.eval,zbE];cases hc:fr.tmps[t]? with
   |none=>exact⟨.inr eu,λfn a b e=>by cases e⟩
   |some v=>exact⟨hg v (zbF hc),hv v (zbF hc)⟩
  |const v=>
   refine⟨.inr (ik hx ρ),λfn a b e=>?_⟩;simp only[Γ.eval]at e;subst e;cases hx
  |global g=>
   simp only[gD,zae,zaK]at hx;exact⟨.inr (by simp[Γ.eval,rv,ra,hf.g g hx.1 hx.2]),λfn a b e=>by cases e⟩
  |func f=>
   refine⟨.inr ?_,λfn a b e=>?_⟩
   ·simp only[Γ.eval,rv,zcs,hf.f f hx]
   ·simp only[Γ.eval,θ.func.injEq]at e;exact⟨f,e.1.symm,hx⟩
 obtain⟨fn0,tmps,todo,defers,mode,kind,oc⟩:=fr;have hand:=h.todo;have hm:=h.mode;have Wt:=h.fn;simp only at hand hm Wt;rcases hm with rfl|rfl
 ·have ctl:∀t:List Item,t.all (aF P F S)=true→ae P ρ (FF P F S ρ) (pure (⟨fn0,tmps,t,defers,.run,kind,oc⟩,above)) (pure (⟨fn0,tmps.map (rv ρ),t,defers,.run,kind,oc⟩,above.map (cv ρ))):=λt ht=>ae.pure ⟨rfl,Tx h ht,ha⟩;have ret:ae P ρ (FF P F S ρ) (pure (⟨fn0,tmps,todo,defers,.returning,kind,oc⟩,above)) (pure (⟨fn0,tmps.map (rv ρ),todo,defers,.returning,kind,oc⟩,above.map (cv ρ))):=ae.pure ⟨rfl,⟨h.defers,.inr rfl,h.kind,h.round,h.todo,h.fn⟩,ha⟩
  match todo,h,iG,hand,ret with
  |[],h,iG,hand,ret=>exact ret
  |.code .ret::_,h,iG,hand,ret=>exact ret
  |.code .skip::k,h,iG,hand,ret=>exact ctl k (by simpa[aF,bB]using hand)
  |.inBlock _::k,h,iG,hand,ret=>exact ctl k (by simpa[aF]using hand)
  |.code (.seq a b)::k,h,iG,hand,ret=>exact ctl _ (by simpa[aF,bB,and_assoc]using hand)
  |.code (.block id a)::k,h,iG,hand,ret=>exact ctl _ (by simpa[aF,bB]using hand)
  |.code (.loop a)::k,h,iG,hand,ret=>exact ctl _ (by simpa[aF,bB]using hand)
  |.inLoop a::k,h,iG,hand,ret=>exact ctl _ (by simpa[aF,bB]using hand)
  |.inRegion _ []::k,h,iG,hand,ret=>exact ctl k (by simp[aF]at hand ⊢;exact hand)
  |.code (.cond c a b)::k,h,iG,hand,ret=>
   simp only[zap,aF,bB,zae]at hand;have e:=rZ (fr:=⟨fn0,tmps,.code (.cond c a b)::k,defers,.run,kind,oc⟩) hand.1.1.1 hf;simp only[ba,cv]at e ⊢;rw[e];generalize Γ.eval _ c=q;cases q with
   |bool t=>simp only[rv];refine ctl _ ?_;simp only[zap,aF,zae];cases t;exact⟨hand.1.2,hand.2⟩;exact⟨hand.1.1.2,hand.2⟩
   |_=>simp only[rv];exact ae.stuck _
  |.code (.exit id)::k,h,iG,hand,ret=>
   simp only[ba,cv];cases he:υ id k with
   |none=>exact ae.stuck _
   |some k'=>exact ctl k' (mb he (by simp[aF,bB]at hand ⊢;exact hand))
  |.code (.region id ops draw)::k,h,iG,hand,ret=>
   simp only[ba,cv];have hr:∀l,((Item.inRegion ops l)::k).all (aF P F S)=true:=λl=>by
    simp only[zap,aF,bB,zae]at hand ⊢;exact⟨Lp hand.1 l,hand.2⟩
   refine ae.aj (λ_=>?_) (λ_=>ctl _ (hr _));refine ae.bind (iC _) ?_;rintro t _ rfl;exact ctl _ (hr _)
  |.inRegion ops (i::rest)::k,h,iG,hand,ret=>
   simp only[ba];have hw:((ops[i]?).map (ξ · (η ops (tmps.map (rv ρ))))).getD false=((ops[i]?).map (ξ · (η ops tmps))).getD false:=by
    have:η ops (tmps.map (rv ρ))=η ops tmps:=funext λj=>ov ops tmps j;rw[this]
   have fU:∀v,ae P ρ (FF P F S ρ) (pure ((⟨fn0,tmps,.inRegion ops (i::rest)::k,defers,.run,kind,oc⟩:Γ).finish v,above)) (pure ((cv ρ (⟨fn0,tmps,.inRegion ops (i::rest)::k,defers,.run,kind,oc⟩:Γ)).finish (rv ρ v),above.map (cv ρ))):=λv=>by
    rw[xA (P:=P) (F:=F) (S:=S) _ v h.todo];exact ae.pure ⟨rfl,A8 h v,ha⟩
   refine ae.Og hw ?_ ?_
   ·cases ho:ops[i]? with
    |none=>exact ae.stuck _
    |some o=>
     dsimp only;have cG:fo P F S o.op=true:=by
      simp only[zap,aF,zae]at hand;have:=hand.1.1;rw[ho]at this;simpa using this
     refine ae.bind (ou (F:=F) hp hf hC.SF hC.fn o cG (ev:=(⟨fn0,tmps,.inRegion ops (i::rest)::k,defers,.run,kind,oc⟩:Γ).eval) (ev':=(cv ρ (⟨fn0,tmps,.inRegion ops (i::rest)::k,defers,.run,kind,oc⟩:Γ)).eval) (λx hx=>rZ hx hf) (λx hx=>(iG x hx).1) (λx hx=>(iG x hx).2) (λ_=>rfl) (λ_=>rfl) (λ_=>rfl) (λ_=>rfl)) ?_;intro nx Ty hn;cases nx<;>simp only[NN]at hn
     ·subst hn;exact fU _
     ·subst hn;have:=fU χ;rwa[eu]at this
     ·obtain⟨hF,rfl⟩:=hn;dsimp only;rw[il];exact ae.pure ⟨rfl,xB hC hF _,λf hx=>by
       rcases zal.1 hx with rfl|hx
       ·exact h
       ·exact ha f hx⟩
   ·have:=fU χ;rwa[eu]at this
  |.code (.rangeFunc ..)::k,h,iG,hand,ret=>simp[aF,bB]at hand
  |.code (.scope ..)::k,h,iG,hand,ret=>simp[aF,bB]at hand
  |.code (.label ..)::k,h,iG,hand,ret=>simp[aF,bB]at hand
  |.code (.goto ..)::k,h,iG,hand,ret=>simp[aF,bB]at hand
  |.code (.refuse ..)::k,h,iG,hand,ret=>exact ae.stuck _
  |.inScope c::k,h,iG,hand,ret=>simp[aF]at hand
  |.inRangeFunc c::k,h,iG,hand,ret=>simp[aF]at hand
  |.endRangeFunc c::k,h,iG,hand,ret=>simp[aF]at hand
  |.beginRound::k,h,iG,hand,ret=>simp[aF]at hand
  |.call ..::k,h,iG,hand,ret=>simp[aF]at hand
  |.extern ..::k,h,iG,hand,ret=>simp[aF]at hand
 ·simp only[ba,cv];obtain⟨fn,h1⟩:=Wt;rw[h1];dsimp only;refine ae.bind (jm hp fn tmps eu) ?_;rintro v _ rfl;cases above with
  |nil=>exact ae.stuck _
  |cons c rest=>
   simp only[zaB];have hc:=ha c (by simp);have e:=xA (ρ:=ρ) (P:=P) (F:=F) (S:=S) c v hc.todo;rw[e];exact ae.pure ⟨rfl,A8 hc v,λf hx=>ha f (by simp[hx])⟩
end
theorem bO (P:Ω){α β:Type}:∀(s:Sem α) (f:α→Sem β) (w:Θ) (es0:Array ι),(s>>=f).runT P w es0=match s.runT P w es0 with|(.ok a w1,dA)=>(f a).runT P w1 dA|(.halt h w1,dA)=>(.halt h w1,dA)
 |.pure a,f,w,es=>rfl
 |.load m a k,f,w,es=>by
  show(Sem.load m a λv=>(k v>>=f)).runT P w es=_;simp only[Δ];split
  ·exact bO P _ f _ _
  ·split
   ·exact bO P _ f _ _
   ·rfl
 |.store m a v k,f,w,es=>by
  show(Sem.store m a v (k>>=f)).runT P w es=_;cases v<;>simp only[Δ]<;>(try rfl)<;>(split<;>(try split)<;>first|exact bO P _ f _ _|rfl)
 |.new o k,f,w,es=>by show(Sem.new o λv=>(k v>>=f)).runT P w es=_;simp only[Δ];exact bO P _ f _ _
 |.shape r k,f,w,es=>by show(Sem.shape r λv=>(k v>>=f)).runT P w es=_;simp only[Δ];exact bO P _ f _ _
 |.freeze a n k,f,w,es=>by show(Sem.freeze a n (k>>=f)).runT P w es=_;simp only[Δ];exact bO P _ f _ _
 |.frozen a k,f,w,es=>by show(Sem.frozen a λv=>(k v>>=f)).runT P w es=_;simp only[Δ];exact bO P _ f _ _
 |.getObj r k,f,w,es=>by
  show(Sem.getObj r λv=>(k v>>=f)).runT P w es=_;simp only[Δ];split<;>first|exact bO P _ f _ _|rfl
 |.setObj r o k,f,w,es=>by
  show(Sem.setObj r o (k>>=f)).runT P w es=_;simp only[Δ];split<;>first|exact bO P _ f _ _|rfl
 |.choose q k,f,w,es=>by
  show(Sem.choose q λv=>(k v>>=f)).runT P w es=_;simp only[Δ];split<;>exact bO P _ f _ _
 |.sys c k,f,w,es=>by show(Sem.sys c λv=>(k v>>=f)).runT P w es=_;simp only[Δ];exact bO P _ f _ _
 |.program k,f,w,es=>by show(Sem.program λv=>(k v>>=f)).runT P w es=_;simp only[Δ];exact bO P _ f _ _
 |.mark m k,f,w,es=>by show(Sem.mark m (k>>=f)).runT P w es=_;simp only[Δ];exact bO P _ f _ _
 |.halt h,f,w,es=>rfl
structure Ek (P:Ω) (F:ζ→Bool) (S:Sd) (fr:Γ):Prop where
 defers:fr.defers=[]
 mode:fr.mode=.run∨fr.mode=.returning
 kind:fr.kind=.normal
 round:fr.roundOf=none
 todo:(fr.todo.take 1).all (aF P F S)=true
 fn:∃f,P.funcs[fr.fn]?=some f
section
variable {P:Ω}{F:ζ→Bool}{S:Sd}{main:Bool}{cs:List Γ}
theorem fq {fr fr':Γ}{above xC:List Γ}(h:Ek P F S fr){w w':Θ}{es:Array ι}(hr:(ba P fr above).runT P w #[]=(.ok (fr',xC) w',es)):Φ P main (G fr (above++cs)) w=.go (G fr' (xC++cs)) w' (seen P fr.fn es):=by
 obtain⟨fn0,tmps,todo,defers,mode,kind,oc⟩:=fr;obtain⟨hd,hm,hk,eK,hand,Wt⟩:=h;simp only at hd hm hk eK hand Wt;subst hd hk eK;have none_:seen P fn0 #[]=#[]:=by simp[seen]
 rcases hm with rfl|rfl
 ·match todo,hand,hr with
  |[],hand,hr=>
   simp only[ba,pure,Δ,zaf,zan]at hr;obtain⟨⟨⟨rfl,rfl⟩,rfl⟩,rfl⟩:=hr;simp[G,Φ,Ξ,none_]
  |.code .ret::k,hand,hr=>
   simp only[ba,pure,Δ,zaf,zan]at hr;obtain⟨⟨⟨rfl,rfl⟩,rfl⟩,rfl⟩:=hr;simp[G,Φ,Ξ,none_]
  |.code .skip::k,hand,hr=>
   simp only[ba,pure,Δ,zaf,zan]at hr;obtain⟨⟨⟨rfl,rfl⟩,rfl⟩,rfl⟩:=hr;simp[G,Φ,Ξ,none_]
  |.inBlock _::k,hand,hr=>
   simp only[ba,pure,Δ,zaf,zan]at hr;obtain⟨⟨⟨rfl,rfl⟩,rfl⟩,rfl⟩:=hr;simp[G,Φ,Ξ,none_]
  |.code (.seq a b)::k,hand,hr=>
   simp only[ba,pure,Δ,zaf,zan]at hr;obtain⟨⟨⟨rfl,rfl⟩,rfl⟩,rfl⟩:=hr;simp[G,Φ,Ξ,none_]
  |.code (.block id a)::k,hand,hr=>
   simp only[ba,pure,Δ,zaf,zan]at hr;obtain⟨⟨⟨rfl,rfl⟩,rfl⟩,rfl⟩:=hr;simp[G,Φ,Ξ,none_]
  |.code (.loop a)::k,hand,hr=>
   simp only[ba,pure,Δ,zaf,zan]at hr;obtain⟨⟨⟨rfl,rfl⟩,rfl⟩,rfl⟩:=hr;simp[G,Φ,Ξ,none_]
  |.inLoop a::k,hand,hr=>
   simp only[ba,pure,Δ,zaf,zan]at hr;obtain⟨⟨⟨rfl,rfl⟩,rfl⟩,rfl⟩:=hr;simp[G,Φ,Ξ,none_]
  |.inRegion _ []::k,hand,hr=>
   simp only[ba,pure,Δ,zaf,zan]at hr;obtain⟨⟨⟨rfl,rfl⟩,rfl⟩,rfl⟩:=hr;simp[G,Φ,Ξ,none_]
  |.code (.cond c a b)::k,hand,hr=>
   simp only[ba]at hr;generalize hq:Γ.eval _ c=q at hr;cases q with
   |bool t=>
    simp only[pure,Δ,zaf,zan]at hr;obtain⟨⟨⟨rfl,rfl⟩,rfl⟩,rfl⟩:=hr;simp[G,Φ,Ξ,none_,hq]
   |_=>simp[stuck]at hr
  |.code (.exit id)::k,hand,hr=>
   simp only[ba]at hr;cases he:υ id k with
   |none=>rw[he]at hr;simp[stuck]at hr
   |some k'=>
    rw[he]at hr;simp only[pure,Δ,zaf,zan]at hr;obtain⟨⟨⟨rfl,rfl⟩,rfl⟩,rfl⟩:=hr;simp[G,Φ,Ξ,none_,he]
  |.code (.region id ops draw)::k,hand,hr=>
   cases draw with
   |false=>
    simp only[ba,pure,Δ,zaf,zan,zaU,if_false]at hr;obtain⟨⟨⟨rfl,rfl⟩,rfl⟩,rfl⟩:=hr;simp[G,Φ,Ξ,none_]
   |true=>
    simp only[ba,if_true,bind,choose,Sem.bind,Δ,Question.forced,zaU,if_false,pure,zaf,zan,Question.cut]at hr;obtain⟨⟨⟨rfl,rfl⟩,rfl⟩,rfl⟩:=hr;simp[G,Φ,Ξ,none_,choose,Sem.run,Question.forced,Question.cut]
  |.inRegion ops (i::rest)::k,hand,hr=>
   simp only[ba]at hr;by_cases hw:((ops[i]?).map (ξ · (η ops tmps))).getD false=true
   ·rw[zab hw]at hr;cases ho:ops[i]? with
    |none=>rw[ho]at hr;simp[stuck]at hr
    |some o=>
     rw[ho]at hr;dsimp only at hr;have hstep:Φ P main (G ⟨fn0,tmps,.inRegion ops (i::rest)::k,[],.run,.normal,none⟩ (above++cs)) w=
      stepG.apply P true ⟨fn0,tmps,.inRegion ops (i::rest)::k,[],.run,.normal,none⟩ (above++cs) none (φ (Γ.eval ⟨fn0,tmps,.inRegion ops (i::rest)::k,[],.run,.normal,none⟩) o) w:=by
      rw[ho]at hw;have hw':ξ o (η ops tmps)=true:=by simpa using hw
      simp[G,Φ,Ξ,stepG.oper,Γ.oper?,ho,hw']
     rw[hstep];generalize hex:(φ (Γ.eval ⟨fn0,tmps,.inRegion ops (i::rest)::k,[],.run,.normal,none⟩) o)=ex at hr;rw[bO]at hr;cases hrun:ex.runT P w #[]with
     |mk r dA=>
      rw[hrun]at hr;cases r with
      |halt hh w1=>simp at hr
      |ok nx w1=>
       dsimp only at hr;cases nx<;>simp only[pure,stuck,Δ,zaf,zan,reduceCtorEq,false_and]at hr;all_goals
        obtain⟨⟨⟨rfl,rfl⟩,rfl⟩,rfl⟩:=hr;have h1:=zak Prod.fst hrun;have h2:=zak Prod.snd hrun;simp at h1 h2;simp[stepG.apply,h1,h2,G,π]
   ·rw[zaa hw]at hr;simp only[pure,Δ,zaf,zan]at hr;obtain⟨⟨⟨rfl,rfl⟩,rfl⟩,rfl⟩:=hr;simp only[Bool.not_eq_true]at hw;simp[G,Φ,Ξ,none_,hw,Γ.finish]
  |.code (.rangeFunc ..)::k,hand,hr=>simp[aF,bB]at hand
  |.code (.scope ..)::k,hand,hr=>simp[aF,bB]at hand
  |.code (.label ..)::k,hand,hr=>simp[aF,bB]at hand
  |.code (.goto ..)::k,hand,hr=>simp[aF,bB]at hand
  |.code (.refuse ..)::k,hand,hr=>simp[ba,stuck]at hr
  |.inScope c::k,hand,hr=>simp[aF]at hand
  |.inRangeFunc c::k,hand,hr=>simp[aF]at hand
  |.endRangeFunc c::k,hand,hr=>simp[aF]at hand
  |.beginRound::k,hand,hr=>simp[aF]at hand
  |.call ..::k,hand,hr=>simp[aF]at hand
  |.extern ..::k,hand,hr=>simp[aF]at hand
 ·obtain⟨fn,h1⟩:=Wt;simp only[ba,h1]at hr;rw[bO]at hr;cases hrun:(results fn tmps).runT P w #[]with
  |mk r dA=>
   rw[hrun]at hr;cases r with
   |halt hh w1=>simp at hr
   |ok v w1=>
    dsimp only at hr;cases above with
    |nil=>simp[stuck]at hr
    |cons c rest=>
     simp only[pure,Δ,zaf,zan]at hr;obtain⟨⟨⟨rfl,rfl⟩,rfl⟩,rfl⟩:=hr;have q1:=zak Prod.fst hrun;have q2:=zak Prod.snd hrun;simp at q1 q2;simp[G,Φ,unwind,h1,q1,q2,doReturn,π]
theorem JL {f:Γ}(h:kJ P F S f):Ek P F S f:=⟨h.defers,h.mode,h.kind,h.round,by
 have:=h.todo;cases hq:f.todo with
 |nil=>rfl
 |cons x l=>rw[hq]at this;simp only[zap,zae]at this;simpa using this.1,h.fn⟩
theorem mN {fr fr':Γ}{above xC:List Γ}(h:kJ P F S fr){w w':Θ}{es:Array ι}(hr:(ba P fr above).runT P w #[]=(.ok (fr',xC) w',es)):Φ P main (G fr (above++cs)) w=.go (G fr' (xC++cs)) w' (seen P fr.fn es):=fq (JL h) hr
end
def jR:Rn:={ b:=id,f:=id,d:=0 }
theorem ox:∀v:θ,rv jR v=v
 |.pointer none=>by simp[rv]
 |.pointer (some a)=>by simp[rv,ra,jR]
 |.slice none _ _=>by simp[rv]
 |.slice (some a) l c=>by simp[rv,ra,jR]
 |.map none=>by simp[rv]
 |.map (some r)=>by simp[rv,jR]
 |.chan none=>by simp[rv]
 |.chan (some r)=>by simp[rv,jR]
 |.func fn first captured=>by
  simp only[rv,θ.func.injEq];refine⟨rfl,bF.2 λx hx=>?_,bF.2 λx hx=>?_⟩
  ·have:=zbj hx;exact ox x
  ·have:=zbj hx;exact ox x
 |.iface t v=>by simp only[rv,θ.iface.injEq,true_and];exact ox v
 |.agg cs=>by
  simp only[rv,θ.agg.injEq];refine bF.2 λx hx=>?_;have:=zbj hx;exact ox x
 |.tuple cs=>by
  simp only[rv,θ.tuple.injEq];refine bF.2 λx hx=>?_;have:=zbj hx;exact ox x
 |.bool _=>by simp[rv]
 |.int _ _=>by simp[rv]
 |.float _ _=>by simp[rv]
 |.complex _ _ _=>by simp[rv]
 |.string _=>by simp[rv]
 |.nilFunc=>by simp[rv]
 |.nilIface=>by simp[rv]
termination_by v=>SizeOf.sizeOf v
theorem map_id' (cs:Array θ):cs.map (rv jR)=cs:=bF.2 λx _=>ox x
theorem Wu (a:Addr):ra jR a=a:=rfl
theorem El (o:Obj):ro jR o=o:=by
 cases o with
 |cells c t f=>simp[ro,map_id']
 |pending c t=>simp[ro,map_id']
 |chan a b c d e f=>simp[ro,map_id']
 |view a t=>simp[ro,Wu]
 |number a t=>simp[ro,Wu]
 |map es c=>
  simp only[ro,Obj.map.injEq,zay];apply Array.ext
  ·simp
  ·intro i h1 h2;simp[ox]
 |_=>rfl
theorem Hi (fr:Γ):cv jR fr=fr:=by simp[cv,map_id']
theorem CB:∀l:List Γ,l.map (cv jR)=l
 |[]=>rfl
 |f::l=>by rw[zaB,Hi,CB l]
section
variable {P:Ω}{F:ζ→Bool}{S:Sd}
theorem mf (hC:lp P F S):Plain P jR:=⟨λt i v h1 h2=>hC.zero t i v h1 h2 _,λ_a _b h=>h⟩
theorem mg (hC:lp P F S)(n:Nat):Plain P (sg S S.d n):=⟨λt i v h1 h2=>hC.zero t i v h1 h2 _,XY⟩
theorem JM:rV S jR:=⟨λ_ _=>rfl,λ_ _ _=>rfl,λ_ _=> .inr rfl⟩
theorem CC:Am P jR:=λ_=>Iff.rfl
theorem Oh (o:Obj):GO P jR o:= .inl CC
def iH (_P:Ω)(S:Sd)(n:Nat)(fr:Γ):Prop:=∀v∈fr.tmps,rv (sg S S.d n) v=v
structure PI (P:Ω) (F:ζ→Bool) (S:Sd) (fr:Γ) (above:List Γ) (w:Θ):Prop where
 ok:kJ P F S fr
 oks:∀f∈above,kJ P F S f
 cl:iH P S w.heap.size fr
 cls:∀f∈above,iH P S w.heap.size f
 wr:WR P S jR w w
theorem jo {n:Nat}{v:θ}(h:rv (sg S S.d n) v=v):FV S v:=by
 intro fn a b e;subst e;simp only[rv,θ.func.injEq]at h;exact iD.1 h.1
theorem iJ {n m:Nat}(h:n≤m){fr:Γ}(hc:iH P S n fr):iH P S m fr:=λv hv=>eY (dY h).1 (dY h).2 v (hc v hv)
theorem CE {n:Nat}{fr:Γ}(hc:iH P S n fr):cv (sg S S.d n) fr=fr:=by
 unfold cv;rw[bF.2 hc]
theorem tU {n:Nat}{fr:Γ}(h:cv (sg S S.d n) fr=fr):iH P S n fr:=by
 have:fr.tmps.map (rv (sg S S.d n))=fr.tmps:=zak Γ.tmps h;exact bF.1 this
theorem Tz {n:Nat}{above:List Γ}(hc:∀f∈above,iH P S n f):above.map (cv (sg S S.d n))=above:=by
 induction above with
 |nil=>rfl
 |cons f l ih=>rw[zaB,CE (hc f (by simp)),ih λg hg=>hc g (by simp[hg])]
theorem xD {n:Nat}:∀{above:List Γ},above.map (cv (sg S S.d n))=above→∀f∈above,iH P S n f
 |[],_,f,hf=>by cases hf
 |g::l,h,f,hf=>by
  simp only[zaB,List.cons.injEq]at h;rcases zal.1 hf with rfl|hf
  ·exact tU h.1
  ·exact xD h.2 f hf
theorem tV (hC:lp P F S){fr:Γ}{above:List Γ}{w:Θ}(h:PI P F S fr above w):∀n,w.heap.size≤n→ae P (sg S S.d n) (FF P F S (sg S S.d n)) (ba P fr above) (ba P fr above):=λn hn=>by
 have:=Cz (ρ:=sg S S.d n) hC (mg hC n) (wC (zag h.wr.big.g hn)) h.ok h.oks (λv hv=> .inr (iJ hn h.cl v hv)) (λv hv=>jo (h.cl v hv));rwa[CE (iJ hn h.cl),Tz λf hf=>iJ hn (h.cls f hf)]at this
theorem TA (hC:lp P F S){fr:Γ}{above:List Γ}{w:Θ}(h:PI P F S fr above w):ae P jR (FF P F S jR) (ba P fr above) (ba P fr above):=by
 have:=Cz (ρ:=jR) hC (mf hC) JM h.ok h.oks (λv _=> .inl CC) (λv hv=>jo (h.cl v hv));rwa[Hi,CB]at this
theorem aag {x y:Γ×List Γ}(h:FF P F S jR x y):y=x:=by
 obtain⟨h,_⟩:=h;rw[Hi,CB]at h;exact h
def _root_.Go.World.re (w:Θ)(τ:Nat→Question→Nat)(d:Nat):Θ:={ w with tape:=τ,drawn:=d }
theorem pD {a b:Θ}(h1:a.heap=b.heap)(h2:a.tape=b.tape)(h3:a.drawn=b.drawn)(h4:a.os=b.os)(h5:a.output=b.output):a=b:=by
 obtain⟨a1,a2,a3,a4,a5⟩:=a;obtain⟨b1,b2,b3,b4,b5⟩:=b;simp only at h1 h2 h3 h4 h5;subst h1 h2 h3 h4 h5;rfl
theorem eL (hC:lp P F S){fr:Γ}{above:List Γ}{w:Θ}(h:PI P F S fr above w){f1:Γ}{a1:List Γ}{w1:Θ}{es:Array ι}
 (hr:(ba P fr above).runT P w #[]=(.ok (f1,a1) w1,es)):PI P F S f1 a1 w1∧w1.tape=w.tape∧w.drawn≤w1.drawn∧∀τ d,Win w w1 (w.re τ d)→∃es',(ba P fr above).runT P (w.re τ d) #[]=(.ok (f1,a1) (w1.re τ (d+(w1.drawn-w.drawn))),es'):=by
 have se:=tV hC h;have key:∀τ d,Win w w1 (w.re τ d)→∃es',(ba P fr above).runT P (w.re τ d) #[]=(.ok (f1,a1) (w1.re τ (d+(w1.drawn-w.drawn))),es')∧PI P F S f1 a1 w1∧w1.tape=w.tape∧w.drawn≤w1.drawn:=λτ d xE=>by
  have hW:WR P S jR w (w.re τ d):=⟨h.wr.live,h.wr.ok,h.wr.dead,h.wr.closed,h.wr.next,h.wr.low,h.wr.big⟩;obtain⟨b,W1,es',r1,r2,r3,r4,r5,r6⟩:=dG (mf hC) Oh _ _ _ (λn=>FF P F S (sg S S.d n)) w (w.re τ d) #[] #[] _ _ _ (TA hC h) se hW xE hr;obtain rfl:=aag r2;have hsz:W1.heap.size=w1.heap.size:=by have:=r5.size;simp only[Θ.re]at this;omega
  have mh:W1.heap=w1.heap:=by
   apply Array.ext hsz;intro i hi1 hi2;have e:W1.heap[i]?=w1.heap[i]?:=by
    rcases zaw i S.d with hlt|jB
    ·rw[r5.frame i (by have:=h.wr.big.d;show i<w.heap.size;omega) (by rintro ⟨r,hr1,_,e⟩;have e':i=r:=e;omega)];show w.heap[i]?=_;rw[h.wr.dead i hlt,r4.dead i hlt]
    ·have hs:w1.heap[i]?=some w1.heap[i]:=zaL hi2;have:=r4.live i _ jB hs;rw[El]at this;rw[hs];exact this
   rw[zaL hi1,zaL hi2]at e;exact zaM e
  have hWe:W1=w1.re τ (d+(w1.drawn-w.drawn)):=by
   refine pD mh r5.tape ?_ (r5.os.trans r5.wos.symm) (r5.output.trans r5.Od.symm);have:=r5.drawn;have:=r5.tS;show W1.drawn=d+(w1.drawn-w.drawn);simp only[Θ.re]at *;omega
  have fK:=r3 w1.heap.size (zac _);have Oi:cv (sg S S.d w1.heap.size) f1=f1:=(zak Prod.fst fK.1).symm;have Oj:a1.map (cv (sg S S.d w1.heap.size))=a1:=(zak Prod.snd fK.1).symm;have hwr:WR P S jR w1 w1:=by
   subst hWe;exact⟨r4.live,r4.ok,r4.dead,r4.closed,r4.next,r4.low,r4.big⟩
  exact⟨es',by rw[r1,hWe],⟨fK.2.1,fK.2.2,tU Oi,xD Oj,hwr⟩,r5.Ei,r5.tS⟩
 obtain⟨_,_,k1,k2,k3⟩:=key w.tape w.drawn (λj _ q=>rfl);exact⟨k1,k2,k3,λτ d xE=>by obtain⟨es',e,_⟩:=key τ d xE;exact⟨es',e⟩⟩
theorem Ol (hC:lp P F S){ρ:Rn}(hp:Plain P ρ)(SH:Am P ρ)(hx:rV S ρ){fr:Γ}{above:List Γ}{w W:Θ}(h:PI P F S fr above w)(hW:WR P S ρ w W){f1:Γ}{a1:List Γ}{w1:Θ}{es:Array ι}
 (hn:Win w w1 W)(hr:(ba P fr above).runT P w #[]=(.ok (f1,a1) w1,es)):∃W1 es',WR P S ρ w1 W1∧DM S.d ρ w w1 W W1∧(∀e∈es',nU S.d ρ w1 e)∧
   ∀main cs,Φ P main (G (cv ρ fr) (above.map (cv ρ)++cs)) W=.go (G (cv ρ f1) (a1.map (cv ρ)++cs)) W1 (seen P fr.fn es'):=by
 have se:=tV hC h;have Ag:=Cz (ρ:=ρ) hC hp hx h.ok h.oks (λv _=> .inl SH) (λv hv=>jo (h.cl v hv));obtain⟨b,W1,es',r1,⟨rfl,o1,o2⟩,r3,r4,r5,r6⟩:=dG hp (λo=> .inl SH) _ _ _ (λn=>FF P F S (sg S S.d n)) w W #[] #[] _ _ _ Ag se hW hn hr;refine⟨W1,es',r4,r5,λe he=>(r6 e he).resolve_left (by simp),λmain cs=>?_⟩;have cG:kJ P F S (cv ρ fr):=⟨h.ok.defers,h.ok.mode,h.ok.kind,h.ok.round,h.ok.todo,h.ok.fn⟩;exact mN cG r1
end
abbrev Tp:=Nat→Question→Nat
inductive Om (P:Ω) (Q:Γ→List Γ→Θ→Prop):Γ→List Γ→Θ→Prop
 |stop {fr:Γ} {above:List Γ} {w:Θ}:Q fr above w→Om P Q fr above w
 |step {fr:Γ} {above:List Γ} {w:Θ} (nf:Tp→Nat→Γ) (na:Tp→Nat→List Γ) (nw:Tp→Nat→Θ) (ne:Tp→Nat→Array ι):
   (∀τ d,(ba P fr above).runT P (w.re τ d) #[]=(.ok (nf τ d,na τ d) (nw τ d),ne τ d))→(∀τ d,Om P Q (nf τ d) (na τ d) (nw τ d))→Om P Q fr above w
inductive mO (P:Ω):Nat→Γ→List Γ→Θ→Γ→List Γ→Θ→Prop
 |zero {fr:Γ} {above:List Γ} {w:Θ}:mO P 0 fr above w fr above w
 |succ {n:Nat} {fr f1 f2:Γ} {above a1 a2:List Γ} {w w1 w2:Θ} {es:Array ι}:(ba P fr above).runT P w #[]=(.ok (f1,a1) w1,es)→mO P n f1 a1 w1 f2 a2 w2→mO P (n+1) fr above w f2 a2 w2
section
variable {P:Ω}{F:ζ→Bool}{S:Sd}{Q:Γ→List Γ→Θ→Prop}
theorem Wv (w:Θ)(τ lq:Tp)(d d':Nat):(w.re τ d).re lq d'=w.re lq d':=rfl
theorem PI.re {fr:Γ}{above:List Γ}{w:Θ}(h:PI P F S fr above w)(τ:Tp)(d:Nat):PI P F S fr above (w.re τ d):=
 ⟨h.ok,h.oks,h.cl,h.cls,⟨h.wr.live,h.wr.ok,h.wr.dead,h.wr.closed,h.wr.next,h.wr.low,h.wr.big⟩⟩
theorem mO.stays (hC:lp P F S):∀{n:Nat} {fr f:Γ} {above a:List Γ} {w w':Θ},mO P n fr above w f a w'→PI P F S fr above w→Ren.PI P F S f a w'
 |0,fr,f,above,a,w,w',h,hI=>by cases h;exact hI
 |n+1,fr,f,above,a,w,w',h,hI=>by
  cases h with
  | @succ _ _ f1 _ _ a1 _ _ w1 _ es h1 h2=>exact mO.stays hC h2 (eL hC hI h1).1
theorem mO.shift (hC:lp P F S):∀{n:Nat} {fr f:Γ} {above a:List Γ} {w w':Θ},mO P n fr above w f a w'→PI P F S fr above w→∀(τ:Tp) (d:Nat),(∀j q,τ (d+j) q=w.tape (w.drawn+j) q)→∃d',mO P n fr above (w.re τ d) f a (w'.re τ d')
 |0,fr,f,above,a,w,w',h,hI,τ,d,Eh=>by cases h;exact⟨d,.zero⟩
 |n+1,fr,f,above,a,w,w',h,hI,τ,d,Eh=>by
  cases h with
  | @succ _ _ f1 _ _ a1 _ _ w1 _ es h1 h2=>
    obtain⟨A9,ht,hd,xE⟩:=eL hC hI h1;obtain⟨es',e⟩:=xE τ d (λj _ q=>Eh j q);obtain⟨d',h3⟩:=mO.shift hC h2 A9 τ (d+(w1.drawn-w.drawn)) (λj q=>by
     have:=Eh (w1.drawn-w.drawn+j) q;rw[ht,show d+(w1.drawn-w.drawn)+j=d+(w1.drawn-w.drawn+j) by omega,this,show w.drawn+(w1.drawn-w.drawn+j)=w1.drawn+j by omega])
    exact⟨d',.succ e h3⟩
theorem uT (hC:lp P F S)(hQ:∀f a w τ d,PI P F S f a w→Q f a w→Q f a (w.re τ d)){fr:Γ}{above:List Γ}{w:Θ}(hI:PI P F S fr above w)
 (hT:∀τ:Tp,∃n f a w',mO P n fr above (w.re τ 0) f a w'∧Q f a w'):Om P Q fr above w:=by
 refine Classical.byContradiction λhN=>?_;have hQ':∀f a (w:Θ) τ d,PI P F S f a w→Q f a (w.re τ d)→Q f a w:=λf a w τ d hI h=>by
  have:=hQ f a (w.re τ d) w.tape w.drawn (hI.re _ _) h;exact this
 let Bad:Γ×List Γ×Θ→Prop:=λs=>PI P F S s.1 s.2.1 s.2.2∧(∀τ:Tp,∃n f a w',mO P n s.1 s.2.1 (s.2.2.re τ 0) f a w'∧Q f a w')∧¬Om P Q s.1 s.2.1 s.2.2;have next:∀s:{ s // Bad s },∃s':{ s // Bad s },∃(τ:Tp) (d:Nat) (es:Array ι),(ba P s.1.1 s.1.2.1).runT P (s.1.2.2.re τ d) #[]=(.ok (s'.1.1,s'.1.2.1) s'.1.2.2,es):=by
  rintro ⟨⟨fr,above,w⟩,hI,hT,hN⟩;simp only at hI hT hN;have nq:¬Q fr above w:=λh=>hN (.stop h);have run:∀(τ:Tp) (d:Nat),∃f1 a1 w1 es,(ba P fr above).runT P (w.re τ d) #[]=(.ok (f1,a1) w1,es):=λτ d=>by
   obtain⟨n,f,a,w',hr,hq⟩:=hT (λj=>τ (d+j));cases hr with
   |zero=>exact absurd (hQ' _ _ _ _ _ hI hq) nq
   | @succ _ _ f1 _ _ a1 _ _ w1 _ es h1 h2=>
     obtain⟨_,_,_,xE⟩:=eL hC (hI.re _ _) h1;obtain⟨es',e⟩:=xE τ d (λj _ q=>by show τ (d+j) q=τ (d+(0+j)) q;rw[Nat.zero_add]);exact⟨_,_,_,_,e⟩
  have ex:∃(τ:Tp) (d:Nat),∀f1 a1 w1 es,(ba P fr above).runT P (w.re τ d) #[]=(.ok (f1,a1) w1,es)→¬Om P Q f1 a1 w1:=by
   refine Classical.byContradiction λhno=>hN ?_;have all:∀(τ:Tp) (d:Nat),∃f1 a1 w1 es,(ba P fr above).runT P (w.re τ d) #[]=(.ok (f1,a1) w1,es)∧Om P Q f1 a1 w1:=λτ d=>by
    refine Classical.byContradiction λhx=>hno ⟨τ,d,λf1 a1 w1 es he hb=>hx ⟨f1,a1,w1,es,he,hb⟩⟩
   exact .step (λτ d=>Λ (all τ d)) (λτ d=>Λ (zaP (all τ d))) (λτ d=>Λ (zaP (zaP (all τ d))))
    (λτ d=>Λ (zaP (zaP (zaP (all τ d))))) (λτ d=>(zaP (zaP (zaP (zaP (all τ d))))).1)
    (λτ d=>(zaP (zaP (zaP (zaP (all τ d))))).2)
  obtain⟨τ,d,hb⟩:=ex;obtain⟨f1,a1,w1,es,he⟩:=run τ d;obtain⟨A9,ht,hd,xE⟩:=eL hC (hI.re τ d) he;refine⟨⟨⟨f1,a1,w1⟩,A9,λτ2=>?_,hb _ _ _ _ he⟩,τ,d,es,he⟩;let m:=w1.drawn-d;obtain⟨n,f,a,w',hr,hq⟩:=hT (λi=>if i<m then τ (d+i)else τ2 (i-m));cases hr with
  |zero=>exact absurd (hQ' _ _ _ _ _ hI hq) nq
  | @succ n' _ f2 _ _ a2 _ _ w2 _ es2 h1 h2=>
    obtain⟨es3,e3⟩:=xE (λi=>if i<m then τ (d+i)else τ2 (i-m)) 0 (λj hj q=>by
     show(if 0+j<m then τ (d+(0+j))else τ2 (0+j-m)) q=τ (d+j) q;rw[Nat.zero_add,zab (show j<m from hj)])
    rw[Wv,h1]at e3;simp only[zaf,zan]at e3;obtain⟨⟨⟨rfl,rfl⟩,rfl⟩,_⟩:=e3;obtain⟨d',h3⟩:=mO.shift hC h2 (A9.re _ _) τ2 0 (λj q=>by
     show τ2 (0+j) q=(if 0+m+j<m then τ (d+(0+m+j))else τ2 (0+m+j-m)) q;rw[zaa (by omega),show 0+m+j-m=0+j by omega])
    exact⟨n',f,a,_,h3,hQ _ _ _ _ _ (mO.stays hC h2 (A9.re _ _)) hq⟩
 let nx:{ s // Bad s }→{ s // Bad s }:=λs=>Λ (next s);let sq:Nat→{ s // Bad s }:=λk=>Nat.rec ⟨(fr,above,w),hI,hT,hN⟩ (λ_ s=>nx s) k;have hsq:∀k,∃(τ:Tp) (d:Nat) (es:Array ι),(ba P (sq k).1.1 (sq k).1.2.1).runT P ((sq k).1.2.2.re τ d) #[]=(.ok ((sq (k+1)).1.1,(sq (k+1)).1.2.1) (sq (k+1)).1.2.2,es):=λk=>zaP (next (sq k));let τs:Nat→Tp:=λk=>Λ (hsq k);let ds:Nat→Nat:=λk=>Λ (zaP (hsq k));have hrun:∀k,∃es,(ba P (sq k).1.1 (sq k).1.2.1).runT P ((sq k).1.2.2.re (τs k) (ds k)) #[]=(.ok ((sq (k+1)).1.1,(sq (k+1)).1.2.1) (sq (k+1)).1.2.2,es):=λk=>zaP (zaP (hsq k));let ms:Nat→Nat:=λk=>(sq (k+1)).1.2.2.drawn - ds k;let cs:Nat→Nat:=λk=>Nat.rec 0 (λk c=>c+ms k) k;have hcs:∀k,cs (k+1)=cs k+ms k:=λk=>rfl;have Ww:∀a b,a≤b→cs a≤cs b:=λa b hab=>by
  induction hab with
  |refl=>exact zac _
  |step _ ih=>rw[hcs];omega
 let T:Tp:=λi q=>open Classical in if h:∃k,cs k≤i∧i<cs (k+1)then τs (Λ h) (ds (Λ h)+(i-cs (Λ h))) q else 0
 have hTs:∀k j q,j<ms k→T (cs k+j) q=τs k (ds k+j) q:=λk j q hj=>by
  have hex:∃k',cs k'≤cs k+j∧cs k+j<cs (k'+1):=⟨k,by omega,by rw[hcs];omega⟩;have aah:Λ hex=k:=by
   have h1:=zaP hex;rcases Nat.lt_trichotomy (Λ hex) k with h|h|h
   ·have h2:=Ww (Λ hex+1) k h;omega
   ·exact h
   ·have h2:=Ww (k+1) (Λ hex) h;rw[hcs]at h2;omega
  show(open Classical in if h:∃k',cs k'≤cs k+j∧cs k+j<cs (k'+1)then τs (Λ h) (ds (Λ h)+(cs k+j-cs (Λ h))) q else 0)=_;rw[dif_pos hex,aah,show cs k+j-cs k=j by omega]
 have walk:∀(n k:Nat) (f:Γ) (a:List Γ) (w':Θ),mO P n (sq k).1.1 (sq k).1.2.1 ((sq k).1.2.2.re T (cs k)) f a w'→f=(sq (k+n)).1.1∧a=(sq (k+n)).1.2.1∧w'=(sq (k+n)).1.2.2.re T (cs (k+n)):=by
  intro n
  induction n with
  |zero=>intro k f a w' h;cases h;exact⟨rfl,rfl,rfl⟩
  |succ n ih=>
   intro k f a w' h;cases h with
   | @succ _ _ f1 _ _ a1 _ _ w1 _ es h1 h2=>
     obtain⟨es2,he⟩:=hrun k;obtain⟨_,_,hd,xE⟩:=eL hC ((sq k).2.1.re (τs k) (ds k)) he;obtain⟨es3,e3⟩:=xE T (cs k) (λj hj q=>hTs k j q hj);rw[Wv,h1]at e3;simp only[zaf,zan]at e3;obtain⟨⟨⟨rfl,rfl⟩,rfl⟩,_⟩:=e3;have:=ih (k+1) f a w' h2;rwa[show k+1+n=k+(n+1) by omega]at this
 obtain⟨n,f,a,w',hr,hq⟩:=hT T;obtain⟨rfl,rfl,rfl⟩:=walk n 0 f a w' hr;exact(sq (0+n)).2.2.2 (.stop (hQ' _ _ _ _ _ (sq (0+n)).2.1 hq))
end
section
variable {P:Ω}{F:ζ→Bool}{S:Sd}
theorem JN:∀a b,jR a=jR b→a=b:=λ_ _ h=>h
theorem cT {α:Type}:∀(t:Sem α) (Rs:Nat→α→α→Prop) (w:Θ) (es:Array ι) (h:Halt) (w1:Θ) (dA:Array ι),(∀n,w.heap.size≤n→ae P (sg S S.d n) (Rs n) t t)→WR P S jR w w→t.runT P w es=(.halt h w1,dA)→DW h
 |.pure a0,Rs,w,es,h,w1,dA,h2,hW,hr=>by simp[Δ]at hr
 |.load m ad k,Rs,w,es,h,w1,dA,h2,hW,hr=>by
  by_cases hlt:ad.block<S.d
  ·simp only[Δ,A7 hW hlt,Θ.farLoad,hW.dead _ hlt,iE,zaf,Θ.noCell]at hr;have e:=hr.1;simp only[zbs]at e;rw[←e.1];trivial
  have cJ:S.d≤ad.block∧ad.block<w.heap.size:=by
   rcases h2 w.heap.size (zac _)with h|⟨k',e,_⟩
   ·exact absurd h hlt
   ·simp only[Sem.load.injEq]at e;exact bY.1 (gZ.1 e.2.1.symm)
  have jA:∀v,(∀n,w.heap.size≤n→rv (sg S S.d n) v=v)→∀n,w.heap.size≤n→ae P (sg S S.d n) (Rs n) (k v) (k v):=λv hv n hn=>by
   rcases h2 n hn with h|⟨k',e,hk⟩
   ·exact absurd h hlt
   ·simp only[Sem.load.injEq]at e;obtain⟨_,_,rfl⟩:=e;have:=hk v;rwa[hv n hn]at this
  simp only[Δ]at hr;cases hc:w.cell? ad with
  |some v=>
   rw[hc]at hr;have fK:=uR hW cJ.1 hc;exact cT (k v) Rs w _ h w1 dA (jA v λn hn=>eY (dY hn).1 (dY hn).2 v fK) hW hr
  |none=>
   rw[hc]at hr;simp only at hr;obtain⟨o,ho⟩:∃o,w.heap[ad.block]?=some o:=⟨_,zaL cJ.2⟩;have cG:=hW.ok _ o ho;cases o with
   |view at_ u=>
    cases hv:w.viewLoad P at_ u ad (m== .atomic)with
    |error e=>
     simp only[Θ.farLoad,ho,hv,zaf,zbs]at hr;rw[←hr.1.1];trivial
    |ok x=>
     simp only[Θ.farLoad,ho,hv]at hr;have fK:=hW.closed _ _ cJ.1 ho;simp only[ro,Obj.view.injEq,zay]at fK;have hat:=bY.1 (gZ.1 fK);obtain⟨v,ts⟩:=x;obtain⟨Aq,q1,q2,q3,q4⟩:=rY hW.Live hat.1 hv;exact cT (k v) Rs w _ h w1 dA (jA v λn _=>q3 _) hW hr
   |cells c e f=>
    simp only[Θ.farLoad,ho,Θ.noCell,zaf,zbs]at hr;rw[←hr.1.1];trivial
   |number c e=>
    simp only[Θ.farLoad,ho,Θ.noCell,zaf,zbs]at hr;rw[←hr.1.1];trivial
   |map c e=>
    simp only[Θ.farLoad,ho,Θ.noCell,zaf,zbs]at hr;rw[←hr.1.1];trivial
   |_=>exact cG.elim
 |.store m ad v k,Rs,w,es,h,w1,dA,h2,hW,hr=>by
  have cJ:(S.d≤ad.block∧ad.block<w.heap.size)∧rv (sg S S.d w.heap.size) v=v:=by
   obtain⟨k',e,_⟩:=h2 w.heap.size (zac _);simp only[Sem.store.injEq]at e;exact⟨bY.1 (gZ.1 e.2.1.symm),e.2.2.1.symm⟩
  obtain⟨cJ,hv⟩:=cJ;have jA:∀n,w.heap.size≤n→ae P (sg S S.d n) (Rs n) k k:=λn hn=>by
   obtain⟨k',e,hk⟩:=h2 n hn;simp only[Sem.store.injEq]at e;obtain⟨_,_,_,rfl⟩:=e;exact hk
  cases hc:w.cell? ad with
  |some v0=>
   cases Oe:w.frozen? ad with
   |true=>cases v<;>simp only[Δ,hc,Oe,if_true,zaf,zbs]at hr<;>(rw[←hr.1.1];trivial)
   |false=>
    have key:(∃s,h=.stuck s)∨k.runT P (w.setCell ad v) (es.push ⟨.cell ad,true,m== .atomic⟩)=(.halt h w1,dA):=by
     cases v<;>simp only[Δ,hc,Oe,zaU,if_false]at hr<;>first|exact .inr hr|(simp only[zaf,zbs]at hr;exact .inl ⟨_,hr.1.1.symm⟩)
    rcases key with⟨s,rfl⟩|key
    ·trivial
    ·have hs:=hW.setCell JN cJ.1 hv;rw[ox]at hs;exact cT k Rs _ _ h w1 dA (by simpa[Θ.setCell]using jA) hs key
  |none=>
   obtain⟨o,ho⟩:∃o,w.heap[ad.block]?=some o:=⟨_,zaL cJ.2⟩;have cG:=hW.ok _ o ho;have soft:∀x,w.farStore P ad v (m== .atomic)=.error x→DW x:=λx hx=>by
    unfold Θ.farStore at hx;rw[ho]at hx;cases o with
    |view at_ u=>
     simp only at hx;split at hx
     ·cases hx
     ·cases hx;trivial
    |cells c e f=>simp only[Θ.noCell,ho,Except.error.injEq]at hx;rw[←hx];trivial
    |number c e=>simp only[Θ.noCell,ho,Except.error.injEq]at hx;rw[←hx];trivial
    |map c e=>simp only[Θ.noCell,ho,Except.error.injEq]at hx;rw[←hx];trivial
    |_=>exact cG.elim
   cases hf:w.farStore P ad v (m== .atomic)with
   |error x=>
    have:(∃s,h=.stuck s)∨h=x:=by
     cases v<;>simp only[Δ,hc,hf,zaf,zbs]at hr<;>first|exact .inr hr.1.1.symm|exact .inl ⟨_,hr.1.1.symm⟩
    rcases this with⟨s,rfl⟩|rfl
    ·trivial
    ·exact soft _ hf
   |ok x=>
    obtain⟨w2,ts⟩:=x;have hf0:=hf;unfold Θ.farStore at hf;rw[ho]at hf;cases o with
    |view at_ u=>
     simp only at hf;cases SI:w.viewStore P at_ u ad v (m== .atomic)with
     |error e=>rw[SI]at hf;cases hf
     |ok x=>
      rw[SI]at hf;simp only[zbO]at hf;subst hf;have fK:=hW.closed _ _ cJ.1 ho;simp only[ro,Obj.view.injEq,zay]at fK;have hat:=bY.1 (gZ.1 fK);obtain⟨c,c',ty,fz,Aq,q1,q2,q3,q4,q5⟩:=qx hW.Live hat.1 SI;subst q2;have key:(∃s,h=.stuck s)∨k.runT P { w with heap:=w.heap.setIfInBounds at_.block (.cells c' ty fz) } (es++ts.toArray.map (⟨.cell ·,true,m== .atomic⟩))=(.halt h w1,dA):=by
       cases v<;>simp only[Δ,hc,hf0]at hr<;>first|exact .inr hr|(simp only[zaf,zbs]at hr;exact .inl ⟨_,hr.1.1.symm⟩)
      rcases key with⟨s,rfl⟩|key
      ·trivial
      ·have Cy:WR P S jR { w with heap:=w.heap.setIfInBounds at_.block (.cells c' ty fz) } { w with heap:=w.heap.setIfInBounds (jR at_.block) (.cells c' ty fz) }:=by
        refine hW.upd JN hat.1 (gU _ _ _) (gU _ _ _) (λo ho=>⟨trivial,by rw[El],λhs=>?_⟩);rw[q1]at ho;cases ho;simp only[ro,Obj.cells.injEq,zay]at hs ⊢;exact q3 _ hs
       exact cT k Rs _ _ h w1 dA (by simpa using jA) Cy key
    |_=>cases hf
 |.new o k,Rs,w,es,h,w1,dA,h2,hW,hr=>by
  have hs:l6 o∧ro (sg S S.d w.heap.size) o=o:=by
   obtain⟨ho,k',e,_⟩:=h2 w.heap.size (zac _);simp only[Sem.new.injEq]at e;exact⟨ho,e.1.symm⟩
  have jA:∀n,w.heap.size+1≤n→ae P (sg S S.d n) (Rs n) (k w.heap.size) (k w.heap.size):=λn hn=>by
   obtain⟨_,k',e,hk⟩:=h2 n (by omega);simp only[Sem.new.injEq]at e;obtain⟨_,rfl⟩:=e;have:=hk w.heap.size;rwa[show sg S S.d n w.heap.size=w.heap.size from bY.2 ⟨hW.big.d,by omega⟩]at this
  simp only[Δ]at hr;have Wx:=hW.push hs.1 hs.2;rw[El]at Wx;exact cT (k w.heap.size) Rs _ es h w1 dA (by simpa using jA) Wx hr
 |.shape r k,Rs,w,es,h,w1,dA,h2,hW,hr=>by
  simp only[Δ]at hr;refine cT _ Rs w es h w1 dA (λn hn=>?_) hW hr;obtain⟨k',e,hk⟩:=h2 n hn;simp only[Sem.shape.injEq]at e;obtain⟨_,rfl⟩:=e;exact hk _
 |.freeze ad n k,Rs,w,es,h,w1,dA,h2,hW,hr=>by
  have cJ:S.d≤ad.block∧ad.block<w.heap.size:=by
   obtain⟨k',e,_⟩:=h2 w.heap.size (zac _);simp only[Sem.freeze.injEq]at e;exact bY.1 (gZ.1 e.1.symm)
  have jA:∀n,w.heap.size≤n→ae P (sg S S.d n) (Rs n) k k:=λn hn=>by
   obtain⟨k',e,hk⟩:=h2 n hn;simp only[Sem.freeze.injEq]at e;obtain⟨_,_,rfl⟩:=e;exact hk
  simp only[Δ]at hr;have hsz:(w.freeze ad n).heap.size=w.heap.size:=by unfold Θ.freeze;split<;>simp
  exact cT k Rs (w.freeze ad n) es h w1 dA (by rw[hsz];exact jA) (hW.freeze JN cJ.1) hr
 |.frozen ad k,Rs,w,es,h,w1,dA,h2,hW,hr=>by
  simp only[Δ]at hr;refine cT _ Rs w es h w1 dA (λn hn=>?_) hW hr;obtain⟨k',e,hk⟩:=h2 n hn;simp only[Sem.frozen.injEq]at e;obtain⟨_,rfl⟩:=e;exact hk _
 |.getObj r k,Rs,w,es,h,w1,dA,h2,hW,hr=>by
  have cJ:S.d≤r∧r<w.heap.size:=by
   obtain⟨k',e,_⟩:=h2 w.heap.size (zac _);simp only[Sem.getObj.injEq]at e;exact bY.1 e.1.symm
  obtain⟨o,ho⟩:∃o,w.heap[r]?=some o:=⟨_,zaL cJ.2⟩;have fK:=hW.closed _ o cJ.1 ho;have cG:=hW.ok _ o ho;have uS:∀n,w.heap.size≤n→ro (sg S S.d n) o=o:=λn hn=>pB (dY hn).1 (dY hn).2 fK;have jA:∀n,w.heap.size≤n→ae P (sg S S.d n) (Rs n) (k o) (k o):=λn hn=>by
   obtain⟨k',e,hk⟩:=h2 n hn;simp only[Sem.getObj.injEq]at e;obtain⟨_,rfl⟩:=e;have:=hk o (.inr (uS n hn));rwa[uS n hn]at this
  simp only[Δ,ho]at hr;cases o with
  |cells c e f=>simp only[zaf,zbs]at hr;rw[←hr.1.1];trivial
  |view x t=>exact cT _ Rs w _ h w1 dA jA hW hr
  |number x t=>exact cT _ Rs w _ h w1 dA jA hW hr
  |map x t=>exact cT _ Rs w _ h w1 dA jA hW hr
  |_=>exact cG.elim
 |.setObj r o k,Rs,w,es,h,w1,dA,h2,hW,hr=>by
  have cJ:((S.d≤r∧r<w.heap.size)∧ro (sg S S.d w.heap.size) o=o)∧NY o:=by
   obtain⟨hs,k',e,_⟩:=h2 w.heap.size (zac _);simp only[Sem.setObj.injEq]at e;exact⟨⟨bY.1 e.1.symm,e.2.1.symm⟩,hs⟩
  obtain⟨⟨cJ,fK⟩,Tv⟩:=cJ;have jA:∀n,w.heap.size≤n→ae P (sg S S.d n) (Rs n) k k:=λn hn=>by
   obtain⟨_,k',e,hk⟩:=h2 n hn;simp only[Sem.setObj.injEq]at e;obtain⟨_,_,rfl⟩:=e;exact hk
  obtain⟨o0,ho⟩:∃o,w.heap[r]?=some o:=⟨_,zaL cJ.2⟩;have cG:=hW.ok _ o0 ho;have Cy:WR P S jR { w with heap:=w.heap.setIfInBounds r o } { w with heap:=w.heap.setIfInBounds r o }:=by
   refine hW.upd JN cJ.1 (gU _ _ _) (gU _ _ _) (λo1 _=>⟨?_,by rw[El],λ_=>fK⟩);cases o<;>first|exact Tv.elim|trivial
  simp only[Δ,ho]at hr;cases o0 with
  |cells c e f=>simp only[zaf,zbs]at hr;rw[←hr.1.1];trivial
  |view x t=>exact cT k Rs _ _ h w1 dA (by simpa using jA) Cy hr
  |number x t=>exact cT k Rs _ _ h w1 dA (by simpa using jA) Cy hr
  |map x t=>exact cT k Rs _ _ h w1 dA (by simpa using jA) Cy hr
  |_=>exact cG.elim
 |.choose q k,Rs,w,es,h,w1,dA,h2,hW,hr=>by
  have jA:∀x n,w.heap.size≤n→ae P (sg S S.d n) (Rs n) (k x) (k x):=λx n hn=>by
   obtain⟨k',e,hk⟩:=h2 n hn;simp only[Sem.choose.injEq]at e;obtain⟨_,rfl⟩:=e;exact hk x
  simp only[Δ]at hr;split at hr
  ·exact cT _ Rs w es h w1 dA (jA _) hW hr
  ·exact cT _ Rs { w with drawn:=w.drawn+1 } es h w1 dA (jA _) (hW.drew _ _) hr
 |.sys c k,Rs,w,es,h,w1,dA,h2,hW,hr=>wF (.sys c k) _ _ _ _ _ (h2 w.heap.size (zac _)) hr
 |.program k,Rs,w,es,h,w1,dA,h2,hW,hr=>by
  simp only[Δ]at hr;refine cT _ Rs w es h w1 dA (λn hn=>?_) hW hr;obtain⟨k',e,hk⟩:=h2 n hn;simp only[Sem.program.injEq]at e;obtain rfl:=e;exact hk
 |.mark m k,Rs,w,es,h,w1,dA,h2,hW,hr=>by
  simp only[Δ]at hr;refine cT k Rs w _ h w1 dA (λn hn=>?_) hW hr;obtain⟨_,k',e,hk⟩:=h2 n hn;simp only[Sem.mark.injEq]at e;obtain⟨_,rfl⟩:=e;exact hk
 |.halt h0,Rs,w,es,h,w1,dA,h2,hW,hr=>by
  simp only[Δ,zaf,zbs]at hr;rw[←hr.1.1];exact h2 w.heap.size (zac _)
end
def c0 (P:Ω):Γ:={ fn:=P.funcs.size,tmps:=#[],todo:=[.call default false "fmt's door" #[]],defers:=[],mode:= .run,kind:= .normal,roundOf:=none }
theorem aai:Extern.next "fmt's door" =none:=by
 have:(Extern.next "fmt's door").isNone=true:=by rfl
 simpa using this
section
variable {P:Ω}{F:ζ→Bool}{S:Sd}
theorem JO (fr:Γ)(cs:List Γ)(w:Θ):Φ P true { frame:=fr,callers:=cs,status:= .running,dying:=none } w=Φ P true (G fr cs) w:=rfl
theorem ko {fr fr':Γ}{cs cs':List Γ}{w w':Θ}{es:Array ι}(h:Φ P true (G fr cs) w=.go (G fr' cs') w' es):step P (lone fr cs w)=.next (lone fr' cs' w'):=by
 refine step_lone_go ?_;rw[JO,h];rfl
theorem jq {fr:Γ}{cs:List Γ}{w w':Θ}{o:Outcome}{es:Array ι}(h:Φ P true (G fr cs) w=.ended o w' es):step P (lone fr cs w)=.ended o w':=by
 refine step_lone_ended ?_;rw[JO,h];rfl
theorem iK {fr fr':Γ}{cs cs':List Γ}{w w':Θ}(h:lone fr cs w=lone fr' cs' w'):fr=fr'∧cs=cs'∧w=w':=by
 simp only[lone,Machine.mk.injEq,Array.mk.injEq,List.cons.injEq,Goroutine.mk.injEq,zay]at h;exact⟨h.2.1,h.2.2,h.1⟩
theorem Ba (hC:lp P F S){fr:Γ}{above:List Γ}{w:Θ}(h:PI P F S fr above w){o:Oper}(ho:fo P F S o.op=true)(n:Nat)(hn:w.heap.size≤n):ae P (sg S S.d n) (NN F (sg S S.d n)) (φ fr.eval o) (φ fr.eval o):=by
 have hf:rV S (sg S S.d n):=wC (zag h.wr.big.g hn);have fK:=iJ hn h.cl;have iG:∀x,gD S x=true→rv (sg S S.d n) (fr.eval x)=fr.eval x:=λx hx=>by
  have e:=rZ (ρ:=sg S S.d n) (fr:=fr) hx hf;rw[CE fK]at e;exact e.symm
 refine ou (F:=F) (mg hC n) hf hC.SF hC.fn o ho (λx hx=>(iG x hx).symm) (λx hx=> .inr (iG x hx)) (λx hx=>jo (iG x hx)) (λ_=>rfl) (λ_=>rfl) (λ_=>rfl) (λ_=>rfl)
theorem TB (hC:lp P F S){fr:Γ}{above:List Γ}{w w1:Θ}(h:PI P F S fr above w){o:Oper}(ho:fo P F S o.op=true){nx:Next}{es:Array ι}(hr:(φ fr.eval o).runT P w #[]=(.ok nx w1,es)):∃b,NN F jR nx b:=by
 have hid:ae P jR (NN F jR) (φ fr.eval o) (φ fr.eval o):=by
  have iG:∀x,gD S x=true→FV S (fr.eval x):=λx hx=>by
   have e:=rZ (ρ:=sg S S.d w.heap.size) (fr:=fr) hx (wC h.wr.big.g);rw[CE h.cl]at e;exact jo e.symm
  exact ou (F:=F) (mf hC) (S:=S) JM hC.SF hC.fn o ho (λx hx=>(ox _).symm) (λx hx=> .inl CC) iG (λ_=>rfl) (λ_=>rfl) (λ_=>rfl) (λ_=>rfl)
 obtain⟨b,W1,es',r1,r2,_⟩:=dG (mf hC) Oh _ _ _ (λn=>NN F (sg S S.d n)) w w #[] #[] _ _ _ hid (λn hn=>Ba hC h ho n hn) h.wr (λ_ _ _=>rfl) hr;exact⟨b,r2⟩
theorem Bb (hC:lp P F S){fr:Γ}{above cs:List Γ}{w w1:Θ}(h:PI P F S fr above w)(mi:¬(above=[]∧fr.mode=.returning)){hh:Halt}{es:Array ι}(hr:(ba P fr above).runT P w #[]=(.halt hh w1,es)):(∃chain w2 es',Φ P true (G fr (above++cs)) w=.go (G { fr with mode:= .panicking chain } (above++cs)) w2 es')∨(∃o w2 es',Φ P true (G fr (above++cs)) w=.ended o w2 es'):=by
 have hI:=h;obtain⟨fn0,tmps,todo,defers,mode,kind,oc⟩:=fr;obtain⟨hd,hm,hk,eK,hand,Wt⟩:=h.ok;simp only at hd hm hk eK hand Wt;subst hd hk eK;rcases hm with rfl|rfl
 ·match todo,hand,hr,hI with
  |[],hand,hr,hI=>simp[ba,pure]at hr
  |.code .ret::k,hand,hr,hI=>simp[ba,pure]at hr
  |.code .skip::k,hand,hr,hI=>simp[ba,pure]at hr
  |.inBlock _::k,hand,hr,hI=>simp[ba,pure]at hr
  |.code (.seq a b)::k,hand,hr,hI=>simp[ba,pure]at hr
  |.code (.block id a)::k,hand,hr,hI=>simp[ba,pure]at hr
  |.code (.loop a)::k,hand,hr,hI=>simp[ba,pure]at hr
  |.inLoop a::k,hand,hr,hI=>simp[ba,pure]at hr
  |.inRegion _ []::k,hand,hr,hI=>simp[ba,pure]at hr
  |.code (.cond c a b)::k,hand,hr,hI=>
   simp only[ba]at hr;generalize hq:Γ.eval _ c=q at hr;cases q with
   |bool t=>simp[pure]at hr
   |_=>exact .inr (by simp[G,Φ,Ξ,hq])
  |.code (.exit id)::k,hand,hr,hI=>
   simp only[ba]at hr;cases he:υ id k with
   |none=>exact .inr (by simp[G,Φ,Ξ,he])
   |some k'=>rw[he]at hr;simp[pure]at hr
  |.code (.region id ops draw)::k,hand,hr,hI=>
   cases draw with
   |false=>simp[ba,pure]at hr
   |true=>
    exfalso;simp only[ba,if_true,bind,choose,Sem.bind,Δ,Question.forced,zaU,if_false,pure,zaf,reduceCtorEq,false_and]at hr
  |.inRegion ops (i::rest)::k,hand,hr,hI=>
   simp only[ba]at hr;by_cases hw:((ops[i]?).map (ξ · (η ops tmps))).getD false=true
   ·rw[zab hw]at hr;cases ho:ops[i]? with
    |none=>rw[ho]at hw;simp at hw
    |some o=>
     rw[ho]at hr;dsimp only at hr;have cG:fo P F S o.op=true:=by
      simp only[zap,aF,zae]at hand;have:=hand.1.1;rw[ho]at this;simpa using this
     have hstep:Φ P true (G ⟨fn0,tmps,.inRegion ops (i::rest)::k,[],.run,.normal,none⟩ (above++cs)) w=
      stepG.apply P true ⟨fn0,tmps,.inRegion ops (i::rest)::k,[],.run,.normal,none⟩ (above++cs) none (φ (Γ.eval ⟨fn0,tmps,.inRegion ops (i::rest)::k,[],.run,.normal,none⟩) o) w:=by
      rw[ho]at hw;have hw':ξ o (η ops tmps)=true:=by simpa using hw
      simp[G,Φ,Ξ,stepG.oper,Γ.oper?,ho,hw']
     rw[hstep];rw[bO]at hr;cases hrun:(φ (Γ.eval ⟨fn0,tmps,.inRegion ops (i::rest)::k,[],.run,.normal,none⟩) o).runT P w #[]with
     |mk r dA=>
      rw[hrun]at hr;have q1:=zak Prod.fst hrun;have q2:=zak Prod.snd hrun;simp at q1 q2;cases r with
      |halt h3 w3=>
       simp only[zaf,zbs]at hr;obtain⟨⟨rfl,rfl⟩,rfl⟩:=hr;have soft:=cT _ (λn=>NN F (sg S S.d n)) w #[] h3 w3 dA (λn hn=>Ba hC hI cG n hn) hI.wr hrun;cases h3 with
       |panic v=>exact .inl ⟨_,_,_,by simp[stepG.apply,q1,G,π,Γ.raise];exact⟨rfl,rfl,rfl⟩⟩
       |stuck s=>exact .inr ⟨_,_,_,by simp[stepG.apply,q1,π];exact⟨rfl,rfl,rfl⟩⟩
       |unsupported u=>
        cases u with
        |initOrder g=>exact soft.elim
        |_=>exact .inr ⟨_,_,_,by simp[stepG.apply,q1,π];exact⟨rfl,rfl,rfl⟩⟩
       |_=>exact soft.elim
      |ok nx w3=>
       obtain⟨b,hb⟩:=TB hC hI cG hrun;dsimp only at hr;cases nx<;>simp only[NN]at hb<;>simp[pure]at hr
   ·rw[zaa hw]at hr;simp[pure]at hr
  |.code (.rangeFunc ..)::k,hand,hr,hI=>simp[aF,bB]at hand
  |.code (.scope ..)::k,hand,hr,hI=>simp[aF,bB]at hand
  |.code (.label ..)::k,hand,hr,hI=>simp[aF,bB]at hand
  |.code (.goto ..)::k,hand,hr,hI=>simp[aF,bB]at hand
  |.code (.refuse ..)::k,hand,hr,hI=>exact .inr (by simp[G,Φ,Ξ])
  |.inScope c::k,hand,hr,hI=>simp[aF]at hand
  |.inRangeFunc c::k,hand,hr,hI=>simp[aF]at hand
  |.endRangeFunc c::k,hand,hr,hI=>simp[aF]at hand
  |.beginRound::k,hand,hr,hI=>simp[aF]at hand
  |.call ..::k,hand,hr,hI=>simp[aF]at hand
  |.extern ..::k,hand,hr,hI=>simp[aF]at hand
 ·obtain⟨fn,h1⟩:=Wt;simp only[ba,h1]at hr;rw[bO]at hr;cases hrun:(results fn tmps).runT P w #[]with
  |mk r dA=>
   rw[hrun]at hr;have q1:=zak Prod.fst hrun;simp at q1;cases r with
   |ok v w3=>
    dsimp only at hr;cases above with
    |nil=>exact absurd ⟨rfl,rfl⟩ mi
    |cons c rest=>simp[pure]at hr
   |halt h3 w3=>
    refine .inr ?_;cases h3<;>exact⟨_,_,_,by simp[G,Φ,unwind,h1,q1,π];exact⟨rfl,rfl,rfl⟩⟩
theorem Em:∀(above:List Γ) (fr:Γ) (w:Θ) (chain:List PanicEntry) (n:Nat) (sf:Γ) (wf:Θ),fr.defers=[]→(∃f,P.funcs[fr.fn]?=some f)→(∀f∈above,kJ P F S f)→runN P n (lone { fr with mode:= .panicking chain } (above++[c0 P]) w)=.next (lone sf [c0 P] wf)→sf.mode=.returning→False:=by
 intro above
 induction above with
 |nil=>
  rintro fr w chain n sf wf hd ⟨f,hf⟩ _ hr hm;cases n with
  |zero=>
   simp only[runN,zbD]at hr;obtain⟨rfl,_,_⟩:=iK hr;cases hm
  |succ n=>
   have h1:step P (lone { fr with mode:= .panicking chain } ([]++[c0 P]) w)=.next (lone ((c0 P).raise chain) [] w):=by
    refine ko (es:=#[]) ?_;simp[G,Φ,unwind,hd,Γ.catches,hf]
   simp only[runN,h1]at hr;cases n with
   |zero=>
    simp only[runN,zbD]at hr;obtain⟨_,e,_⟩:=iK hr;cases e
   |succ n=>
    have h2:∃o w3 es,Φ P true (G ((c0 P).raise chain) []) w=.ended o w3 es:=by
     simp[G,Φ,unwind,c0,Γ.raise,Γ.catches]
    obtain⟨o,w3,es,h2⟩:=h2;simp only[runN,jq h2]at hr;cases hr
 |cons c rest ih=>
  rintro fr w chain n sf wf hd ⟨f,hf⟩ cG hr hm;cases n with
  |zero=>
   simp only[runN,zbD]at hr;obtain⟨rfl,_,_⟩:=iK hr;cases hm
  |succ n=>
   have hc:=cG c (by simp);have h1:step P (lone { fr with mode:= .panicking chain } (c::rest++[c0 P]) w)=.next (lone { c with mode:= .panicking chain } (rest++[c0 P]) w):=by
    refine ko (es:=#[]) ?_;have hcr:c.raise chain={ c with mode:= .panicking chain }:=by
     unfold Γ.raise;rcases hc.mode with e|e<;>rw[e]
    simp[G,Φ,unwind,hd,Γ.catches,hf,hcr]
   simp only[runN,h1]at hr;exact ih c w chain n sf wf hc.defers hc.fn (λg hg=>cG g (by simp[hg])) hr hm
theorem uU (_hC:lp P F S){fr:Γ}{w:Θ}(h:PI P F S fr [] w)(hm:fr.mode=.returning){n:Nat}{sf:Γ}{wf:Θ}(hr:runN P (n+1) (lone fr [c0 P] w)=.next (lone sf [c0 P] wf)):False:=by
 obtain⟨f,hf⟩:=h.ok.fn;have key:(∃v w2 es,Φ P true (G fr [c0 P]) w=.go (G ((c0 P).finish v) []) w2 es)∨∃o w2 es,Φ P true (G fr [c0 P]) w=.ended o w2 es:=by
  have hk:=h.ok.kind;cases hrun:(results f fr.tmps).run P w with
  |ok v w2=>
   refine .inl ⟨v,w2,?_⟩;simp[G,Φ,unwind,hm,h.ok.defers,hf,hrun,doReturn,hk,π]
  |halt h3 w2=>
   refine .inr ?_;cases h3<;>simp[G,Φ,unwind,hm,h.ok.defers,hf,hrun,π]
 rcases key with⟨v,w2,es,e⟩|⟨o,w2,es,e⟩
 ·simp only[runN,ko e]at hr;cases n with
  |zero=>
   simp only[runN,zbD]at hr;obtain⟨_,e,_⟩:=iK hr;cases e
  |succ n=>
   have h2:∃o w3 es,Φ P true (G ((c0 P).finish v) []) w2=.ended o w3 es:=by
    simp[G,Φ,Ξ,c0,Γ.finish,aai]
   obtain⟨o,w3,es,h2⟩:=h2;simp only[runN,jq h2]at hr;cases hr
 ·simp only[runN,jq e]at hr;cases hr
theorem CF (hC:lp P F S):∀(n:Nat) (fr:Γ) (above:List Γ) (w:Θ) (sf:Γ) (wf:Θ),PI P F S fr above w→runN P n (lone fr (above++[c0 P]) w)=.next (lone sf [c0 P] wf)→sf.mode=.returning→∃m,mO P m fr above w sf [] wf:=by
 intro n
 induction n with
 |zero=>
  intro fr above w sf wf h hr hm;simp only[runN,zbD]at hr;obtain⟨rfl,e,rfl⟩:=iK hr;have:above=[]:=by
   have:=zak List.length e;simp at this;exact this
  subst this;exact⟨0,.zero⟩
 |succ n ih=>
  intro fr above w sf wf h hr hm;by_cases hl:above=[]∧fr.mode=.returning
  ·obtain⟨rfl,hl⟩:=hl;exact(uU hC h hl hr).elim
  ·cases hrun:(ba P fr above).runT P w #[]with
   |mk r es=>
    cases r with
    |ok x w1=>
     obtain⟨f1,a1⟩:=x;have hs:=mN (main:=true) (cs:=[c0 P]) h.ok hrun;simp only[runN,ko hs]at hr;obtain⟨m,DN⟩:=ih f1 a1 w1 sf wf (eL hC h hrun).1 hr hm;exact⟨m+1,.succ hrun DN⟩
    |halt hh w1=>
     rcases Bb (cs:=[c0 P]) hC h hl hrun with⟨chain,w2,es',e⟩|⟨o,w2,es',e⟩
     ·simp only[runN,ko e]at hr;exact(Em above fr w2 chain n sf wf h.ok.defers h.ok.fn h.oks hr hm).elim
     ·simp only[runN,jq e]at hr;cases hr
end
section
variable {P:Ω}{F:ζ→Bool}{S:Sd}
theorem Hj (hC:lp P F S){fr:Γ}{above:List Γ}{w:Θ}(h:PI P F S fr above w){fn:Func}{v:θ}(hr:(results fn fr.tmps).run P w=.ok v w)(τ:Tp)(d:Nat):(results fn fr.tmps).run P (w.re τ d)=.ok v (w.re τ d):=by
 cases hrun:(results fn fr.tmps).runT P w #[]with
 |mk r es=>
  have q1:=zak Prod.fst hrun;simp at q1;rw[hr]at q1;subst q1;have hid:ae P jR (VV jR) (results fn fr.tmps) (results fn fr.tmps):=by
   have:=jm (mf hC) fn fr.tmps (ox χ);rwa[map_id']at this
  have se:∀n,w.heap.size≤n→ae P (sg S S.d n) (VV (sg S S.d n)) (results fn fr.tmps) (results fn fr.tmps):=λn hn=>by
   have:=jm (mg hC n) fn fr.tmps eu;have e:fr.tmps.map (rv (sg S S.d n))=fr.tmps:=bF.2 (iJ hn h.cl);rwa[e]at this
  have hW:WR P S jR w (w.re τ d):=⟨h.wr.live,h.wr.ok,h.wr.dead,h.wr.closed,h.wr.next,h.wr.low,h.wr.big⟩;obtain⟨b,W1,es',r1,r2,_,r4,r5,_⟩:=dG (mf hC) Oh _ _ _ _ w (w.re τ d) #[] #[] _ _ _ hid se hW (λj hj=>by omega) hrun;have q2:=zak Prod.fst r1;simp at q2;have hb:b=v:=by have:=r2;unfold VV at this;rw[ox]at this;exact this
  have hs:=r5.size;have hW1:W1=w.re τ d:=by
   refine pD (Array.ext_getElem? λi=>?_) r5.tape (by have:=r5.drawn;omega) r5.os r5.output;have hsz:W1.heap.size=(w.re τ d).heap.size:=by omega
   rcases zaw i (w.re τ d).heap.size with hlt|jB
   ·by_cases ht:Touch S.d jR w i
    ·obtain⟨k,hr1,hr2,rfl⟩:=ht;have En:=r4.live _ _ hr1 (zaL hr2);have xF:=hW.live _ _ hr1 (zaL hr2);exact En.trans xF.symm
    ·exact r5.frame i hlt ht
   ·rw[zbQ (by omega),zbQ jB]
  rw[q2,hb,hW1]
theorem Oo (hC:lp P F S){f:ζ}{args:Array θ}{w:Θ}{Q:θ→Θ→Prop}(hI:PI P F S (Γ.enter P f args .normal) [] w)
 (hc:∀τ:Tp,Calls P f args (w.re τ 0) λe w'=>∃v,e=.returned v∧Q v w')(τ:Tp):
 ∃n fr a w',mO P n (Γ.enter P f args .normal) [] (w.re τ 0) fr a w'∧(a=[]∧fr.fn=f∧∃v,Q v w'∧fr.leaving P w' (.returned v)):=by
 generalize Nv:Γ.enter P f args .normal=fr0 at hI;have h:=hc τ [c0 P];rw[Nv]at h;generalize hcs:[c0 P]=cs at h;obtain⟨e,w',fr,⟨v,he,hq⟩,hs,hfn,hl⟩:=h;subst he;have hs':Steps P (lone fr0 cs (w.re τ 0)) (lone fr cs w'):=hs;obtain⟨n,hn⟩:=hs';have TC:fr.mode=.returning:=hl.1;subst hcs;obtain⟨m,hm⟩:=CF hC n fr0 [] (w.re τ 0) fr w' (hI.re τ 0) hn TC;exact⟨m,fr,[],w',hm,rfl,hfn,v,hq,hl⟩
theorem CH (hC:lp P F S){f:ζ}{args:Array θ}{w:Θ}{Q:θ→Θ→Prop}(hF:F f=true)(ha:∀v∈args,rv (sg S S.d w.heap.size) v=v)(hw:WR P S jR w w)(hQ:∀v w τ d,Q v w→Q v (w.re τ d))
 (hc:∀τ:Tp,Calls P f args (w.re τ 0) λe w'=>∃v,e=.returned v∧Q v w'):
 Om P (λfr above w'=>above=[]∧fr.fn=f∧∃v,Q v w'∧fr.leaving P w' (.returned v)) (Γ.enter P f args .normal) [] w:=by
 have hI:PI P F S (Γ.enter P f args .normal) [] w:=by
  refine⟨xB hC hF args,by simp,λv hv=>?_,by simp,hw⟩;have e:cv (sg S S.d w.heap.size) (Γ.enter P f args .normal)=Γ.enter P f args .normal:=by
   rw[←il,bF.2 ha]
  have:=zak Γ.tmps e;simp only[cv]at this;exact bF.1 this v hv
 have hT:=Oo hC hI hc;generalize Γ.enter P f args .normal=fr0 at hI hT ⊢;refine uT hC (λfr above w τ d hI hx=>?_) hI hT;obtain⟨e1,e2,v,hq,hl⟩:=hx;refine⟨e1,e2,v,hQ v w τ d hq,?_⟩;have hl':fr.mode=.returning∧fr.defers=[]∧fr.kind=.normal∧∃fn,P.funcs[fr.fn]?=some fn∧(results fn fr.tmps).run P w=.ok v w:=hl;obtain⟨h1,h2,h3,fn,h4,h5⟩:=hl';exact(show fr.mode=.returning∧fr.defers=[]∧fr.kind=.normal∧∃fn,P.funcs[fr.fn]?=some fn∧(results fn fr.tmps).run P (w.re τ d)=.ok v (w.re τ d) from⟨h1,h2,h3,fn,h4,Hj hC hI h5 τ d⟩)
end
end Go.Ren
