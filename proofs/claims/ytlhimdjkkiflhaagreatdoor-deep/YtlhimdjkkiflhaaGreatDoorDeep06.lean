import Derived.Conc.Own
import Derived.Conc.Listed
import Derived.Test.YtlhimdjkkiflhaaGreatDoorDeep05
namespace Go.Ren
open Go Go.Conc
section defs
variable (P:Program) (F:FuncId→Bool) (S:Sd)
def okCode:Code→Bool
 | .skip | .ret | .exit _| .refuse _=>true
 | .region _ ops _=>ops.all fun o=>okOp P F S o.op
 | .seq a b=>okCode a&&okCode b
 | .cond c a b=>okX S c&&okCode a&&okCode b
 | .block _ a| .loop a=>okCode a
 |_=>false
def okItem:Item→Bool
 | .code c=>okCode P F S c
 | .inBlock _=>true
 | .inLoop c=>okCode P F S c
 | .inRegion ops l=>l.all fun i=>(ops[i]?).all fun o=>okOp P F S o.op
 |_=>false
structure OkFr (fr:Frame):Prop where
 defers:fr.defers=[]
 mode:fr.mode= .run∨fr.mode= .returning
 kind:fr.kind= .normal
 round:fr.roundOf=none
 todo:fr.todo.all (okItem P F S)=true
 fn:∃ f,P.funcs[fr.fn]? =some f
structure Clo:Prop where
 SF:∀ g,S g=true→F g=true
 fn:∀ f,F f=true→okFun P S f
 body:∀ f fn c,F f=true→P.funcs[f]? =some fn→fn.body=some c→okCode P F S c=true
 zero:∀ t i v,P.info? t=some i→i.zero=some v→∀ ρ:Rn,rv ρ v=v
end defs
def psem (P:Program)(fr:Frame)(above:List Frame):Sem (Frame×List Frame):=
 match fr.mode with
 | .run=>
   match fr.todo with
   |[]=>pure ({ fr with mode:= .returning },above)
   | .code .ret::_=>pure ({ fr with mode:= .returning },above)
   | .code .skip::k| .inBlock _::k=>pure ({ fr with todo:=k },above)
   | .code (.seq a b)::k=>pure ({ fr with todo:= .code a:: .code b::k },above)
   | .code (.cond c a b)::k=>match fr.eval c with
     | .bool t=>pure ({ fr with todo:= .code (if t then a else b)::k },above)
     |_=>stuck ""
   | .code (.block id a)::k=>pure ({ fr with todo:= .code a:: .inBlock id::k },above)
   | .code (.loop a)::k| .inLoop a::k=>pure ({ fr with todo:= .code a:: .inLoop a::k },above)
   | .code (.exit id)::k=>match exitTo id k with
     |some k'=>pure ({ fr with todo:=k' },above)
     |none=>stuck ""
   | .code (.region id ops draw)::k=>
     if draw then do
      let t ←choose (.order fr.fn id)
      pure ({ fr with todo:= .inRegion ops (Region.schedule (P.follows .mixedOrders) ops t)::k },above)
     else pure ({ fr with todo:= .inRegion ops (List.range ops.size)::k },above)
   | .inRegion _ []::k=>pure ({ fr with todo:=k },above)
   | .inRegion ops (i::_)::_=>
     if((ops[i]?).map (Region.wanted · (yielded ops fr.tmps))).getD false then
      match ops[i]? with
      |some o=>do
       match ←execOp fr.eval o with
       | .value v=>pure (fr.finish v,above)
       | .skip=>pure (fr.finish undef,above)
       | .enter f args=>pure (Frame.enter P f args .normal,fr::above)
       |_=>stuck ""
      |none=>stuck ""
     else pure (fr.finish undef,above)
   |_=>stuck ""
 |_=>match P.funcs[fr.fn]? with
  |some fn=>do
   let v ←results fn fr.tmps
   match above with
   |c::rest=>pure (c.finish v,rest)
   |[]=>stuck ""
  |none=>stuck ""
def rfr (ρ:Rn)(fr:Frame):Frame:={ fr with tmps:=fr.tmps.map (rv ρ) }
section
variable {P:Program} {F:FuncId→Bool} {S:Sd} {ρ:Rn}
theorem rv_undef:rv ρ undef=undef:=by simp[undef,rv]
theorem eval_rfr {fr:Frame}{x:Operand}(h:okX S x=true)(hf:FixS S ρ):(rfr ρ fr).eval x=rv ρ (fr.eval x):=by
 cases x with
 |tmp t=>
  simp only[Frame.eval,rfr,Array.getD_eq_getD_getElem?,Array.getElem?_map]
  cases fr.tmps[t]?<;>simp[rv_undef]
 |const v=>exact(plainV_bare h ρ).symm
 |global g=>
  simp only[okX,Bool.and_eq_true,decide_eq_true_eq] at h
  simp[Frame.eval,rv,ra,hf.g g h.1 h.2]
 |func f=>simp only[Frame.eval,rv,Array.map_empty,hf.f f h]
theorem finish_rfr (fr:Frame)(v:Value)(ht:fr.todo.all (okItem P F S)=true):(rfr ρ fr).finish (rv ρ v)=rfr ρ (fr.finish v):=by
 obtain⟨fn,tmps,todo,defers,mode,kind,ro⟩:=fr
 match todo with
 |[]=>rfl
 | .inRegion ops []::k=>rfl
 | .inRegion ops (i::rest)::k=>
   simp only[Frame.finish,rfr]
   cases (ops[i]?).bind (·.dst)<;>simp[Array.map_setIfInBounds]
 | .code c::k=>rfl
 | .inBlock c::k=>rfl
 | .inLoop c::k=>rfl
 | .inScope c::k=>simp[okItem] at ht
 | .inRangeFunc c::k=>simp[okItem] at ht
 | .endRangeFunc c::k=>simp[okItem] at ht
 | .beginRound::k=>simp[okItem] at ht
 | .call ..::k=>simp[okItem] at ht
 | .extern ..::k=>simp[okItem] at ht
theorem finish_ok {fr:Frame}(h:OkFr P F S fr)(v:Value):OkFr P F S (fr.finish v):=by
 obtain⟨h1,h2,h3,h4,h5,h6⟩:=h
 obtain⟨fn,tmps,todo,defers,mode,kind,ro⟩:=fr
 simp only at h1 h2 h3 h4 h5 h6
 match todo with
 |[]=>exact⟨h1,h2,h3,h4,h5,h6⟩
 | .inRegion ops []::k=>exact⟨h1,h2,h3,h4,h5,h6⟩
 | .inRegion ops (i::rest)::k=>
   refine⟨h1,h2,h3,h4,?_,h6⟩
   simp only[List.all_cons,okItem,Bool.and_eq_true] at h5
   simp only[Frame.finish,List.all_cons,okItem,Bool.and_eq_true]
   exact⟨h5.1.2,h5.2⟩
 | .code c::k=>exact⟨h1,h2,h3,h4,h5,h6⟩
 | .inBlock c::k=>exact⟨h1,h2,h3,h4,h5,h6⟩
 | .inLoop c::k=>exact⟨h1,h2,h3,h4,h5,h6⟩
 | .inScope c::k=>simp[okItem] at h5
 | .inRangeFunc c::k=>simp[okItem] at h5
 | .endRangeFunc c::k=>simp[okItem] at h5
 | .beginRound::k=>simp[okItem] at h5
 | .call ..::k=>simp[okItem] at h5
 | .extern ..::k=>simp[okItem] at h5
theorem region_ok {ops:Array Oper}(h:(ops.all fun o=>okOp P F S o.op)=true)(l:List Nat):(l.all fun i=>(ops[i]?).all fun o=>okOp P F S o.op)=true:=by
 refine List.all_eq_true.2 fun i _=>?_
 cases ho:ops[i]? with
 |none=>rfl
 |some o=>exact Array.all_eq_true'.1 h o (Array.mem_of_getElem? ho)
theorem exitTo_ok {id:Nat}:∀ {k k':List Item},exitTo id k=some k'→k.all (okItem P F S)=true→k'.all (okItem P F S)=true
 | .inBlock id'::k,k',h,hk=>by
   simp only[exitTo] at h
   simp only[List.all_cons,Bool.and_eq_true] at hk
   split at h
   ·cases h;exact hk.2
   ·exact exitTo_ok h hk.2
 | .code c::k,k',h,hk=>by
   simp only[exitTo] at h
   simp only[List.all_cons,Bool.and_eq_true] at hk
   exact exitTo_ok h hk.2
 | .inLoop c::k,k',h,hk=>by
   simp only[exitTo] at h
   simp only[List.all_cons,Bool.and_eq_true] at hk
   exact exitTo_ok h hk.2
 | .inRegion ..::k,k',h,hk=>by
   simp only[exitTo] at h
   simp only[List.all_cons,Bool.and_eq_true] at hk
   exact exitTo_ok h hk.2
 | .inScope c::k,k',h,hk=>by simp[okItem] at hk
 | .inRangeFunc c::k,k',h,hk=>by simp[okItem] at hk
 | .endRangeFunc c::k,k',h,hk=>by simp[okItem] at hk
 | .beginRound::k,k',h,hk=>by simp[okItem] at hk
 | .call ..::k,k',h,hk=>by simp[okItem] at hk
 | .extern ..::k,k',h,hk=>by simp[okItem] at hk
 |[],k',h,hk=>by simp[exitTo] at h
theorem enter_ok (hC:Clo P F S){f:FuncId}(hf:F f=true)(args:Array Value):OkFr P F S (Frame.enter P f args .normal):=by
 obtain⟨fn,h1,_,_⟩:=hC.fn f hf
 refine⟨rfl,.inl rfl,rfl,rfl,?_,⟨fn,h1⟩⟩
 simp only[Frame.enter,h1,Option.bind,List.all_cons,List.all_nil,Bool.and_true,okItem]
 cases hb:fn.body with
 |none=>rfl
 |some c=>exact hC.body f fn c hf h1 hb
theorem enter_rfr (f:FuncId)(args:Array Value):Frame.enter P f (args.map (rv ρ)) .normal=rfr ρ (Frame.enter P f args .normal):=by
 simp[Frame.enter,rfr,rv_undef]
theorem yielded_rfr (ops:Array Oper)(tmps:Array Value)(j:Nat):yielded ops (tmps.map (rv ρ)) j=yielded ops tmps j:=by
 unfold yielded
 cases (ops[j]?).bind (·.dst) with
 |none=>rfl
 |some d=>
  simp only[Option.bind,Array.getElem?_map]
  cases tmps[d]? with
  |none=>rfl
  |some v=>cases v<;>simp[rv]
theorem Eqv.bool_ite {α β:Type}{R:α→β→Prop}{b b':Bool}(hb:b'=b){s t:Sem α}{s' t':Sem β}(h1:Eqv P ρ R s s')(h2:Eqv P ρ R t t'):Eqv P ρ R (if b then s else t) (if b' then s' else t'):=by
 subst hb;cases b'<;>simp[h1,h2]
def FF (P:Program)(F:FuncId→Bool)(S:Sd)(ρ:Rn)(x y:Frame×List Frame):Prop:=y=(rfr ρ x.1,x.2.map (rfr ρ))∧OkFr P F S x.1∧∀ f∈x.2,OkFr P F S f
theorem todo_of {fr:Frame}(h:OkFr P F S fr){t:List Item}(ht:t.all (okItem P F S)=true):OkFr P F S { fr with todo:=t }:=⟨h.defers,h.mode,h.kind,h.round,ht,h.fn⟩
theorem e_psem (hC:Clo P F S)(hp:Plain P ρ)(hf:FixS S ρ){fr:Frame}{above:List Frame}(h:OkFr P F S fr)(ha:∀ f∈above,OkFr P F S f)
 (hg:∀ v∈fr.tmps,GV P ρ v)(hv:∀ v∈fr.tmps,FV S v):Eqv P ρ (FF P F S ρ) (psem P fr above) (psem P (rfr ρ fr) (above.map (rfr ρ))):=by
 have hev:∀ x,okX S x=true→GV P ρ (fr.eval x)∧FV S (fr.eval x):=fun x hx=>by
  cases x with
  |tmp t=>
   simp only[Frame.eval,Array.getD_eq_getD_getElem?]
   cases hc:fr.tmps[t]? with
   |none=>exact⟨.inr rv_undef,fun fn a b e=>by cases e⟩
   |some v=>exact⟨hg v (Array.mem_of_getElem? hc),hv v (Array.mem_of_getElem? hc)⟩
  |const v=>
   refine⟨.inr (plainV_bare hx ρ),fun fn a b e=>?_⟩
   simp only[Frame.eval] at e
   subst e
   cases hx
  |global g=>
   simp only[okX,Bool.and_eq_true,decide_eq_true_eq] at hx
   exact⟨.inr (by simp[Frame.eval,rv,ra,hf.g g hx.1 hx.2]),fun fn a b e=>by cases e⟩
  |func f=>
   refine⟨.inr ?_,fun fn a b e=>?_⟩
   ·simp only[Frame.eval,rv,Array.map_empty,hf.f f hx]
   ·simp only[Frame.eval,Value.func.injEq] at e
    exact⟨f,e.1.symm,hx⟩
 obtain⟨fn0,tmps,todo,defers,mode,kind,rnd⟩:=fr
 have hand:=h.todo
 have hm:=h.mode
 have hFn:=h.fn
 simp only at hand hm hFn
 rcases hm with rfl|rfl
 ·have ctl:∀ t:List Item,t.all (okItem P F S)=true→Eqv P ρ (FF P F S ρ) (pure (⟨fn0,tmps,t,defers,.run,kind,rnd⟩,above)) (pure (⟨fn0,tmps.map (rv ρ),t,defers,.run,kind,rnd⟩,above.map (rfr ρ))):=fun t ht=>Eqv.pure ⟨rfl,todo_of h ht,ha⟩
  have ret:Eqv P ρ (FF P F S ρ) (pure (⟨fn0,tmps,todo,defers,.returning,kind,rnd⟩,above)) (pure (⟨fn0,tmps.map (rv ρ),todo,defers,.returning,kind,rnd⟩,above.map (rfr ρ))):=Eqv.pure ⟨rfl,⟨h.defers,.inr rfl,h.kind,h.round,h.todo,h.fn⟩,ha⟩
  match todo,h,hev,hand,ret with
  |[],h,hev,hand,ret=>exact ret
  | .code .ret::_,h,hev,hand,ret=>exact ret
  | .code .skip::k,h,hev,hand,ret=>exact ctl k (by simpa[okItem,okCode] using hand)
  | .inBlock _::k,h,hev,hand,ret=>exact ctl k (by simpa[okItem] using hand)
  | .code (.seq a b)::k,h,hev,hand,ret=>exact ctl _ (by simpa[okItem,okCode,and_assoc] using hand)
  | .code (.block id a)::k,h,hev,hand,ret=>exact ctl _ (by simpa[okItem,okCode] using hand)
  | .code (.loop a)::k,h,hev,hand,ret=>exact ctl _ (by simpa[okItem,okCode] using hand)
  | .inLoop a::k,h,hev,hand,ret=>exact ctl _ (by simpa[okItem,okCode] using hand)
  | .inRegion _ []::k,h,hev,hand,ret=>exact ctl k (by simp[okItem] at hand ⊢;exact hand)
  | .code (.cond c a b)::k,h,hev,hand,ret=>
    simp only[List.all_cons,okItem,okCode,Bool.and_eq_true] at hand
    have e:=eval_rfr (fr:=⟨fn0,tmps,.code (.cond c a b)::k,defers,.run,kind,rnd⟩) hand.1.1.1 hf
    simp only[psem,rfr] at e ⊢
    rw[e]
    generalize Frame.eval _ c=q
    cases q with
    |bool t=>simp only[rv];refine ctl _ ?_;simp only[List.all_cons,okItem,Bool.and_eq_true];cases t;exact⟨hand.1.2,hand.2⟩;exact⟨hand.1.1.2,hand.2⟩
    |_=>simp only[rv];exact Eqv.stuck _
  | .code (.exit id)::k,h,hev,hand,ret=>
    simp only[psem,rfr]
    cases he:exitTo id k with
    |none=>exact Eqv.stuck _
    |some k'=>exact ctl k' (exitTo_ok he (by simp[okItem,okCode] at hand ⊢;exact hand))
  | .code (.region id ops draw)::k,h,hev,hand,ret=>
    simp only[psem,rfr]
    have hr:∀ l,((Item.inRegion ops l)::k).all (okItem P F S)=true:=fun l=>by
     simp only[List.all_cons,okItem,okCode,Bool.and_eq_true] at hand ⊢
     exact⟨region_ok hand.1 l,hand.2⟩
    refine Eqv.same_ite (fun _=>?_) (fun _=>ctl _ (hr _))
    refine Eqv.bind (e_choose _) ?_
    rintro t _ rfl
    exact ctl _ (hr _)
  | .inRegion ops (i::rest)::k,h,hev,hand,ret=>
    simp only[psem]
    have hw:((ops[i]?).map (Region.wanted · (yielded ops (tmps.map (rv ρ))))).getD false=((ops[i]?).map (Region.wanted · (yielded ops tmps))).getD false:=by
     have:yielded ops (tmps.map (rv ρ))=yielded ops tmps:=funext fun j=>yielded_rfr ops tmps j
     rw[this]
    have hfin:∀ v,Eqv P ρ (FF P F S ρ) (pure ((⟨fn0,tmps,.inRegion ops (i::rest)::k,defers,.run,kind,rnd⟩:Frame).finish v,above)) (pure ((rfr ρ (⟨fn0,tmps,.inRegion ops (i::rest)::k,defers,.run,kind,rnd⟩:Frame)).finish (rv ρ v),above.map (rfr ρ))):=fun v=>by
     rw[finish_rfr (P:=P) (F:=F) (S:=S) _ v h.todo]
     exact Eqv.pure ⟨rfl,finish_ok h v,ha⟩
    refine Eqv.bool_ite hw ?_ ?_
    ·cases ho:ops[i]? with
     |none=>exact Eqv.stuck _
     |some o=>
      dsimp only
      have hok:okOp P F S o.op=true:=by
       simp only[List.all_cons,okItem,Bool.and_eq_true] at hand
       have:=hand.1.1
       rw[ho] at this
       simpa using this
      refine Eqv.bind (e_execOp (F:=F) hp hf hC.SF hC.fn o hok (ev:=(⟨fn0,tmps,.inRegion ops (i::rest)::k,defers,.run,kind,rnd⟩:Frame).eval) (ev':=(rfr ρ (⟨fn0,tmps,.inRegion ops (i::rest)::k,defers,.run,kind,rnd⟩:Frame)).eval) (fun x hx=>eval_rfr hx hf) (fun x hx=>(hev x hx).1) (fun x hx=>(hev x hx).2) (fun _=>rfl) (fun _=>rfl) (fun _=>rfl) (fun _=>rfl)) ?_
      intro nx nx' hn
      cases nx<;>simp only[NN] at hn
      ·subst hn;exact hfin _
      ·subst hn
       have:=hfin undef
       rwa[rv_undef] at this
      ·obtain⟨hF,rfl⟩:=hn
       dsimp only
       rw[enter_rfr]
       exact Eqv.pure ⟨rfl,enter_ok hC hF _,fun f hx=>by
        rcases List.mem_cons.1 hx with rfl|hx
        ·exact h
        ·exact ha f hx⟩
    ·have:=hfin undef
     rwa[rv_undef] at this
  | .code (.rangeFunc ..)::k,h,hev,hand,ret=>simp[okItem,okCode] at hand
  | .code (.scope ..)::k,h,hev,hand,ret=>simp[okItem,okCode] at hand
  | .code (.label ..)::k,h,hev,hand,ret=>simp[okItem,okCode] at hand
  | .code (.goto ..)::k,h,hev,hand,ret=>simp[okItem,okCode] at hand
  | .code (.refuse ..)::k,h,hev,hand,ret=>exact Eqv.stuck _
  | .inScope c::k,h,hev,hand,ret=>simp[okItem] at hand
  | .inRangeFunc c::k,h,hev,hand,ret=>simp[okItem] at hand
  | .endRangeFunc c::k,h,hev,hand,ret=>simp[okItem] at hand
  | .beginRound::k,h,hev,hand,ret=>simp[okItem] at hand
  | .call ..::k,h,hev,hand,ret=>simp[okItem] at hand
  | .extern ..::k,h,hev,hand,ret=>simp[okItem] at hand
 ·simp only[psem,rfr]
  obtain⟨fn,h1⟩:=hFn
  rw[h1]
  dsimp only
  refine Eqv.bind (e_results hp fn tmps rv_undef) ?_
  rintro v _ rfl
  cases above with
  |nil=>exact Eqv.stuck _
  |cons c rest=>
   simp only[List.map_cons]
   have hc:=ha c (by simp)
   have e:=finish_rfr (ρ:=ρ) (P:=P) (F:=F) (S:=S) c v hc.todo
   rw[e]
   exact Eqv.pure ⟨rfl,finish_ok hc v,fun f hx=>ha f (by simp[hx])⟩
end
theorem runT_bind (P:Program){α β:Type}:∀ (s:Sem α) (f:α→Sem β) (w:World) (es0:Array Event),(s>>=f).runT P w es0=match s.runT P w es0 with|(.ok a w1,es1)=>(f a).runT P w1 es1|(.halt h w1,es1)=>(.halt h w1,es1)
 | .pure a,f,w,es=>rfl
 | .load m a k,f,w,es=>by
   show(Sem.load m a fun v=>(k v>>=f)).runT P w es=_
   simp only[Sem.runT]
   split
   ·exact runT_bind P _ f _ _
   ·split
    ·exact runT_bind P _ f _ _
    ·rfl
 | .store m a v k,f,w,es=>by
   show(Sem.store m a v (k>>=f)).runT P w es=_
   cases v<;>simp only[Sem.runT]<;>(try rfl)<;>(split<;>(try split)<;>first|exact runT_bind P _ f _ _|rfl)
 | .new o k,f,w,es=>by show(Sem.new o fun v=>(k v>>=f)).runT P w es=_;simp only[Sem.runT];exact runT_bind P _ f _ _
 | .shape r k,f,w,es=>by show(Sem.shape r fun v=>(k v>>=f)).runT P w es=_;simp only[Sem.runT];exact runT_bind P _ f _ _
 | .freeze a n k,f,w,es=>by show(Sem.freeze a n (k>>=f)).runT P w es=_;simp only[Sem.runT];exact runT_bind P _ f _ _
 | .frozen a k,f,w,es=>by show(Sem.frozen a fun v=>(k v>>=f)).runT P w es=_;simp only[Sem.runT];exact runT_bind P _ f _ _
 | .getObj r k,f,w,es=>by
   show(Sem.getObj r fun v=>(k v>>=f)).runT P w es=_
   simp only[Sem.runT]
   split<;>first|exact runT_bind P _ f _ _|rfl
 | .setObj r o k,f,w,es=>by
   show(Sem.setObj r o (k>>=f)).runT P w es=_
   simp only[Sem.runT]
   split<;>first|exact runT_bind P _ f _ _|rfl
 | .choose q k,f,w,es=>by
   show(Sem.choose q fun v=>(k v>>=f)).runT P w es=_
   simp only[Sem.runT]
   split<;>exact runT_bind P _ f _ _
 | .sys c k,f,w,es=>by show(Sem.sys c fun v=>(k v>>=f)).runT P w es=_;simp only[Sem.runT];exact runT_bind P _ f _ _
 | .program k,f,w,es=>by show(Sem.program fun v=>(k v>>=f)).runT P w es=_;simp only[Sem.runT];exact runT_bind P _ f _ _
 | .mark m k,f,w,es=>by show(Sem.mark m (k>>=f)).runT P w es=_;simp only[Sem.runT];exact runT_bind P _ f _ _
 | .halt h,f,w,es=>rfl
section
variable {P:Program} {F:FuncId→Bool} {S:Sd} {main:Bool} {cs:List Frame}
theorem stepG_psem {fr fr':Frame}{above above':List Frame}(h:OkFr P F S fr){w w':World}{es:Array Event}(hr:(psem P fr above).runT P w #[]=(.ok (fr',above') w',es)):
 stepG P main (G fr (above++cs)) w= .go (G fr' (above'++cs)) w' (seen P fr.fn es):=by
 obtain⟨fn0,tmps,todo,defers,mode,kind,rnd⟩:=fr
 obtain⟨hd,hm,hk,hrd,hand,hFn⟩:=h
 simp only at hd hm hk hrd hand hFn
 subst hd hk hrd
 have none_:seen P fn0 #[]=#[]:=by simp[seen]
 rcases hm with rfl|rfl
 ·match todo,hand,hr with
  |[],hand,hr=>
   simp only[psem,pure,Sem.runT,Prod.mk.injEq,Result.ok.injEq] at hr
   obtain⟨⟨⟨rfl,rfl⟩,rfl⟩,rfl⟩:=hr
   simp[G,stepG,stepG.exec,none_]
  | .code .ret::k,hand,hr=>
    simp only[psem,pure,Sem.runT,Prod.mk.injEq,Result.ok.injEq] at hr
    obtain⟨⟨⟨rfl,rfl⟩,rfl⟩,rfl⟩:=hr
    simp[G,stepG,stepG.exec,none_]
  | .code .skip::k,hand,hr=>
    simp only[psem,pure,Sem.runT,Prod.mk.injEq,Result.ok.injEq] at hr
    obtain⟨⟨⟨rfl,rfl⟩,rfl⟩,rfl⟩:=hr
    simp[G,stepG,stepG.exec,none_]
  | .inBlock _::k,hand,hr=>
    simp only[psem,pure,Sem.runT,Prod.mk.injEq,Result.ok.injEq] at hr
    obtain⟨⟨⟨rfl,rfl⟩,rfl⟩,rfl⟩:=hr
    simp[G,stepG,stepG.exec,none_]
  | .code (.seq a b)::k,hand,hr=>
    simp only[psem,pure,Sem.runT,Prod.mk.injEq,Result.ok.injEq] at hr
    obtain⟨⟨⟨rfl,rfl⟩,rfl⟩,rfl⟩:=hr
    simp[G,stepG,stepG.exec,none_]
  | .code (.block id a)::k,hand,hr=>
    simp only[psem,pure,Sem.runT,Prod.mk.injEq,Result.ok.injEq] at hr
    obtain⟨⟨⟨rfl,rfl⟩,rfl⟩,rfl⟩:=hr
    simp[G,stepG,stepG.exec,none_]
  | .code (.loop a)::k,hand,hr=>
    simp only[psem,pure,Sem.runT,Prod.mk.injEq,Result.ok.injEq] at hr
    obtain⟨⟨⟨rfl,rfl⟩,rfl⟩,rfl⟩:=hr
    simp[G,stepG,stepG.exec,none_]
  | .inLoop a::k,hand,hr=>
    simp only[psem,pure,Sem.runT,Prod.mk.injEq,Result.ok.injEq] at hr
    obtain⟨⟨⟨rfl,rfl⟩,rfl⟩,rfl⟩:=hr
    simp[G,stepG,stepG.exec,none_]
  | .inRegion _ []::k,hand,hr=>
    simp only[psem,pure,Sem.runT,Prod.mk.injEq,Result.ok.injEq] at hr
    obtain⟨⟨⟨rfl,rfl⟩,rfl⟩,rfl⟩:=hr
    simp[G,stepG,stepG.exec,none_]
  | .code (.cond c a b)::k,hand,hr=>
    simp only[psem] at hr
    generalize hq:Frame.eval _ c=q at hr
    cases q with
    |bool t=>
     simp only[pure,Sem.runT,Prod.mk.injEq,Result.ok.injEq] at hr
     obtain⟨⟨⟨rfl,rfl⟩,rfl⟩,rfl⟩:=hr
     simp[G,stepG,stepG.exec,none_,hq]
    |_=>simp[stuck] at hr
  | .code (.exit id)::k,hand,hr=>
    simp only[psem] at hr
    cases he:exitTo id k with
    |none=>rw[he] at hr;simp[stuck] at hr
    |some k'=>
     rw[he] at hr
     simp only[pure,Sem.runT,Prod.mk.injEq,Result.ok.injEq] at hr
     obtain⟨⟨⟨rfl,rfl⟩,rfl⟩,rfl⟩:=hr
     simp[G,stepG,stepG.exec,none_,he]
  | .code (.region id ops draw)::k,hand,hr=>
    cases draw with
    |false=>
     simp only[psem,pure,Sem.runT,Prod.mk.injEq,Result.ok.injEq,Bool.false_eq_true,if_false] at hr
     obtain⟨⟨⟨rfl,rfl⟩,rfl⟩,rfl⟩:=hr
     simp[G,stepG,stepG.exec,none_]
    |true=>
     simp only[psem,if_true,bind,choose,Sem.bind,Sem.runT,Question.forced,Bool.false_eq_true,if_false,pure,Prod.mk.injEq,Result.ok.injEq,Question.cut] at hr
     obtain⟨⟨⟨rfl,rfl⟩,rfl⟩,rfl⟩:=hr
     simp[G,stepG,stepG.exec,none_,choose,Sem.run,Question.forced,Question.cut]
  | .inRegion ops (i::rest)::k,hand,hr=>
    simp only[psem] at hr
    by_cases hw:((ops[i]?).map (Region.wanted · (yielded ops tmps))).getD false=true
    ·rw[if_pos hw] at hr
     cases ho:ops[i]? with
     |none=>rw[ho] at hr;simp[stuck] at hr
     |some o=>
      rw[ho] at hr
      dsimp only at hr
      have hstep:stepG P main (G ⟨fn0,tmps,.inRegion ops (i::rest)::k,[],.run,.normal,none⟩ (above++cs)) w=
       stepG.apply P true ⟨fn0,tmps,.inRegion ops (i::rest)::k,[],.run,.normal,none⟩ (above++cs) none (execOp (Frame.eval ⟨fn0,tmps,.inRegion ops (i::rest)::k,[],.run,.normal,none⟩) o) w:=by
       rw[ho] at hw
       have hw':Region.wanted o (yielded ops tmps)=true:=by simpa using hw
       simp[G,stepG,stepG.exec,stepG.oper,Frame.oper?,ho,hw']
      rw[hstep]
      generalize hex:(execOp (Frame.eval ⟨fn0,tmps,.inRegion ops (i::rest)::k,[],.run,.normal,none⟩) o)=ex at hr
      rw[runT_bind] at hr
      cases hrun:ex.runT P w #[] with
      |mk r es1=>
       rw[hrun] at hr
       cases r with
       |halt hh w1=>simp at hr
       |ok nx w1=>
        dsimp only at hr
        cases nx<;>simp only[pure,stuck,Sem.runT,Prod.mk.injEq,Result.ok.injEq,reduceCtorEq,false_and] at hr
        all_goals
         obtain⟨⟨⟨rfl,rfl⟩,rfl⟩,rfl⟩:=hr
         have h1:=congrArg Prod.fst hrun
         have h2:=congrArg Prod.snd hrun
         simp at h1 h2
         simp[stepG.apply,h1,h2,G,GStep.after]
    ·rw[if_neg hw] at hr
     simp only[pure,Sem.runT,Prod.mk.injEq,Result.ok.injEq] at hr
     obtain⟨⟨⟨rfl,rfl⟩,rfl⟩,rfl⟩:=hr
     simp only[Bool.not_eq_true] at hw
     simp[G,stepG,stepG.exec,none_,hw,Frame.finish]
  | .code (.rangeFunc ..)::k,hand,hr=>simp[okItem,okCode] at hand
  | .code (.scope ..)::k,hand,hr=>simp[okItem,okCode] at hand
  | .code (.label ..)::k,hand,hr=>simp[okItem,okCode] at hand
  | .code (.goto ..)::k,hand,hr=>simp[okItem,okCode] at hand
  | .code (.refuse ..)::k,hand,hr=>simp[psem,stuck] at hr
  | .inScope c::k,hand,hr=>simp[okItem] at hand
  | .inRangeFunc c::k,hand,hr=>simp[okItem] at hand
  | .endRangeFunc c::k,hand,hr=>simp[okItem] at hand
  | .beginRound::k,hand,hr=>simp[okItem] at hand
  | .call ..::k,hand,hr=>simp[okItem] at hand
  | .extern ..::k,hand,hr=>simp[okItem] at hand
 ·obtain⟨fn,h1⟩:=hFn
  simp only[psem,h1] at hr
  rw[runT_bind] at hr
  cases hrun:(results fn tmps).runT P w #[] with
  |mk r es1=>
   rw[hrun] at hr
   cases r with
   |halt hh w1=>simp at hr
   |ok v w1=>
    dsimp only at hr
    cases above with
    |nil=>simp[stuck] at hr
    |cons c rest=>
     simp only[pure,Sem.runT,Prod.mk.injEq,Result.ok.injEq] at hr
     obtain⟨⟨⟨rfl,rfl⟩,rfl⟩,rfl⟩:=hr
     have q1:=congrArg Prod.fst hrun
     have q2:=congrArg Prod.snd hrun
     simp at q1 q2
     simp[G,stepG,unwind,h1,q1,q2,doReturn,GStep.after]
end
def idR:Rn:={ b:=id,f:=id,d:=0 }
theorem rv_id:∀ v:Value,rv idR v=v
 | .pointer none=>by simp[rv]
 | .pointer (some a)=>by simp[rv,ra,idR]
 | .slice none _ _=>by simp[rv]
 | .slice (some a) l c=>by simp[rv,ra,idR]
 | .map none=>by simp[rv]
 | .map (some r)=>by simp[rv,idR]
 | .chan none=>by simp[rv]
 | .chan (some r)=>by simp[rv,idR]
 | .func fn first captured=>by
   simp only[rv,Value.func.injEq]
   refine⟨rfl,map_fix.2 fun x hx=>?_,map_fix.2 fun x hx=>?_⟩
   ·have:=Array.sizeOf_lt_of_mem hx
    exact rv_id x
   ·have:=Array.sizeOf_lt_of_mem hx
    exact rv_id x
 | .iface t v=>by simp only[rv,Value.iface.injEq,true_and];exact rv_id v
 | .agg cs=>by
   simp only[rv,Value.agg.injEq]
   refine map_fix.2 fun x hx=>?_
   have:=Array.sizeOf_lt_of_mem hx
   exact rv_id x
 | .tuple cs=>by
   simp only[rv,Value.tuple.injEq]
   refine map_fix.2 fun x hx=>?_
   have:=Array.sizeOf_lt_of_mem hx
   exact rv_id x
 | .bool _=>by simp[rv]
 | .int _ _=>by simp[rv]
 | .float _ _=>by simp[rv]
 | .complex _ _ _=>by simp[rv]
 | .string _=>by simp[rv]
 | .nilFunc=>by simp[rv]
 | .nilIface=>by simp[rv]
termination_by v=>SizeOf.sizeOf v
theorem map_id' (cs:Array Value):cs.map (rv idR)=cs:=map_fix.2 fun x _=>rv_id x
theorem ra_id (a:Addr):ra idR a=a:=rfl
theorem ro_id (o:Obj):ro idR o=o:=by
 cases o with
 |cells c t f=>simp[ro,map_id']
 |pending c t=>simp[ro,map_id']
 |chan a b c d e f=>simp[ro,map_id']
 |view a t=>simp[ro,ra_id]
 |number a t=>simp[ro,ra_id]
 |map es c=>
  simp only[ro,Obj.map.injEq,and_true]
  apply Array.ext
  ·simp
  ·intro i h1 h2
   simp[rv_id]
 |_=>rfl
theorem rfr_id (fr:Frame):rfr idR fr=fr:=by simp[rfr,map_id']
theorem rfrs_id:∀ l:List Frame,l.map (rfr idR)=l
 |[]=>rfl
 |f::l=>by rw[List.map_cons,rfr_id,rfrs_id l]
section
variable {P:Program} {F:FuncId→Bool} {S:Sd}
theorem plain_id (hC:Clo P F S):Plain P idR:=⟨fun t i v h1 h2=>hC.zero t i v h1 h2 _,fun _a _b h=>h⟩
theorem plain_sg (hC:Clo P F S)(n:Nat):Plain P (sg S S.d n):=⟨fun t i v h1 h2=>hC.zero t i v h1 h2 _,sg_inj⟩
theorem fixS_id:FixS S idR:=⟨fun _ _=>rfl,fun _ _ _=>rfl,fun _ _=> .inr rfl⟩
theorem glob_id:Glob P idR:=fun _=>Iff.rfl
theorem go_id (o:Obj):GO P idR o:= .inl glob_id
def ClFr (_P:Program)(S:Sd)(n:Nat)(fr:Frame):Prop:=∀ v∈fr.tmps,rv (sg S S.d n) v=v
structure PI (P:Program) (F:FuncId→Bool) (S:Sd) (fr:Frame) (above:List Frame) (w:World):Prop where
 ok:OkFr P F S fr
 oks:∀ f∈above,OkFr P F S f
 cl:ClFr P S w.heap.size fr
 cls:∀ f∈above,ClFr P S w.heap.size f
 wr:WR P S idR w w
theorem fv_closed {n:Nat}{v:Value}(h:rv (sg S S.d n) v=v):FV S v:=by
 intro fn a b e
 subst e
 simp only[rv,Value.func.injEq] at h
 exact sg_fixF.1 h.1
theorem cl_mono {n m:Nat}(h:n≤m){fr:Frame}(hc:ClFr P S n fr):ClFr P S m fr:=fun v hv=>fix_mono (sg_mono h).1 (sg_mono h).2 v (hc v hv)
theorem cl_rfr {n:Nat}{fr:Frame}(hc:ClFr P S n fr):rfr (sg S S.d n) fr=fr:=by
 unfold rfr
 rw[map_fix.2 hc]
theorem cl_of_rfr {n:Nat}{fr:Frame}(h:rfr (sg S S.d n) fr=fr):ClFr P S n fr:=by
 have:fr.tmps.map (rv (sg S S.d n))=fr.tmps:=congrArg Frame.tmps h
 exact map_fix.1 this
theorem cls_map {n:Nat}{above:List Frame}(hc:∀ f∈above,ClFr P S n f):above.map (rfr (sg S S.d n))=above:=by
 induction above with
 |nil=>rfl
 |cons f l ih=>rw[List.map_cons,cl_rfr (hc f (by simp)),ih fun g hg=>hc g (by simp[hg])]
theorem cls_of_map {n:Nat}:∀ {above:List Frame},above.map (rfr (sg S S.d n))=above→∀ f∈above,ClFr P S n f
 |[],_,f,hf=>by cases hf
 |g::l,h,f,hf=>by
  simp only[List.map_cons,List.cons.injEq] at h
  rcases List.mem_cons.1 hf with rfl|hf
  ·exact cl_of_rfr h.1
  ·exact cls_of_map h.2 f hf
theorem self_psem (hC:Clo P F S){fr:Frame}{above:List Frame}{w:World}(h:PI P F S fr above w):∀ n,w.heap.size≤n→Eqv P (sg S S.d n) (FF P F S (sg S S.d n)) (psem P fr above) (psem P fr above):=fun n hn=>by
 have:=e_psem (ρ:=sg S S.d n) hC (plain_sg hC n) (fixS_sg (Nat.le_trans h.wr.big.g hn)) h.ok h.oks (fun v hv=> .inr (cl_mono hn h.cl v hv)) (fun v hv=>fv_closed (h.cl v hv))
 rwa[cl_rfr (cl_mono hn h.cl),cls_map fun f hf=>cl_mono hn (h.cls f hf)] at this
theorem id_psem (hC:Clo P F S){fr:Frame}{above:List Frame}{w:World}(h:PI P F S fr above w):Eqv P idR (FF P F S idR) (psem P fr above) (psem P fr above):=by
 have:=e_psem (ρ:=idR) hC (plain_id hC) fixS_id h.ok h.oks (fun v _=> .inl glob_id) (fun v hv=>fv_closed (h.cl v hv))
 rwa[rfr_id,rfrs_id] at this
theorem ff_id {x y:Frame×List Frame}(h:FF P F S idR x y):y=x:=by
 obtain⟨h,_⟩:=h
 rw[rfr_id,rfrs_id] at h
 exact h
def _root_.Go.World.re (w:World)(τ:Nat→Question→Nat)(d:Nat):World:={ w with tape:=τ,drawn:=d }
theorem world_ext {a b:World}(h1:a.heap=b.heap)(h2:a.tape=b.tape)(h3:a.drawn=b.drawn)(h4:a.os=b.os)(h5:a.output=b.output):a=b:=by
 obtain⟨a1,a2,a3,a4,a5⟩:=a
 obtain⟨b1,b2,b3,b4,b5⟩:=b
 simp only at h1 h2 h3 h4 h5
 subst h1 h2 h3 h4 h5
 rfl
theorem psem_window (hC:Clo P F S){fr:Frame}{above:List Frame}{w:World}(h:PI P F S fr above w){f1:Frame}{a1:List Frame}{w1:World}{es:Array Event}
 (hr:(psem P fr above).runT P w #[]=(.ok (f1,a1) w1,es)):PI P F S f1 a1 w1∧w1.tape=w.tape∧w.drawn≤w1.drawn∧∀ τ d,Win w w1 (w.re τ d)→∃ es',(psem P fr above).runT P (w.re τ d) #[]=(.ok (f1,a1) (w1.re τ (d+(w1.drawn-w.drawn))),es'):=by
 have hself:=self_psem hC h
 have key:∀ τ d,Win w w1 (w.re τ d)→∃ es',(psem P fr above).runT P (w.re τ d) #[]=(.ok (f1,a1) (w1.re τ (d+(w1.drawn-w.drawn))),es')∧PI P F S f1 a1 w1∧w1.tape=w.tape∧w.drawn≤w1.drawn:=fun τ d hwin=>by
  have hW:WR P S idR w (w.re τ d):=⟨h.wr.live,h.wr.ok,h.wr.dead,h.wr.closed,h.wr.next,h.wr.low,h.wr.big⟩
  obtain⟨b,W1,es',r1,r2,r3,r4,r5,r6⟩:=run_ren (plain_id hC) go_id _ _ _ (fun n=>FF P F S (sg S S.d n)) w (w.re τ d) #[] #[] _ _ _ (id_psem hC h) hself hW hwin hr
  obtain rfl:=ff_id r2
  have hsz:W1.heap.size=w1.heap.size:=by have:=r5.size;simp only[World.re] at this;omega
  have hheap:W1.heap=w1.heap:=by
   apply Array.ext hsz
   intro i hi1 hi2
   have e:W1.heap[i]? =w1.heap[i]?:=by
    rcases Nat.lt_or_ge i S.d with hlt|hge
    ·rw[r5.frame i (by have:=h.wr.big.d;show i<w.heap.size;omega) (by rintro ⟨r,hr1,_,e⟩;have e':i=r:=e;omega)]
     show w.heap[i]? =_
     rw[h.wr.dead i hlt,r4.dead i hlt]
    ·have hs:w1.heap[i]? =some w1.heap[i]:=Array.getElem?_eq_getElem hi2
     have:=r4.live i _ hge hs
     rw[ro_id] at this
     rw[hs];exact this
   rw[Array.getElem?_eq_getElem hi1,Array.getElem?_eq_getElem hi2] at e
   exact Option.some.inj e
  have hWe:W1=w1.re τ (d+(w1.drawn-w.drawn)):=by
   refine world_ext hheap r5.tape ?_ (r5.os.trans r5.wos.symm) (r5.output.trans r5.wout.symm)
   have:=r5.drawn
   have:=r5.wdrawn
   show W1.drawn=d+(w1.drawn-w.drawn)
   simp only[World.re] at *
   omega
  have hcl:=r3 w1.heap.size (Nat.le_refl _)
  have hcl1:rfr (sg S S.d w1.heap.size) f1=f1:=(congrArg Prod.fst hcl.1).symm
  have hcl2:a1.map (rfr (sg S S.d w1.heap.size))=a1:=(congrArg Prod.snd hcl.1).symm
  have hwr:WR P S idR w1 w1:=by
   subst hWe
   exact⟨r4.live,r4.ok,r4.dead,r4.closed,r4.next,r4.low,r4.big⟩
  exact⟨es',by rw[r1,hWe],⟨hcl.2.1,hcl.2.2,cl_of_rfr hcl1,cls_of_map hcl2,hwr⟩,r5.wtape,r5.wdrawn⟩
 obtain⟨_,_,k1,k2,k3⟩:=key w.tape w.drawn (fun j _ q=>rfl)
 exact⟨k1,k2,k3,fun τ d hwin=>by obtain⟨es',e,_⟩:=key τ d hwin;exact⟨es',e⟩⟩
theorem step_ren (hC:Clo P F S){ρ:Rn}(hp:Plain P ρ)(hgl:Glob P ρ)(hx:FixS S ρ){fr:Frame}{above:List Frame}{w W:World}(h:PI P F S fr above w)(hW:WR P S ρ w W){f1:Frame}{a1:List Frame}{w1:World}{es:Array Event}
 (hn:Win w w1 W)(hr:(psem P fr above).runT P w #[]=(.ok (f1,a1) w1,es)):∃ W1 es',WR P S ρ w1 W1∧Did S.d ρ w w1 W W1∧(∀ e∈es',EvOk S.d ρ w1 e)∧
   ∀ main cs,stepG P main (G (rfr ρ fr) (above.map (rfr ρ)++cs)) W= .go (G (rfr ρ f1) (a1.map (rfr ρ)++cs)) W1 (seen P fr.fn es'):=by
 have hself:=self_psem hC h
 have hp1:=e_psem (ρ:=ρ) hC hp hx h.ok h.oks (fun v _=> .inl hgl) (fun v hv=>fv_closed (h.cl v hv))
 obtain⟨b,W1,es',r1,⟨rfl,o1,o2⟩,r3,r4,r5,r6⟩:=run_ren hp (fun o=> .inl hgl) _ _ _ (fun n=>FF P F S (sg S S.d n)) w W #[] #[] _ _ _ hp1 hself hW hn hr
 refine⟨W1,es',r4,r5,fun e he=>(r6 e he).resolve_left (by simp),fun main cs=>?_⟩
 have hok:OkFr P F S (rfr ρ fr):=⟨h.ok.defers,h.ok.mode,h.ok.kind,h.ok.round,h.ok.todo,h.ok.fn⟩
 exact stepG_psem hok r1
end
abbrev Tp:=Nat→Question→Nat
inductive Bar (P:Program) (Q:Frame→List Frame→World→Prop):Frame→List Frame→World→Prop
 |stop {fr:Frame} {above:List Frame} {w:World}:Q fr above w→Bar P Q fr above w
 |step {fr:Frame} {above:List Frame} {w:World} (nf:Tp→Nat→Frame) (na:Tp→Nat→List Frame) (nw:Tp→Nat→World) (ne:Tp→Nat→Array Event):
   (∀ τ d,(psem P fr above).runT P (w.re τ d) #[]=(.ok (nf τ d,na τ d) (nw τ d),ne τ d))→(∀ τ d,Bar P Q (nf τ d) (na τ d) (nw τ d))→Bar P Q fr above w
inductive PRun (P:Program):Nat→Frame→List Frame→World→Frame→List Frame→World→Prop
 |zero {fr:Frame} {above:List Frame} {w:World}:PRun P 0 fr above w fr above w
 |succ {n:Nat} {fr f1 f2:Frame} {above a1 a2:List Frame} {w w1 w2:World} {es:Array Event}:(psem P fr above).runT P w #[]=(.ok (f1,a1) w1,es)→PRun P n f1 a1 w1 f2 a2 w2→PRun P (n+1) fr above w f2 a2 w2
section
variable {P:Program} {F:FuncId→Bool} {S:Sd} {Q:Frame→List Frame→World→Prop}
theorem re_re (w:World)(τ τ':Tp)(d d':Nat):(w.re τ d).re τ' d'=w.re τ' d':=rfl
theorem PI.re {fr:Frame}{above:List Frame}{w:World}(h:PI P F S fr above w)(τ:Tp)(d:Nat):PI P F S fr above (w.re τ d):=
 ⟨h.ok,h.oks,h.cl,h.cls,⟨h.wr.live,h.wr.ok,h.wr.dead,h.wr.closed,h.wr.next,h.wr.low,h.wr.big⟩⟩
theorem PRun.stays (hC:Clo P F S):∀ {n:Nat} {fr f:Frame} {above a:List Frame} {w w':World},PRun P n fr above w f a w'→PI P F S fr above w→Ren.PI P F S f a w'
 |0,fr,f,above,a,w,w',h,hI=>by cases h;exact hI
 |n+1,fr,f,above,a,w,w',h,hI=>by
  cases h with
  | @succ _ _ f1 _ _ a1 _ _ w1 _ es h1 h2=>exact PRun.stays hC h2 (psem_window hC hI h1).1
theorem PRun.shift (hC:Clo P F S):∀ {n:Nat} {fr f:Frame} {above a:List Frame} {w w':World},PRun P n fr above w f a w'→PI P F S fr above w→∀ (τ:Tp) (d:Nat),(∀ j q,τ (d+j) q=w.tape (w.drawn+j) q)→∃ d',PRun P n fr above (w.re τ d) f a (w'.re τ d')
 |0,fr,f,above,a,w,w',h,hI,τ,d,hτ=>by cases h;exact⟨d,.zero⟩
 |n+1,fr,f,above,a,w,w',h,hI,τ,d,hτ=>by
  cases h with
  | @succ _ _ f1 _ _ a1 _ _ w1 _ es h1 h2=>
    obtain⟨hI1,ht,hd,hwin⟩:=psem_window hC hI h1
    obtain⟨es',e⟩:=hwin τ d (fun j _ q=>hτ j q)
    obtain⟨d',h3⟩:=PRun.shift hC h2 hI1 τ (d+(w1.drawn-w.drawn)) (fun j q=>by
     have:=hτ (w1.drawn-w.drawn+j) q
     rw[ht,show d+(w1.drawn-w.drawn)+j=d+(w1.drawn-w.drawn+j) by omega,this,show w.drawn+(w1.drawn-w.drawn+j)=w1.drawn+j by omega])
    exact⟨d',.succ e h3⟩
theorem bar_of_runs (hC:Clo P F S)(hQ:∀ f a w τ d,PI P F S f a w→Q f a w→Q f a (w.re τ d)){fr:Frame}{above:List Frame}{w:World}(hI:PI P F S fr above w)
 (hT:∀ τ:Tp,∃ n f a w',PRun P n fr above (w.re τ 0) f a w'∧Q f a w'):Bar P Q fr above w:=by
 refine Classical.byContradiction fun hN=>?_
 have hQ':∀ f a (w:World) τ d,PI P F S f a w→Q f a (w.re τ d)→Q f a w:=fun f a w τ d hI h=>by
  have:=hQ f a (w.re τ d) w.tape w.drawn (hI.re _ _) h
  exact this
 let Bad:Frame×List Frame×World→Prop:=fun s=>PI P F S s.1 s.2.1 s.2.2∧(∀ τ:Tp,∃ n f a w',PRun P n s.1 s.2.1 (s.2.2.re τ 0) f a w'∧Q f a w')∧¬ Bar P Q s.1 s.2.1 s.2.2
 have next:∀ s:{ s // Bad s },∃ s':{ s // Bad s },∃ (τ:Tp) (d:Nat) (es:Array Event),(psem P s.1.1 s.1.2.1).runT P (s.1.2.2.re τ d) #[]=(.ok (s'.1.1,s'.1.2.1) s'.1.2.2,es):=by
  rintro ⟨⟨fr,above,w⟩,hI,hT,hN⟩
  simp only at hI hT hN
  have nq:¬ Q fr above w:=fun h=>hN (.stop h)
  have run:∀ (τ:Tp) (d:Nat),∃ f1 a1 w1 es,(psem P fr above).runT P (w.re τ d) #[]=(.ok (f1,a1) w1,es):=fun τ d=>by
   obtain⟨n,f,a,w',hr,hq⟩:=hT (fun j=>τ (d+j))
   cases hr with
   |zero=>exact absurd (hQ' _ _ _ _ _ hI hq) nq
   | @succ _ _ f1 _ _ a1 _ _ w1 _ es h1 h2=>
     obtain⟨_,_,_,hwin⟩:=psem_window hC (hI.re _ _) h1
     obtain⟨es',e⟩:=hwin τ d (fun j _ q=>by show τ (d+j) q=τ (d+(0+j)) q;rw[Nat.zero_add])
     exact⟨_,_,_,_,e⟩
  have ex:∃ (τ:Tp) (d:Nat),∀ f1 a1 w1 es,(psem P fr above).runT P (w.re τ d) #[]=(.ok (f1,a1) w1,es)→¬ Bar P Q f1 a1 w1:=by
   refine Classical.byContradiction fun hno=>hN ?_
   have all:∀ (τ:Tp) (d:Nat),∃ f1 a1 w1 es,(psem P fr above).runT P (w.re τ d) #[]=(.ok (f1,a1) w1,es)∧Bar P Q f1 a1 w1:=fun τ d=>by
    refine Classical.byContradiction fun hx=>hno ⟨τ,d,fun f1 a1 w1 es he hb=>hx ⟨f1,a1,w1,es,he,hb⟩⟩
   exact .step (fun τ d=>Classical.choose (all τ d)) (fun τ d=>Classical.choose (Classical.choose_spec (all τ d))) (fun τ d=>Classical.choose (Classical.choose_spec (Classical.choose_spec (all τ d))))
    (fun τ d=>Classical.choose (Classical.choose_spec (Classical.choose_spec (Classical.choose_spec (all τ d))))) (fun τ d=>(Classical.choose_spec (Classical.choose_spec (Classical.choose_spec (Classical.choose_spec (all τ d))))).1)
    (fun τ d=>(Classical.choose_spec (Classical.choose_spec (Classical.choose_spec (Classical.choose_spec (all τ d))))).2)
  obtain⟨τ,d,hb⟩:=ex
  obtain⟨f1,a1,w1,es,he⟩:=run τ d
  obtain⟨hI1,ht,hd,hwin⟩:=psem_window hC (hI.re τ d) he
  refine⟨⟨⟨f1,a1,w1⟩,hI1,fun τ2=>?_,hb _ _ _ _ he⟩,τ,d,es,he⟩
  let m:=w1.drawn-d
  obtain⟨n,f,a,w',hr,hq⟩:=hT (fun i=>if i<m then τ (d+i) else τ2 (i-m))
  cases hr with
  |zero=>exact absurd (hQ' _ _ _ _ _ hI hq) nq
  | @succ n' _ f2 _ _ a2 _ _ w2 _ es2 h1 h2=>
    obtain⟨es3,e3⟩:=hwin (fun i=>if i<m then τ (d+i) else τ2 (i-m)) 0 (fun j hj q=>by
     show(if 0+j<m then τ (d+(0+j)) else τ2 (0+j-m)) q=τ (d+j) q
     rw[Nat.zero_add,if_pos (show j<m from hj)])
    rw[re_re,h1] at e3
    simp only[Prod.mk.injEq,Result.ok.injEq] at e3
    obtain⟨⟨⟨rfl,rfl⟩,rfl⟩,_⟩:=e3
    obtain⟨d',h3⟩:=PRun.shift hC h2 (hI1.re _ _) τ2 0 (fun j q=>by
     show τ2 (0+j) q=(if 0+m+j<m then τ (d+(0+m+j)) else τ2 (0+m+j-m)) q
     rw[if_neg (by omega),show 0+m+j-m=0+j by omega])
    exact⟨n',f,a,_,h3,hQ _ _ _ _ _ (PRun.stays hC h2 (hI1.re _ _)) hq⟩
 let nx:{ s // Bad s }→{ s // Bad s }:=fun s=>Classical.choose (next s)
 let sq:Nat→{ s // Bad s }:=fun k=>Nat.rec ⟨(fr,above,w),hI,hT,hN⟩ (fun _ s=>nx s) k
 have hsq:∀ k,∃ (τ:Tp) (d:Nat) (es:Array Event),(psem P (sq k).1.1 (sq k).1.2.1).runT P ((sq k).1.2.2.re τ d) #[]=(.ok ((sq (k+1)).1.1,(sq (k+1)).1.2.1) (sq (k+1)).1.2.2,es):=fun k=>Classical.choose_spec (next (sq k))
 let τs:Nat→Tp:=fun k=>Classical.choose (hsq k)
 let ds:Nat→Nat:=fun k=>Classical.choose (Classical.choose_spec (hsq k))
 have hrun:∀ k,∃ es,(psem P (sq k).1.1 (sq k).1.2.1).runT P ((sq k).1.2.2.re (τs k) (ds k)) #[]=(.ok ((sq (k+1)).1.1,(sq (k+1)).1.2.1) (sq (k+1)).1.2.2,es):=fun k=>Classical.choose_spec (Classical.choose_spec (hsq k))
 let ms:Nat→Nat:=fun k=>(sq (k+1)).1.2.2.drawn - ds k
 let cs:Nat→Nat:=fun k=>Nat.rec 0 (fun k c=>c+ms k) k
 have hcs:∀ k,cs (k+1)=cs k+ms k:=fun k=>rfl
 have hmono:∀ a b,a≤b→cs a≤cs b:=fun a b hab=>by
  induction hab with
  |refl=>exact Nat.le_refl _
  |step _ ih=>rw[hcs];omega
 let T:Tp:=fun i q=>open Classical in if h:∃ k,cs k≤i∧i<cs (k+1) then τs (Classical.choose h) (ds (Classical.choose h)+(i-cs (Classical.choose h))) q else 0
 have hTs:∀ k j q,j<ms k→T (cs k+j) q=τs k (ds k+j) q:=fun k j q hj=>by
  have hex:∃ k',cs k'≤cs k+j∧cs k+j<cs (k'+1):=⟨k,by omega,by rw[hcs];omega⟩
  have hfind:Classical.choose hex=k:=by
   have h1:=Classical.choose_spec hex
   rcases Nat.lt_trichotomy (Classical.choose hex) k with h|h|h
   ·have h2:=hmono (Classical.choose hex+1) k h
    omega
   ·exact h
   ·have h2:=hmono (k+1) (Classical.choose hex) h
    rw[hcs] at h2
    omega
  show(open Classical in if h:∃ k',cs k'≤cs k+j∧cs k+j<cs (k'+1) then τs (Classical.choose h) (ds (Classical.choose h)+(cs k+j-cs (Classical.choose h))) q else 0)=_
  rw[dif_pos hex,hfind,show cs k+j-cs k=j by omega]
 have walk:∀ (n k:Nat) (f:Frame) (a:List Frame) (w':World),PRun P n (sq k).1.1 (sq k).1.2.1 ((sq k).1.2.2.re T (cs k)) f a w'→f=(sq (k+n)).1.1∧a=(sq (k+n)).1.2.1∧w'=(sq (k+n)).1.2.2.re T (cs (k+n)):=by
  intro n
  induction n with
  |zero=>intro k f a w' h;cases h;exact⟨rfl,rfl,rfl⟩
  |succ n ih=>
   intro k f a w' h
   cases h with
   | @succ _ _ f1 _ _ a1 _ _ w1 _ es h1 h2=>
     obtain⟨es2,he⟩:=hrun k
     obtain⟨_,_,hd,hwin⟩:=psem_window hC ((sq k).2.1.re (τs k) (ds k)) he
     obtain⟨es3,e3⟩:=hwin T (cs k) (fun j hj q=>hTs k j q hj)
     rw[re_re,h1] at e3
     simp only[Prod.mk.injEq,Result.ok.injEq] at e3
     obtain⟨⟨⟨rfl,rfl⟩,rfl⟩,_⟩:=e3
     have:=ih (k+1) f a w' h2
     rwa[show k+1+n=k+(n+1) by omega] at this
 obtain⟨n,f,a,w',hr,hq⟩:=hT T
 obtain⟨rfl,rfl,rfl⟩:=walk n 0 f a w' hr
 exact(sq (0+n)).2.2.2 (.stop (hQ' _ _ _ _ _ (sq (0+n)).2.1 hq))
end
end Go.Ren
