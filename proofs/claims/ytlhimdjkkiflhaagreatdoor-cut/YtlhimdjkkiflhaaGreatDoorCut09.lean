import Derived.Test.YtlhimdjkkiflhaaGreatDoorCut08
set_option maxHeartbeats 8000000
set_option maxRecDepth 100000
namespace Go.Ren
open Go Go.Conc
structure vZ (P:Program) (F:FuncId→Bool) (S:Sd) (fr:Frame):Prop where
 defers:fr.defers=[]
 mode:fr.mode=.run∨fr.mode=.returning
 kind:fr.kind=.normal
 round:fr.roundOf=none
 todo:(fr.todo.take 1).all (aB P F S)=true
 fn:∃f,P.funcs[fr.fn]?=some f
section
variable {P:Program}{F:FuncId→Bool}{S:Sd}{main:Bool}{cs:List Frame}
theorem cP {fr fr':Frame}{above vM:List Frame}(h:vZ P F S fr){w w':World}{es:Array Event}(hr:(aL P fr above).runT P w #[]=(.ok (fr',vM) w',es)):stepG P main (G fr (above++cs)) w=.go (G fr' (vM++cs)) w' (seen P fr.fn es):=by
 obtain⟨fn0,tmps,todo,defers,mode,kind,jC⟩:=fr;obtain⟨hd,hm,hk,gl,hand,KN⟩:=h;simp only at hd hm hk gl hand KN;subst hd hk gl;have none_:seen P fn0 #[]=#[]:=by simp[seen]
 rcases hm with rfl|rfl
 ·match todo,hand,hr with
  |[],hand,hr=>
   simp only[aL,pure,Sem.runT,zab,Result.ok.injEq]at hr;obtain⟨⟨⟨rfl,rfl⟩,rfl⟩,rfl⟩:=hr;simp[G,stepG,stepG.exec,none_]
  |.code .ret::k,hand,hr=>
   simp only[aL,pure,Sem.runT,zab,Result.ok.injEq]at hr;obtain⟨⟨⟨rfl,rfl⟩,rfl⟩,rfl⟩:=hr;simp[G,stepG,stepG.exec,none_]
  |.code .skip::k,hand,hr=>
   simp only[aL,pure,Sem.runT,zab,Result.ok.injEq]at hr;obtain⟨⟨⟨rfl,rfl⟩,rfl⟩,rfl⟩:=hr;simp[G,stepG,stepG.exec,none_]
  |.inBlock _::k,hand,hr=>
   simp only[aL,pure,Sem.runT,zab,Result.ok.injEq]at hr;obtain⟨⟨⟨rfl,rfl⟩,rfl⟩,rfl⟩:=hr;simp[G,stepG,stepG.exec,none_]
  |.code (.seq a b)::k,hand,hr=>
   simp only[aL,pure,Sem.runT,zab,Result.ok.injEq]at hr;obtain⟨⟨⟨rfl,rfl⟩,rfl⟩,rfl⟩:=hr;simp[G,stepG,stepG.exec,none_]
  |.code (.block id a)::k,hand,hr=>
   simp only[aL,pure,Sem.runT,zab,Result.ok.injEq]at hr;obtain⟨⟨⟨rfl,rfl⟩,rfl⟩,rfl⟩:=hr;simp[G,stepG,stepG.exec,none_]
  |.code (.loop a)::k,hand,hr=>
   simp only[aL,pure,Sem.runT,zab,Result.ok.injEq]at hr;obtain⟨⟨⟨rfl,rfl⟩,rfl⟩,rfl⟩:=hr;simp[G,stepG,stepG.exec,none_]
  |.inLoop a::k,hand,hr=>
   simp only[aL,pure,Sem.runT,zab,Result.ok.injEq]at hr;obtain⟨⟨⟨rfl,rfl⟩,rfl⟩,rfl⟩:=hr;simp[G,stepG,stepG.exec,none_]
  |.inRegion _ []::k,hand,hr=>
   simp only[aL,pure,Sem.runT,zab,Result.ok.injEq]at hr;obtain⟨⟨⟨rfl,rfl⟩,rfl⟩,rfl⟩:=hr;simp[G,stepG,stepG.exec,none_]
  |.code (.cond c a b)::k,hand,hr=>
   simp only[aL]at hr;generalize hq:Frame.eval _ c=q at hr;cases q with
   |bool t=>
    simp only[pure,Sem.runT,zab,Result.ok.injEq]at hr;obtain⟨⟨⟨rfl,rfl⟩,rfl⟩,rfl⟩:=hr;simp[G,stepG,stepG.exec,none_,hq]
   |_=>simp[stuck]at hr
  |.code (.exit id)::k,hand,hr=>
   simp only[aL]at hr;cases he:exitTo id k with
   |none=>rw[he]at hr;simp[stuck]at hr
   |some k'=>
    rw[he]at hr;simp only[pure,Sem.runT,zab,Result.ok.injEq]at hr;obtain⟨⟨⟨rfl,rfl⟩,rfl⟩,rfl⟩:=hr;simp[G,stepG,stepG.exec,none_,he]
  |.code (.region id ops draw)::k,hand,hr=>
   cases draw with
   |false=>
    simp only[aL,pure,Sem.runT,zab,Result.ok.injEq,zav,if_false]at hr;obtain⟨⟨⟨rfl,rfl⟩,rfl⟩,rfl⟩:=hr;simp[G,stepG,stepG.exec,none_]
   |true=>
    simp only[aL,if_true,bind,choose,Sem.bind,Sem.runT,Question.forced,zav,if_false,pure,zab,Result.ok.injEq,Question.cut]at hr;obtain⟨⟨⟨rfl,rfl⟩,rfl⟩,rfl⟩:=hr;simp[G,stepG,stepG.exec,none_,choose,Sem.run,Question.forced,Question.cut]
  |.inRegion ops (i::rest)::k,hand,hr=>
   simp only[aL]at hr;by_cases hw:((ops[i]?).map (Region.wanted · (yielded ops tmps))).getD false=true
   ·rw[if_pos hw]at hr;cases ho:ops[i]? with
    |none=>rw[ho]at hr;simp[stuck]at hr
    |some o=>
     rw[ho]at hr;dsimp only at hr;have hstep:stepG P main (G ⟨fn0,tmps,.inRegion ops (i::rest)::k,[],.run,.normal,none⟩ (above++cs)) w=
      stepG.apply P true ⟨fn0,tmps,.inRegion ops (i::rest)::k,[],.run,.normal,none⟩ (above++cs) none (execOp (Frame.eval ⟨fn0,tmps,.inRegion ops (i::rest)::k,[],.run,.normal,none⟩) o) w:=by
      rw[ho]at hw;have hw':Region.wanted o (yielded ops tmps)=true:=by simpa using hw
      simp[G,stepG,stepG.exec,stepG.oper,Frame.oper?,ho,hw']
     rw[hstep];generalize hex:(execOp (Frame.eval ⟨fn0,tmps,.inRegion ops (i::rest)::k,[],.run,.normal,none⟩) o)=ex at hr;rw[bE]at hr;cases hrun:ex.runT P w #[]with
     |mk r dt=>
      rw[hrun]at hr;cases r with
      |halt hh w1=>simp at hr
      |ok nx w1=>
       dsimp only at hr;cases nx<;>simp only[pure,stuck,Sem.runT,zab,Result.ok.injEq,reduceCtorEq,false_and]at hr;all_goals
        obtain⟨⟨⟨rfl,rfl⟩,rfl⟩,rfl⟩:=hr;have h1:=congrArg Prod.fst hrun;have h2:=congrArg Prod.snd hrun;simp at h1 h2;simp[stepG.apply,h1,h2,G,GStep.after]
   ·rw[if_neg hw]at hr;simp only[pure,Sem.runT,zab,Result.ok.injEq]at hr;obtain⟨⟨⟨rfl,rfl⟩,rfl⟩,rfl⟩:=hr;simp only[Bool.not_eq_true]at hw;simp[G,stepG,stepG.exec,none_,hw,Frame.finish]
  |.code (.rangeFunc ..)::k,hand,hr=>simp[aB,bh]at hand
  |.code (.scope ..)::k,hand,hr=>simp[aB,bh]at hand
  |.code (.label ..)::k,hand,hr=>simp[aB,bh]at hand
  |.code (.goto ..)::k,hand,hr=>simp[aB,bh]at hand
  |.code (.refuse ..)::k,hand,hr=>simp[aL,stuck]at hr
  |.inScope c::k,hand,hr=>simp[aB]at hand
  |.inRangeFunc c::k,hand,hr=>simp[aB]at hand
  |.endRangeFunc c::k,hand,hr=>simp[aB]at hand
  |.beginRound::k,hand,hr=>simp[aB]at hand
  |.call ..::k,hand,hr=>simp[aB]at hand
  |.extern ..::k,hand,hr=>simp[aB]at hand
 ·obtain⟨fn,h1⟩:=KN;simp only[aL,h1]at hr;rw[bE]at hr;cases hrun:(results fn tmps).runT P w #[]with
  |mk r dt=>
   rw[hrun]at hr;cases r with
   |halt hh w1=>simp at hr
   |ok v w1=>
    dsimp only at hr;cases above with
    |nil=>simp[stuck]at hr
    |cons c rest=>
     simp only[pure,Sem.runT,zab,Result.ok.injEq]at hr;obtain⟨⟨⟨rfl,rfl⟩,rfl⟩,rfl⟩:=hr;have q1:=congrArg Prod.fst hrun;have q2:=congrArg Prod.snd hrun;simp at q1 q2;simp[G,stepG,unwind,h1,q1,q2,doReturn,GStep.after]
end
abbrev gG:Item:= .code (.refuse default)
def ic (k:List Item)(x:Frame):Frame:={ x with todo:=x.todo.dropLast++k }
def sJ (k:List Item):List Frame→List Frame
 |[]=>[]
 |[x]=>[ic k x]
 |c::d::r=>c::sJ k (d::r)
structure uz (x:Frame) (l:List Item):Prop where
 todo:x.todo=l++[gG]
 run:x.mode=.run
theorem cE (l:List Item):(l++[gG]).dropLast=l:=by simp
theorem dh {id:Nat}(k:List Item):∀{l k':List Item},exitTo id (l++[gG])=some k'→∃l',k'=l'++[gG]∧exitTo id (l++k)=some (l'++k)
 |[],k',h=>by simp[exitTo,gG]at h
 |.inBlock id'::l,k',h=>by
  simp only[zat,exitTo]at h ⊢;split at h
  ·rename_i e;rw[if_pos e];cases h;exact⟨l,rfl,rfl⟩
  ·rename_i e;rw[if_neg e];exact dh k h
 |.code c::l,k',h=>by simp only[zat,exitTo]at h ⊢;exact dh k h
 |.inLoop c::l,k',h=>by simp only[zat,exitTo]at h ⊢;exact dh k h
 |.inRegion ..::l,k',h=>by simp only[zat,exitTo]at h ⊢;exact dh k h
 |.inScope c::l,k',h=>by simp only[zat,exitTo]at h ⊢;exact dh k h
 |.inRangeFunc c::l,k',h=>by simp only[zat,exitTo]at h ⊢;exact dh k h
 |.endRangeFunc c::l,k',h=>by simp only[zat,exitTo]at h ⊢;exact dh k h
 |.beginRound::l,k',h=>by simp only[zat,exitTo]at h ⊢;exact dh k h
 |.call ..::l,k',h=>by simp only[zat,exitTo]at h ⊢;exact dh k h
 |.extern ..::l,k',h=>by simp only[zat,exitTo]at h ⊢;exact dh k h
section
variable {P:Program}{F:FuncId→Bool}{S:Sd}{w w1:World}{es:Array Event}
theorem tM (k:List Item){x:Frame}{h:Item}{l:List Item}(hb:x.todo=h::l++[gG])(hh:aB P F S h=true)(v:Value):(ic k x).finish v=ic k (x.finish v)∧(x.finish v).fn=x.fn∧(x.finish v).mode=x.mode∧∃h',(x.finish v).todo=h'::l++[gG]:=by
 obtain⟨fn0,tmps,todo,defers,mode,kind,jC⟩:=x;simp only at hb;subst hb;have dl:∀(a:Item),((a::(l++[gG])).dropLast++k)=a::(l++k):=λa=>by
  rw[show a::(l++[gG])=(a::l)++[gG] from rfl,cE];rfl
 cases h with
 |inRegion ops idx=>
  cases idx with
  |nil=>exact⟨by simp only[Frame.finish,ic,zat,dl],rfl,rfl,_,rfl⟩
  |cons i rest=>exact⟨by simp only[Frame.finish,ic,zat,dl],rfl,rfl,_,rfl⟩
 |code c=>exact⟨by simp only[Frame.finish,ic,zat,dl],rfl,rfl,_,rfl⟩
 |inBlock id=>exact⟨by simp only[Frame.finish,ic,zat,dl],rfl,rfl,_,rfl⟩
 |inLoop c=>exact⟨by simp only[Frame.finish,ic,zat,dl],rfl,rfl,_,rfl⟩
 |_=>simp[aB]at hh
theorem rb (k:List Item){x:Frame}{h:Item}{l:List Item}(hb:uz x (h::l))(hh:aB P F S h=true){f1:Frame}{a1:List Frame}(hr:(aL P x []).runT P w #[]=(.ok (f1,a1) w1,es)):(∃l1,uz f1 l1∧f1.fn=x.fn∧a1=[]∧(aL P (ic k x) []).runT P w #[]=(.ok (ic k f1,[]) w1,es))∨
 (f1={ x with mode:= .returning }∧a1=[]∧(aL P (ic k x) []).runT P w #[]=(.ok (ic k f1,[]) w1,es))∨
 (a1=[x]∧(aL P (ic k x) []).runT P w #[]=(.ok (f1,[ic k x]) w1,es)):=by
 obtain⟨fn0,tmps,todo,defers,mode,kind,jC⟩:=x;obtain⟨ht,hm⟩:=hb;simp only at ht hm;subst ht hm;have dl:∀(a:Item),((a::(l++[gG])).dropLast++k)=a::(l++k):=λa=>by
  rw[show a::(l++[gG])=(a::l)++[gG] from rfl,cE];rfl
 have TG:(l++[gG]).dropLast++k=l++k:=by rw[cE]
 simp only[zat,ic,dl]at hr ⊢
 match h,hh,hr with
 |.code .ret,_,hr=>
  simp only[aL,pure,Sem.runT,zab,Result.ok.injEq]at hr;obtain⟨⟨⟨rfl,rfl⟩,rfl⟩,rfl⟩:=hr;exact .inr (.inl ⟨rfl,rfl,by simp only[aL,pure,Sem.runT,dl]⟩)
 |.code .skip,_,hr=>
  simp only[aL,pure,Sem.runT,zab,Result.ok.injEq]at hr;obtain⟨⟨⟨rfl,rfl⟩,rfl⟩,rfl⟩:=hr;exact .inl ⟨l,⟨rfl,rfl⟩,rfl,rfl,by simp only[aL,pure,Sem.runT,TG]⟩
 |.inBlock _,_,hr=>
  simp only[aL,pure,Sem.runT,zab,Result.ok.injEq]at hr;obtain⟨⟨⟨rfl,rfl⟩,rfl⟩,rfl⟩:=hr;exact .inl ⟨l,⟨rfl,rfl⟩,rfl,rfl,by simp only[aL,pure,Sem.runT,TG]⟩
 |.code (.seq a b),_,hr=>
  simp only[aL,pure,Sem.runT,zab,Result.ok.injEq]at hr;obtain⟨⟨⟨rfl,rfl⟩,rfl⟩,rfl⟩:=hr;refine .inl ⟨.code a::.code b::l,⟨rfl,rfl⟩,rfl,rfl,?_⟩;have:(Item.code a::Item.code b::(l++[gG])).dropLast++k=.code a::.code b::(l++k):=by rw[show Item.code a::Item.code b::(l++[gG])=(Item.code a::Item.code b::l)++[gG] from rfl,cE];rfl
  simp only[aL,pure,Sem.runT,this]
 |.code (.block id a),_,hr=>
  simp only[aL,pure,Sem.runT,zab,Result.ok.injEq]at hr;obtain⟨⟨⟨rfl,rfl⟩,rfl⟩,rfl⟩:=hr;refine .inl ⟨.code a::.inBlock id::l,⟨rfl,rfl⟩,rfl,rfl,?_⟩;have:(Item.code a::Item.inBlock id::(l++[gG])).dropLast++k=.code a::.inBlock id::(l++k):=by rw[show Item.code a::Item.inBlock id::(l++[gG])=(Item.code a::Item.inBlock id::l)++[gG] from rfl,cE];rfl
  simp only[aL,pure,Sem.runT,this]
 |.code (.loop a),_,hr=>
  simp only[aL,pure,Sem.runT,zab,Result.ok.injEq]at hr;obtain⟨⟨⟨rfl,rfl⟩,rfl⟩,rfl⟩:=hr;refine .inl ⟨.code a::.inLoop a::l,⟨rfl,rfl⟩,rfl,rfl,?_⟩;have:(Item.code a::Item.inLoop a::(l++[gG])).dropLast++k=.code a::.inLoop a::(l++k):=by rw[show Item.code a::Item.inLoop a::(l++[gG])=(Item.code a::Item.inLoop a::l)++[gG] from rfl,cE];rfl
  simp only[aL,pure,Sem.runT,this]
 |.inLoop a,_,hr=>
  simp only[aL,pure,Sem.runT,zab,Result.ok.injEq]at hr;obtain⟨⟨⟨rfl,rfl⟩,rfl⟩,rfl⟩:=hr;refine .inl ⟨.code a::.inLoop a::l,⟨rfl,rfl⟩,rfl,rfl,?_⟩;have:(Item.code a::Item.inLoop a::(l++[gG])).dropLast++k=.code a::.inLoop a::(l++k):=by rw[show Item.code a::Item.inLoop a::(l++[gG])=(Item.code a::Item.inLoop a::l)++[gG] from rfl,cE];rfl
  simp only[aL,pure,Sem.runT,this]
 |.inRegion _ [],_,hr=>
  simp only[aL,pure,Sem.runT,zab,Result.ok.injEq]at hr;obtain⟨⟨⟨rfl,rfl⟩,rfl⟩,rfl⟩:=hr;exact .inl ⟨l,⟨rfl,rfl⟩,rfl,rfl,by simp only[aL,pure,Sem.runT,TG]⟩
 |.code (.cond c a b),_,hr=>
  simp only[aL]at hr ⊢;have ev:Frame.eval ⟨fn0,tmps,.code (.cond c a b)::(l++k),defers,.run,kind,jC⟩ c=Frame.eval ⟨fn0,tmps,.code (.cond c a b)::(l++[gG]),defers,.run,kind,jC⟩ c:=by cases c<;>rfl
  rw[ev];generalize Frame.eval ⟨fn0,tmps,.code (.cond c a b)::(l++[gG]),defers,.run,kind,jC⟩ c=q at hr ⊢;cases q with
  |bool t=>
   simp only[pure,Sem.runT,zab,Result.ok.injEq]at hr;obtain⟨⟨⟨rfl,rfl⟩,rfl⟩,rfl⟩:=hr;exact .inl ⟨.code (if t then a else b)::l,⟨rfl,rfl⟩,rfl,rfl,by simp only[pure,Sem.runT,dl]⟩
  |_=>simp[stuck]at hr
 |.code (.exit id),_,hr=>
  simp only[aL]at hr ⊢;cases he:exitTo id (l++[gG])with
  |none=>rw[he]at hr;simp[stuck]at hr
  |some k'=>
   rw[he]at hr;obtain⟨l',rfl,h2⟩:=dh k he;rw[h2];simp only[pure,Sem.runT,zab,Result.ok.injEq]at hr;obtain⟨⟨⟨rfl,rfl⟩,rfl⟩,rfl⟩:=hr;exact .inl ⟨l',⟨rfl,rfl⟩,rfl,rfl,by simp only[pure,Sem.runT,cE]⟩
 |.code (.region id ops draw),_,hr=>
  cases draw with
  |false=>
   simp only[aL,pure,Sem.runT,zab,Result.ok.injEq,zav,if_false]at hr ⊢;obtain⟨⟨⟨rfl,rfl⟩,rfl⟩,rfl⟩:=hr;exact .inl ⟨.inRegion ops (List.range ops.size)::l,⟨rfl,rfl⟩,rfl,rfl,by simp only[dl,and_self]⟩
  |true=>
   simp only[aL,if_true,bind,choose,Sem.bind,Sem.runT,Question.forced,zav,if_false,pure,zab,Result.ok.injEq,Question.cut]at hr ⊢;obtain⟨⟨⟨rfl,rfl⟩,rfl⟩,rfl⟩:=hr;exact .inl ⟨.inRegion ops _::l,⟨rfl,rfl⟩,rfl,rfl,by simp only[dl,and_self]⟩
 |.inRegion ops (i::rest),_,hr=>
  simp only[aL]at hr ⊢;have ev:Frame.eval ⟨fn0,tmps,.inRegion ops (i::rest)::(l++k),defers,.run,kind,jC⟩=Frame.eval ⟨fn0,tmps,.inRegion ops (i::rest)::(l++[gG]),defers,.run,kind,jC⟩:=by funext c;cases c<;>rfl
  rw[ev];have fin:∀v,(⟨fn0,tmps,.inRegion ops (i::rest)::(l++k),defers,.run,kind,jC⟩:Frame).finish v=ic k ((⟨fn0,tmps,.inRegion ops (i::rest)::(l++[gG]),defers,.run,kind,jC⟩:Frame).finish v):=λv=>by
   simp only[Frame.finish,ic,dl]
  have bot:∀v,uz ((⟨fn0,tmps,.inRegion ops (i::rest)::(l++[gG]),defers,.run,kind,jC⟩:Frame).finish v) (.inRegion ops rest::l):=λv=>⟨rfl,rfl⟩;by_cases hw:((ops[i]?).map (Region.wanted · (yielded ops tmps))).getD false=true
  ·rw[if_pos hw]at hr ⊢;cases ho:ops[i]? with
   |none=>rw[ho]at hr;simp[stuck]at hr
   |some o=>
    rw[ho]at hr;dsimp only at hr ⊢;generalize (execOp (Frame.eval ⟨fn0,tmps,.inRegion ops (i::rest)::(l++[gG]),defers,.run,kind,jC⟩) o)=ex at hr ⊢;rw[bE]at hr ⊢;cases hrun:ex.runT P w #[]with
    |mk r dt=>
     rw[hrun]at hr;cases r with
     |halt hh w1=>simp at hr
     |ok nx w1=>
      dsimp only at hr ⊢;cases nx with
      |value v=>
       simp only[pure,Sem.runT,zab,Result.ok.injEq]at hr;obtain⟨⟨⟨rfl,rfl⟩,rfl⟩,rfl⟩:=hr;exact .inl ⟨_,bot v,rfl,rfl,by simp only[pure,Sem.runT,fin];rfl⟩
      |skip=>
       simp only[pure,Sem.runT,zab,Result.ok.injEq]at hr;obtain⟨⟨⟨rfl,rfl⟩,rfl⟩,rfl⟩:=hr;exact .inl ⟨_,bot undef,rfl,rfl,by simp only[pure,Sem.runT,fin];rfl⟩
      |enter f args=>
       simp only[pure,Sem.runT,zab,Result.ok.injEq]at hr;obtain⟨⟨⟨rfl,rfl⟩,rfl⟩,rfl⟩:=hr;exact .inr (.inr ⟨rfl,rfl⟩)
      |_=>simp[stuck]at hr
  ·rw[if_neg hw]at hr ⊢;simp only[pure,Sem.runT,zab,Result.ok.injEq]at hr;obtain⟨⟨⟨rfl,rfl⟩,rfl⟩,rfl⟩:=hr;exact .inl ⟨_,bot undef,rfl,rfl,by simp only[pure,Sem.runT,fin];rfl⟩
 |.code (.rangeFunc ..),hh,hr=>simp[aB,bh]at hh
 |.code (.scope ..),hh,hr=>simp[aB,bh]at hh
 |.code (.label ..),hh,hr=>simp[aB,bh]at hh
 |.code (.goto ..),hh,hr=>simp[aB,bh]at hh
 |.code (.refuse ..),hh,hr=>simp[aL,stuck]at hr
 |.inScope c,hh,hr=>simp[aB]at hh
 |.inRangeFunc c,hh,hr=>simp[aB]at hh
 |.endRangeFunc c,hh,hr=>simp[aB]at hh
 |.beginRound,hh,hr=>simp[aB]at hh
 |.call ..,hh,hr=>simp[aB]at hh
 |.extern ..,hh,hr=>simp[aB]at hh
end
section
variable {P:Program}{F:FuncId→Bool}{S:Sd}{w w1:World}{es:Array Event}
theorem oV {f:Frame}{c:Frame}{r:List Frame}{f1:Frame}{a1:List Frame}(hr:(aL P f (c::r)).runT P w #[]=(.ok (f1,a1) w1,es)):(∃p,a1=p++c::r∧∀ab,(aL P f ab).runT P w #[]=(.ok (f1,p++ab) w1,es))∨(∃v,f1=c.finish v∧a1=r∧∀c' r',(aL P f (c'::r')).runT P w #[]=(.ok (c'.finish v,r') w1,es)):=by
 obtain⟨fn0,tmps,todo,defers,mode,kind,jC⟩:=f;by_cases hm:mode=.run
 ·left;subst hm
  match todo,hr with
  |[],hr=>
   simp only[aL,pure,Sem.runT,zab,Result.ok.injEq]at hr;obtain⟨⟨⟨rfl,rfl⟩,rfl⟩,rfl⟩:=hr;exact⟨[],rfl,λab=>rfl⟩
  |.code .ret::k,hr=>
   simp only[aL,pure,Sem.runT,zab,Result.ok.injEq]at hr;obtain⟨⟨⟨rfl,rfl⟩,rfl⟩,rfl⟩:=hr;exact⟨[],rfl,λab=>rfl⟩
  |.code .skip::k,hr=>
   simp only[aL,pure,Sem.runT,zab,Result.ok.injEq]at hr;obtain⟨⟨⟨rfl,rfl⟩,rfl⟩,rfl⟩:=hr;exact⟨[],rfl,λab=>rfl⟩
  |.inBlock _::k,hr=>
   simp only[aL,pure,Sem.runT,zab,Result.ok.injEq]at hr;obtain⟨⟨⟨rfl,rfl⟩,rfl⟩,rfl⟩:=hr;exact⟨[],rfl,λab=>rfl⟩
  |.code (.seq a b)::k,hr=>
   simp only[aL,pure,Sem.runT,zab,Result.ok.injEq]at hr;obtain⟨⟨⟨rfl,rfl⟩,rfl⟩,rfl⟩:=hr;exact⟨[],rfl,λab=>rfl⟩
  |.code (.block id a)::k,hr=>
   simp only[aL,pure,Sem.runT,zab,Result.ok.injEq]at hr;obtain⟨⟨⟨rfl,rfl⟩,rfl⟩,rfl⟩:=hr;exact⟨[],rfl,λab=>rfl⟩
  |.code (.loop a)::k,hr=>
   simp only[aL,pure,Sem.runT,zab,Result.ok.injEq]at hr;obtain⟨⟨⟨rfl,rfl⟩,rfl⟩,rfl⟩:=hr;exact⟨[],rfl,λab=>rfl⟩
  |.inLoop a::k,hr=>
   simp only[aL,pure,Sem.runT,zab,Result.ok.injEq]at hr;obtain⟨⟨⟨rfl,rfl⟩,rfl⟩,rfl⟩:=hr;exact⟨[],rfl,λab=>rfl⟩
  |.inRegion _ []::k,hr=>
   simp only[aL,pure,Sem.runT,zab,Result.ok.injEq]at hr;obtain⟨⟨⟨rfl,rfl⟩,rfl⟩,rfl⟩:=hr;exact⟨[],rfl,λab=>rfl⟩
  |.code (.cond c a b)::k,hr=>
   simp only[aL]at hr ⊢;generalize Frame.eval _ c=q at hr ⊢;cases q with
   |bool t=>
    simp only[pure,Sem.runT,zab,Result.ok.injEq]at hr;obtain⟨⟨⟨rfl,rfl⟩,rfl⟩,rfl⟩:=hr;exact⟨[],rfl,λab=>rfl⟩
   |_=>simp[stuck]at hr
  |.code (.exit id)::k,hr=>
   simp only[aL]at hr ⊢;cases he:exitTo id k with
   |none=>rw[he]at hr;simp[stuck]at hr
   |some k'=>
    rw[he]at hr;simp only[pure,Sem.runT,zab,Result.ok.injEq]at hr;obtain⟨⟨⟨rfl,rfl⟩,rfl⟩,rfl⟩:=hr;exact⟨[],rfl,λab=>rfl⟩
  |.code (.region id ops draw)::k,hr=>
   cases draw with
   |false=>
    simp only[aL,pure,Sem.runT,zab,Result.ok.injEq,zav,if_false]at hr;obtain⟨⟨⟨rfl,rfl⟩,rfl⟩,rfl⟩:=hr;exact⟨[],rfl,λab=>rfl⟩
   |true=>
    simp only[aL,if_true,bind,choose,Sem.bind,Sem.runT,Question.forced,zav,if_false,pure,zab,Result.ok.injEq,Question.cut]at hr;obtain⟨⟨⟨rfl,rfl⟩,rfl⟩,rfl⟩:=hr;exact⟨[],rfl,λab=>by simp only[aL,if_true,bind,choose,Sem.bind,Sem.runT,Question.forced,zav,if_false,pure,Question.cut,List.nil_append]⟩
  |.inRegion ops (i::rest)::k,hr=>
   simp only[aL]at hr ⊢;by_cases hw:((ops[i]?).map (Region.wanted · (yielded ops tmps))).getD false=true
   ·rw[if_pos hw]at hr;cases ho:ops[i]? with
    |none=>rw[ho]at hr;simp[stuck]at hr
    |some o=>
     rw[ho]at hr hw;dsimp only at hr ⊢;simp only[if_pos hw];generalize (execOp (Frame.eval ⟨fn0,tmps,.inRegion ops (i::rest)::k,defers,.run,kind,jC⟩) o)=ex at hr ⊢;rw[bE]at hr;simp only[bE];cases hrun:ex.runT P w #[]with
     |mk q dt=>
      rw[hrun]at hr;cases q with
      |halt hh w1=>simp at hr
      |ok nx w1=>
       dsimp only at hr ⊢;cases nx with
       |value v=>
        simp only[pure,Sem.runT,zab,Result.ok.injEq]at hr;obtain⟨⟨⟨rfl,rfl⟩,rfl⟩,rfl⟩:=hr;exact⟨[],rfl,λab=>rfl⟩
       |skip=>
        simp only[pure,Sem.runT,zab,Result.ok.injEq]at hr;obtain⟨⟨⟨rfl,rfl⟩,rfl⟩,rfl⟩:=hr;exact⟨[],rfl,λab=>rfl⟩
       |enter f args=>
        simp only[pure,Sem.runT,zab,Result.ok.injEq]at hr;obtain⟨⟨⟨rfl,rfl⟩,rfl⟩,rfl⟩:=hr;exact⟨[⟨fn0,tmps,.inRegion ops (i::rest)::k,defers,.run,kind,jC⟩],rfl,λab=>rfl⟩
       |_=>simp[stuck]at hr
   ·rw[if_neg hw]at hr;simp only[if_neg hw];simp only[pure,Sem.runT,zab,Result.ok.injEq]at hr;obtain⟨⟨⟨rfl,rfl⟩,rfl⟩,rfl⟩:=hr;exact⟨[],rfl,λab=>rfl⟩
  |.code (.rangeFunc ..)::k,hr=>simp[aL,stuck]at hr
  |.code (.scope ..)::k,hr=>simp[aL,stuck]at hr
  |.code (.label ..)::k,hr=>simp[aL,stuck]at hr
  |.code (.goto ..)::k,hr=>simp[aL,stuck]at hr
  |.code (.refuse ..)::k,hr=>simp[aL,stuck]at hr
  |.inScope c::k,hr=>simp[aL,stuck]at hr
  |.inRangeFunc c::k,hr=>simp[aL,stuck]at hr
  |.endRangeFunc c::k,hr=>simp[aL,stuck]at hr
  |.beginRound::k,hr=>simp[aL,stuck]at hr
  |.call ..::k,hr=>simp[aL,stuck]at hr
  |.extern ..::k,hr=>simp[aL,stuck]at hr
 ·right;have key:∀ab,aL P ⟨fn0,tmps,todo,defers,mode,kind,jC⟩ ab=match P.funcs[fn0]? with
   |some fn=>do
    let v ←results fn tmps
    match ab with
    |c::rest=>pure (c.finish v,rest)
    |[]=>stuck ""
   |none=>stuck "" :=λab=>by
   cases mode with
   |run=>exact absurd rfl hm
   |_=>rfl
  rw[key]at hr;simp only[key];cases hf:P.funcs[fn0]? with
  |none=>rw[hf]at hr;simp[stuck]at hr
  |some fn=>
   rw[hf]at hr;dsimp only at hr ⊢;rw[bE]at hr;simp only[bE];cases hrun:(results fn tmps).runT P w #[]with
   |mk q dt=>
    rw[hrun]at hr;cases q with
    |halt hh w1=>simp at hr
    |ok v w1=>
     simp only[pure,Sem.runT,zab,Result.ok.injEq]at hr;obtain⟨⟨⟨rfl,rfl⟩,rfl⟩,rfl⟩:=hr;exact⟨v,rfl,rfl,λc' r'=>rfl⟩
theorem BU {f:Frame}(hm:f.mode≠.run){f1:Frame}{a1:List Frame}(hr:(aL P f []).runT P w #[]=(.ok (f1,a1) w1,es)):False:=by
 obtain⟨fn0,tmps,todo,defers,mode,kind,jC⟩:=f;have key:aL P ⟨fn0,tmps,todo,defers,mode,kind,jC⟩ []=match P.funcs[fn0]? with
  |some fn=>do
   let _ ←results fn tmps
   stuck ""
  |none=>stuck "" :=by
  cases mode with
  |run=>exact absurd rfl hm
  |_=>rfl
 rw[key]at hr;cases hf:P.funcs[fn0]? with
 |none=>rw[hf]at hr;simp[stuck]at hr
 |some fn=>
  rw[hf]at hr;dsimp only at hr;rw[bE]at hr;cases hrun:(results fn tmps).runT P w #[]with
  |mk q dt=>
   rw[hrun]at hr;cases q with
   |halt hh w1=>simp at hr
   |ok v w1=>simp[stuck]at hr
end
section
variable {P:Program}{F:FuncId→Bool}{S:Sd}{w W:World}{ρ:Rn}{k:List Item}{fn0:FuncId}{Q:Frame→List Frame→World→Prop}
theorem tN (k:List Item)(c:Frame)(r:List Frame):∀p:List Frame,sJ k (p++c::r)=p++sJ k (c::r)
 |[]=>rfl
 |[x]=>rfl
 |x::y::p=>by
  have:=tN k c r (y::p);simp only[zat]at this ⊢;rw[sJ,this]
def sF (k:List Item)(f:Frame):List Frame→Frame
 |[]=>ic k f
 |_::_=>f
def Ww (fn0:FuncId)(f:Frame)(ab:List Frame):Prop:=
 match ab.getLast? with
 |none=>f.fn=fn0∧(f.mode=.returning∨∃l,uz f l)
 |some x=>∃h l,uz x (h::l)∧x.fn=fn0
theorem Gw {f:Frame}(h:jA P F S f):vZ P F S f:=⟨h.defers,h.mode,h.kind,h.round,by
 have:=h.todo;cases hq:f.todo with
 |nil=>rfl
 |cons x l=>rw[hq]at this;simp only[zaf,zac]at this;simpa using this.1,h.fn⟩
theorem oW {x:Frame}{h:Item}{l:List Item}(hx:jA P F S x)(hb:uz x (h::l)):aB P F S h=true:=by
 have:=hx.todo;rw[hb.todo]at this;simp only[zat,zaf,zac]at this;exact this.1
theorem Im {x:Frame}{h:Item}{l:List Item}(hx:jA P F S x)(hb:uz x (h::l))(k:List Item):vZ P F S (ic k x):=⟨hx.defers,hx.mode,hx.kind,hx.round,by
 have e:(ic k x).todo=h::(l++k):=by
  show x.todo.dropLast++k=_;rw[hb.todo,cE];rfl
 rw[e];simpa using oW hx hb,hx.fn⟩
theorem rh {x:Frame}(h:jA P F S x):jA P F S (bP ρ x):=⟨h.defers,h.mode,h.kind,h.round,h.todo,h.fn⟩
theorem Io {f f1:Frame}{ab a1:List Frame}{w0 w1 W1:World}{es es':Array Event}(cC:jA P F S f)(TH:∀x∈ab,jA P F S x)(hT:Ww fn0 f ab)(hn:ab=[]→∃h l,uz f (h::l))
 (hp:(aL P f ab).runT P w0 #[]=(.ok (f1,a1) w1,es))(hr:(aL P (bP ρ f) (ab.map (bP ρ))).runT P W #[]=(.ok (bP ρ f1,a1.map (bP ρ)) W1,es'))(main:Bool)(cs:List Frame):
 Ww fn0 f1 a1∧stepG P main (G (bP ρ (sF k f ab)) ((sJ k ab).map (bP ρ)++cs)) W=.go (G (bP ρ (sF k f1 a1)) ((sJ k a1).map (bP ρ)++cs)) W1 (seen P f.fn es'):=by
 cases ab with
 |nil=>
  obtain⟨hf,-⟩:=hT;obtain⟨h,l,hb⟩:=hn rfl;have hh:=oW cC hb;have hb':uz (bP ρ f) (h::l):=⟨hb.todo,hb.run⟩;have hH:vZ P F S (ic k (bP ρ f)):=Im (rh cC) hb' k;rcases rb k hb hh hp with⟨l1,b1,b2,rfl,_⟩|⟨m1,rfl,_⟩|⟨rfl,_⟩
  ·rcases rb k hb' hh hr with⟨l2,c1,c2,_,c3⟩|⟨m1,_,m2⟩|⟨e,_⟩
   ·refine⟨⟨b2.trans hf,.inr ⟨l1,b1⟩⟩,?_⟩;exact cP (main:=main) (cs:=cs) hH c3
   ·have:f1.mode=.returning:=congrArg Frame.mode m1;rw[b1.run]at this;cases this
   ·simp at e
  ·rcases rb k hb' hh hr with⟨l2,c1,c2,_,c3⟩|⟨_,_,c3⟩|⟨e,_⟩
   ·have:f1.mode=.returning:=congrArg Frame.mode m1;have c4:f1.mode=.run:=c1.run;rw[c4]at this;cases this
   ·refine⟨⟨by rw[m1];exact hf,.inl (by rw[m1])⟩,?_⟩;exact cP (main:=main) (cs:=cs) hH c3
   ·simp at e
  ·rcases rb k hb' hh hr with⟨l2,c1,c2,e,c3⟩|⟨m1,e,m2⟩|⟨e,c3⟩
   ·simp at e
   ·simp at e
   ·exact⟨⟨h,l,hb,hf⟩,cP (main:=main) (cs:=cs) hH c3⟩
 |cons c r=>
  have hH:vZ P F S (bP ρ f):=Gw (rh cC);rcases oV hp with⟨p,rfl,_⟩|⟨v,rfl,rfl,_⟩
  ·rcases oV (c:=bP ρ c) (r:=r.map (bP ρ)) hr with⟨p',e,h2⟩|⟨v,_,e,_⟩
   ·have ep:p'=p.map (bP ρ):=by
     rw[zbs,zao]at e;exact(List.append_cancel_right e).symm
    subst ep;have Wt:Ww fn0 f1 (p++c::r):=by
     unfold Ww at hT ⊢;rw[List.getLast?_append];cases hg:(c::r).getLast? with
     |none=>simp at hg
     |some x=>rw[hg]at hT;exact hT
    refine⟨Wt,?_⟩;have e1:sF k f1 (p++c::r)=f1:=by cases p<;>rfl
    rw[e1,tN,zbs];exact cP (main:=main) (cs:=cs) hH (h2 _)
   ·have:=congrArg List.length e;simp at this;omega
  ·rcases oV (c:=bP ρ c) (r:=a1.map (bP ρ)) hr with⟨p',e,h2⟩|⟨v',e1,_,h2⟩
   ·have:=congrArg List.length e;simp at this;omega
   ·cases a1 with
    |nil=>
     obtain⟨h,l,hb,hf⟩:=hT;have hcO:=TH c zau;have hh:=oW hcO hb;obtain⟨g1,g2,g3,h',g4⟩:=tM k hb.todo hh v;obtain⟨q1,-,-,-,-⟩:=tM k (x:=bP ρ c) hb.todo hh v';refine⟨⟨g2.trans hf,.inr ⟨h'::l,⟨g4,g3.trans hb.run⟩⟩⟩,?_⟩;have h3:=cP (main:=main) (cs:=cs) hH (h2 (ic k (bP ρ c)) []);rw[q1,←e1]at h3;exact h3
    |cons d r2=>
     refine⟨?_,?_⟩
     ·unfold Ww at hT ⊢;rw[List.getLast?_cons_cons]at hT;exact hT
     ·have h3:=cP (main:=main) (cs:=cs) hH (h2 (bP ρ c) ((sJ k (d::r2)).map (bP ρ)));rw[←e1]at h3;exact h3
def XR (P:Program)(F:FuncId→Bool)(S:Sd)(Q:Frame→List Frame→World→Prop)(k:List Item)(fn0:FuncId)(cs:List Frame)(gq:Rn)(n₀:Nat)(own:Nat→Prop)(g:Goroutine)(W:World):Prop:=
 ∃fr w ρ,(uz fr []∨fr.mode=.returning)∧fr.fn=fn0∧Ih P Q fr [] w∧PI P F S fr [] w∧gp P S ρ w W∧own=Touch S.d ρ w∧g=G (bP ρ (ic k fr)) cs∧n₀≤w.heap.size∧∀r,r<n₀→ρ r=gq r
theorem Af {ρ ρ':Rn}{n:Nat}{fr:Frame}(k:List Item)(ab:List Frame)(hc:ib P S n fr)(hb:∀r,r<n→ρ r=ρ' r)(hf:∀x,ρ.f x=ρ'.f x):bP ρ (sF k fr ab)=bP ρ' (sF k fr ab):=
 dw (P:=P) (S:=S) (n:=n) (by cases ab<;>exact hc) hb hf
theorem Gx {n:Nat}(k:List Item):∀{ab:List Frame},(∀f∈ab,ib P S n f)→∀f∈sJ k ab,ib P S n f
 |[],_,f,hf=>by cases hf
 |[x],h,f,hf=>by
  simp only[sJ,List.mem_singleton]at hf;subst hf;exact h x zau
 |c::d::r,h,f,hf=>by
  rw[sJ]at hf;rcases zas.1 hf with rfl|hf
  ·exact h _ zau
  ·exact Gx k (λg hg=>h g (zax _ hg)) f hf
theorem EA (hC:jB P F S){main:Bool}{ro:Nat→Prop}(hQ:∀f a w,Q f a w→a=[]∧(uz f []∨f.mode=.returning)){cs:List Frame}{fr:Frame}{above:List Frame}{w:World}(hb:Ih P Q fr above w):PI P F S fr above w→Ww fn0 fr above→∀(gq:Rn) (n₀:Nat) (ρ:Rn) (W:World),gp P S ρ w W→n₀≤w.heap.size→(∀r,r<n₀→ρ r=gq r)→aj P main ro (XR P F S Q k fn0 cs gq n₀) (Touch S.d ρ w) (G (bP ρ (sF k fr above)) ((sJ k above).map (bP ρ)++cs)) W:=by
 induction hb with
 | @stop fr above w h=>
   intro hI hT gq n₀ ρ W hS hn ku;obtain⟨rfl,wh⟩:=hQ _ _ _ h;have hfn:fr.fn=fn0:=hT.1;refine .stop λaF hr=>⟨fr,w,_,wh,hfn,.stop h,hI,hS.rely hr,cv.symm,?_,hn,λr hlt=>by rw[aR (by omega)];exact ku r hlt⟩;show G (bP ρ (ic k fr)) ([]++cs)=_;rw[dw (P:=P) (S:=S) (n:=w.heap.size) (fr:=ic k fr) hI.cl (ρ:=ρ) (ρ':=cL ρ w.heap.size aF.heap.size) (λr hlt=>(aR hlt).symm) (λ_=>rfl)];rfl
 | @step fr above w nf na nw ne h1 h2 ih=>
   intro hI hT gq n₀ ρ W hS hn ku;by_cases hend:above=[]∧(uz fr []∨fr.mode=.returning)
   ·obtain⟨rfl,wh⟩:=hend;have hfn:fr.fn=fn0:=hT.1;refine .stop λaF hr=>⟨fr,w,_,wh,hfn,.step nf na nw ne h1 h2,hI,hS.rely hr,cv.symm,?_,hn,λr hlt=>by rw[aR (by omega)];exact ku r hlt⟩;show G (bP ρ (ic k fr)) ([]++cs)=_;rw[dw (P:=P) (S:=S) (n:=w.heap.size) (fr:=ic k fr) hI.cl (ρ:=ρ) (ρ':=cL ρ w.heap.size aF.heap.size) (λr hlt=>(aR hlt).symm) (λ_=>rfl)];rfl
   ·refine aj.step' rfl λaF hr=>?_;have hS1:=hS.rely hr;generalize nV:cL ρ w.heap.size aF.heap.size=bO at hS1;have vR:∀r,r<w.heap.size→bO r=ρ r:=λr hlt=>by rw[←nV];exact aR hlt
    have xZ:∀x,bO.f x=ρ.f x:=λx=>by rw[←nV];rfl
    have hrun:=h1 aF.tape aF.drawn;have hW:WR P S bO (w.re aF.tape aF.drawn) aF:=⟨hS1.wr.live,hS1.wr.ok,hS1.wr.dead,hS1.wr.closed,hS1.wr.next,hS1.wr.low,hS1.wr.big⟩;have K9:=hI.re aF.tape aF.drawn;have hpl:Plain P bO:=⟨λt i v a b=>hC.zero t i v a b _,hS1.inj⟩;have vP:=vL (ρ:=bO) hC hpl hS1.fix K9.ok K9.oks (λv _=> .inl hS1.jE) (λv hv=>iv (K9.cl v hv));obtain⟨bb,W2,es',r1,⟨rfl,o1,o2⟩,r3,q1,q2,r6⟩:=dm hpl (λo=> .inl hS1.jE) _ _ _ (λn=>FF P F S (sg S S.d n)) (w.re aF.tape aF.drawn) aF #[] #[] _ _ _ vP (oQ hC K9) hW (λj _ q=>rfl) hrun;have q3:∀e∈es',lU S.d bO (nw aF.tape aF.drawn) e:=λe he=>(r6 e he).resolve_left (by simp);have XE:=(dY hC K9 hrun).1;have KT:gp P S bO (w.re aF.tape aF.drawn) aF:=⟨hW,hS1.inj,hS1.jE,hS1.f,hS1.nB⟩;have pA:gp P S bO (nw aF.tape aF.drawn) W2:=⟨q1,hS1.inj,hS1.jE,hS1.f,by have:=hS1.nB;have h3:=q2.size;have h4:=q2.fZ;omega⟩;have hgrow:Touch S.d bO (nw aF.tape aF.drawn)=Grow (Touch S.d ρ w) aF W2:=by
     rw[pW KT q2];have:Touch S.d bO (w.re aF.tape aF.drawn)=Touch S.d ρ w:=by
      rw[←nV];exact cv
     rw[this]
    have DR:bP ρ (sF k fr above)=bP bO (sF k fr above):=Af k above hI.cl (λr hlt=>(vR r hlt).symm) (λx=>(xZ x).symm);have hab:(sJ k above).map (bP ρ)=(sJ k above).map (bP bO):=eO (λr hlt=>(vR r hlt).symm) (λx=>(xZ x).symm) (Gx k hI.cls);obtain⟨uR,q4⟩:=Io (k:=k) (ρ:=bO) hI.ok hI.oks hT (λe=>by
     subst e;rcases hT.2 with hm|⟨l,hl⟩
     ·exact absurd ⟨rfl,.inr hm⟩ hend
     ·cases l with
      |nil=>exact absurd ⟨rfl,.inl hl⟩ hend
      |cons h l=>exact⟨h,l,hl⟩) hrun r1 main cs
    refine⟨_,W2,_,by rw[DR,hab];exact q4,⟨q2.tape,q2.os,q2.output,by have h3:=q2.size;have h4:=q2.fZ;simp only[World.re]at h3 h4;omega,λb hb Tu=>?_,λe he=>?_⟩,?_⟩
    ·refine q2.frame b hb λht=>?_;rw[hgrow]at ht;rcases ht with h|⟨h,_⟩
     ·exact Tu h
     ·omega
    ·have:=q3 e (mem_seen he);unfold lU at this;unfold yO;rw[←hgrow];cases hl:e.loc<;>simp only[hl]at this ⊢<;>first|exact .inl this|exact this
    ·rw[←hgrow];refine ih aF.tape aF.drawn XE uR gq n₀ bO W2 pA ?_ λr hlt=>(vR r (by omega)).trans (ku r hlt);have h4:=q2.fZ;simp only[World.re]at h4;omega
end
section
variable {P:Program}{F:FuncId→Bool}{S:Sd}{Ψ:bq}{cs:List Frame}{w:World}{b:Frame}{a:Act}{k:List Item}
theorem Ag:∀(above:List Frame) (fr:Frame) (w:World) (chain:List PanicEntry) (n:Nat) (qV:Frame) (wf:World),fr.defers=[]→(∃f,P.funcs[fr.fn]?=some f)→(∀f∈above,jA P F S f)→runN P n (Go.lone { fr with mode:= .panicking chain } (above++[c0 P]) w)=.next (Go.lone qV [c0 P] wf)→(∀ch,qV.mode≠.panicking ch)→False:=by
 intro above
 induction above with
 |nil=>
  rintro fr w chain n qV wf hd ⟨f,hf⟩ _ hr hm;cases n with
  |zero=>
   simp only[runN,Stepped.next.injEq]at hr;obtain⟨rfl,_,_⟩:=iJ hr;exact hm _ rfl
  |succ n=>
   have h1:step P (Go.lone { fr with mode:= .panicking chain } ([]++[c0 P]) w)=.next (Go.lone ((c0 P).raise chain) [] w):=by
    refine ki (es:=#[]) ?_;simp[G,stepG,unwind,hd,Frame.catches,hf]
   simp only[runN,h1]at hr;cases n with
   |zero=>
    simp only[runN,Stepped.next.injEq]at hr;obtain⟨_,e,_⟩:=iJ hr;cases e
   |succ n=>
    have h2:∃o w3 es,stepG P true (G ((c0 P).raise chain) []) w=.ended o w3 es:=by
     simp[G,stepG,unwind,c0,Frame.raise,Frame.catches]
    obtain⟨o,w3,es,h2⟩:=h2;simp only[runN,je h2]at hr;cases hr
 |cons c rest ih=>
  rintro fr w chain n qV wf hd ⟨f,hf⟩ cC hr hm;cases n with
  |zero=>
   simp only[runN,Stepped.next.injEq]at hr;obtain⟨rfl,_,_⟩:=iJ hr;exact hm _ rfl
  |succ n=>
   have hc:=cC c (by simp);have h1:step P (Go.lone { fr with mode:= .panicking chain } (c::rest++[c0 P]) w)=.next (Go.lone { c with mode:= .panicking chain } (rest++[c0 P]) w):=by
    refine ki (es:=#[]) ?_;have XD:c.raise chain={ c with mode:= .panicking chain }:=by
     unfold Frame.raise;rcases hc.mode with e|e<;>rw[e]
    simp[G,stepG,unwind,hd,Frame.catches,hf,XD]
   simp only[runN,h1]at hr;exact ih c w chain n qV wf hc.defers hc.fn (λg hg=>cC g (by simp[hg])) hr hm
theorem ju (hC:jB P F S):∀(n:Nat) (fr:Frame) (above:List Frame) (w:World) (qV:Frame) (wf:World),PI P F S fr above w→runN P n (Go.lone fr (above++[c0 P]) w)=.next (Go.lone qV [c0 P] wf)→(∀ch,qV.mode≠.panicking ch)→∃m,lZ P m fr above w qV [] wf:=by
 intro n
 induction n with
 |zero=>
  intro fr above w qV wf h hr hm;simp only[runN,Stepped.next.injEq]at hr;obtain⟨rfl,e,rfl⟩:=iJ hr;have:above=[]:=by
   have:=congrArg List.length e;simp at this;exact this
  subst this;exact⟨0,.zero⟩
 |succ n ih=>
  intro fr above w qV wf h hr hm;by_cases hl:above=[]∧fr.mode=.returning
  ·obtain⟨rfl,hl⟩:=hl;exact(tK hC h hl hr).elim
  ·cases hrun:(aL P fr above).runT P w #[]with
   |mk r es=>
    cases r with
    |ok x w1=>
     obtain⟨f1,a1⟩:=x;have hs:=mG (main:=true) (cs:=[c0 P]) h.ok hrun;simp only[runN,ki hs]at hr;obtain⟨m,Ii⟩:=ih f1 a1 w1 qV wf (dY hC h hrun).1 hr hm;exact⟨m+1,.succ hrun Ii⟩
    |halt hh w1=>
     rcases yN (cs:=[c0 P]) hC h hl hrun with⟨chain,w2,es',e⟩|⟨o,w2,es',e⟩
     ·simp only[runN,ki e]at hr;exact(Ag above fr w2 chain n qV wf h.ok.defers h.ok.fn h.oks hr hm).elim
     ·simp only[runN,je e]at hr;cases hr
def La (P:Program)(S:Sd)(Ψ:bq)(b:Frame)(k:List Item)(cs:List Frame)(f:Frame)(ab:List Frame)(w:World):Prop:=
 ab=[]∧((uz f []∧af P S Ψ (b.at ⟨f.tmps,f.defers⟩ k) cs w)∨(f.mode=.returning∧∀todo,af P S Ψ (eC b ⟨f.tmps,f.defers⟩ todo) cs w))
theorem af.item (hC:jB P F S){x:Item}(cC:aB P F S x=true)(hk:b.kind=.normal)(hfn:∃f,P.funcs[b.fn]?=some f)(hd:a.defers=[])
 (h:∀τ,(∃a' w',af P S Ψ (b.at a' k) cs w'∧Steps P (Go.lone (b.at a [x,gG]) [c0 P] (w.re τ 0)) (Go.lone (b.at a' [gG]) [c0 P] w'))∨∃a' w' todo,(∀todo,af P S Ψ (eC b a' todo) cs w')∧Steps P (Go.lone (b.at a [x,gG]) [c0 P] (w.re τ 0)) (Go.lone { b.at a' todo with mode:= .returning } [c0 P] w')):af P S Ψ (b.at a (x::k)) cs w:=
 af.walk λρ W hS hc hcs _=>by
  have hI:PI P F S (b.at a [x,gG]) [] w:=⟨⟨hd,.inl rfl,hk,rfl,by show[x,gG].all _=true;simp only[zaf,List.all_nil,cC,zaW,zba];rfl,hfn⟩,by simp,hc,by simp,hS.self⟩;have hT:∀τ:Tp,∃n f a1 w',lZ P n (b.at a [x,gG]) [] (w.re τ 0) f a1 w'∧La P S Ψ b k cs f a1 w':=λτ=>by
   rcases h τ with⟨a',w',hK,n,hn⟩|⟨a',w',todo,hK,n,hn⟩
   ·obtain⟨m,hm⟩:=ju hC n _ [] (w.re τ 0) _ w' (hI.re τ 0) hn (λch e=>by cases e);exact⟨m,_,[],w',hm,rfl,.inl ⟨⟨rfl,rfl⟩,hK⟩⟩
   ·obtain⟨m,hm⟩:=ju hC n _ [] (w.re τ 0) _ w' (hI.re τ 0) hn (λch e=>by cases e);exact⟨m,_,[],w',hm,rfl,.inr ⟨rfl,hK⟩⟩
  have KV:=nU (Q:=La P S Ψ b k cs) hC (λf a1 w τ d _ hx=>⟨hx.1,hx.2.imp (λq=>⟨q.1,q.2.re rfl⟩) λq=>⟨q.1,λtodo=>(q.2 todo).re rfl⟩⟩) hI hT;have key:=EA (k:=k) (fn0:=b.fn) (main:=true) (ro:=Ψ.ro) (cs:=cs.map (bP ρ)++Ψ.bot) hC (λf a1 w' hx=>⟨hx.1,hx.2.imp (·.1) (·.1)⟩) KV hI ⟨rfl,.inr ⟨[x],⟨rfl,rfl⟩⟩⟩ ρ w.heap.size ρ W hS (zaa _) (λ_ _=>rfl);refine aj.bind key λown g W' hst=>?_;obtain⟨uS,w1,uT,hb1,xZ,Lb,zY,hS1,rfl,rfl,hn,nI⟩:=hst;have ecs:cs.map (bP ρ)=cs.map (bP uT):=eO (λr hr=>(nI r hr).symm) (λx=>by rw[hS.f,hS1.f]) hcs;rw[ecs];have TJ:La P S Ψ b k cs uS [] w1:=by
   cases Lb with
   |stop hx=>exact hx
   |step nf na nw ne h1 h2=>
    exfalso;have hr:=h1 w1.tape 0;rcases hb1 with hb1|hb1
    ·obtain⟨fn0,tmps,todo,defers,mode,kind,jC⟩:=uS;obtain⟨ht,hm⟩:=hb1;simp only[List.nil_append]at ht hm;subst ht hm;simp[aL,stuck]at hr
    ·exact BU (by rw[hb1];simp) hr
  rcases TJ.2 with⟨wh,hK⟩|⟨Ld,hK⟩
  ·have TK:ic k uS=b.at ⟨uS.tmps,uS.defers⟩ k:=by
    obtain⟨fn0,tmps,todo,defers,mode,kind,jC⟩:=uS;obtain⟨ht,hm⟩:=wh;have h3:kind=.normal:=zY.ok.kind;have h4:jC=none:=zY.ok.round;simp only[List.nil_append]at ht hm xZ;subst ht hm h3 h4 xZ;simp[ic,Frame.at,hk]
   rw[TK];exact aj.co hK hS1 (λ_ h=>h) zY.cl (λf hf=>iI hn (hcs f hf)) ⟨hn,nI⟩
  ·have TK:ic k uS=eC b ⟨uS.tmps,uS.defers⟩ (uS.todo.dropLast++k):=by
    obtain⟨fn0,tmps,todo,defers,mode,kind,jC⟩:=uS;have h3:kind=.normal:=zY.ok.kind;have h4:jC=none:=zY.ok.round;simp only at Ld xZ;subst Ld h3 h4 xZ;simp[ic,eC,Frame.at,hk]
   rw[TK];exact aj.co (hK _) hS1 (λ_ h=>h) zY.cl (λf hf=>iI hn (hcs f hf)) ⟨hn,nI⟩
def Le (P:Program)(S:Sd)(Ψ:bq)(b:Frame)(k:List Item)(cs:List Frame):Exit→Act→World→Prop
 |.normal,a,w=>af P S Ψ (b.at a k) cs w
 |.ret,a,w=>∀todo,af P S Ψ (eC b a todo) cs w
 |_,_,_=>False
theorem af.code (hC:jB P F S){c:Code}(cC:bh P F S c=true)(hk:b.kind=.normal)(hfn:∃f,P.funcs[b.fn]?=some f)(hd:a.defers=[])
 (h:∀τ d,c.wp P (Le P S Ψ b k cs) a (w.re τ d)):af P S Ψ (b.at a (.code c::k)) cs w:=
 af.item hC cC hk hfn hd λτ=>by
  obtain⟨e,a',w',hK,lz⟩:=h τ 0 b [gG] [c0 P];cases e with
  |normal=>exact .inl ⟨a',w',hK,lz⟩
  |ret=>obtain⟨todo,hs⟩:=lz;exact .inr ⟨a',w',todo,hK,hs⟩
  |_=>exact hK.elim
theorem af.ops (hC:jB P F S){ops:Array Oper}(hk:b.kind=.normal)(hfn:∃f,P.funcs[b.fn]?=some f)(hd:a.defers=[]){l:List Nat}(cC:(l.all λi=>(ops[i]?).all λo=>eN P F S o.op)=true)(i:Nat)(rest:List Oper)(hl:l=List.range' i rest.length)(hr:∀j,rest[j]?=ops[i+j]?)
 (h:∀τ d,wpList P ops (Le P S Ψ b k cs) rest a (w.re τ d)):af P S Ψ (b.at a (.inRegion ops l::k)) cs w:=
 af.item hC cC hk hfn hd λτ=>by
  have h0:=h τ 0;rw[←wpOps_eq_wpList rest i hr,←hl]at h0;obtain⟨e,a',w',hK,lz⟩:=wp_ops l a (w.re τ 0) h0 b [gG] [c0 P];cases e with
  |normal=>exact .inl ⟨a',w',hK,lz⟩
  |ret=>obtain⟨todo,hs⟩:=lz;exact .inr ⟨a',w',todo,hK,hs⟩
  |_=>exact hK.elim
end
section
variable {P:Program}{F:FuncId→Bool}{S:Sd}{Ψ:bq}{cs:List Frame}{w W:World}{ρ:Rn}{b:Frame}{a:Act}{k:List Item}
theorem wj (hC:jB P F S){main:Bool}{fr:Frame}(hH:vZ P F S fr)(eG:ib P S w.heap.size fr)(hS:gp P S ρ w W){v:Value}{fn:Func}(h1:fr.mode=.returning)(h4:P.funcs[fr.fn]?=some fn)(h5:(results fn fr.tmps).run P w=.ok v w)(c:Frame)(cs:List Frame):rv (sg S S.d w.heap.size) v=v∧∃es,stepG P main (G (bP ρ fr) (c::cs)) W=.go (G (c.finish (rv ρ v)) cs) W es∧∀e∈es,lU S.d ρ w e:=by
 have hp:Plain P ρ:=⟨λt i v a b=>hC.zero t i v a b _,hS.inj⟩;cases hrun:(results fn fr.tmps).runT P w #[]with
 |mk r es=>
  have q1:=congrArg Prod.fst hrun;simp at q1;rw[h5]at q1;subst q1;have qU:∀n,w.heap.size≤n→aa P (sg S S.d n) (VV (sg S S.d n)) (results fn fr.tmps) (results fn fr.tmps):=λn hn=>by
   have:=jd (lX hC n) fn fr.tmps dG;have e:fr.tmps.map (rv (sg S S.d n))=fr.tmps:=bz.2 (iI hn eG);rwa[e]at this
  obtain⟨x,W1,es',r1,r2,r3,r4,r5,r6⟩:=dm hp (λo=> .inl hS.jE) _ _ _ _ w W #[] #[] _ _ _ (jd hp fn fr.tmps dG) qU hS.wr (λj hj=>by omega) hrun;have hb:x=rv ρ v:=r2;have hv:rv (sg S S.d w.heap.size) v=v:=by
   have:=r3 w.heap.size (zaa _);unfold VV at this;exact this.symm
  have hs:=r5.size;have hW1:W1=W:=by
   refine oT (Array.ext_getElem? λi=>?_) r5.tape (by have:=r5.drawn;omega) r5.os r5.output;rcases zag i W.heap.size with hlt|js
   ·by_cases ht:Touch S.d ρ w i
    ·obtain⟨k,hr1,hr2,rfl⟩:=ht;have BM:=r4.live _ _ hr1 (zar hr2);have vQ:=hS.wr.live _ _ hr1 (zar hr2);exact BM.trans vQ.symm
    ·exact r5.frame i hlt ht
   ·rw[zaU (by omega),zaU js]
  subst hb hW1;have cC:vZ P F S (bP ρ fr):=⟨hH.defers,hH.mode,hH.kind,hH.round,hH.todo,hH.fn⟩;have Ws:(aL P (bP ρ fr) [c]).runT P W1 #[]=(.ok (c.finish (rv ρ v),[]) W1,es'):=by
   have hm:(bP ρ fr).mode=.returning:=h1;have hf:P.funcs[(bP ρ fr).fn]?=some fn:=h4;unfold aL;rw[hm];simp only[hf];rw[bE];have:(results fn (bP ρ fr).tmps).runT P W1 #[]=(.ok (rv ρ v) W1,es'):=r1;rw[this];rfl
  have hst:=cP (main:=main) (cs:=cs) cC Ws;refine⟨hv,_,hst,λe he=>?_⟩;rcases r6 e (mem_seen he)with h|h
  ·simp at h
  ·exact h
theorem BV (hn:b.kind=.normal)(hd:a.defers=[])(hf:∃fn,P.funcs[b.fn]?=some fn){todo:List Item}(ht:(todo.take 1).all (aB P F S)=true):vZ P F S (eC b a todo):=⟨hd,.inr rfl,hn,rfl,ht,hf⟩
theorem yT {main:Bool}{c:Frame}(todo XS:List Item)(hn:b.kind=.normal)(hd:a.defers=[]){g:Goroutine}{w':World}{es:Array Event}(h:stepG P main (G (eC b a todo) (c::cs)) w=.go g w' es):stepG P main (G (eC b a XS) (c::cs)) w=.go g w' es:=by
 unfold eC G stepG unwind doReturn at h ⊢;simp only[Frame.at,hd,hn]at h ⊢;cases hf:P.funcs[b.fn]? with
 |none=>simpa[hf]using h
 |some fn=>
  cases hr:(results fn a.tmps).run P w with
  |ok v w2=>simpa[hf,hr]using h
  |halt hh w2=>cases hh<;>simp[hf,hr,GStep.after]at h
theorem af.wk (hC:jB P F S){fn:Func}{todo:List Item}{v:Value}{b':Frame}{a':Act}{ops:Array Oper}{i:Nat}{rest:List Nat}{kk:List Item}(hn:b.kind=.normal)(hd:a.defers=[])(hf:P.funcs[b.fn]?=some fn)
 (hr:(results fn a.tmps).run P w=.ok v w)(h:af P S Ψ (b'.at (a'.put ((ops[i]?).bind (·.dst)) v) (.inRegion ops rest::kk)) cs w):af P S Ψ (eC b a todo) (b'.at a' (.inRegion ops (i::rest)::kk)::cs) w:=
 af.walk λρ W hS eG hcs _=>by
  refine aj.step' rfl λaF hr1=>?_;have hS1:=hS.rely hr1;obtain⟨hv,es,hstep,gi⟩:=wj (main:=true) (fr:=eC b a []) hC (BV hn hd ⟨fn,hf⟩ rfl) eG hS1 rfl hf hr (bP ρ (b'.at a' (.inRegion ops (i::rest)::kk))) (cs.map (bP ρ)++Ψ.bot);have nI:∀r,r<w.heap.size→cL ρ w.heap.size aF.heap.size r=ρ r:=λr hlt=>aR hlt;have e0:bP ρ (eC b a todo)=bP (cL ρ w.heap.size aF.heap.size) (eC b a todo):=dw eG (λr hlt=>(nI r hlt).symm) (λ_=>rfl);have e1:bP ρ (b'.at a' (.inRegion ops (i::rest)::kk))=bP (cL ρ w.heap.size aF.heap.size) (b'.at a' (.inRegion ops (i::rest)::kk)):=dw (hcs _ zau) (λr hlt=>(nI r hlt).symm) (λ_=>rfl);have e2:cs.map (bP ρ)=cs.map (bP (cL ρ w.heap.size aF.heap.size)):=eO (λr hlt=>(nI r hlt).symm) (λ_=>rfl) λf hf=>hcs f (zax _ hf);have nS:(bP ρ (b'.at a' (.inRegion ops (i::rest)::kk))).finish (rv (cL ρ w.heap.size aF.heap.size) v)=bP (cL ρ w.heap.size aF.heap.size) (b'.at (a'.put ((ops[i]?).bind (·.dst)) v) (.inRegion ops rest::kk)):=by
   rw[e1,pY,pY,Frame.finish_at,nZ]
  rw[nS]at hstep;refine⟨_,aF,es,by rw[e0,Gs];exact yT (a:=a.rn (cL ρ w.heap.size aF.heap.size)) [] todo hn hd hstep,⟨rfl,rfl,rfl,zaa _,λ_ _ _=>rfl,λe he=>?_⟩,?_⟩
  ·have:=l5 (ro:=Ψ.ro) (gi e he);rw[cv]at this;exact this.mono λb hb=> .inl hb
  ·rw[jf _ rfl,e2];exact aj.co h hS1 (λx hx=>by rwa[cv]at hx) (pI.put (P:=P) (hcs _ zau) _ hv) (λf hf=>hcs f (zax _ hf)) ⟨zaa _,λr hr=>aR hr⟩
end
section
variable {P:Program}{main:Bool}{ro own:Nat→Prop}{Stop:(Nat→Prop)→Goroutine→World→Prop}{W:World}{b:Frame}{a:Act}{ops:Array Oper}{i:Nat}{rest:List Nat}{o:Oper}{kk:List Item}{cs:List Frame}
theorem aj.Ah (ho:ops[i]?=some o)(hw:Region.wanted o (yielded ops a.tmps)=true)(hk:b.kind≠.early){dd:Option Tmp}(hdd:o.dst=dd){e:TypeId}{x:Operand}(hop:o.op=.load e x){ad:Addr}(hx:a.eval x=.pointer (some ad))(hr:ro ad.block){v:Value}(hv:W.cell? ad=some v)
 (hl:∀(w:World),w.cell? ad=some v→(Instr.loadAt e (.pointer (some ad))).run P w=.ok v w∧∀ev∈(Instr.loadAt e (.pointer (some ad))).events P w #[],ev.loc=.cell ad∧ev.write=false)
 (k:aj P main ro Stop own (G (b.at (a.put dd v) (.inRegion ops rest::kk)) cs) W):aj P main ro Stop own (G (b.at a (.inRegion ops (i::rest)::kk)) cs) W:=by
 subst hdd;refine aj.step' rfl λaF hR=>?_;have hc:aF.cell? ad=some v:=by
  rw[←hv];simp only[World.cell?,hR.block _ (.inr hr)]
 obtain⟨h1,h2⟩:=hl aF hc;have hrun:(execOp a.eval o).run P aF=.ok (.value v) aF:=by
  unfold execOp;simp[hop,hx,h1]
 have gi:(execOp a.eval o).events P aF #[]=(Instr.loadAt e (.pointer (some ad))).events P aF #[]:=by
  unfold execOp;simp[hop,hx]
 refine⟨_,aF,_,stepG_value ho hw hk hrun,⟨rfl,rfl,rfl,zaa _,λ_ _ _=>rfl,λev he=>?_⟩,?_⟩
 ·unfold listed at he;rw[gi]at he;obtain⟨h3,h4⟩:=h2 ev (mem_seen he);unfold yO;rw[h3];exact .inr ⟨hr,h4⟩
 ·rw[jf own rfl];exact k.rely hR
end
end Go.Ren
