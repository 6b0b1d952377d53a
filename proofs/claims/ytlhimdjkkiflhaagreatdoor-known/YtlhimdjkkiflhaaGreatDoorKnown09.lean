import Derived.Test.YtlhimdjkkiflhaaGreatDoorKnown08
set_option maxHeartbeats 8000000
set_option maxRecDepth 100000
namespace Go.Ren
open Go Go.Conc
structure Ci (P:Program) (F:FuncId→Bool) (S:Sd) (fr:Frame):Prop where
 defers:fr.defers=[]
 mode:fr.mode=.run∨fr.mode=.returning
 kind:fr.kind=.normal
 round:fr.roundOf=none
 todo:(fr.todo.take 1).all (aB P F S)=true
 fn:∃f,P.funcs[fr.fn]?=some f
section
variable {P:Program}{F:FuncId→Bool}{S:Sd}{main:Bool}{cs:List Frame}
theorem fH {fr fr':Frame}{above vT:List Frame}(h:Ci P F S fr){w w':World}{es:Array Event}(hr:(aJ P fr above).runT P w #[]=(.ok (fr',vT) w',es)):stepG P main (G fr (above++cs)) w=.go (G fr' (vT++cs)) w' (seen P fr.fn es):=by
 obtain⟨fn0,tmps,todo,defers,mode,kind,oH⟩:=fr;obtain⟨hd,hm,hk,et,hand,Mk⟩:=h;simp only at hd hm hk et hand Mk;subst hd hk et;have none_:seen P fn0 #[]=#[]:=by simp[seen]
 rcases hm with rfl|rfl
 ·match todo,hand,hr with
  |[],hand,hr=>
   simp only[aJ,pure,Sem.runT,zab,Result.ok.injEq]at hr;obtain⟨⟨⟨rfl,rfl⟩,rfl⟩,rfl⟩:=hr;simp[G,stepG,stepG.exec,none_]
  |.code .ret::k,hand,hr=>
   simp only[aJ,pure,Sem.runT,zab,Result.ok.injEq]at hr;obtain⟨⟨⟨rfl,rfl⟩,rfl⟩,rfl⟩:=hr;simp[G,stepG,stepG.exec,none_]
  |.code .skip::k,hand,hr=>
   simp only[aJ,pure,Sem.runT,zab,Result.ok.injEq]at hr;obtain⟨⟨⟨rfl,rfl⟩,rfl⟩,rfl⟩:=hr;simp[G,stepG,stepG.exec,none_]
  |.inBlock _::k,hand,hr=>
   simp only[aJ,pure,Sem.runT,zab,Result.ok.injEq]at hr;obtain⟨⟨⟨rfl,rfl⟩,rfl⟩,rfl⟩:=hr;simp[G,stepG,stepG.exec,none_]
  |.code (.seq a b)::k,hand,hr=>
   simp only[aJ,pure,Sem.runT,zab,Result.ok.injEq]at hr;obtain⟨⟨⟨rfl,rfl⟩,rfl⟩,rfl⟩:=hr;simp[G,stepG,stepG.exec,none_]
  |.code (.block id a)::k,hand,hr=>
   simp only[aJ,pure,Sem.runT,zab,Result.ok.injEq]at hr;obtain⟨⟨⟨rfl,rfl⟩,rfl⟩,rfl⟩:=hr;simp[G,stepG,stepG.exec,none_]
  |.code (.loop a)::k,hand,hr=>
   simp only[aJ,pure,Sem.runT,zab,Result.ok.injEq]at hr;obtain⟨⟨⟨rfl,rfl⟩,rfl⟩,rfl⟩:=hr;simp[G,stepG,stepG.exec,none_]
  |.inLoop a::k,hand,hr=>
   simp only[aJ,pure,Sem.runT,zab,Result.ok.injEq]at hr;obtain⟨⟨⟨rfl,rfl⟩,rfl⟩,rfl⟩:=hr;simp[G,stepG,stepG.exec,none_]
  |.inRegion _ []::k,hand,hr=>
   simp only[aJ,pure,Sem.runT,zab,Result.ok.injEq]at hr;obtain⟨⟨⟨rfl,rfl⟩,rfl⟩,rfl⟩:=hr;simp[G,stepG,stepG.exec,none_]
  |.code (.cond c a b)::k,hand,hr=>
   simp only[aJ]at hr;generalize hq:Frame.eval _ c=q at hr;cases q with
   |bool t=>
    simp only[pure,Sem.runT,zab,Result.ok.injEq]at hr;obtain⟨⟨⟨rfl,rfl⟩,rfl⟩,rfl⟩:=hr;simp[G,stepG,stepG.exec,none_,hq]
   |_=>simp[stuck]at hr
  |.code (.exit id)::k,hand,hr=>
   simp only[aJ]at hr;cases he:exitTo id k with
   |none=>rw[he]at hr;simp[stuck]at hr
   |some k'=>
    rw[he]at hr;simp only[pure,Sem.runT,zab,Result.ok.injEq]at hr;obtain⟨⟨⟨rfl,rfl⟩,rfl⟩,rfl⟩:=hr;simp[G,stepG,stepG.exec,none_,he]
  |.code (.region id ops draw)::k,hand,hr=>
   cases draw with
   |false=>
    simp only[aJ,pure,Sem.runT,zab,Result.ok.injEq,zau,if_false]at hr;obtain⟨⟨⟨rfl,rfl⟩,rfl⟩,rfl⟩:=hr;simp[G,stepG,stepG.exec,none_]
   |true=>
    simp only[aJ,if_true,bind,choose,Sem.bind,Sem.runT,Question.forced,zau,if_false,pure,zab,Result.ok.injEq,Question.cut]at hr;obtain⟨⟨⟨rfl,rfl⟩,rfl⟩,rfl⟩:=hr;simp[G,stepG,stepG.exec,none_,choose,Sem.run,Question.forced,Question.cut]
  |.inRegion ops (i::rest)::k,hand,hr=>
   simp only[aJ]at hr;by_cases hw:((ops[i]?).map (Region.wanted · (yielded ops tmps))).getD false=true
   ·rw[if_pos hw]at hr;cases ho:ops[i]? with
    |none=>rw[ho]at hr;simp[stuck]at hr
    |some o=>
     rw[ho]at hr;dsimp only at hr;have hstep:stepG P main (G ⟨fn0,tmps,.inRegion ops (i::rest)::k,[],.run,.normal,none⟩ (above++cs)) w=
      stepG.apply P true ⟨fn0,tmps,.inRegion ops (i::rest)::k,[],.run,.normal,none⟩ (above++cs) none (execOp (Frame.eval ⟨fn0,tmps,.inRegion ops (i::rest)::k,[],.run,.normal,none⟩) o) w:=by
      rw[ho]at hw;have hw':Region.wanted o (yielded ops tmps)=true:=by simpa using hw
      simp[G,stepG,stepG.exec,stepG.oper,Frame.oper?,ho,hw']
     rw[hstep];generalize hex:(execOp (Frame.eval ⟨fn0,tmps,.inRegion ops (i::rest)::k,[],.run,.normal,none⟩) o)=ex at hr;rw[br]at hr;cases hrun:ex.runT P w #[]with
     |mk r cM=>
      rw[hrun]at hr;cases r with
      |halt hh w1=>simp at hr
      |ok nx w1=>
       dsimp only at hr;cases nx<;>simp only[pure,stuck,Sem.runT,zab,Result.ok.injEq,reduceCtorEq,false_and]at hr;all_goals
        obtain⟨⟨⟨rfl,rfl⟩,rfl⟩,rfl⟩:=hr;have h1:=congrArg Prod.fst hrun;have h2:=congrArg Prod.snd hrun;simp at h1 h2;simp[stepG.apply,h1,h2,G,GStep.after]
   ·rw[if_neg hw]at hr;simp only[pure,Sem.runT,zab,Result.ok.injEq]at hr;obtain⟨⟨⟨rfl,rfl⟩,rfl⟩,rfl⟩:=hr;simp only[Bool.not_eq_true]at hw;simp[G,stepG,stepG.exec,none_,hw,Frame.finish]
  |.code (.rangeFunc ..)::k,hand,hr=>simp[aB,aG]at hand
  |.code (.scope ..)::k,hand,hr=>simp[aB,aG]at hand
  |.code (.label ..)::k,hand,hr=>simp[aB,aG]at hand
  |.code (.goto ..)::k,hand,hr=>simp[aB,aG]at hand
  |.code (.refuse ..)::k,hand,hr=>simp[aJ,stuck]at hr
  |.inScope c::k,hand,hr=>simp[aB]at hand
  |.inRangeFunc c::k,hand,hr=>simp[aB]at hand
  |.endRangeFunc c::k,hand,hr=>simp[aB]at hand
  |.beginRound::k,hand,hr=>simp[aB]at hand
  |.call ..::k,hand,hr=>simp[aB]at hand
  |.extern ..::k,hand,hr=>simp[aB]at hand
 ·obtain⟨fn,h1⟩:=Mk;simp only[aJ,h1]at hr;rw[br]at hr;cases hrun:(results fn tmps).runT P w #[]with
  |mk r cM=>
   rw[hrun]at hr;cases r with
   |halt hh w1=>simp at hr
   |ok v w1=>
    dsimp only at hr;cases above with
    |nil=>simp[stuck]at hr
    |cons c rest=>
     simp only[pure,Sem.runT,zab,Result.ok.injEq]at hr;obtain⟨⟨⟨rfl,rfl⟩,rfl⟩,rfl⟩:=hr;have q1:=congrArg Prod.fst hrun;have q2:=congrArg Prod.snd hrun;simp at q1 q2;simp[G,stepG,unwind,h1,q1,q2,doReturn,GStep.after]
end
abbrev lF:Item:= .code (.refuse default)
def gG (k:List Item)(x:Frame):Frame:={ x with todo:=x.todo.dropLast++k }
def sS (k:List Item):List Frame→List Frame
 |[]=>[]
 |[x]=>[gG k x]
 |c::d::r=>c::sS k (d::r)
structure Ju (x:Frame) (l:List Item):Prop where
 todo:x.todo=l++[lF]
 run:x.mode=.run
theorem dX (l:List Item):(l++[lF]).dropLast=l:=by simp
theorem cU {id:Nat}(k:List Item):∀{l k':List Item},exitTo id (l++[lF])=some k'→∃l',k'=l'++[lF]∧exitTo id (l++k)=some (l'++k)
 |[],k',h=>by simp[exitTo,lF]at h
 |.inBlock id'::l,k',h=>by
  simp only[zay,exitTo]at h ⊢;split at h
  ·rename_i e;rw[if_pos e];cases h;exact⟨l,rfl,rfl⟩
  ·rename_i e;rw[if_neg e];exact cU k h
 |.code c::l,k',h=>by simp only[zay,exitTo]at h ⊢;exact cU k h
 |.inLoop c::l,k',h=>by simp only[zay,exitTo]at h ⊢;exact cU k h
 |.inRegion ..::l,k',h=>by simp only[zay,exitTo]at h ⊢;exact cU k h
 |.inScope c::l,k',h=>by simp only[zay,exitTo]at h ⊢;exact cU k h
 |.inRangeFunc c::l,k',h=>by simp only[zay,exitTo]at h ⊢;exact cU k h
 |.endRangeFunc c::l,k',h=>by simp only[zay,exitTo]at h ⊢;exact cU k h
 |.beginRound::l,k',h=>by simp only[zay,exitTo]at h ⊢;exact cU k h
 |.call ..::l,k',h=>by simp only[zay,exitTo]at h ⊢;exact cU k h
 |.extern ..::l,k',h=>by simp only[zay,exitTo]at h ⊢;exact cU k h
section
variable {P:Program}{F:FuncId→Bool}{S:Sd}{w w1:World}{es:Array Event}
theorem tX (k:List Item){x:Frame}{h:Item}{l:List Item}(hb:x.todo=h::l++[lF])(hh:aB P F S h=true)(v:Value):(gG k x).finish v=gG k (x.finish v)∧(x.finish v).fn=x.fn∧(x.finish v).mode=x.mode∧∃h',(x.finish v).todo=h'::l++[lF]:=by
 obtain⟨fn0,tmps,todo,defers,mode,kind,oH⟩:=x;simp only at hb;subst hb;have dl:∀(a:Item),((a::(l++[lF])).dropLast++k)=a::(l++k):=λa=>by
  rw[show a::(l++[lF])=(a::l)++[lF] from rfl,dX];rfl
 cases h with
 |inRegion ops idx=>
  cases idx with
  |nil=>exact⟨by simp only[Frame.finish,gG,zay,dl],rfl,rfl,_,rfl⟩
  |cons i rest=>exact⟨by simp only[Frame.finish,gG,zay,dl],rfl,rfl,_,rfl⟩
 |code c=>exact⟨by simp only[Frame.finish,gG,zay,dl],rfl,rfl,_,rfl⟩
 |inBlock id=>exact⟨by simp only[Frame.finish,gG,zay,dl],rfl,rfl,_,rfl⟩
 |inLoop c=>exact⟨by simp only[Frame.finish,gG,zay,dl],rfl,rfl,_,rfl⟩
 |_=>simp[aB]at hh
theorem qR (k:List Item){x:Frame}{h:Item}{l:List Item}(hb:Ju x (h::l))(hh:aB P F S h=true){f1:Frame}{a1:List Frame}(hr:(aJ P x []).runT P w #[]=(.ok (f1,a1) w1,es)):(∃l1,Ju f1 l1∧f1.fn=x.fn∧a1=[]∧(aJ P (gG k x) []).runT P w #[]=(.ok (gG k f1,[]) w1,es))∨
 (f1={ x with mode:= .returning }∧a1=[]∧(aJ P (gG k x) []).runT P w #[]=(.ok (gG k f1,[]) w1,es))∨
 (a1=[x]∧(aJ P (gG k x) []).runT P w #[]=(.ok (f1,[gG k x]) w1,es)):=by
 obtain⟨fn0,tmps,todo,defers,mode,kind,oH⟩:=x;obtain⟨ht,hm⟩:=hb;simp only at ht hm;subst ht hm;have dl:∀(a:Item),((a::(l++[lF])).dropLast++k)=a::(l++k):=λa=>by
  rw[show a::(l++[lF])=(a::l)++[lF] from rfl,dX];rfl
 have dl0:(l++[lF]).dropLast++k=l++k:=by rw[dX]
 simp only[zay,gG,dl]at hr ⊢
 match h,hh,hr with
 |.code .ret,_,hr=>
  simp only[aJ,pure,Sem.runT,zab,Result.ok.injEq]at hr;obtain⟨⟨⟨rfl,rfl⟩,rfl⟩,rfl⟩:=hr;exact .inr (.inl ⟨rfl,rfl,by simp only[aJ,pure,Sem.runT,dl]⟩)
 |.code .skip,_,hr=>
  simp only[aJ,pure,Sem.runT,zab,Result.ok.injEq]at hr;obtain⟨⟨⟨rfl,rfl⟩,rfl⟩,rfl⟩:=hr;exact .inl ⟨l,⟨rfl,rfl⟩,rfl,rfl,by simp only[aJ,pure,Sem.runT,dl0]⟩
 |.inBlock _,_,hr=>
  simp only[aJ,pure,Sem.runT,zab,Result.ok.injEq]at hr;obtain⟨⟨⟨rfl,rfl⟩,rfl⟩,rfl⟩:=hr;exact .inl ⟨l,⟨rfl,rfl⟩,rfl,rfl,by simp only[aJ,pure,Sem.runT,dl0]⟩
 |.code (.seq a b),_,hr=>
  simp only[aJ,pure,Sem.runT,zab,Result.ok.injEq]at hr;obtain⟨⟨⟨rfl,rfl⟩,rfl⟩,rfl⟩:=hr;refine .inl ⟨.code a::.code b::l,⟨rfl,rfl⟩,rfl,rfl,?_⟩;have:(Item.code a::Item.code b::(l++[lF])).dropLast++k=.code a::.code b::(l++k):=by rw[show Item.code a::Item.code b::(l++[lF])=(Item.code a::Item.code b::l)++[lF] from rfl,dX];rfl
  simp only[aJ,pure,Sem.runT,this]
 |.code (.block id a),_,hr=>
  simp only[aJ,pure,Sem.runT,zab,Result.ok.injEq]at hr;obtain⟨⟨⟨rfl,rfl⟩,rfl⟩,rfl⟩:=hr;refine .inl ⟨.code a::.inBlock id::l,⟨rfl,rfl⟩,rfl,rfl,?_⟩;have:(Item.code a::Item.inBlock id::(l++[lF])).dropLast++k=.code a::.inBlock id::(l++k):=by rw[show Item.code a::Item.inBlock id::(l++[lF])=(Item.code a::Item.inBlock id::l)++[lF] from rfl,dX];rfl
  simp only[aJ,pure,Sem.runT,this]
 |.code (.loop a),_,hr=>
  simp only[aJ,pure,Sem.runT,zab,Result.ok.injEq]at hr;obtain⟨⟨⟨rfl,rfl⟩,rfl⟩,rfl⟩:=hr;refine .inl ⟨.code a::.inLoop a::l,⟨rfl,rfl⟩,rfl,rfl,?_⟩;have:(Item.code a::Item.inLoop a::(l++[lF])).dropLast++k=.code a::.inLoop a::(l++k):=by rw[show Item.code a::Item.inLoop a::(l++[lF])=(Item.code a::Item.inLoop a::l)++[lF] from rfl,dX];rfl
  simp only[aJ,pure,Sem.runT,this]
 |.inLoop a,_,hr=>
  simp only[aJ,pure,Sem.runT,zab,Result.ok.injEq]at hr;obtain⟨⟨⟨rfl,rfl⟩,rfl⟩,rfl⟩:=hr;refine .inl ⟨.code a::.inLoop a::l,⟨rfl,rfl⟩,rfl,rfl,?_⟩;have:(Item.code a::Item.inLoop a::(l++[lF])).dropLast++k=.code a::.inLoop a::(l++k):=by rw[show Item.code a::Item.inLoop a::(l++[lF])=(Item.code a::Item.inLoop a::l)++[lF] from rfl,dX];rfl
  simp only[aJ,pure,Sem.runT,this]
 |.inRegion _ [],_,hr=>
  simp only[aJ,pure,Sem.runT,zab,Result.ok.injEq]at hr;obtain⟨⟨⟨rfl,rfl⟩,rfl⟩,rfl⟩:=hr;exact .inl ⟨l,⟨rfl,rfl⟩,rfl,rfl,by simp only[aJ,pure,Sem.runT,dl0]⟩
 |.code (.cond c a b),_,hr=>
  simp only[aJ]at hr ⊢;have ev:Frame.eval ⟨fn0,tmps,.code (.cond c a b)::(l++k),defers,.run,kind,oH⟩ c=Frame.eval ⟨fn0,tmps,.code (.cond c a b)::(l++[lF]),defers,.run,kind,oH⟩ c:=by cases c<;>rfl
  rw[ev];generalize Frame.eval ⟨fn0,tmps,.code (.cond c a b)::(l++[lF]),defers,.run,kind,oH⟩ c=q at hr ⊢;cases q with
  |bool t=>
   simp only[pure,Sem.runT,zab,Result.ok.injEq]at hr;obtain⟨⟨⟨rfl,rfl⟩,rfl⟩,rfl⟩:=hr;exact .inl ⟨.code (if t then a else b)::l,⟨rfl,rfl⟩,rfl,rfl,by simp only[pure,Sem.runT,dl]⟩
  |_=>simp[stuck]at hr
 |.code (.exit id),_,hr=>
  simp only[aJ]at hr ⊢;cases he:exitTo id (l++[lF])with
  |none=>rw[he]at hr;simp[stuck]at hr
  |some k'=>
   rw[he]at hr;obtain⟨l',rfl,h2⟩:=cU k he;rw[h2];simp only[pure,Sem.runT,zab,Result.ok.injEq]at hr;obtain⟨⟨⟨rfl,rfl⟩,rfl⟩,rfl⟩:=hr;exact .inl ⟨l',⟨rfl,rfl⟩,rfl,rfl,by simp only[pure,Sem.runT,dX]⟩
 |.code (.region id ops draw),_,hr=>
  cases draw with
  |false=>
   simp only[aJ,pure,Sem.runT,zab,Result.ok.injEq,zau,if_false]at hr ⊢;obtain⟨⟨⟨rfl,rfl⟩,rfl⟩,rfl⟩:=hr;exact .inl ⟨.inRegion ops (List.range ops.size)::l,⟨rfl,rfl⟩,rfl,rfl,by simp only[dl,and_self]⟩
  |true=>
   simp only[aJ,if_true,bind,choose,Sem.bind,Sem.runT,Question.forced,zau,if_false,pure,zab,Result.ok.injEq,Question.cut]at hr ⊢;obtain⟨⟨⟨rfl,rfl⟩,rfl⟩,rfl⟩:=hr;exact .inl ⟨.inRegion ops _::l,⟨rfl,rfl⟩,rfl,rfl,by simp only[dl,and_self]⟩
 |.inRegion ops (i::rest),_,hr=>
  simp only[aJ]at hr ⊢;have ev:Frame.eval ⟨fn0,tmps,.inRegion ops (i::rest)::(l++k),defers,.run,kind,oH⟩=Frame.eval ⟨fn0,tmps,.inRegion ops (i::rest)::(l++[lF]),defers,.run,kind,oH⟩:=by funext c;cases c<;>rfl
  rw[ev];have fin:∀v,(⟨fn0,tmps,.inRegion ops (i::rest)::(l++k),defers,.run,kind,oH⟩:Frame).finish v=gG k ((⟨fn0,tmps,.inRegion ops (i::rest)::(l++[lF]),defers,.run,kind,oH⟩:Frame).finish v):=λv=>by
   simp only[Frame.finish,gG,dl]
  have bot:∀v,Ju ((⟨fn0,tmps,.inRegion ops (i::rest)::(l++[lF]),defers,.run,kind,oH⟩:Frame).finish v) (.inRegion ops rest::l):=λv=>⟨rfl,rfl⟩;by_cases hw:((ops[i]?).map (Region.wanted · (yielded ops tmps))).getD false=true
  ·rw[if_pos hw]at hr ⊢;cases ho:ops[i]? with
   |none=>rw[ho]at hr;simp[stuck]at hr
   |some o=>
    rw[ho]at hr;dsimp only at hr ⊢;generalize (execOp (Frame.eval ⟨fn0,tmps,.inRegion ops (i::rest)::(l++[lF]),defers,.run,kind,oH⟩) o)=ex at hr ⊢;rw[br]at hr ⊢;cases hrun:ex.runT P w #[]with
    |mk r cM=>
     rw[hrun]at hr;cases r with
     |halt hh w1=>simp at hr
     |ok nx w1=>
      dsimp only at hr ⊢;cases nx with
      |value v=>
       simp only[pure,Sem.runT,zab,Result.ok.injEq]at hr;obtain⟨⟨⟨rfl,rfl⟩,rfl⟩,rfl⟩:=hr;exact .inl ⟨_,bot v,rfl,rfl,by simp only[pure,Sem.runT,fin];rfl⟩
      |skip=>
       simp only[pure,Sem.runT,zab,Result.ok.injEq]at hr;obtain⟨⟨⟨rfl,rfl⟩,rfl⟩,rfl⟩:=hr;exact .inl ⟨_,bot undef,rfl,rfl,by simp only[pure,Sem.runT,fin];rfl⟩
      |enter f args=>
       simp only[pure,Sem.runT,zab,Result.ok.injEq]at hr;obtain⟨⟨⟨rfl,rfl⟩,rfl⟩,rfl⟩:=hr;exact .inr (.inr ⟨rfl,rfl⟩)
      |_=>simp[stuck]at hr
  ·rw[if_neg hw]at hr ⊢;simp only[pure,Sem.runT,zab,Result.ok.injEq]at hr;obtain⟨⟨⟨rfl,rfl⟩,rfl⟩,rfl⟩:=hr;exact .inl ⟨_,bot undef,rfl,rfl,by simp only[pure,Sem.runT,fin];rfl⟩
 |.code (.rangeFunc ..),hh,hr=>simp[aB,aG]at hh
 |.code (.scope ..),hh,hr=>simp[aB,aG]at hh
 |.code (.label ..),hh,hr=>simp[aB,aG]at hh
 |.code (.goto ..),hh,hr=>simp[aB,aG]at hh
 |.code (.refuse ..),hh,hr=>simp[aJ,stuck]at hr
 |.inScope c,hh,hr=>simp[aB]at hh
 |.inRangeFunc c,hh,hr=>simp[aB]at hh
 |.endRangeFunc c,hh,hr=>simp[aB]at hh
 |.beginRound,hh,hr=>simp[aB]at hh
 |.call ..,hh,hr=>simp[aB]at hh
 |.extern ..,hh,hr=>simp[aB]at hh
end
section
variable {P:Program}{F:FuncId→Bool}{S:Sd}{w w1:World}{es:Array Event}
theorem Az {f:Frame}{c:Frame}{r:List Frame}{f1:Frame}{a1:List Frame}(hr:(aJ P f (c::r)).runT P w #[]=(.ok (f1,a1) w1,es)):(∃p,a1=p++c::r∧∀ab,(aJ P f ab).runT P w #[]=(.ok (f1,p++ab) w1,es))∨(∃v,f1=c.finish v∧a1=r∧∀c' r',(aJ P f (c'::r')).runT P w #[]=(.ok (c'.finish v,r') w1,es)):=by
 obtain⟨fn0,tmps,todo,defers,mode,kind,oH⟩:=f;by_cases hm:mode=.run
 ·left;subst hm
  match todo,hr with
  |[],hr=>
   simp only[aJ,pure,Sem.runT,zab,Result.ok.injEq]at hr;obtain⟨⟨⟨rfl,rfl⟩,rfl⟩,rfl⟩:=hr;exact⟨[],rfl,λab=>rfl⟩
  |.code .ret::k,hr=>
   simp only[aJ,pure,Sem.runT,zab,Result.ok.injEq]at hr;obtain⟨⟨⟨rfl,rfl⟩,rfl⟩,rfl⟩:=hr;exact⟨[],rfl,λab=>rfl⟩
  |.code .skip::k,hr=>
   simp only[aJ,pure,Sem.runT,zab,Result.ok.injEq]at hr;obtain⟨⟨⟨rfl,rfl⟩,rfl⟩,rfl⟩:=hr;exact⟨[],rfl,λab=>rfl⟩
  |.inBlock _::k,hr=>
   simp only[aJ,pure,Sem.runT,zab,Result.ok.injEq]at hr;obtain⟨⟨⟨rfl,rfl⟩,rfl⟩,rfl⟩:=hr;exact⟨[],rfl,λab=>rfl⟩
  |.code (.seq a b)::k,hr=>
   simp only[aJ,pure,Sem.runT,zab,Result.ok.injEq]at hr;obtain⟨⟨⟨rfl,rfl⟩,rfl⟩,rfl⟩:=hr;exact⟨[],rfl,λab=>rfl⟩
  |.code (.block id a)::k,hr=>
   simp only[aJ,pure,Sem.runT,zab,Result.ok.injEq]at hr;obtain⟨⟨⟨rfl,rfl⟩,rfl⟩,rfl⟩:=hr;exact⟨[],rfl,λab=>rfl⟩
  |.code (.loop a)::k,hr=>
   simp only[aJ,pure,Sem.runT,zab,Result.ok.injEq]at hr;obtain⟨⟨⟨rfl,rfl⟩,rfl⟩,rfl⟩:=hr;exact⟨[],rfl,λab=>rfl⟩
  |.inLoop a::k,hr=>
   simp only[aJ,pure,Sem.runT,zab,Result.ok.injEq]at hr;obtain⟨⟨⟨rfl,rfl⟩,rfl⟩,rfl⟩:=hr;exact⟨[],rfl,λab=>rfl⟩
  |.inRegion _ []::k,hr=>
   simp only[aJ,pure,Sem.runT,zab,Result.ok.injEq]at hr;obtain⟨⟨⟨rfl,rfl⟩,rfl⟩,rfl⟩:=hr;exact⟨[],rfl,λab=>rfl⟩
  |.code (.cond c a b)::k,hr=>
   simp only[aJ]at hr ⊢;generalize Frame.eval _ c=q at hr ⊢;cases q with
   |bool t=>
    simp only[pure,Sem.runT,zab,Result.ok.injEq]at hr;obtain⟨⟨⟨rfl,rfl⟩,rfl⟩,rfl⟩:=hr;exact⟨[],rfl,λab=>rfl⟩
   |_=>simp[stuck]at hr
  |.code (.exit id)::k,hr=>
   simp only[aJ]at hr ⊢;cases he:exitTo id k with
   |none=>rw[he]at hr;simp[stuck]at hr
   |some k'=>
    rw[he]at hr;simp only[pure,Sem.runT,zab,Result.ok.injEq]at hr;obtain⟨⟨⟨rfl,rfl⟩,rfl⟩,rfl⟩:=hr;exact⟨[],rfl,λab=>rfl⟩
  |.code (.region id ops draw)::k,hr=>
   cases draw with
   |false=>
    simp only[aJ,pure,Sem.runT,zab,Result.ok.injEq,zau,if_false]at hr;obtain⟨⟨⟨rfl,rfl⟩,rfl⟩,rfl⟩:=hr;exact⟨[],rfl,λab=>rfl⟩
   |true=>
    simp only[aJ,if_true,bind,choose,Sem.bind,Sem.runT,Question.forced,zau,if_false,pure,zab,Result.ok.injEq,Question.cut]at hr;obtain⟨⟨⟨rfl,rfl⟩,rfl⟩,rfl⟩:=hr;exact⟨[],rfl,λab=>by simp only[aJ,if_true,bind,choose,Sem.bind,Sem.runT,Question.forced,zau,if_false,pure,Question.cut,List.nil_append]⟩
  |.inRegion ops (i::rest)::k,hr=>
   simp only[aJ]at hr ⊢;by_cases hw:((ops[i]?).map (Region.wanted · (yielded ops tmps))).getD false=true
   ·rw[if_pos hw]at hr;cases ho:ops[i]? with
    |none=>rw[ho]at hr;simp[stuck]at hr
    |some o=>
     rw[ho]at hr hw;dsimp only at hr ⊢;simp only[if_pos hw];generalize (execOp (Frame.eval ⟨fn0,tmps,.inRegion ops (i::rest)::k,defers,.run,kind,oH⟩) o)=ex at hr ⊢;rw[br]at hr;simp only[br];cases hrun:ex.runT P w #[]with
     |mk q cM=>
      rw[hrun]at hr;cases q with
      |halt hh w1=>simp at hr
      |ok nx w1=>
       dsimp only at hr ⊢;cases nx with
       |value v=>
        simp only[pure,Sem.runT,zab,Result.ok.injEq]at hr;obtain⟨⟨⟨rfl,rfl⟩,rfl⟩,rfl⟩:=hr;exact⟨[],rfl,λab=>rfl⟩
       |skip=>
        simp only[pure,Sem.runT,zab,Result.ok.injEq]at hr;obtain⟨⟨⟨rfl,rfl⟩,rfl⟩,rfl⟩:=hr;exact⟨[],rfl,λab=>rfl⟩
       |enter f args=>
        simp only[pure,Sem.runT,zab,Result.ok.injEq]at hr;obtain⟨⟨⟨rfl,rfl⟩,rfl⟩,rfl⟩:=hr;exact⟨[⟨fn0,tmps,.inRegion ops (i::rest)::k,defers,.run,kind,oH⟩],rfl,λab=>rfl⟩
       |_=>simp[stuck]at hr
   ·rw[if_neg hw]at hr;simp only[if_neg hw];simp only[pure,Sem.runT,zab,Result.ok.injEq]at hr;obtain⟨⟨⟨rfl,rfl⟩,rfl⟩,rfl⟩:=hr;exact⟨[],rfl,λab=>rfl⟩
  |.code (.rangeFunc ..)::k,hr=>simp[aJ,stuck]at hr
  |.code (.scope ..)::k,hr=>simp[aJ,stuck]at hr
  |.code (.label ..)::k,hr=>simp[aJ,stuck]at hr
  |.code (.goto ..)::k,hr=>simp[aJ,stuck]at hr
  |.code (.refuse ..)::k,hr=>simp[aJ,stuck]at hr
  |.inScope c::k,hr=>simp[aJ,stuck]at hr
  |.inRangeFunc c::k,hr=>simp[aJ,stuck]at hr
  |.endRangeFunc c::k,hr=>simp[aJ,stuck]at hr
  |.beginRound::k,hr=>simp[aJ,stuck]at hr
  |.call ..::k,hr=>simp[aJ,stuck]at hr
  |.extern ..::k,hr=>simp[aJ,stuck]at hr
 ·right;have key:∀ab,aJ P ⟨fn0,tmps,todo,defers,mode,kind,oH⟩ ab=match P.funcs[fn0]? with
   |some fn=>do
    let v ←results fn tmps
    match ab with
    |c::rest=>pure (c.finish v,rest)
    |[]=>stuck ""
   |none=>stuck "" :=λab=>by
   cases mode with
   |run=>exact absurd rfl hm
   |_=>rfl
  rw[key]at hr;simp only[key];cases hf:P.funcs[fn0]? with
  |none=>rw[hf]at hr;simp[stuck]at hr
  |some fn=>
   rw[hf]at hr;dsimp only at hr ⊢;rw[br]at hr;simp only[br];cases hrun:(results fn tmps).runT P w #[]with
   |mk q cM=>
    rw[hrun]at hr;cases q with
    |halt hh w1=>simp at hr
    |ok v w1=>
     simp only[pure,Sem.runT,zab,Result.ok.injEq]at hr;obtain⟨⟨⟨rfl,rfl⟩,rfl⟩,rfl⟩:=hr;exact⟨v,rfl,rfl,λc' r'=>rfl⟩
theorem MK {f:Frame}(hm:f.mode≠.run){f1:Frame}{a1:List Frame}(hr:(aJ P f []).runT P w #[]=(.ok (f1,a1) w1,es)):False:=by
 obtain⟨fn0,tmps,todo,defers,mode,kind,oH⟩:=f;have key:aJ P ⟨fn0,tmps,todo,defers,mode,kind,oH⟩ []=match P.funcs[fn0]? with
  |some fn=>do
   let _ ←results fn tmps
   stuck ""
  |none=>stuck "" :=by
  cases mode with
  |run=>exact absurd rfl hm
  |_=>rfl
 rw[key]at hr;cases hf:P.funcs[fn0]? with
 |none=>rw[hf]at hr;simp[stuck]at hr
 |some fn=>
  rw[hf]at hr;dsimp only at hr;rw[br]at hr;cases hrun:(results fn tmps).runT P w #[]with
  |mk q cM=>
   rw[hrun]at hr;cases q with
   |halt hh w1=>simp at hr
   |ok v w1=>simp[stuck]at hr
end
section
variable {P:Program}{F:FuncId→Bool}{S:Sd}{w W:World}{ρ:Rn}{k:List Item}{fn0:FuncId}{Q:Frame→List Frame→World→Prop}
theorem tY (k:List Item)(c:Frame)(r:List Frame):∀p:List Frame,sS k (p++c::r)=p++sS k (c::r)
 |[]=>rfl
 |[x]=>rfl
 |x::y::p=>by
  have:=tY k c r (y::p);simp only[zay]at this ⊢;rw[sS,this]
def sF (k:List Item)(f:Frame):List Frame→Frame
 |[]=>gG k f
 |_::_=>f
def WI (fn0:FuncId)(f:Frame)(ab:List Frame):Prop:=
 match ab.getLast? with
 |none=>f.fn=fn0∧(f.mode=.returning∨∃l,Ju f l)
 |some x=>∃h l,Ju x (h::l)∧x.fn=fn0
theorem QP {f:Frame}(h:jV P F S f):Ci P F S f:=⟨h.defers,h.mode,h.kind,h.round,by
 have:=h.todo;cases hq:f.todo with
 |nil=>rfl
 |cons x l=>rw[hq]at this;simp only[zax,zae]at this;simpa using this.1,h.fn⟩
theorem AB {x:Frame}{h:Item}{l:List Item}(hx:jV P F S x)(hb:Ju x (h::l)):aB P F S h=true:=by
 have:=hx.todo;rw[hb.todo]at this;simp only[zay,zax,zae]at this;exact this.1
theorem Jv {x:Frame}{h:Item}{l:List Item}(hx:jV P F S x)(hb:Ju x (h::l))(k:List Item):Ci P F S (gG k x):=⟨hx.defers,hx.mode,hx.kind,hx.round,by
 have e:(gG k x).todo=h::(l++k):=by
  show x.todo.dropLast++k=_;rw[hb.todo,dX];rfl
 rw[e];simpa using AB hx hb,hx.fn⟩
theorem Cj {x:Frame}(h:jV P F S x):jV P F S (bV ρ x):=⟨h.defers,h.mode,h.kind,h.round,h.todo,h.fn⟩
theorem Jw {f f1:Frame}{ab a1:List Frame}{w0 w1 W1:World}{es es':Array Event}(bX:jV P F S f)(acv:∀x∈ab,jV P F S x)(hT:WI fn0 f ab)(hn:ab=[]→∃h l,Ju f (h::l))
 (hp:(aJ P f ab).runT P w0 #[]=(.ok (f1,a1) w1,es))(hr:(aJ P (bV ρ f) (ab.map (bV ρ))).runT P W #[]=(.ok (bV ρ f1,a1.map (bV ρ)) W1,es'))(main:Bool)(cs:List Frame):
 WI fn0 f1 a1∧stepG P main (G (bV ρ (sF k f ab)) ((sS k ab).map (bV ρ)++cs)) W=.go (G (bV ρ (sF k f1 a1)) ((sS k a1).map (bV ρ)++cs)) W1 (seen P f.fn es'):=by
 cases ab with
 |nil=>
  obtain⟨hf,-⟩:=hT;obtain⟨h,l,hb⟩:=hn rfl;have hh:=AB bX hb;have hb':Ju (bV ρ f) (h::l):=⟨hb.todo,hb.run⟩;have hH:Ci P F S (gG k (bV ρ f)):=Jv (Cj bX) hb' k;rcases qR k hb hh hp with⟨l1,b1,b2,rfl,_⟩|⟨m1,rfl,_⟩|⟨rfl,_⟩
  ·rcases qR k hb' hh hr with⟨l2,c1,c2,_,c3⟩|⟨m1,_,m2⟩|⟨e,_⟩
   ·refine⟨⟨b2.trans hf,.inr ⟨l1,b1⟩⟩,?_⟩;exact fH (main:=main) (cs:=cs) hH c3
   ·have:f1.mode=.returning:=congrArg Frame.mode m1;rw[b1.run]at this;cases this
   ·simp at e
  ·rcases qR k hb' hh hr with⟨l2,c1,c2,_,c3⟩|⟨_,_,c3⟩|⟨e,_⟩
   ·have:f1.mode=.returning:=congrArg Frame.mode m1;have c4:f1.mode=.run:=c1.run;rw[c4]at this;cases this
   ·refine⟨⟨by rw[m1];exact hf,.inl (by rw[m1])⟩,?_⟩;exact fH (main:=main) (cs:=cs) hH c3
   ·simp at e
  ·rcases qR k hb' hh hr with⟨l2,c1,c2,e,c3⟩|⟨m1,e,m2⟩|⟨e,c3⟩
   ·simp at e
   ·simp at e
   ·exact⟨⟨h,l,hb,hf⟩,fH (main:=main) (cs:=cs) hH c3⟩
 |cons c r=>
  have hH:Ci P F S (bV ρ f):=QP (Cj bX);rcases Az hp with⟨p,rfl,_⟩|⟨v,rfl,rfl,_⟩
  ·rcases Az (c:=bV ρ c) (r:=r.map (bV ρ)) hr with⟨p',e,h2⟩|⟨v,_,e,_⟩
   ·have ep:p'=p.map (bV ρ):=by
     rw[zbu,zan]at e;exact(List.append_cancel_right e).symm
    subst ep;have Y2:WI fn0 f1 (p++c::r):=by
     unfold WI at hT ⊢;rw[List.getLast?_append];cases hg:(c::r).getLast? with
     |none=>simp at hg
     |some x=>rw[hg]at hT;exact hT
    refine⟨Y2,?_⟩;have e1:sF k f1 (p++c::r)=f1:=by cases p<;>rfl
    rw[e1,tY,zbu];exact fH (main:=main) (cs:=cs) hH (h2 _)
   ·have:=congrArg List.length e;simp at this;omega
  ·rcases Az (c:=bV ρ c) (r:=a1.map (bV ρ)) hr with⟨p',e,h2⟩|⟨v',e1,_,h2⟩
   ·have:=congrArg List.length e;simp at this;omega
   ·cases a1 with
    |nil=>
     obtain⟨h,l,hb,hf⟩:=hT;have hcO:=acv c zap;have hh:=AB hcO hb;obtain⟨g1,g2,g3,h',g4⟩:=tX k hb.todo hh v;obtain⟨q1,-,-,-,-⟩:=tX k (x:=bV ρ c) hb.todo hh v';refine⟨⟨g2.trans hf,.inr ⟨h'::l,⟨g4,g3.trans hb.run⟩⟩⟩,?_⟩;have h3:=fH (main:=main) (cs:=cs) hH (h2 (gG k (bV ρ c)) []);rw[q1,←e1]at h3;exact h3
    |cons d r2=>
     refine⟨?_,?_⟩
     ·unfold WI at hT ⊢;rw[List.getLast?_cons_cons]at hT;exact hT
     ·have h3:=fH (main:=main) (cs:=cs) hH (h2 (bV ρ c) ((sS k (d::r2)).map (bV ρ)));rw[←e1]at h3;exact h3
def Yg (P:Program)(F:FuncId→Bool)(S:Sd)(Q:Frame→List Frame→World→Prop)(k:List Item)(fn0:FuncId)(cs:List Frame)(jW:Rn)(n₀:Nat)(own:Nat→Prop)(g:Goroutine)(W:World):Prop:=
 ∃fr w ρ,(Ju fr []∨fr.mode=.returning)∧fr.fn=fn0∧Mp P Q fr [] w∧PI P F S fr [] w∧iH P S ρ w W∧own=Touch S.d ρ w∧g=G (bV ρ (gG k fr)) cs∧n₀≤w.heap.size∧∀r,r<n₀→ρ r=jW r
theorem AD {ρ ρ':Rn}{n:Nat}{fr:Frame}(k:List Item)(ab:List Frame)(hc:fY P S n fr)(hb:∀r,r<n→ρ r=ρ' r)(hf:∀x,ρ.f x=ρ'.f x):bV ρ (sF k fr ab)=bV ρ' (sF k fr ab):=
 ew (P:=P) (S:=S) (n:=n) (by cases ab<;>exact hc) hb hf
theorem Hq {n:Nat}(k:List Item):∀{ab:List Frame},(∀f∈ab,fY P S n f)→∀f∈sS k ab,fY P S n f
 |[],_,f,hf=>by cases hf
 |[x],h,f,hf=>by
  simp only[sS,zbC]at hf;subst hf;exact h x zap
 |c::d::r,h,f,hf=>by
  rw[sS]at hf;rcases zao.1 hf with rfl|hf
  ·exact h _ zap
  ·exact Hq k (λg hg=>h g (zas _ hg)) f hf
theorem Fw (hC:kO P F S){main:Bool}{ro:Nat→Prop}(hQ:∀f a w,Q f a w→a=[]∧(Ju f []∨f.mode=.returning)){cs:List Frame}{fr:Frame}{above:List Frame}{w:World}(hb:Mp P Q fr above w):PI P F S fr above w→WI fn0 fr above→∀(jW:Rn) (n₀:Nat) (ρ:Rn) (W:World),iH P S ρ w W→n₀≤w.heap.size→(∀r,r<n₀→ρ r=jW r)→ai P main ro (Yg P F S Q k fn0 cs jW n₀) (Touch S.d ρ w) (G (bV ρ (sF k fr above)) ((sS k above).map (bV ρ)++cs)) W:=by
 induction hb with
 | @stop fr above w h=>
   intro hI hT jW n₀ ρ W hS hn uX;obtain⟨rfl,ML⟩:=hQ _ _ _ h;have hfn:fr.fn=fn0:=hT.1;refine .stop λaH hr=>⟨fr,w,_,ML,hfn,.stop h,hI,hS.rely hr,cV.symm,?_,hn,λr hlt=>by rw[aT (by omega)];exact uX r hlt⟩;show G (bV ρ (gG k fr)) ([]++cs)=_;rw[ew (P:=P) (S:=S) (n:=w.heap.size) (fr:=gG k fr) hI.cl (ρ:=ρ) (ρ':=dD ρ w.heap.size aH.heap.size) (λr hlt=>(aT hlt).symm) (λ_=>rfl)];rfl
 | @step fr above w nf na nw ne h1 h2 ih=>
   intro hI hT jW n₀ ρ W hS hn uX;by_cases hend:above=[]∧(Ju fr []∨fr.mode=.returning)
   ·obtain⟨rfl,ML⟩:=hend;have hfn:fr.fn=fn0:=hT.1;refine .stop λaH hr=>⟨fr,w,_,ML,hfn,.step nf na nw ne h1 h2,hI,hS.rely hr,cV.symm,?_,hn,λr hlt=>by rw[aT (by omega)];exact uX r hlt⟩;show G (bV ρ (gG k fr)) ([]++cs)=_;rw[ew (P:=P) (S:=S) (n:=w.heap.size) (fr:=gG k fr) hI.cl (ρ:=ρ) (ρ':=dD ρ w.heap.size aH.heap.size) (λr hlt=>(aT hlt).symm) (λ_=>rfl)];rfl
   ·refine ai.step' rfl λaH hr=>?_;have hS1:=hS.rely hr;generalize sN:dD ρ w.heap.size aH.heap.size=cd at hS1;have Ff:∀r,r<w.heap.size→cd r=ρ r:=λr hlt=>by rw[←sN];exact aT hlt
    have Jq:∀x,cd.f x=ρ.f x:=λx=>by rw[←sN];rfl
    have hrun:=h1 aH.tape aH.drawn;have hW:WR P S cd (w.re aH.tape aH.drawn) aH:=⟨hS1.wr.live,hS1.wr.ok,hS1.wr.dead,hS1.wr.closed,hS1.wr.next,hS1.wr.low,hS1.wr.big⟩;have Yh:=hI.re aH.tape aH.drawn;have hpl:Plain P cd:=⟨λt i v a b=>hC.zero t i v a b _,hS1.inj⟩;have yj:=Aj (ρ:=cd) hC hpl hS1.fix Yh.ok Yh.oks (λv _=> .inl hS1.kH) (λv hv=>iN (Yh.cl v hv));obtain⟨bb,W2,es',r1,⟨rfl,o1,o2⟩,r3,q1,q2,r6⟩:=cS hpl (λo=> .inl hS1.kH) _ _ _ (λn=>FF P F S (sg S S.d n)) (w.re aH.tape aH.drawn) aH #[] #[] _ _ _ yj (sL hC Yh) hW (λj _ q=>rfl) hrun;have q3:∀e∈es',mX S.d cd (nw aH.tape aH.drawn) e:=λe he=>(r6 e he).resolve_left (by simp);have hI2:=(dU hC Yh hrun).1;have Ui:iH P S cd (w.re aH.tape aH.drawn) aH:=⟨hW,hS1.inj,hS1.kH,hS1.f,hS1.oX⟩;have Mr:iH P S cd (nw aH.tape aH.drawn) W2:=⟨q1,hS1.inj,hS1.kH,hS1.f,by have:=hS1.oX;have h3:=q2.size;have h4:=q2.fX;omega⟩;have hgrow:Touch S.d cd (nw aH.tape aH.drawn)=Grow (Touch S.d ρ w) aH W2:=by
     rw[vX Ui q2];have:Touch S.d cd (w.re aH.tape aH.drawn)=Touch S.d ρ w:=by
      rw[←sN];exact cV
     rw[this]
    have LF:bV ρ (sF k fr above)=bV cd (sF k fr above):=AD k above hI.cl (λr hlt=>(Ff r hlt).symm) (λx=>(Jq x).symm);have hab:(sS k above).map (bV ρ)=(sS k above).map (bV cd):=eQ (λr hlt=>(Ff r hlt).symm) (λx=>(Jq x).symm) (Hq k hI.cls);obtain⟨xU,q4⟩:=Jw (k:=k) (ρ:=cd) hI.ok hI.oks hT (λe=>by
     subst e;rcases hT.2 with hm|⟨l,hl⟩
     ·exact absurd ⟨rfl,.inr hm⟩ hend
     ·cases l with
      |nil=>exact absurd ⟨rfl,.inl hl⟩ hend
      |cons h l=>exact⟨h,l,hl⟩) hrun r1 main cs
    refine⟨_,W2,_,by rw[LF,hab];exact q4,⟨q2.tape,q2.os,q2.output,by have h3:=q2.size;have h4:=q2.fX;simp only[World.re]at h3 h4;omega,λb hb X2=>?_,λe he=>?_⟩,?_⟩
    ·refine q2.frame b hb λht=>?_;rw[hgrow]at ht;rcases ht with h|⟨h,_⟩
     ·exact X2 h
     ·omega
    ·have:=q3 e (mem_seen he);unfold mX at this;unfold BJ;rw[←hgrow];cases hl:e.loc<;>simp only[hl]at this ⊢<;>first|exact .inl this|exact this
    ·rw[←hgrow];refine ih aH.tape aH.drawn hI2 xU jW n₀ cd W2 Mr ?_ λr hlt=>(Ff r (by omega)).trans (uX r hlt);have h4:=q2.fX;simp only[World.re]at h4;omega
end
section
variable {P:Program}{F:FuncId→Bool}{S:Sd}{Ψ:cI}{cs:List Frame}{w:World}{b:Frame}{a:Act}{k:List Item}
theorem AE:∀(above:List Frame) (fr:Frame) (w:World) (chain:List PanicEntry) (n:Nat) (qL:Frame) (wf:World),fr.defers=[]→(∃f,P.funcs[fr.fn]?=some f)→(∀f∈above,jV P F S f)→runN P n (Go.lone { fr with mode:= .panicking chain } (above++[c0 P]) w)=.next (Go.lone qL [c0 P] wf)→(∀ch,qL.mode≠.panicking ch)→False:=by
 intro above
 induction above with
 |nil=>
  rintro fr w chain n qL wf hd ⟨f,hf⟩ _ hr hm;cases n with
  |zero=>
   simp only[runN,Stepped.next.injEq]at hr;obtain⟨rfl,_,_⟩:=ig hr;exact hm _ rfl
  |succ n=>
   have h1:step P (Go.lone { fr with mode:= .panicking chain } ([]++[c0 P]) w)=.next (Go.lone ((c0 P).raise chain) [] w):=by
    refine jG (es:=#[]) ?_;simp[G,stepG,unwind,hd,Frame.catches,hf]
   simp only[runN,h1]at hr;cases n with
   |zero=>
    simp only[runN,Stepped.next.injEq]at hr;obtain⟨_,e,_⟩:=ig hr;cases e
   |succ n=>
    have h2:∃o w3 es,stepG P true (G ((c0 P).raise chain) []) w=.ended o w3 es:=by
     simp[G,stepG,unwind,c0,Frame.raise,Frame.catches]
    obtain⟨o,w3,es,h2⟩:=h2;simp only[runN,iO h2]at hr;cases hr
 |cons c rest ih=>
  rintro fr w chain n qL wf hd ⟨f,hf⟩ bX hr hm;cases n with
  |zero=>
   simp only[runN,Stepped.next.injEq]at hr;obtain⟨rfl,_,_⟩:=ig hr;exact hm _ rfl
  |succ n=>
   have hc:=bX c (by simp);have h1:step P (Go.lone { fr with mode:= .panicking chain } (c::rest++[c0 P]) w)=.next (Go.lone { c with mode:= .panicking chain } (rest++[c0 P]) w):=by
    refine jG (es:=#[]) ?_;have X1:c.raise chain={ c with mode:= .panicking chain }:=by
     unfold Frame.raise;rcases hc.mode with e|e<;>rw[e]
    simp[G,stepG,unwind,hd,Frame.catches,hf,X1]
   simp only[runN,h1]at hr;exact ih c w chain n qL wf hc.defers hc.fn (λg hg=>bX g (by simp[hg])) hr hm
theorem pA (hC:kO P F S):∀(n:Nat) (fr:Frame) (above:List Frame) (w:World) (qL:Frame) (wf:World),PI P F S fr above w→runN P n (Go.lone fr (above++[c0 P]) w)=.next (Go.lone qL [c0 P] wf)→(∀ch,qL.mode≠.panicking ch)→∃m,mj P m fr above w qL [] wf:=by
 intro n
 induction n with
 |zero=>
  intro fr above w qL wf h hr hm;simp only[runN,Stepped.next.injEq]at hr;obtain⟨rfl,e,rfl⟩:=ig hr;have:above=[]:=by
   have:=congrArg List.length e;simp at this;exact this
  subst this;exact⟨0,.zero⟩
 |succ n ih=>
  intro fr above w qL wf h hr hm;by_cases hl:above=[]∧fr.mode=.returning
  ·obtain⟨rfl,hl⟩:=hl;exact(tW hC h hl hr).elim
  ·cases hrun:(aJ P fr above).runT P w #[]with
   |mk r es=>
    cases r with
    |ok x w1=>
     obtain⟨f1,a1⟩:=x;have hs:=mi (main:=true) (cs:=[c0 P]) h.ok hrun;simp only[runN,jG hs]at hr;obtain⟨m,LH⟩:=ih f1 a1 w1 qL wf (dU hC h hrun).1 hr hm;exact⟨m+1,.succ hrun LH⟩
    |halt hh w1=>
     rcases yZ (cs:=[c0 P]) hC h hl hrun with⟨chain,w2,es',e⟩|⟨o,w2,es',e⟩
     ·simp only[runN,jG e]at hr;exact(AE above fr w2 chain n qL wf h.ok.defers h.ok.fn h.oks hr hm).elim
     ·simp only[runN,iO e]at hr;cases hr
def MM (P:Program)(S:Sd)(Ψ:cI)(b:Frame)(k:List Item)(cs:List Frame)(f:Frame)(ab:List Frame)(w:World):Prop:=
 ab=[]∧((Ju f []∧aa P S Ψ (b.at ⟨f.tmps,f.defers⟩ k) cs w)∨(f.mode=.returning∧∀todo,aa P S Ψ (fR b ⟨f.tmps,f.defers⟩ todo) cs w))
theorem aa.item (hC:kO P F S){x:Item}(bX:aB P F S x=true)(hk:b.kind=.normal)(hfn:∃f,P.funcs[b.fn]?=some f)(hd:a.defers=[])
 (h:∀τ,(∃a' w',aa P S Ψ (b.at a' k) cs w'∧Steps P (Go.lone (b.at a [x,lF]) [c0 P] (w.re τ 0)) (Go.lone (b.at a' [lF]) [c0 P] w'))∨∃a' w' todo,(∀todo,aa P S Ψ (fR b a' todo) cs w')∧Steps P (Go.lone (b.at a [x,lF]) [c0 P] (w.re τ 0)) (Go.lone { b.at a' todo with mode:= .returning } [c0 P] w')):aa P S Ψ (b.at a (x::k)) cs w:=
 aa.walk λρ W hS hc hcs=>by
  have hI:PI P F S (b.at a [x,lF]) [] w:=⟨⟨hd,.inl rfl,hk,rfl,by show[x,lF].all _=true;simp only[zax,List.all_nil,bX,zbo,Bool.and_true];rfl,hfn⟩,by simp,hc,by simp,hS.self⟩;have hT:∀τ:Tp,∃n f a1 w',mj P n (b.at a [x,lF]) [] (w.re τ 0) f a1 w'∧MM P S Ψ b k cs f a1 w':=λτ=>by
   rcases h τ with⟨a',w',hK,n,hn⟩|⟨a',w',todo,hK,n,hn⟩
   ·obtain⟨m,hm⟩:=pA hC n _ [] (w.re τ 0) _ w' (hI.re τ 0) hn (λch e=>by cases e);exact⟨m,_,[],w',hm,rfl,.inl ⟨⟨rfl,rfl⟩,hK⟩⟩
   ·obtain⟨m,hm⟩:=pA hC n _ [] (w.re τ 0) _ w' (hI.re τ 0) hn (λch e=>by cases e);exact⟨m,_,[],w',hm,rfl,.inr ⟨rfl,hK⟩⟩
  have Uj:=tV (Q:=MM P S Ψ b k cs) hC (λf a1 w τ d _ hx=>⟨hx.1,hx.2.imp (λq=>⟨q.1,q.2.re rfl⟩) λq=>⟨q.1,λtodo=>(q.2 todo).re rfl⟩⟩) hI hT;have key:=Fw (k:=k) (fn0:=b.fn) (main:=true) (ro:=λ_=>False) (cs:=cs.map (bV ρ)) hC (λf a1 w' hx=>⟨hx.1,hx.2.imp (·.1) (·.1)⟩) Uj hI ⟨rfl,.inr ⟨[x],⟨rfl,rfl⟩⟩⟩ ρ w.heap.size ρ W hS (zaa _) (λ_ _=>rfl);refine ai.bind key λown g W' hst=>?_;obtain⟨MN,w1,AG,hb1,Jq,Yi,LG,hS1,rfl,rfl,hn,sM⟩:=hst;have ecs:cs.map (bV ρ)=cs.map (bV AG):=eQ (λr hr=>(sM r hr).symm) (λx=>by rw[hS.f,hS1.f]) hcs;rw[ecs];have acw:MM P S Ψ b k cs MN [] w1:=by
   cases Yi with
   |stop hx=>exact hx
   |step nf na nw ne h1 h2=>
    exfalso;have hr:=h1 w1.tape 0;rcases hb1 with hb1|hb1
    ·obtain⟨fn0,tmps,todo,defers,mode,kind,oH⟩:=MN;obtain⟨ht,hm⟩:=hb1;simp only[List.nil_append]at ht hm;subst ht hm;simp[aJ,stuck]at hr
    ·exact MK (by rw[hb1];simp) hr
  rcases acw.2 with⟨ML,hK⟩|⟨Yj,hK⟩
  ·have efr:gG k MN=b.at ⟨MN.tmps,MN.defers⟩ k:=by
    obtain⟨fn0,tmps,todo,defers,mode,kind,oH⟩:=MN;obtain⟨ht,hm⟩:=ML;have h3:kind=.normal:=LG.ok.kind;have h4:oH=none:=LG.ok.round;simp only[List.nil_append]at ht hm Jq;subst ht hm h3 h4 Jq;simp[gG,Frame.at,hk]
   rw[efr];exact ai.co hK hS1 (λ_ h=>h) LG.cl (λf hf=>ie hn (hcs f hf)) ⟨hn,sM⟩
  ·have efr:gG k MN=fR b ⟨MN.tmps,MN.defers⟩ (MN.todo.dropLast++k):=by
    obtain⟨fn0,tmps,todo,defers,mode,kind,oH⟩:=MN;have h3:kind=.normal:=LG.ok.kind;have h4:oH=none:=LG.ok.round;simp only at Yj Jq;subst Yj h3 h4 Jq;simp[gG,fR,Frame.at,hk]
   rw[efr];exact ai.co (hK _) hS1 (λ_ h=>h) LG.cl (λf hf=>ie hn (hcs f hf)) ⟨hn,sM⟩
def MO (P:Program)(S:Sd)(Ψ:cI)(b:Frame)(k:List Item)(cs:List Frame):Exit→Act→World→Prop
 |.normal,a,w=>aa P S Ψ (b.at a k) cs w
 |.ret,a,w=>∀todo,aa P S Ψ (fR b a todo) cs w
 |_,_,_=>False
theorem aa.code (hC:kO P F S){c:Code}(bX:aG P F S c=true)(hk:b.kind=.normal)(hfn:∃f,P.funcs[b.fn]?=some f)(hd:a.defers=[])
 (h:∀τ d,c.wp P (MO P S Ψ b k cs) a (w.re τ d)):aa P S Ψ (b.at a (.code c::k)) cs w:=
 aa.item hC bX hk hfn hd λτ=>by
  obtain⟨e,a',w',hK,pR⟩:=h τ 0 b [lF] [c0 P];cases e with
  |normal=>exact .inl ⟨a',w',hK,pR⟩
  |ret=>obtain⟨todo,hs⟩:=pR;exact .inr ⟨a',w',todo,hK,hs⟩
  |_=>exact hK.elim
theorem aa.ops (hC:kO P F S){ops:Array Oper}(hk:b.kind=.normal)(hfn:∃f,P.funcs[b.fn]?=some f)(hd:a.defers=[]){l:List Nat}(bX:(l.all λi=>(ops[i]?).all λo=>fw P F S o.op)=true)(i:Nat)(rest:List Oper)(hl:l=List.range' i rest.length)(hr:∀j,rest[j]?=ops[i+j]?)
 (h:∀τ d,wpList P ops (MO P S Ψ b k cs) rest a (w.re τ d)):aa P S Ψ (b.at a (.inRegion ops l::k)) cs w:=
 aa.item hC bX hk hfn hd λτ=>by
  have h0:=h τ 0;rw[←wpOps_eq_wpList rest i hr,←hl]at h0;obtain⟨e,a',w',hK,pR⟩:=wp_ops l a (w.re τ 0) h0 b [lF] [c0 P];cases e with
  |normal=>exact .inl ⟨a',w',hK,pR⟩
  |ret=>obtain⟨todo,hs⟩:=pR;exact .inr ⟨a',w',todo,hK,hs⟩
  |_=>exact hK.elim
end
end Go.Ren
