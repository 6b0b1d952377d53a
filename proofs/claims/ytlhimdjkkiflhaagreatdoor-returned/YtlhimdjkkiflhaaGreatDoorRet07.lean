import Derived.Orders
import Derived.Test.YtlhimdjkkiflhaaGreatDoorRet06
set_option maxHeartbeats 8000000
set_option maxRecDepth 100000
open Go renaming Goroutine→Γ,Frame→Δ,World→Θ,Value→Ξ,Program→Φ,exitTo→ζ,FuncId→η,stepG→θ,yielded→ι,undef→ξ,Trace→π,Operand→υ,Event→φ,execOp→ψ
open Go.Sem renaming runT→Λ
open Go.MemOp renaming ofEvents→Ω
open Go.Region renaming wanted→χ
namespace Go.Ren
open Go Go.Conc
def xM (σ:List (Nat×Ξ)):υ→Bool
 |.tmp t=>σ.all λp=>p.1 != t
 |_=>true
theorem ua {σ:List (Nat×Ξ)}{t:Nat}(h:xM σ (.tmp t)=true):∀p∈σ,p.1≠t:=λp hp=>by
 have:=zaC.1 h p hp;simpa using this
def JY (σ:List (Nat×Ξ))(t:Array Ξ):Array Ξ:=σ.foldl (λt p=>t.setIfInBounds p.1 p.2) t
theorem CO (t:Nat):∀(σ:List (Nat×Ξ)) (x:Array Ξ),(∀p∈σ,p.1≠t)→(JY σ x)[t]?=x[t]?
 |[],_,_=>rfl
 |p::σ,x,h=>by
  show(JY σ (x.setIfInBounds p.1 p.2))[t]?=_;rw[CO t σ _ λq hq=>h q (zaQ _ hq),zaA (h p zaD)]
theorem JZ (d:Nat)(v:Ξ):∀(σ:List (Nat×Ξ)) (x:Array Ξ),(∀p∈σ,p.1≠d)→(JY σ x).setIfInBounds d v=JY σ (x.setIfInBounds d v)
 |[],_,_=>rfl
 |p::σ,x,h=>by
  show(JY σ (x.setIfInBounds p.1 p.2)).setIfInBounds d v=JY σ ((x.setIfInBounds d v).setIfInBounds p.1 p.2);rw[JZ d v σ _ λq hq=>h q (zaQ _ hq),Array.setIfInBounds_comm _ _ (h p zaD)]
section
variable (σ:List (Nat×Ξ))
def LA:Option Tmp→Bool
 |some d=>xM σ (.tmp d)
 |none=>true
def su (ops:Array Oper)(o:Oper):Bool:=
 o.op.operands.all (xM σ)&&(match o.op with|.select ..=>false|_=>true)&&LA σ o.dst&&(match o.guard with|some (j,_)=>LA σ ((ops[j]?).bind (·.dst))|none=>true)
def kO:Code→Bool
 |.skip |.ret |.exit _|.refuse _=>true
 |.region _ ops _=>ops.all (su σ ops)
 |.seq a b=>kO a&&kO b
 |.cond c a b=>xM σ c&&kO a&&kO b
 |.block _ a|.loop a=>kO a
 |_=>false
def ft:Item→Bool
 |.code c=>kO σ c
 |.inBlock _=>true
 |.inLoop c=>kO σ c
 |.inRegion ops l=>l.all λi=>(ops[i]?).all (su σ ops)
 |_=>false
def eN (k:List Item)(x:Δ):Δ:={ x with todo:=x.todo.dropLast++k,tmps:=JY σ x.tmps }
def Ex (k:List Item):List Δ→List Δ
 |[]=>[]
 |[x]=>[eN σ k x]
 |c::d::r=>c::Ex k (d::r)
def sFJ (k:List Item)(f:Δ):List Δ→Δ
 |[]=>eN σ k f
 |_::_=>f
end
theorem ew {id:Nat}{q:Item→Bool}:∀{l k':List Item},ζ id l=some k'→l.all q=true→k'.all q=true
 |[],k',h,_=>by simp[ζ]at h
 |.inBlock id'::l,k',h,hl=>by
  simp only[zap,zae]at hl;simp only[ζ]at h;split at h
  ·cases h;exact hl.2
  ·exact ew h hl.2
 |.code c::l,k',h,hl=>by simp only[ζ,zap,zae]at h hl;exact ew h hl.2
 |.inLoop c::l,k',h,hl=>by simp only[ζ,zap,zae]at h hl;exact ew h hl.2
 |.inRegion ..::l,k',h,hl=>by simp only[ζ,zap,zae]at h hl;exact ew h hl.2
 |.inScope c::l,k',h,hl=>by simp only[ζ,zap,zae]at h hl;exact ew h hl.2
 |.inRangeFunc c::l,k',h,hl=>by simp only[ζ,zap,zae]at h hl;exact ew h hl.2
 |.endRangeFunc c::l,k',h,hl=>by simp only[ζ,zap,zae]at h hl;exact ew h hl.2
 |.beginRound::l,k',h,hl=>by simp only[ζ,zap,zae]at h hl;exact ew h hl.2
 |.call ..::l,k',h,hl=>by simp only[ζ,zap,zae]at h hl;exact ew h hl.2
 |.extern ..::l,k',h,hl=>by simp only[ζ,zap,zae]at h hl;exact ew h hl.2
section
variable {P:Φ}{F:η→Bool}{S:Sd}{w w1:Θ}{es:Array φ}{σ:List (Nat×Ξ)}
theorem xN {ops:Array Oper}{o:Oper}(h:su σ ops o=true):o.op.operands.all (xM σ)=true∧(∀cs b,o.op≠.select cs b)∧LA σ o.dst=true:=by
 unfold su at h;simp only[zae]at h;refine⟨h.1.1.1,λcs b e=>?_,h.1.2⟩;have:=h.1.1.2;rw[e]at this;cases this
theorem CP {ops:Array Oper}{o:Oper}(h:su σ ops o=true)(t:Array Ξ):χ o (ι ops (JY σ t))=χ o (ι ops t):=by
 unfold su at h;simp only[zae]at h;have h4:=h.2;unfold χ;cases hg:o.guard with
 |none=>rfl
 |some p=>
  obtain⟨j,want⟩:=p;rw[hg]at h4;dsimp only at h4 ⊢
  congr 1
  unfold ι;cases hd:(ops[j]?).bind (·.dst)with
  |none=>rfl
  |some d=>
   rw[hd]at h4;simp only[zce];rw[CO d σ t (ua h4)]
theorem Bh {x:υ}(h:xM σ x=true)(fr:Δ)(k k':List Item):Δ.eval { fr with todo:=k,tmps:=JY σ fr.tmps } x=Δ.eval { fr with todo:=k' } x:=by
 cases x with
 |tmp t=>
  simp only[Δ.eval,zbE];rw[CO t σ _ (ua h)]
 |_=>rfl
theorem mR (k:List Item){x:Δ}{h:Item}{l:List Item}(hb:x.todo=h::l++[qg])(hh:aF P F S h=true)(hj:ft σ h=true)(v:Ξ):(eN σ k x).finish v=eN σ k (x.finish v)∧(x.finish v).fn=x.fn∧(x.finish v).mode=x.mode∧∃h',(x.finish v).todo=h'::l++[qg]∧ft σ h'=true:=by
 obtain⟨fn0,tmps,todo,defers,mode,kind,oc⟩:=x;simp only at hb;subst hb;have dl:∀(a:Item),((a::(l++[qg])).dropLast++k)=a::(l++k):=λa=>by
  rw[show a::(l++[qg])=(a::l)++[qg] from rfl,im];rfl
 cases h with
 |inRegion ops idx=>
  cases idx with
  |nil=>exact⟨by simp only[Δ.finish,eN,zam,dl],rfl,rfl,_,rfl,hj⟩
  |cons i rest=>
   have hj':=hj;simp only[ft,zap,zae]at hj';refine⟨?_,rfl,rfl,.inRegion ops rest,rfl,hj'.2⟩;have hd:LA σ ((ops[i]?).bind (·.dst))=true:=by
    cases ho:ops[i]? with
    |none=>rfl
    |some o=>
     have:=hj'.1;rw[ho]at this;exact(xN this).2.2
   simp only[Δ.finish,eN,zam,dl]
   revert hd
   generalize (ops[i]?).bind (·.dst)=d;intro hd;cases d with
   |none=>rfl
   |some d=>simp only[JZ d v σ tmps (ua hd)]
 |code c=>exact⟨by simp only[Δ.finish,eN,zam,dl],rfl,rfl,_,rfl,hj⟩
 |inBlock id=>exact⟨by simp only[Δ.finish,eN,zam,dl],rfl,rfl,_,rfl,hj⟩
 |inLoop c=>exact⟨by simp only[Δ.finish,eN,zam,dl],rfl,rfl,_,rfl,hj⟩
 |_=>simp[aF]at hh
theorem pH (k:List Item){x:Δ}{h:Item}{l:List Item}(hb:Lx x (h::l))(hh:aF P F S h=true)(hj:(h::l).all (ft σ)=true){f1:Δ}{a1:List Δ}(hr:(ba P x []).runT P w #[]=(.ok (f1,a1) w1,es)):(∃l1,Lx f1 l1∧l1.all (ft σ)=true∧f1.fn=x.fn∧a1=[]∧(ba P (eN σ k x) []).runT P w #[]=(.ok (eN σ k f1,[]) w1,es))∨
 (f1={ x with mode:= .returning }∧a1=[]∧(ba P (eN σ k x) []).runT P w #[]=(.ok (eN σ k f1,[]) w1,es))∨
 (a1=[x]∧(ba P (eN σ k x) []).runT P w #[]=(.ok (f1,[eN σ k x]) w1,es)):=by
 obtain⟨fn0,tmps,todo,defers,mode,kind,oc⟩:=x;obtain⟨ht,hm⟩:=hb;simp only at ht hm;subst ht hm;have dl:∀(a:Item),((a::(l++[qg])).dropLast++k)=a::(l++k):=λa=>by
  rw[show a::(l++[qg])=(a::l)++[qg] from rfl,im];rfl
 have dl0:(l++[qg]).dropLast++k=l++k:=by rw[im]
 have dl2:∀(a b:Item),((a::b::(l++[qg])).dropLast++k)=a::b::(l++k):=λa b=>by
  rw[show a::b::(l++[qg])=(a::b::l)++[qg] from rfl,im];rfl
 simp only[zap,zae]at hj;obtain⟨ub,xJ⟩:=hj;simp only[zam,eN,dl]at hr ⊢
 match h,hh,ub,hr with
 |.code .ret,_,_,hr=>
  simp only[ba,pure,Λ,zaf,zan]at hr;obtain⟨⟨⟨rfl,rfl⟩,rfl⟩,rfl⟩:=hr;exact .inr (.inl ⟨rfl,rfl,by simp only[ba,pure,Λ,dl]⟩)
 |.code .skip,_,_,hr=>
  simp only[ba,pure,Λ,zaf,zan]at hr;obtain⟨⟨⟨rfl,rfl⟩,rfl⟩,rfl⟩:=hr;exact .inl ⟨l,⟨rfl,rfl⟩,xJ,rfl,rfl,by simp only[ba,pure,Λ,dl0]⟩
 |.inBlock _,_,_,hr=>
  simp only[ba,pure,Λ,zaf,zan]at hr;obtain⟨⟨⟨rfl,rfl⟩,rfl⟩,rfl⟩:=hr;exact .inl ⟨l,⟨rfl,rfl⟩,xJ,rfl,rfl,by simp only[ba,pure,Λ,dl0]⟩
 |.code (.seq a b),_,ub,hr=>
  simp only[ba,pure,Λ,zaf,zan]at hr;obtain⟨⟨⟨rfl,rfl⟩,rfl⟩,rfl⟩:=hr;simp only[ft,kO,zae]at ub;exact .inl ⟨.code a::.code b::l,⟨rfl,rfl⟩,by simp only[zap,ft,ub.1,ub.2,xJ,Bool.and_self],rfl,rfl,by simp only[ba,pure,Λ,dl2]⟩
 |.code (.block id a),_,ub,hr=>
  simp only[ba,pure,Λ,zaf,zan]at hr;obtain⟨⟨⟨rfl,rfl⟩,rfl⟩,rfl⟩:=hr;simp only[ft,kO]at ub;exact .inl ⟨.code a::.inBlock id::l,⟨rfl,rfl⟩,by simp only[zap,ft,ub,xJ,Bool.and_self],rfl,rfl,by simp only[ba,pure,Λ,dl2]⟩
 |.code (.loop a),_,ub,hr=>
  simp only[ba,pure,Λ,zaf,zan]at hr;obtain⟨⟨⟨rfl,rfl⟩,rfl⟩,rfl⟩:=hr;simp only[ft,kO]at ub;exact .inl ⟨.code a::.inLoop a::l,⟨rfl,rfl⟩,by simp only[zap,ft,ub,xJ,Bool.and_self],rfl,rfl,by simp only[ba,pure,Λ,dl2]⟩
 |.inLoop a,_,ub,hr=>
  simp only[ba,pure,Λ,zaf,zan]at hr;obtain⟨⟨⟨rfl,rfl⟩,rfl⟩,rfl⟩:=hr;simp only[ft]at ub;exact .inl ⟨.code a::.inLoop a::l,⟨rfl,rfl⟩,by simp only[zap,ft,ub,xJ,Bool.and_self],rfl,rfl,by simp only[ba,pure,Λ,dl2]⟩
 |.inRegion _ [],_,_,hr=>
  simp only[ba,pure,Λ,zaf,zan]at hr;obtain⟨⟨⟨rfl,rfl⟩,rfl⟩,rfl⟩:=hr;exact .inl ⟨l,⟨rfl,rfl⟩,xJ,rfl,rfl,by simp only[ba,pure,Λ,dl0]⟩
 |.code (.cond c a b),_,ub,hr=>
  simp only[ft,kO,zae]at ub;simp only[ba]at hr ⊢;have ev:Δ.eval ⟨fn0,JY σ tmps,.code (.cond c a b)::(l++k),defers,.run,kind,oc⟩ c=Δ.eval ⟨fn0,tmps,.code (.cond c a b)::(l++[qg]),defers,.run,kind,oc⟩ c:=Bh ub.1.1 ⟨fn0,tmps,[],defers,.run,kind,oc⟩ _ _;rw[ev];generalize Δ.eval ⟨fn0,tmps,.code (.cond c a b)::(l++[qg]),defers,.run,kind,oc⟩ c=q at hr ⊢;cases q with
  |bool t=>
   simp only[pure,Λ,zaf,zan]at hr;obtain⟨⟨⟨rfl,rfl⟩,rfl⟩,rfl⟩:=hr;exact .inl ⟨.code (if t then a else b)::l,⟨rfl,rfl⟩,by simp only[zap,ft,xJ,zbZ];cases t<;>simp[ub.1.2,ub.2],rfl,rfl,by simp only[pure,Λ,dl]⟩
  |_=>simp[stuck]at hr
 |.code (.exit id),_,_,hr=>
  simp only[ba]at hr ⊢;cases he:ζ id (l++[qg])with
  |none=>rw[he]at hr;simp[stuck]at hr
  |some k'=>
   rw[he]at hr;have hall:=ew (q:=ft σ) he (by rw[List.all_append,xJ];rfl);obtain⟨l',rfl,h2⟩:=dK k he;rw[h2];rw[List.all_append,zae]at hall;simp only[pure,Λ,zaf,zan]at hr;obtain⟨⟨⟨rfl,rfl⟩,rfl⟩,rfl⟩:=hr;exact .inl ⟨l',⟨rfl,rfl⟩,hall.1,rfl,rfl,by simp only[pure,Λ,im]⟩
 |.code (.region id ops draw),_,ub,hr=>
  simp only[ft,kO]at ub;have aas:∀idx:List Nat,ft σ (.inRegion ops idx)=true:=λidx=>by
   simp only[ft,zaC];intro i _;cases ho:ops[i]? with
   |none=>rfl
   |some o=>exact zcd.1 ub o (zbF ho)
  cases draw with
  |false=>
   simp only[ba,pure,Λ,zaf,zan,zaU,if_false]at hr ⊢;obtain⟨⟨⟨rfl,rfl⟩,rfl⟩,rfl⟩:=hr;exact .inl ⟨.inRegion ops (List.range ops.size)::l,⟨rfl,rfl⟩,by rw[zap,aas,xJ];rfl,rfl,rfl,by simp only[dl,and_self]⟩
  |true=>
   simp only[ba,if_true,bind,choose,Sem.bind,Λ,Question.forced,zaU,if_false,pure,zaf,zan,Question.cut]at hr ⊢;obtain⟨⟨⟨rfl,rfl⟩,rfl⟩,rfl⟩:=hr;exact .inl ⟨.inRegion ops _::l,⟨rfl,rfl⟩,by rw[zap,aas,xJ];rfl,rfl,rfl,by simp only[dl,and_self]⟩
 |.inRegion ops (i::rest),hh,ub,hr=>
  have fU:=λv=>mR (P:=P) (F:=F) (S:=S) (σ:=σ) k (x:=⟨fn0,tmps,.inRegion ops (i::rest)::(l++[qg]),defers,.run,kind,oc⟩) (h:= .inRegion ops (i::rest)) (l:=l) rfl hh ub v;simp only[ft,zap,zae]at ub;simp only[ba]at hr ⊢;have fin:∀v,(⟨fn0,JY σ tmps,.inRegion ops (i::rest)::(l++k),defers,.run,kind,oc⟩:Δ).finish v=eN σ k ((⟨fn0,tmps,.inRegion ops (i::rest)::(l++[qg]),defers,.run,kind,oc⟩:Δ).finish v):=λv=>by
   have:=(fU v).1;simp only[eN,dl]at this;exact this
  have bot:∀v,Lx ((⟨fn0,tmps,.inRegion ops (i::rest)::(l++[qg]),defers,.run,kind,oc⟩:Δ).finish v) (.inRegion ops rest::l):=λv=>⟨rfl,rfl⟩;have hall:(Item.inRegion ops rest::l).all (ft σ)=true:=by
   rw[zap,xJ,zbZ];exact ub.2
  cases ho:ops[i]? with
  |none=>
   rw[ho]at hr;simp only[Option.map_none,zbH,zaU,if_false]at hr ⊢;simp only[pure,Λ,zaf,zan]at hr;obtain⟨⟨⟨rfl,rfl⟩,rfl⟩,rfl⟩:=hr;exact .inl ⟨_,bot ξ,hall,rfl,rfl,by simp only[pure,Λ,fin];rfl⟩
  |some o=>
   have hjo:su σ ops o=true:=by
    have:=ub.1;rw[ho]at this;exact this
   have ev:ψ (Δ.eval ⟨fn0,JY σ tmps,.inRegion ops (i::rest)::(l++k),defers,.run,kind,oc⟩) o=ψ (Δ.eval ⟨fn0,tmps,.inRegion ops (i::rest)::(l++[qg]),defers,.run,kind,oc⟩) o:=
    execOp_congr o (xN hjo).2.1 λy hy=>Bh (zcd.1 (xN hjo).1 y hy) ⟨fn0,tmps,[],defers,.run,kind,oc⟩ _ _
   rw[ho]at hr;simp only[zbp,zbg]at hr ⊢;rw[CP hjo];by_cases hw:χ o (ι ops tmps)=true
   ·rw[zab hw]at hr ⊢;rw[ev];generalize (ψ (Δ.eval ⟨fn0,tmps,.inRegion ops (i::rest)::(l++[qg]),defers,.run,kind,oc⟩) o)=ex at hr ⊢;rw[bO]at hr ⊢;cases hrun:ex.runT P w #[]with
    |mk r dA=>
     rw[hrun]at hr;cases r with
     |halt hh w1=>simp at hr
     |ok nx w1=>
      dsimp only at hr ⊢;cases nx with
      |value v=>
       simp only[pure,Λ,zaf,zan]at hr;obtain⟨⟨⟨rfl,rfl⟩,rfl⟩,rfl⟩:=hr;exact .inl ⟨_,bot v,hall,rfl,rfl,by simp only[pure,Λ,fin];rfl⟩
      |skip=>
       simp only[pure,Λ,zaf,zan]at hr;obtain⟨⟨⟨rfl,rfl⟩,rfl⟩,rfl⟩:=hr;exact .inl ⟨_,bot ξ,hall,rfl,rfl,by simp only[pure,Λ,fin];rfl⟩
      |enter f args=>
       simp only[pure,Λ,zaf,zan]at hr;obtain⟨⟨⟨rfl,rfl⟩,rfl⟩,rfl⟩:=hr;exact .inr (.inr ⟨rfl,rfl⟩)
      |_=>simp[stuck]at hr
   ·rw[zaa hw]at hr ⊢;simp only[pure,Λ,zaf,zan]at hr;obtain⟨⟨⟨rfl,rfl⟩,rfl⟩,rfl⟩:=hr;exact .inl ⟨_,bot ξ,hall,rfl,rfl,by simp only[pure,Λ,fin];rfl⟩
 |.code (.rangeFunc ..),hh,_,hr=>simp[aF,bB]at hh
 |.code (.scope ..),hh,_,hr=>simp[aF,bB]at hh
 |.code (.label ..),hh,_,hr=>simp[aF,bB]at hh
 |.code (.goto ..),hh,_,hr=>simp[aF,bB]at hh
 |.code (.refuse ..),hh,_,hr=>simp[ba,stuck]at hr
 |.inScope c,hh,_,hr=>simp[aF]at hh
 |.inRangeFunc c,hh,_,hr=>simp[aF]at hh
 |.endRangeFunc c,hh,_,hr=>simp[aF]at hh
 |.beginRound,hh,_,hr=>simp[aF]at hh
 |.call ..,hh,_,hr=>simp[aF]at hh
 |.extern ..,hh,_,hr=>simp[aF]at hh
end
section
variable {P:Φ}{F:η→Bool}{S:Sd}{w W:Θ}{ρ:Rn}{k:List Item}{fn0:η}{Q:Δ→List Δ→Θ→Prop}{σ:List (Nat×Ξ)}
theorem uV (k:List Item)(c:Δ)(r:List Δ):∀p:List Δ,Ex σ k (p++c::r)=p++Ex σ k (c::r)
 |[]=>rfl
 |[x]=>rfl
 |x::y::p=>by
  have:=uV k c r (y::p);simp only[zam]at this ⊢;rw[Ex,this]
theorem CQ {x:Δ}{h:Item}{l:List Item}(hx:kJ P F S x)(hb:Lx x (h::l)):aF P F S h=true:=by
 have:=hx.todo;rw[hb.todo]at this;simp only[zam,zap,zae]at this;exact this.1
theorem Ey {x:Δ}(h:kJ P F S x):kJ P F S (cv ρ x):=⟨h.defers,h.mode,h.kind,h.round,h.todo,h.fn⟩
def LB (σ:List (Nat×Ξ))(fn0:η)(f:Δ)(ab:List Δ):Prop:=
 match ab.getLast? with
 |none=>f.fn=fn0∧(f.mode=.returning∨∃l,Lx f l∧l.all (ft σ)=true)
 |some x=>∃h l,Lx x (h::l)∧(h::l).all (ft σ)=true∧x.fn=fn0
theorem Hw {x:Δ}{h:Item}{l:List Item}(hx:kJ P F S x)(hb:Lx x (h::l))(k:List Item):Ek P F S (eN σ k x):=⟨hx.defers,hx.mode,hx.kind,hx.round,by
 have e:(eN σ k x).todo=h::(l++k):=by
  show x.todo.dropLast++k=_;rw[hb.todo,im];rfl
 rw[e];simpa using CQ hx hb,hx.fn⟩
theorem Hy {f f1:Δ}{ab a1:List Δ}{w0 w1 W1:Θ}{es es':Array φ}(cG:kJ P F S f)(acP:∀x∈ab,kJ P F S x)(hT:LB σ fn0 f ab)(hn:ab=[]→∃h l,Lx f (h::l)∧(h::l).all (ft σ)=true)
 (hp:(ba P f ab).runT P w0 #[]=(.ok (f1,a1) w1,es))(hr:(ba P (cv ρ f) (ab.map (cv ρ))).runT P W #[]=(.ok (cv ρ f1,a1.map (cv ρ)) W1,es'))(main:Bool)(cs:List Δ):
 LB σ fn0 f1 a1∧θ P main (G (sFJ σ k (cv ρ f) ab) (Ex σ k (ab.map (cv ρ))++cs)) W=.go (G (sFJ σ k (cv ρ f1) a1) (Ex σ k (a1.map (cv ρ))++cs)) W1 (seen P f.fn es'):=by
 cases ab with
 |nil=>
  obtain⟨hf,-⟩:=hT;obtain⟨h,l,hb,hj⟩:=hn rfl;have hh:=CQ cG hb;have hb':Lx (cv ρ f) (h::l):=⟨hb.todo,hb.run⟩;have hH:Ek P F S (eN σ k (cv ρ f)):=Hw (Ey cG) hb' k;rcases pH k hb hh hj hp with⟨l1,b1,bj,b2,rfl,_⟩|⟨m1,rfl,_⟩|⟨rfl,_⟩
  ·rcases pH k hb' hh hj hr with⟨l2,c1,_,c2,_,c3⟩|⟨m1,_,m2⟩|⟨e,_⟩
   ·refine⟨⟨b2.trans hf,.inr ⟨l1,b1,bj⟩⟩,?_⟩;exact fq (main:=main) (cs:=cs) hH c3
   ·have:f1.mode=.returning:=zak Δ.mode m1;rw[b1.run]at this;cases this
   ·simp at e
  ·rcases pH k hb' hh hj hr with⟨l2,c1,_,c2,_,c3⟩|⟨_,_,c3⟩|⟨e,_⟩
   ·have:f1.mode=.returning:=zak Δ.mode m1;have c4:f1.mode=.run:=c1.run;rw[c4]at this;cases this
   ·refine⟨⟨by rw[m1];exact hf,.inl (by rw[m1])⟩,?_⟩;exact fq (main:=main) (cs:=cs) hH c3
   ·simp at e
  ·rcases pH k hb' hh hj hr with⟨l2,c1,_,c2,e,c3⟩|⟨m1,e,m2⟩|⟨e,c3⟩
   ·simp at e
   ·simp at e
   ·exact⟨⟨h,l,hb,hj,hf⟩,fq (main:=main) (cs:=cs) hH c3⟩
 |cons c r=>
  have hH:Ek P F S (cv ρ f):=JL (Ey cG);rcases CN hp with⟨p,rfl,_⟩|⟨v,rfl,rfl,_⟩
  ·rcases CN (c:=cv ρ c) (r:=r.map (cv ρ)) hr with⟨p',e,h2⟩|⟨v,_,e,_⟩
   ·have ep:p'=p.map (cv ρ):=by
     rw[List.map_append,zaB]at e;exact(List.append_cancel_right e).symm
    subst ep;have hT':LB σ fn0 f1 (p++c::r):=by
     unfold LB at hT ⊢;rw[List.getLast?_append];cases hg:(c::r).getLast? with
     |none=>simp at hg
     |some x=>rw[hg]at hT;exact hT
    refine⟨hT',?_⟩;have e1:sFJ σ k (cv ρ f1) (p++c::r)=cv ρ f1:=by cases p<;>rfl
    rw[e1,List.map_append,zaB,uV];exact fq (main:=main) (cs:=cs) hH (h2 _)
   ·have:=zak List.length e;simp at this;omega
  ·rcases CN (c:=cv ρ c) (r:=a1.map (cv ρ)) hr with⟨p',e,h2⟩|⟨v',e1,_,h2⟩
   ·have:=zak List.length e;simp at this;omega
   ·cases a1 with
    |nil=>
     obtain⟨h,l,hb,hj,hf⟩:=hT;have hcO:=acP c zaD;have hh:=CQ hcO hb;have hj':=hj;simp only[zap,zae]at hj';obtain⟨g1,g2,g3,h',g4,g5⟩:=mR k hb.todo hh hj'.1 v;obtain⟨q1,-,-,-,-⟩:=mR k (x:=cv ρ c) hb.todo hh hj'.1 v';refine⟨⟨g2.trans hf,.inr ⟨h'::l,⟨g4,g3.trans hb.run⟩,by rw[zap,g5,hj'.2];rfl⟩⟩,?_⟩;have h3:=fq (main:=main) (cs:=cs) hH (h2 (eN σ k (cv ρ c)) []);rw[q1,←e1]at h3;exact h3
    |cons d r2=>
     refine⟨?_,?_⟩
     ·unfold LB at hT ⊢;rw[List.getLast?_cons_cons]at hT;exact hT
     ·have h3:=fq (main:=main) (cs:=cs) hH (h2 (cv ρ c) (Ex σ k ((d::r2).map (cv ρ))));rw[←e1]at h3;exact h3
def Yb (P:Φ)(F:η→Bool)(S:Sd)(Q:Δ→List Δ→Θ→Prop)(σ:List (Nat×Ξ))(k:List Item)(fn0:η)(cs:List Δ)(kK:Rn)(n₀:Nat)(own:Nat→Prop)(g:Γ)(W:Θ):Prop:=
 ∃fr w ρ,(Lx fr []∨fr.mode=.returning)∧fr.fn=fn0∧Om P Q fr [] w∧PI P F S fr [] w∧ja P S ρ w W∧own=Touch S.d ρ w∧g=G (eN σ k (cv ρ fr)) cs∧n₀≤w.heap.size∧∀r,r<n₀→ρ r=kK r
theorem Ez (hC:lp P F S){main:Bool}{ro:Nat→Prop}(hQ:∀f a w,Q f a w→a=[]∧(Lx f []∨f.mode=.returning)){cs:List Δ}{fr:Δ}{above:List Δ}{w:Θ}(hb:Om P Q fr above w):PI P F S fr above w→LB σ fn0 fr above→∀(kK:Rn) (n₀:Nat) (ρ:Rn) (W:Θ),ja P S ρ w W→n₀≤w.heap.size→(∀r,r<n₀→ρ r=kK r)→af P main ro (Yb P F S Q σ k fn0 cs kK n₀) (Touch S.d ρ w) (G (sFJ σ k (cv ρ fr) above) (Ex σ k (above.map (cv ρ))++cs)) W:=by
 induction hb with
 | @stop fr above w h=>
   intro hI hT kK n₀ ρ W hS hn wH;obtain⟨rfl,OL⟩:=hQ _ _ _ h;have hfn:fr.fn=fn0:=hT.1;refine .stop λaS hr=>⟨fr,w,_,OL,hfn,.stop h,hI,hS.rely hr,dN.symm,?_,hn,λr hlt=>by rw[bg (by omega)];exact wH r hlt⟩;show G (eN σ k (cv ρ fr)) ([]++cs)=_;rw[eZ (P:=P) (S:=S) (n:=w.heap.size) (fr:=fr) hI.cl (ρ:=ρ) (ρ':=ek ρ w.heap.size aS.heap.size) (λr hlt=>(bg hlt).symm) (λ_=>rfl)];rfl
 | @step fr above w nf na nw ne h1 h2 ih=>
   intro hI hT kK n₀ ρ W hS hn wH;by_cases hend:above=[]∧(Lx fr []∨fr.mode=.returning)
   ·obtain⟨rfl,OL⟩:=hend;have hfn:fr.fn=fn0:=hT.1;refine .stop λaS hr=>⟨fr,w,_,OL,hfn,.step nf na nw ne h1 h2,hI,hS.rely hr,dN.symm,?_,hn,λr hlt=>by rw[bg (by omega)];exact wH r hlt⟩;show G (eN σ k (cv ρ fr)) ([]++cs)=_;rw[eZ (P:=P) (S:=S) (n:=w.heap.size) (fr:=fr) hI.cl (ρ:=ρ) (ρ':=ek ρ w.heap.size aS.heap.size) (λr hlt=>(bg hlt).symm) (λ_=>rfl)];rfl
   ·refine af.step' rfl λaS hr=>?_;have hS1:=hS.rely hr;generalize tW:ek ρ w.heap.size aS.heap.size=cH at hS1;have Hk:∀r,r<w.heap.size→cH r=ρ r:=λr hlt=>by rw[←tW];exact bg hlt
    have Lr:∀x,cH.f x=ρ.f x:=λx=>by rw[←tW];rfl
    have hrun:=h1 aS.tape aS.drawn;have hW:WR P S cH (w.re aS.tape aS.drawn) aS:=⟨hS1.wr.live,hS1.wr.ok,hS1.wr.dead,hS1.wr.closed,hS1.wr.next,hS1.wr.low,hS1.wr.big⟩;have hIr:=hI.re aS.tape aS.drawn;have hpl:Plain P cH:=⟨λt i v a b=>hC.zero t i v a b _,hS1.inj⟩;have Ag:=Cz (ρ:=cH) hC hpl hS1.fix hIr.ok hIr.oks (λv _=> .inl hS1.lr) (λv hv=>jo (hIr.cl v hv));obtain⟨bb,W2,es',r1,⟨rfl,o1,o2⟩,r3,q1,q2,r6⟩:=dG hpl (λo=> .inl hS1.lr) _ _ _ (λn=>FF P F S (sg S S.d n)) (w.re aS.tape aS.drawn) aS #[] #[] _ _ _ Ag (tV hC hIr) hW (λj _ q=>rfl) hrun;have q3:∀e∈es',nU S.d cH (nw aS.tape aS.drawn) e:=λe he=>(r6 e he).resolve_left (by simp);have Wy:=(eL hC hIr hrun).1;have X0:ja P S cH (w.re aS.tape aS.drawn) aS:=⟨hW,hS1.inj,hS1.lr,hS1.f,hS1.qb⟩;have Oq:ja P S cH (nw aS.tape aS.drawn) W2:=⟨q1,hS1.inj,hS1.lr,hS1.f,by have:=hS1.qb;have h3:=q2.size;have h4:=q2.gK;omega⟩;have hgrow:Touch S.d cH (nw aS.tape aS.drawn)=Grow (Touch S.d ρ w) aS W2:=by
     rw[xG X0 q2];have:Touch S.d cH (w.re aS.tape aS.drawn)=Touch S.d ρ w:=by
      rw[←tW];exact dN
     rw[this]
    have Nv:cv ρ fr=cv cH fr:=eZ hI.cl (λr hlt=>(Hk r hlt).symm) (λx=>(Lr x).symm);have hab:above.map (cv ρ)=above.map (cv cH):=fw (λr hlt=>(Hk r hlt).symm) (λx=>(Lr x).symm) hI.cls;obtain⟨Ah,q4⟩:=Hy (k:=k) (ρ:=cH) hI.ok hI.oks hT (λe=>by
     subst e;rcases hT.2 with hm|⟨l,hl,hj⟩
     ·exact absurd ⟨rfl,.inr hm⟩ hend
     ·cases l with
      |nil=>exact absurd ⟨rfl,.inl hl⟩ hend
      |cons h l=>exact⟨h,l,hl,hj⟩) hrun r1 main cs
    refine⟨_,W2,_,by rw[Nv,hab];exact q4,⟨q2.tape,q2.os,q2.output,by have h3:=q2.size;have h4:=q2.gK;simp only[Θ.re]at h3 h4;omega,λb hb hnb=>?_,λe he=>?_⟩,?_⟩
    ·refine q2.frame b hb λht=>?_;rw[hgrow]at ht;rcases ht with h|⟨h,_⟩
     ·exact hnb h
     ·omega
    ·have:=q3 e (mem_seen he);unfold nU at this;unfold DO;rw[←hgrow];cases hl:e.loc<;>simp only[hl]at this ⊢<;>first|exact .inl this|exact this
    ·rw[←hgrow];refine ih aS.tape aS.drawn Wy Ah kK n₀ cH W2 Oq ?_ λr hlt=>(Hk r (by omega)).trans (wH r hlt);have h4:=q2.gK;simp only[Θ.re]at h4;omega
end
theorem ud (x:υ):xM [] x=true:=by cases x<;>rfl
theorem EA (d:Option Tmp):LA [] d=true:=by cases d<;>first|rfl|exact ud _
theorem Bi {P:Φ}{F:η→Bool}{S:Sd}{ops:Array Oper}{o:Oper}(h:fo P F S o.op=true):su [] ops o=true:=by
 unfold su;rw[zcd.2 λx _=>ud x,EA];have h1:(match o.guard with|some (j,_)=>LA [] ((ops[j]?).bind (·.dst))|none=>true)=true:=by split<;>first|rfl|exact EA _
 have h2:(match o.op with|.select ..=>false|_=>true)=true:=by
  split
  ·rename_i e;rw[e]at h;cases h
  ·rfl
 rw[h1,h2];rfl
theorem jr {P:Φ}{F:η→Bool}{S:Sd}:∀c:Code,bB P F S c=true→kO [] c=true
 |.skip,_|.ret,_|.exit _,_|.refuse _,_=>rfl
 |.region _ ops _,h=>zcd.2 λo ho=>Bi (zcd.1 h o ho)
 |.seq a b,h=>by
  simp only[bB,kO,zae]at h ⊢;exact⟨jr a h.1,jr b h.2⟩
 |.cond c a b,h=>by
  simp only[bB,kO,zae]at h ⊢;exact⟨⟨ud c,jr a h.1.2⟩,jr b h.2⟩
 |.block _ a,h=>jr a h
 |.loop a,h=>jr a h
theorem LC {P:Φ}{F:η→Bool}{S:Sd}{x:Item}(h:aF P F S x=true):ft [] x=true:=by
 cases x<;>simp only[aF,ft]at h ⊢<;>first|contradiction|exact jr _ h|skip
 refine zaC.2 λi hi=>?_;have:=zaC.1 h i hi
 revert this
 cases (‹Array Oper›)[i]? with
 |none=>exact λ_=>rfl
 |some o=>exact λq=>Bi q
section
variable {P:Φ}{F:η→Bool}{S:Sd}{Ψ:dn}{cs:List Δ}{w:Θ}{b:Δ}{a:Act}{k:List Item}
theorem CR:∀(above:List Δ) (fr:Δ) (w:Θ) (chain:List PanicEntry) (n:Nat) (sf:Δ) (wf:Θ),fr.defers=[]→(∃f,P.funcs[fr.fn]?=some f)→(∀f∈above,kJ P F S f)→runN P n (Go.lone { fr with mode:= .panicking chain } (above++[c0 P]) w)=.next (Go.lone sf [c0 P] wf)→(∀ch,sf.mode≠.panicking ch)→False:=by
 intro above
 induction above with
 |nil=>
  rintro fr w chain n sf wf hd ⟨f,hf⟩ _ hr hm;cases n with
  |zero=>
   simp only[runN,zbD]at hr;obtain⟨rfl,_,_⟩:=iK hr;exact hm _ rfl
  |succ n=>
   have h1:step P (Go.lone { fr with mode:= .panicking chain } ([]++[c0 P]) w)=.next (Go.lone ((c0 P).raise chain) [] w):=by
    refine ko (es:=#[]) ?_;simp[G,θ,unwind,hd,Δ.catches,hf]
   simp only[runN,h1]at hr;cases n with
   |zero=>
    simp only[runN,zbD]at hr;obtain⟨_,e,_⟩:=iK hr;cases e
   |succ n=>
    have h2:∃o w3 es,θ P true (G ((c0 P).raise chain) []) w=.ended o w3 es:=by
     simp[G,θ,unwind,c0,Δ.raise,Δ.catches]
    obtain⟨o,w3,es,h2⟩:=h2;simp only[runN,jq h2]at hr;cases hr
 |cons c rest ih=>
  rintro fr w chain n sf wf hd ⟨f,hf⟩ cG hr hm;cases n with
  |zero=>
   simp only[runN,zbD]at hr;obtain⟨rfl,_,_⟩:=iK hr;exact hm _ rfl
  |succ n=>
   have hc:=cG c (by simp);have h1:step P (Go.lone { fr with mode:= .panicking chain } (c::rest++[c0 P]) w)=.next (Go.lone { c with mode:= .panicking chain } (rest++[c0 P]) w):=by
    refine ko (es:=#[]) ?_;have hcr:c.raise chain={ c with mode:= .panicking chain }:=by
     unfold Δ.raise;rcases hc.mode with e|e<;>rw[e]
    simp[G,θ,unwind,hd,Δ.catches,hf,hcr]
   simp only[runN,h1]at hr;exact ih c w chain n sf wf hc.defers hc.fn (λg hg=>cG g (by simp[hg])) hr hm
theorem qA (hC:lp P F S):∀(n:Nat) (fr:Δ) (above:List Δ) (w:Θ) (sf:Δ) (wf:Θ),PI P F S fr above w→runN P n (Go.lone fr (above++[c0 P]) w)=.next (Go.lone sf [c0 P] wf)→(∀ch,sf.mode≠.panicking ch)→∃m,mO P m fr above w sf [] wf:=by
 intro n
 induction n with
 |zero=>
  intro fr above w sf wf h hr hm;simp only[runN,zbD]at hr;obtain⟨rfl,e,rfl⟩:=iK hr;have:above=[]:=by
   have:=zak List.length e;simp at this;exact this
  subst this;exact⟨0,.zero⟩
 |succ n ih=>
  intro fr above w sf wf h hr hm;by_cases hl:above=[]∧fr.mode=.returning
  ·obtain⟨rfl,hl⟩:=hl;exact(uU hC h hl hr).elim
  ·cases hrun:(ba P fr above).runT P w #[]with
   |mk r es=>
    cases r with
    |ok x w1=>
     obtain⟨f1,a1⟩:=x;have hs:=mN (main:=true) (cs:=[c0 P]) h.ok hrun;simp only[runN,ko hs]at hr;obtain⟨m,DN⟩:=ih f1 a1 w1 sf wf (eL hC h hrun).1 hr hm;exact⟨m+1,.succ hrun DN⟩
    |halt hh w1=>
     rcases Bb (cs:=[c0 P]) hC h hl hrun with⟨chain,w2,es',e⟩|⟨o,w2,es',e⟩
     ·simp only[runN,ko e]at hr;exact(CR above fr w2 chain n sf wf h.ok.defers h.ok.fn h.oks hr hm).elim
     ·simp only[runN,jq e]at hr;cases hr
def OM (P:Φ)(S:Sd)(Ψ:dn)(b:Δ)(k:List Item)(cs:List Δ)(f:Δ)(ab:List Δ)(w:Θ):Prop:=
 ab=[]∧((Lx f []∧aa P S Ψ (b.at ⟨f.tmps,f.defers⟩ k) cs w)∨(f.mode=.returning∧∀todo,aa P S Ψ (gA b ⟨f.tmps,f.defers⟩ todo) cs w))
theorem aa.item (hC:lp P F S){x:Item}(cG:aF P F S x=true)(hk:b.kind=.normal)(hfn:∃f,P.funcs[b.fn]?=some f)(hd:a.defers=[])
 (h:∀τ,(∃a' w',aa P S Ψ (b.at a' k) cs w'∧Steps P (Go.lone (b.at a [x,qg]) [c0 P] (w.re τ 0)) (Go.lone (b.at a' [qg]) [c0 P] w'))∨∃a' w' todo,(∀todo,aa P S Ψ (gA b a' todo) cs w')∧Steps P (Go.lone (b.at a [x,qg]) [c0 P] (w.re τ 0)) (Go.lone { b.at a' todo with mode:= .returning } [c0 P] w')):aa P S Ψ (b.at a (x::k)) cs w:=
 aa.walk λρ W hS hc hcs _=>by
  have hI:PI P F S (b.at a [x,qg]) [] w:=⟨⟨hd,.inl rfl,hk,rfl,by show[x,qg].all _=true;simp only[zap,List.all_nil,cG,zbI,zbZ];rfl,hfn⟩,by simp,hc,by simp,hS.self⟩;have hT:∀τ:Tp,∃n f a1 w',mO P n (b.at a [x,qg]) [] (w.re τ 0) f a1 w'∧OM P S Ψ b k cs f a1 w':=λτ=>by
   rcases h τ with⟨a',w',hK,n,hn⟩|⟨a',w',todo,hK,n,hn⟩
   ·obtain⟨m,hm⟩:=qA hC n _ [] (w.re τ 0) _ w' (hI.re τ 0) hn (λch e=>by cases e);exact⟨m,_,[],w',hm,rfl,.inl ⟨⟨rfl,rfl⟩,hK⟩⟩
   ·obtain⟨m,hm⟩:=qA hC n _ [] (w.re τ 0) _ w' (hI.re τ 0) hn (λch e=>by cases e);exact⟨m,_,[],w',hm,rfl,.inr ⟨rfl,hK⟩⟩
  have X1:=uT (Q:=OM P S Ψ b k cs) hC (λf a1 w τ d _ hx=>⟨hx.1,hx.2.imp (λq=>⟨q.1,q.2.re rfl⟩) λq=>⟨q.1,λtodo=>(q.2 todo).re rfl⟩⟩) hI hT;have key:=Ez (σ:=[]) (k:=k) (fn0:=b.fn) (main:=true) (ro:=Ψ.ro) (cs:=cs.map (cv ρ)++Ψ.bot) hC (λf a1 w' hx=>⟨hx.1,hx.2.imp (·.1) (·.1)⟩) X1 hI ⟨rfl,.inr ⟨[x],⟨rfl,rfl⟩,by simp[LC cG]⟩⟩ ρ w.heap.size ρ W hS (zac _) (λ_ _=>rfl);refine af.bind key λown g W' hst=>?_;obtain⟨J0,w1,xO,hb1,Lr,aat,A9,hS1,rfl,rfl,hn,rF⟩:=hst;have ecs:cs.map (cv ρ)=cs.map (cv xO):=fw (λr hr=>(rF r hr).symm) (λx=>by rw[hS.f,hS1.f]) hcs;rw[ecs];have acQ:OM P S Ψ b k cs J0 [] w1:=by
   cases aat with
   |stop hx=>exact hx
   |step nf na nw ne h1 h2=>
    exfalso;have hr:=h1 w1.tape 0;rcases hb1 with hb1|hb1
    ·obtain⟨fn0,tmps,todo,defers,mode,kind,oc⟩:=J0;obtain⟨ht,hm⟩:=hb1;simp only[zbm]at ht hm;subst ht hm;simp[ba,stuck]at hr
    ·exact OJ (by rw[hb1];simp) hr
  rcases acQ.2 with⟨OL,hK⟩|⟨aau,hK⟩
  ·have efr:eN [] k (cv xO J0)=cv xO (b.at ⟨J0.tmps,J0.defers⟩ k):=by
    obtain⟨fn0,tmps,todo,defers,mode,kind,oc⟩:=J0;obtain⟨ht,hm⟩:=OL;have h3:kind=.normal:=A9.ok.kind;have h4:oc=none:=A9.ok.round;simp only[zbm]at ht hm Lr;subst ht hm h3 h4 Lr;simp[eN,JY,cv,Δ.at,hk]
   rw[efr];exact af.co hK hS1 (λ_ h=>h) A9.cl (λf hf=>iJ hn (hcs f hf)) ⟨hn,rF⟩
  ·have efr:eN [] k (cv xO J0)=cv xO (gA b ⟨J0.tmps,J0.defers⟩ (J0.todo.dropLast++k)):=by
    obtain⟨fn0,tmps,todo,defers,mode,kind,oc⟩:=J0;have h3:kind=.normal:=A9.ok.kind;have h4:oc=none:=A9.ok.round;simp only at aau Lr;subst aau h3 h4 Lr;simp[eN,JY,cv,gA,Δ.at,hk]
   rw[efr];exact af.co (hK _) hS1 (λ_ h=>h) A9.cl (λf hf=>iJ hn (hcs f hf)) ⟨hn,rF⟩
def OO (P:Φ)(S:Sd)(Ψ:dn)(b:Δ)(k:List Item)(cs:List Δ):Exit→Act→Θ→Prop
 |.normal,a,w=>aa P S Ψ (b.at a k) cs w
 |.ret,a,w=>∀todo,aa P S Ψ (gA b a todo) cs w
 |_,_,_=>False
theorem aa.code (hC:lp P F S){c:Code}(cG:bB P F S c=true)(hk:b.kind=.normal)(hfn:∃f,P.funcs[b.fn]?=some f)(hd:a.defers=[])
 (h:∀τ d,c.wp P (OO P S Ψ b k cs) a (w.re τ d)):aa P S Ψ (b.at a (.code c::k)) cs w:=
 aa.item hC cG hk hfn hd λτ=>by
  obtain⟨e,a',w',hK,qY⟩:=h τ 0 b [qg] [c0 P];cases e with
  |normal=>exact .inl ⟨a',w',hK,qY⟩
  |ret=>obtain⟨todo,hs⟩:=qY;exact .inr ⟨a',w',todo,hK,hs⟩
  |_=>exact hK.elim
theorem aa.ops (hC:lp P F S){ops:Array Oper}(hk:b.kind=.normal)(hfn:∃f,P.funcs[b.fn]?=some f)(hd:a.defers=[]){l:List Nat}(cG:(l.all λi=>(ops[i]?).all λo=>fo P F S o.op)=true)(i:Nat)(rest:List Oper)(hl:l=List.range' i rest.length)(hr:∀j,rest[j]?=ops[i+j]?)
 (h:∀τ d,wpList P ops (OO P S Ψ b k cs) rest a (w.re τ d)):aa P S Ψ (b.at a (.inRegion ops l::k)) cs w:=
 aa.item hC cG hk hfn hd λτ=>by
  have h0:=h τ 0;rw[←wpOps_eq_wpList rest i hr,←hl]at h0;obtain⟨e,a',w',hK,qY⟩:=wp_ops l a (w.re τ 0) h0 b [qg] [c0 P];cases e with
  |normal=>exact .inl ⟨a',w',hK,qY⟩
  |ret=>obtain⟨todo,hs⟩:=qY;exact .inr ⟨a',w',todo,hK,hs⟩
  |_=>exact hK.elim
end
end Go.Ren
namespace Go.Ren
open Go Go.Conc
open Go.ConcN (sumTo)
theorem iq {P:Φ}{c:Nat}{a b:Γ}{Q:Machine→π→Prop}{J:Θ→π→Prop}(SJ:awake a)(hwb:awake b)(hrun:a.status=.running∨b.status=.running)
 (hJ:∀w t d ops,J w t→(∀op∈ops,op.act.touch? =none∧∀a,op.act≠.mark (.release a))→(∀B,∀op∈ops,op.act.low B)→Deaf (t++ops) 0=Deaf t 0→Deaf (t++ops) c=Deaf t c→J (w.at d) (t++ops))
 (hst:∀w t,J w t→Es P w a∧Es P w b)
 (H0:a.status=.running→∀gs w sl t q,eM P c t gs q→gs[0]?=some a→gs[c]?=some b→J w t→∃m' ops,runT P (crowd gs w sl) 0=(.next m',ops)∧Reach P m' (t++ops) Q)
 (HC:b.status=.running→∀gs w sl t q,eM P c t gs q→gs[0]?=some a→gs[c]?=some b→J w t→∃m' ops,runT P (crowd gs w sl) c=(.next m',ops)∧Reach P m' (t++ops) Q):
 ∀gs w sl t q,eM P c t gs q→gs[0]?=some a→gs[c]?=some b→J w t→Reach P (crowd gs w sl) t Q:=by
 intro gs w sl t q hC h0 hc hj;generalize hM:sumTo c q=M
 induction M using Nat.strongRecOn generalizing gs w sl t q with
 |_ M ih=>
  have hd:∀w t d,J w t→J (w.at d) t:=λw t d h=>by
   have:=hJ w t d #[] h (by simp) (by simp) (by simp) (by simp);simpa using this
  rcases Hn (sl:=sl) hC h0 hc SJ hwb hrun (hst w t hj).1 (hst w t hj).2 with⟨hr,d,sl',hs⟩|⟨hr,d,sl',hs⟩|⟨gs',d,sl',ops,q',hs,hC',Au,hc',hlt,h1,h2,h3,h4⟩
  ·obtain⟨m',ops,e,hR⟩:=H0 hr gs (w.at d) sl' t q hC h0 hc (hd w t d hj);exact Reach.step (hs.trans e) hR
  ·obtain⟨m',ops,e,hR⟩:=HC hr gs (w.at d) sl' t q hC h0 hc (hd w t d hj);exact Reach.step (hs.trans e) hR
  ·exact Reach.step hs (ih _ (by omega) gs' (w.at d) sl' (t++ops) q' hC' Au hc' (hJ w t d ops hj h1 h2 h3 h4) rfl)
def iM (P:Φ)(ch:Nat)(z:Ξ)(Next:(Nat→Prop)→Γ→Θ→Prop)(own:Nat→Prop)(g:Γ)(w:Θ):Prop:=
 g.status=.running∧θ P true g w=.comm (core g) #[rcase ch z] true (.recv true) w #[]∧Next own (core g) w
def lR (P:Φ)(ro:Nat→Prop)(ch:Nat)(z:Ξ)(Fin:(Nat→Prop)→Γ→Θ→Prop):List Ξ→(Nat→Prop)→Γ→Θ→Prop
 |[],own,g,w=>af P true ro (iM P ch z λown g w=>Fin own (Conc.served g (.tuple #[z,.bool false])) w) own g w
 |v::vs,own,g,w=>af P true ro (iM P ch z λown g w=>lR P ro ch z Fin vs own (Conc.served g (.tuple #[v,.bool true])) w) own g w
def Bj (P:Φ)(ro:Nat→Prop)(ch:Nat)(z:Ξ)(Fin:(Nat→Prop)→Γ→Θ→Prop):List Ξ→(Nat→Prop)→Γ→Θ→Prop
 |[],own,g,w=>Fin own (Conc.served g (.tuple #[z,.bool false])) w
 |v::vs,own,g,w=>lR P ro ch z Fin vs own (Conc.served g (.tuple #[v,.bool true])) w
def J1 (P:Φ)(ch:Nat)(v:Ξ)(Next:(Nat→Prop)→Γ→Θ→Prop)(own:Nat→Prop)(g:Γ)(w:Θ):Prop:=
 g.status=.running∧∃z',θ P false g w=.comm (core g) #[scase ch v z'] true .send w #[]∧Next own (Conc.served (core g) ξ) w
def gV (ch:Nat):Array φ:=#[⟨.obj ch,false,true⟩,⟨.obj ch,true,true⟩]
def xP (P:Φ)(ch:Nat)(gF:(Nat→Prop)→Γ→Θ→Prop)(own:Nat→Prop)(g:Γ)(w:Θ):Prop:=
 g.status=.running∧mayWake P g=true∧∃g₂,g₂.status=.running∧∀s r tm,w.heap[ch]?=some (.chan 0 #[] false s r tm)→θ P false g w=.go g₂ (w.setChan ch 0 #[] true s r tm) (gV ch)∧gF own g₂ (w.setChan ch 0 #[] true s r tm)
def jU (P:Φ)(ro:Nat→Prop)(ch:Nat)(gF:(Nat→Prop)→Γ→Θ→Prop):List Ξ→(Nat→Prop)→Γ→Θ→Prop
 |[],own,g,w=>af P false ro (xP P ch gF) own g w
 |v::vs,own,g,w=>af P false ro (J1 P ch v (jU P ro ch gF vs)) own g w
def StopG (P:Φ)(ro:Nat→Prop)(ch:Nat)(gF:(Nat→Prop)→Γ→Θ→Prop):List Ξ→(Nat→Prop)→Γ→Θ→Prop
 |[]=>xP P ch gF
 |v::vs=>J1 P ch v (jU P ro ch gF vs)
theorem cQ {P:Φ}{ro:Nat→Prop}{ch:Nat}{z:Ξ}{Fin:(Nat→Prop)→Γ→Θ→Prop}{vs:List Ξ}{own:Nat→Prop}{g:Γ}{w:Θ}:lR P ro ch z Fin vs own g w↔af P true ro (iM P ch z (Bj P ro ch z Fin vs)) own g w:=by cases vs<;>exact Iff.rfl
theorem dR {P:Φ}{ro:Nat→Prop}{ch:Nat}{gF:(Nat→Prop)→Γ→Θ→Prop}{vs:List Ξ}{own:Nat→Prop}{g:Γ}{w:Θ}:jU P ro ch gF vs own g w↔af P false ro (StopG P ro ch gF vs) own g w:=by cases vs<;>exact Iff.rfl
theorem af.running {P:Φ}{main:Bool}{ro own:Nat→Prop}{Stop:(Nat→Prop)→Γ→Θ→Prop}{g:Γ}{w:Θ}(h:af P main ro Stop own g w)(hs:∀own g w,Stop own g w→g.status=.running):g.status=.running:=by
 cases h with
 |stop h=>exact hs _ _ _ (h w (cq.refl _ _ _))
 |step _ _ _ h=>exact h
theorem StopG.running {P:Φ}{ro:Nat→Prop}{ch:Nat}{gF:(Nat→Prop)→Γ→Θ→Prop}{vs:List Ξ}{own:Nat→Prop}{g:Γ}{w:Θ}(h:StopG P ro ch gF vs own g w):g.status=.running:=by cases vs<;>exact h.1
structure Lay (Q Shun:Loc→Prop) (c ch Low:Nat) (ro:Nat→Prop):Prop where
 c0:c≠0
 JW:∀b,ro b→b<Low
 Hz:ch<Low
 LD:¬ro ch
 QS:∀l,Q l→Shun l
 sr:∀l,Shun l→l.low Low
 rS:∀l,jS ro l→¬Shun l
 Qch:Q (.obj ch)
structure lu (Q Shun:Loc→Prop) (c ch Low:Nat) (ro bG aW X:Nat→Prop) (closed:Bool) (w0 w:Θ) (t:π):Prop where
 ti:TI Q Shun c aW ro w.heap.size t
 d0:Deaf t 0=0
 dc:closed=false→Deaf t c=0
 mlt:∀b,bG b→Low≤b∧b<w.heap.size
 HY:∀b,aW b→Low≤b∧b<w.heap.size
 apart:∀b,bG b→¬aW b
 big:Low≤w.heap.size
 chan:∃s r tm,w.heap[ch]?=some (.chan 0 #[] closed s r tm)
 tape:w.tape=w0.tape
 os:w.os=w0.os
 output:w.output=w0.output
 keep:∀b,b<Low→¬X b→w.heap[b]?=w0.heap[b]?
 TM:X ch
section
variable {P:Φ}{Q Shun:Loc→Prop}{c ch Low:Nat}{ro bG aW X:Nat→Prop}{cl:Bool}{w0 w w':Θ}{t u:π}{es:Array φ}{fn:η}{pos:String}
theorem ue {X:Nat→Prop}(h:∀b,X b→Low≤b){l:Loc}(hi:jS X l)(hl:l.low Low):False:=TF hi (λb hb hlt=>by have:=h b hb;omega) hl
theorem xQ {ro own:Nat→Prop}{g:Nat}(h:∀e∈es,DO ro own e):∀op∈Ω g fn pos es,op.g=g∧Oz ro own op:=by
 intro op hop;obtain⟨e,he,rfl⟩:=zbe hop;refine⟨rfl,Bc (h e he),?_,?_⟩
 ·intro e';exact(oz (h e he)).1 (by obtain⟨loc,wr,sy⟩:=e;cases loc<;>cases wr<;>cases sy<;>simp_all [MemAct.ofEvent])
 ·intro e';exact(oz (h e he)).2 (by obtain⟨loc,wr,sy⟩:=e;cases loc<;>cases wr<;>cases sy<;>simp_all [MemAct.ofEvent])
theorem xR {ro own:Nat→Prop}{g B:Nat}(hB:∀b,own b→b<B)(hr:∀b,ro b→b<B)(h:∀e∈es,DO ro own e):∀op∈Ω g fn pos es,op.act.low B:=by
 intro op hop;obtain⟨e,he,rfl⟩:=zbe hop;exact JV hB hr (h e he)
theorem xS {ro own:Nat→Prop}{g:Nat}(h:∀e∈es,DO ro own e):Deaf (t++Ω g fn pos es) g=Deaf t g:=by
 rw[Deaf_own];exact deafBehind_still (λe he=>oz (h e he)) _
theorem lu.still (h:lu Q Shun c ch Low ro bG aW X cl w0 w t)(d:Nat)(h1:∀op∈u,op.act.touch? =none)(h2:∀op∈u,op.act.low w.heap.size)(h3:Deaf (t++u) 0=Deaf t 0)(h4:Deaf (t++u) c=Deaf t c):lu Q Shun c ch Low ro bG aW X cl w0 (w.at d) (t++u):=
 ⟨h.ti.still h1 h2,h3.trans h.d0,λe=>h4.trans (h.dc e),h.mlt,h.HY,h.apart,h.big,h.chan,h.tape,h.os,h.output,h.keep,h.TM⟩
theorem lu.OP (hY:Lay Q Shun c ch Low ro)(h:lu Q Shun c ch Low ro bG aW X cl w0 w t)(hg:Eo ro bG w w' es):lu Q Shun c ch Low ro (Grow bG w w') aW X cl w0 w' (t++Ω 0 fn pos es)∧cq ro aW w w':=by
 have hs:=hg.size;have hb:=h.big;have jB:∀b,Grow bG w w' b→Low≤b∧b<w'.heap.size:=λb hb'=>hb'.elim (λx=>by have:=h.mlt b x;omega) λx=>by omega
 have hap:∀b,Grow bG w w' b→¬aW b:=λb hb' hgb=>hb'.elim (λx=>h.apart b x hgb) λx=>by have:=h.HY b hgb;omega
 have EB:∀b,b<w.heap.size→¬bG b→w'.heap[b]?=w.heap[b]?:=hg.block;have fV:∀b,b<Low→w'.heap[b]?=w.heap[b]?:=λb hlt=>EB b (by omega) λhm=>by have:=h.mlt b hm;omega
 refine⟨⟨(h.ti.mono hs).app0 (own:=Grow bG w w') hY.c0 (xQ hg.evs) (xR (λb hb'=>(jB b hb').2) (λb hb'=>by have:=hY.JW b hb';omega) hg.evs) ?_ ?_ hap ?_ ?_,(xS hg.evs).trans h.d0,?_,jB,λb hb'=>by have:=h.HY b hb';omega,hap,by omega,?_,hg.tape.trans h.tape,hg.os.trans h.os,hg.output.trans h.output,λb h1 h2=>(fV b h1).trans (h.keep b h1 h2),h.TM⟩,hg.tape,hg.os,hg.output,hs,?_⟩
 ·rintro l (hl|hl) hS
  ·exact ue (λb hb'=>(jB b hb').1) hl (hY.sr l hS)
  ·exact hY.rS l hl hS
 ·rintro l (hl|hl) hS
  ·exact ue (λb hb'=>(jB b hb').1) hl (hY.sr l (hY.QS l hS))
  ·exact hY.rS l hl (hY.QS l hS)
 ·intro b hb' hr;have:=jB b hb';have:=hY.JW b hr;omega
 ·intro b hb' hr;have:=h.HY b hb';have:=hY.JW b hr;omega
 ·intro e;rw[zaN t (Ne.symm hY.c0) _ ofEvents_g];exact h.dc e
 ·obtain⟨s,r,tm,e⟩:=h.chan;exact⟨s,r,tm,by rw[fV ch hY.Hz];exact e⟩
 ·rintro b (hb'|hb')
  ·exact EB b (h.HY b hb').2 λhm=>h.apart b hm hb'
  ·exact fV b (hY.JW b hb')
theorem lu.stepG (hY:Lay Q Shun c ch Low ro)(h:lu Q Shun c ch Low ro bG aW X cl w0 w t)(hg:Eo ro aW w w' es):lu Q Shun c ch Low ro bG (Grow aW w w') X cl w0 w' (t++Ω c fn pos es)∧cq ro bG w w':=by
 have hs:=hg.size;have hb:=h.big;have jB:∀b,Grow aW w w' b→Low≤b∧b<w'.heap.size:=λb hb'=>hb'.elim (λx=>by have:=h.HY b x;omega) λx=>by omega
 have hap:∀b,bG b→¬Grow aW w w' b:=λb hm hgb=>hgb.elim (λx=>h.apart b hm x) λx=>by have:=h.mlt b hm;omega
 have EB:∀b,b<w.heap.size→¬aW b→w'.heap[b]?=w.heap[b]?:=hg.block;have fV:∀b,b<Low→w'.heap[b]?=w.heap[b]?:=λb hlt=>EB b (by omega) λhm=>by have:=h.HY b hm;omega
 refine⟨⟨h.ti.acL (own':=Grow aW w w') hs (xQ hg.evs) (xR (λb hb'=>(jB b hb').2) (λb hb'=>by have:=hY.JW b hb';omega) hg.evs) (λb=>Iff.rfl) ?_,?_,λe=>(xS hg.evs).trans (h.dc e),λb hb'=>by have:=h.mlt b hb';omega,jB,hap,by omega,?_,hg.tape.trans h.tape,hg.os.trans h.os,hg.output.trans h.output,λb h1 h2=>(fV b h1).trans (h.keep b h1 h2),h.TM⟩,hg.tape,hg.os,hg.output,hs,?_⟩
 ·rintro l (hl|hl) hS
  ·exact ue (λb hb'=>(jB b hb').1) hl (hY.sr l (hY.QS l hS))
  ·exact hY.rS l hl (hY.QS l hS)
 ·rw[zaN t hY.c0 _ ofEvents_g];exact h.d0
 ·obtain⟨s,r,tm,e⟩:=h.chan;exact⟨s,r,tm,by rw[fV ch hY.Hz];exact e⟩
 ·rintro b (hb'|hb')
  ·exact EB b (h.mlt b hb').2 λhm=>h.apart b hb' hm
  ·exact fV b (hY.JW b hb')
theorem kP {cap s r:Nat}{buf:Array Ξ}{tm cl:Bool}{b:Nat}(h:b≠ch):(w.setChan ch cap buf cl s r tm).heap[b]?=w.heap[b]?:=by
 show(w.heap.setIfInBounds ch _)[b]?=_;rw[zaA (Ne.symm h)]
theorem dZ {cap s r:Nat}{buf:Array Ξ}{tm cl:Bool}:(w.setChan ch cap buf cl s r tm).heap.size=w.heap.size:=by
 show(w.heap.setIfInBounds ch _).size=_;simp
theorem kz {cap s r:Nat}{buf:Array Ξ}{tm cl:Bool}{own:Nat→Prop}(h:¬own ch)(hr:¬ro ch):cq ro own w (w.setChan ch cap buf cl s r tm):=
 ⟨rfl,rfl,rfl,by rw[dZ];exact zac _,λb hb=>kP λe=>by subst e;exact hb.elim h hr⟩
theorem lu.chG (hY:Lay Q Shun c ch Low ro)(h:lu Q Shun c ch Low ro bG aW X cl w0 w t):¬aW ch:=λx=>by have:=h.HY ch x;have:=hY.Hz;omega
theorem lu.chM (hY:Lay Q Shun c ch Low ro)(h:lu Q Shun c ch Low ro bG aW X cl w0 w t):¬bG ch:=λx=>by have:=h.mlt ch x;have:=hY.Hz;omega
theorem lu.meet (hY:Lay Q Shun c ch Low ro){s r s' r':Nat}{tm:Bool}(h:lu Q Shun c ch Low ro bG aW X false w0 w t)(hch:w.heap[ch]?=some (.chan 0 #[] false s r tm))(hu:OA ch u):lu Q Shun c ch Low ro bG aW X false w0 (w.setChan ch 0 #[] false s' r' tm) (t++u):=by
 have hb:=h.big;have fK:=hY.Hz;refine⟨by rw[dZ];exact h.ti.still (λop hop=>(hu op hop).1) λop hop=>(hu op hop).2.2 _ (by omega),by rw[dO t 0 u λop hop=>(hu op hop).2.1];exact h.d0,λe=>by rw[dO t c u λop hop=>(hu op hop).2.1];exact h.dc e,by rw[dZ];exact h.mlt,by rw[dZ];exact h.HY,h.apart,by rw[dZ];exact hb,⟨s',r',tm,heap_put hch⟩,h.tape,h.os,h.output,λb h1 h2=>(kP λe=>h2 (by rw[e];exact h.TM)).trans (h.keep b h1 h2),h.TM⟩
theorem pI (g:Nat):Ω g fn pos (gV ch)=#[{ g:=g,fn:=fn,pos:=pos,act:= .access ⟨.obj ch,false,true⟩ },{ g:=g,fn:=fn,pos:=pos,act:= .close ch }]:=by
 simp[Ω,gV,MemAct.ofEvent]
theorem lu.Bl (h:lu Q Shun c ch Low ro bG aW X false w0 w t):Deaf (t++Ω c fn pos (gV ch)) c=0:=by
 rw[dO t c _ λop hop m e=>?_]
 ·exact h.dc rfl
 ·rw[pI]at hop;simp at hop;rcases hop with rfl|rfl<;>simp at e
theorem lu.close (hY:Lay Q Shun c ch Low ro){s r:Nat}{tm:Bool}(h:lu Q Shun c ch Low ro bG aW X false w0 w t)(hch:w.heap[ch]?=some (.chan 0 #[] false s r tm)):lu Q Shun c ch Low ro bG aW X true w0 (w.setChan ch 0 #[] true s r tm) (t++Ω c fn pos (gV ch)):=by
 have hb:=h.big;have fK:=hY.Hz;have hm:∀op∈Ω c fn pos (gV ch),∀m,op.act≠.mark m:=λop hop m e=>by
  rw[pI]at hop;simp at hop;rcases hop with rfl|rfl<;>simp at e
 refine⟨?_,by rw[dO t 0 _ hm];exact h.d0,(λe=>by cases e),by rw[dZ];exact h.mlt,by rw[dZ];exact h.HY,h.apart,by rw[dZ];exact hb,⟨s,r,tm,heap_put hch⟩,h.tape,h.os,h.output,λb h1 h2=>(kP λe=>h2 (by rw[e];exact h.TM)).trans (h.keep b h1 h2),h.TM⟩;rw[dZ];refine h.ti.TG (g:=c) (.inr rfl) (λop hop=>⟨ofEvents_g op hop,λx hx=>?_⟩) (λop hop=>?_) hY.QS λl hl=>⟨λhi=>?_,λhi=>hY.rS l hi (hY.QS l hl)⟩
 ·rw[pI]at hop;simp at hop;rcases hop with rfl|rfl
  ·simp only[MemAct.touch?,zaE]at hx;subst hx;exact⟨hY.Qch,by simp,by simp⟩
  ·simp[MemAct.touch?]at hx
 ·rw[pI]at hop;simp at hop;have:ch<w.heap.size:=by omega
  rcases hop with rfl|rfl<;>exact this
 ·exact ue (λb hb'=>(h.HY b hb').1) hi (hY.sr l (hY.QS l hl))
end
end Go.Ren
namespace Go.Ren
open Go Go.Conc
def LF (P:Φ)(Q Shun:Loc→Prop)(c ch Low:Nat)(ro X:Nat→Prop)(z:Ξ)(Fin gF:(Nat→Prop)→Γ→Θ→Prop)(w0:Θ)(m:Machine)(t:π):Prop:=
 ∃gs w sl q bG aW a b t₁ fn pos,m=crowd gs w sl∧eM P c t gs q∧gs[0]?=some a∧gs[c]?=some b∧b.status=.running∧lR P ro ch z Fin [] bG a w∧gF aW b w∧lu Q Shun c ch Low ro bG aW X true w0 w t∧t=t₁++Ω c fn pos (gV ch)∧Deaf t c=0
section
variable {P:Φ}{Q Shun:Loc→Prop}{c ch Low:Nat}{ro X:Nat→Prop}{z:Ξ}{Fin gF:(Nat→Prop)→Γ→Θ→Prop}{w0:Θ}
variable (P Q Shun c ch Low ro X z Fin gF w0) in
def EC (vs:List Ξ):Prop:=∀gs w sl t q bG aW a b,eM P c t gs q→gs[0]?=some a→gs[c]?=some b→lR P ro ch z Fin vs bG a w→jU P ro ch gF vs aW b w→lu Q Shun c ch Low ro bG aW X false w0 w t→Reach P (crowd gs w sl) t (LF P Q Shun c ch Low ro X z Fin gF w0)
theorem iM.again {Next:(Nat→Prop)→Γ→Θ→Prop}{own:Nat→Prop}{g:Γ}{w:Θ}(h:iM P ch z Next own g w):iM P ch z Next own { parked (core g) #[rcase ch z] (.recv true)with status:= .running } w:=by
 have e:θ P true { parked (core g) #[rcase ch z] (.recv true)with status:= .running } w=θ P true g w:=stepG_same rfl rfl rfl w;exact⟨rfl,by rw[e];exact h.2.1,h.2.2⟩
theorem fS {g:Γ}(h:g.status=.running):awake g:=awake_of (.inl h)
theorem kr {g:Γ}{cs:Array CommCase}{sh:CommShape}:awake (parked g cs sh):=awake_of (.inr (.inl rfl))
theorem Bn {g:Γ}{w:Θ}{s r:Nat}{tm:Bool}(hc:w.heap[ch]?=some (.chan 0 #[] false s r tm)):Es P w (parked g #[rcase ch z] (.recv true)):=λx x' d=>woken_recv_open x x' (w:=w.at d) hc
theorem Bo {g:Γ}{w:Θ}{s r:Nat}{tm:Bool}{v z':Ξ}(hc:w.heap[ch]?=some (.chan 0 #[] false s r tm)):Es P w (parked g #[scase ch v z'] .send):=λx x' d=>woken_send_open x x' (w:=w.at d) hc
theorem OQ (hY:Lay Q Shun c ch Low ro){vs:List Ξ}(hK:∀v vs',vs=v::vs'→EC P Q Shun c ch Low ro X z Fin gF w0 vs'){aW:Nat→Prop}{b:Γ}{wG:Θ}
 (hG:af P false ro (StopG P ro ch gF vs) aW b wG):∀(g:Γ) (bG:Nat→Prop) (wM:Θ),(∀w₁,cq ro bG wM w₁→iM P ch z (Bj P ro ch z Fin vs) bG g w₁)→
   ∀gs w sl t q,eM P c t gs q→gs[0]?=some (parked (core g) #[rcase ch z] (.recv true))→gs[c]?=some b→cq ro bG wM w→cq ro aW wG w→lu Q Shun c ch Low ro bG aW X false w0 w t→
   Reach P (crowd gs w sl) t (LF P Q Shun c ch Low ro X z Fin gF w0):=by
 induction hG with
 | @stop aW b wG hS=>
   intro g bG wM hM gs w sl t q hC h0 hc lS qh eW;have hb:b.status=.running:=(hS wG (cq.refl _ _ _)).running;refine iq (J:=λw t=>cq ro bG wM w∧cq ro aW wG w∧lu Q Shun c ch Low ro bG aW X false w0 w t) kr (fS hb) (.inr hb)
    (λw t d ops hj h1 h2 h3 h4=>⟨hj.1.trans (fx _ _ _ d),hj.2.1.trans (fx _ _ _ d),hj.2.2.still d (λop hop=>(h1 op hop).1) (h2 _) h3 h4⟩)
    (λw t hj=>by obtain⟨s,r,tm,e⟩:=hj.2.2.chan;exact⟨Bn e,.run hb⟩)
    (λhr=>by cases hr) (λ_ gs w sl t q hC h0 hc hj=>?_) gs w sl t q hC h0 hc ⟨lS,qh,eW⟩
   obtain⟨lS,qh,eW⟩:=hj;obtain⟨s,r,tm,hch⟩:=eW.chan;cases vs with
   |nil=>
    obtain⟨_,hmw,g₂,hg2,hx⟩:=hS w qh;obtain⟨hst,fU⟩:=hx s r tm hch;obtain⟨gs',e1,e2,e3,e4⟩:=kL (sl:=sl) hC h0 hc hst;refine⟨_,_,e1,.here ⟨gs',_,sl,q,bG,aW,_,_,t,_,_,rfl,e2,e3,e4,hg2,?_,fU,eW.close hY hch,rfl,eW.Bl⟩⟩;have hw:woken P b g₂ (w.setChan ch 0 #[] true s r tm) (parked (core g) #[rcase ch z] (.recv true))={ parked (core g) #[rcase ch z] (.recv true)with status:= .running }:=by
     unfold woken;rw[zab (by simp[hmw,hg2])];exact again_recv_closed (heap_put hch)
    rw[hw];exact cQ.2 (.stop λw₂ h₂=>(hM w₂ ((lS.trans (kz (eW.chM hY) hY.LD)).trans h₂)).again)
   |cons v vs'=>
    obtain⟨_,z',hst,sw⟩:=hS w qh;obtain⟨gs',u,e1,e2,e3,e4,e5⟩:=vK (sl:=sl) hC h0 hc hst hch;exact⟨_,_,e1,hK v vs' rfl gs' _ sl _ q bG aW _ _ e3 e4 e5 (cQ.2 ((cQ.1 (hM w lS).2.2).rely (kz (eW.chM hY) hY.LD))) (dR.2 ((dR.1 sw).rely (kz (eW.chG hY) hY.LD))) (eW.meet hY hch e2)⟩
 | @step aW b wG nx nw ne hb h1 h2 _ ih=>
   intro g bG wM hM gs w sl t q hC h0 hc lS qh eW;refine iq (J:=λw t=>cq ro bG wM w∧cq ro aW wG w∧lu Q Shun c ch Low ro bG aW X false w0 w t) kr (fS hb) (.inr hb)
    (λw t d ops hj h1 h2 h3 h4=>⟨hj.1.trans (fx _ _ _ d),hj.2.1.trans (fx _ _ _ d),hj.2.2.still d (λop hop=>(h1 op hop).1) (h2 _) h3 h4⟩)
    (λw t hj=>by obtain⟨s,r,tm,e⟩:=hj.2.2.chan;exact⟨Bn e,.run hb⟩)
    (λhr=>by cases hr) (λ_ gs w sl t q hC h0 hc hj=>?_) gs w sl t q hC h0 hc ⟨lS,qh,eW⟩
   obtain⟨lS,qh,eW⟩:=hj;obtain⟨gs',e1,e2,e3,e4⟩:=kL (sl:=sl) hC h0 hc (h1 w qh);obtain⟨k1,k2⟩:=eW.stepG (fn:=b.frame.fn) (pos:=b.frame.place) hY (h2 w qh);obtain⟨s,r,tm,hch⟩:=k1.chan;rw[woken_recv_open _ _ hch]at e3;exact⟨_,_,e1,ih w qh g bG wM hM gs' _ sl _ q e2 e3 e4 (lS.trans k2) (cq.refl _ _ _) k1⟩
theorem OS (hY:Lay Q Shun c ch Low ro){v:Ξ}{vs:List Ξ}(hK:EC P Q Shun c ch Low ro X z Fin gF w0 vs){bG:Nat→Prop}{a:Γ}{wM:Θ}
 (hM:af P true ro (iM P ch z (Bj P ro ch z Fin (v::vs))) bG a wM):∀(g:Γ) (z':Ξ) (aW:Nat→Prop) (wG:Θ),jU P ro ch gF vs aW (Conc.served (core g) ξ) wG→
   ∀gs w sl t q,eM P c t gs q→gs[0]?=some a→gs[c]?=some (parked (core g) #[scase ch v z'] .send)→cq ro bG wM w→cq ro aW wG w→lu Q Shun c ch Low ro bG aW X false w0 w t→
   Reach P (crowd gs w sl) t (LF P Q Shun c ch Low ro X z Fin gF w0):=by
 induction hM with
 | @stop bG a wM hS=>
   intro g z' aW wG hG gs w sl t q hC h0 hc lS qh eW;have ha:a.status=.running:=(hS wM (cq.refl _ _ _)).1;refine iq (J:=λw t=>cq ro bG wM w∧cq ro aW wG w∧lu Q Shun c ch Low ro bG aW X false w0 w t) (fS ha) kr (.inl ha)
    (λw t d ops hj h1 h2 h3 h4=>⟨hj.1.trans (fx _ _ _ d),hj.2.1.trans (fx _ _ _ d),hj.2.2.still d (λop hop=>(h1 op hop).1) (h2 _) h3 h4⟩)
    (λw t hj=>by obtain⟨s,r,tm,e⟩:=hj.2.2.chan;exact⟨.run ha,Bo e⟩)
    (λ_ gs w sl t q hC h0 hc hj=>?_) (λhr=>by cases hr) gs w sl t q hC h0 hc ⟨lS,qh,eW⟩
   obtain⟨lS,qh,eW⟩:=hj;obtain⟨s,r,tm,hch⟩:=eW.chan;obtain⟨_,hst,sw⟩:=hS w lS;obtain⟨gs',u,e1,e2,e3,e4,e5⟩:=vJ (sl:=sl) hC h0 hc hst hch;exact⟨_,_,e1,hK gs' _ sl _ q bG aW _ _ e3 e4 e5 (cQ.2 ((cQ.1 sw).rely (kz (eW.chM hY) hY.LD))) (dR.2 ((dR.1 hG).rely (qh.trans (kz (eW.chG hY) hY.LD)))) (eW.meet hY hch e2)⟩
 | @step bG a wM nx nw ne ha h1 h2 _ ih=>
   intro g z' aW wG hG gs w sl t q hC h0 hc lS qh eW;refine iq (J:=λw t=>cq ro bG wM w∧cq ro aW wG w∧lu Q Shun c ch Low ro bG aW X false w0 w t) (fS ha) kr (.inl ha)
    (λw t d ops hj h1 h2 h3 h4=>⟨hj.1.trans (fx _ _ _ d),hj.2.1.trans (fx _ _ _ d),hj.2.2.still d (λop hop=>(h1 op hop).1) (h2 _) h3 h4⟩)
    (λw t hj=>by obtain⟨s,r,tm,e⟩:=hj.2.2.chan;exact⟨.run ha,Bo e⟩)
    (λ_ gs w sl t q hC h0 hc hj=>?_) (λhr=>by cases hr) gs w sl t q hC h0 hc ⟨lS,qh,eW⟩
   obtain⟨lS,qh,eW⟩:=hj;obtain⟨gs',e1,e2,e3,e4⟩:=sk (sl:=sl) hC h0 hc (h1 w lS);obtain⟨k1,k2⟩:=eW.OP (fn:=a.frame.fn) (pos:=a.frame.place) hY (h2 w lS);obtain⟨s,r,tm,hch⟩:=k1.chan;rw[woken_send_open _ _ hch]at e4;exact⟨_,_,e1,ih w lS g z' aW wG hG gs' _ sl _ q e2 e3 e4 (cq.refl _ _ _) (qh.trans k2) k1⟩
theorem Bp (hY:Lay Q Shun c ch Low ro){vs:List Ξ}(hK:∀v vs',vs=v::vs'→EC P Q Shun c ch Low ro X z Fin gF w0 vs'){bG:Nat→Prop}{a:Γ}{wM:Θ}
 (hM:af P true ro (iM P ch z (Bj P ro ch z Fin vs)) bG a wM)
 (H0:∀aW b wG,af P false ro (StopG P ro ch gF vs) aW b wG→∀gs w sl t q,eM P c t gs q→gs[0]?=some a→gs[c]?=some b→cq ro bG wM w→cq ro aW wG w→lu Q Shun c ch Low ro bG aW X false w0 w t→∃m' ops,runT P (crowd gs w sl) 0=(.next m',ops)∧Reach P m' (t++ops) (LF P Q Shun c ch Low ro X z Fin gF w0))
 {aW:Nat→Prop}{b:Γ}{wG:Θ}(hG:af P false ro (StopG P ro ch gF vs) aW b wG):
  ∀gs w sl t q,eM P c t gs q→gs[0]?=some a→gs[c]?=some b→cq ro bG wM w→cq ro aW wG w→lu Q Shun c ch Low ro bG aW X false w0 w t→
  Reach P (crowd gs w sl) t (LF P Q Shun c ch Low ro X z Fin gF w0):=by
 have ha:a.status=.running:=hM.running λ_ _ _ h=>h.1
 induction hG with
 | @stop aW b wG hS=>
   intro gs w sl t q hC h0 hc lS qh eW;have hb:b.status=.running:=(hS wG (cq.refl _ _ _)).running;refine iq (J:=λw t=>cq ro bG wM w∧cq ro aW wG w∧lu Q Shun c ch Low ro bG aW X false w0 w t) (fS ha) (fS hb) (.inr hb)
    (λw t d ops hj h1 h2 h3 h4=>⟨hj.1.trans (fx _ _ _ d),hj.2.1.trans (fx _ _ _ d),hj.2.2.still d (λop hop=>(h1 op hop).1) (h2 _) h3 h4⟩)
    (λw t hj=>⟨.run ha,.run hb⟩)
    (λ_ gs w sl t q hC h0 hc hj=>H0 aW b wG (.stop hS) gs w sl t q hC h0 hc hj.1 hj.2.1 hj.2.2) (λ_ gs w sl t q hC h0 hc hj=>?_) gs w sl t q hC h0 hc ⟨lS,qh,eW⟩
   obtain⟨lS,qh,eW⟩:=hj;obtain⟨s,r,tm,hch⟩:=eW.chan;cases vs with
   |nil=>
    obtain⟨_,hmw,g₂,hg2,hx⟩:=hS w qh;obtain⟨hst,fU⟩:=hx s r tm hch;obtain⟨gs',e1,e2,e3,e4⟩:=kL (sl:=sl) hC h0 hc hst;rw[woken_run ha]at e3;exact⟨_,_,e1,.here ⟨gs',_,sl,q,bG,aW,_,_,t,_,_,rfl,e2,e3,e4,hg2,cQ.2 (hM.rely (lS.trans (kz (eW.chM hY) hY.LD))),fU,eW.close hY hch,rfl,eW.Bl⟩⟩
   |cons v vs'=>
    obtain⟨_,z',hst,sw⟩:=hS w qh;obtain⟨gs',e1,e2,e3,e4⟩:=vI (sl:=sl) hC h0 hc (by simp[ha]) hst hch;exact⟨_,_,e1,OS hY (hK v vs' rfl) hM b z' aW w sw gs' w sl _ q e2 e3 e4 lS (cq.refl _ _ _) (by simpa using eW)⟩
 | @step aW b wG nx nw ne hb h1 h2 h3 ih=>
   intro gs w sl t q hC h0 hc lS qh eW;refine iq (J:=λw t=>cq ro bG wM w∧cq ro aW wG w∧lu Q Shun c ch Low ro bG aW X false w0 w t) (fS ha) (fS hb) (.inr hb)
    (λw t d ops hj h1 h2 h3 h4=>⟨hj.1.trans (fx _ _ _ d),hj.2.1.trans (fx _ _ _ d),hj.2.2.still d (λop hop=>(h1 op hop).1) (h2 _) h3 h4⟩)
    (λw t hj=>⟨.run ha,.run hb⟩)
    (λ_ gs w sl t q hC h0 hc hj=>H0 aW b wG (.step nx nw ne hb h1 h2 h3) gs w sl t q hC h0 hc hj.1 hj.2.1 hj.2.2) (λ_ gs w sl t q hC h0 hc hj=>?_) gs w sl t q hC h0 hc ⟨lS,qh,eW⟩
   obtain⟨lS,qh,eW⟩:=hj;obtain⟨gs',e1,e2,e3,e4⟩:=kL (sl:=sl) hC h0 hc (h1 w qh);obtain⟨k1,k2⟩:=eW.stepG (fn:=b.frame.fn) (pos:=b.frame.place) hY (h2 w qh);rw[woken_run ha]at e3;exact⟨_,_,e1,ih w qh gs' _ sl _ q e2 e3 e4 (lS.trans k2) (cq.refl _ _ _) k1⟩
theorem ED (hY:Lay Q Shun c ch Low ro){vs:List Ξ}(hK:∀v vs',vs=v::vs'→EC P Q Shun c ch Low ro X z Fin gF w0 vs'){bG:Nat→Prop}{a:Γ}{wM:Θ}
 (hM:af P true ro (iM P ch z (Bj P ro ch z Fin vs)) bG a wM):∀(aW:Nat→Prop) (b:Γ) (wG:Θ),af P false ro (StopG P ro ch gF vs) aW b wG→
   ∀gs w sl t q,eM P c t gs q→gs[0]?=some a→gs[c]?=some b→cq ro bG wM w→cq ro aW wG w→lu Q Shun c ch Low ro bG aW X false w0 w t→
   Reach P (crowd gs w sl) t (LF P Q Shun c ch Low ro X z Fin gF w0):=by
 induction hM with
 | @stop bG a wM hS=>
   intro aW b wG hG;refine Bp hY hK (.stop hS) (λaW b wG hG gs w sl t q hC h0 hc lS qh eW=>?_) hG;obtain⟨s,r,tm,hch⟩:=eW.chan;have hb:b.status=.running:=hG.running λ_ _ _ h=>h.running;obtain⟨gs',e1,e2,e3,e4⟩:=vH (sl:=sl) hC h0 hc (by simp[hb]) (hS w lS).2.1 hch;exact⟨_,_,e1,OQ hY hK hG a bG wM hS gs' w sl _ q e2 e3 e4 lS qh (by simpa using eW)⟩
 | @step bG a wM nx nw ne ha h1 h2 h3 ih=>
   intro aW b wG hG;refine Bp hY hK (.step nx nw ne ha h1 h2 h3) (λaW b wG hG gs w sl t q hC h0 hc lS qh eW=>?_) hG;have hb:b.status=.running:=hG.running λ_ _ _ h=>h.running;obtain⟨gs',e1,e2,e3,e4⟩:=sk (sl:=sl) hC h0 hc (h1 w lS);obtain⟨k1,k2⟩:=eW.OP (fn:=a.frame.fn) (pos:=a.frame.place) hY (h2 w lS);rw[woken_run hb]at e4;exact⟨_,_,e1,ih w lS aW b wG hG gs' _ sl _ q e2 e3 e4 (cq.refl _ _ _) (qh.trans k2) k1⟩
theorem OT (hY:Lay Q Shun c ch Low ro):∀vs,EC P Q Shun c ch Low ro X z Fin gF w0 vs
 |[],gs,w,sl,t,q,bG,aW,a,b,hC,h0,hc,hM,hG,eW=>ED hY (λ_ _ e=>by cases e) (cQ.1 hM) aW b w (dR.1 hG) gs w sl t q hC h0 hc (cq.refl _ _ _) (cq.refl _ _ _) eW
 |v::vs,gs,w,sl,t,q,bG,aW,a,b,hC,h0,hc,hM,hG,eW=>ED hY (λv' vs' e=>by cases e;exact OT hY vs) (cQ.1 hM) aW b w (dR.1 hG) gs w sl t q hC h0 hc (cq.refl _ _ _) (cq.refl _ _ _) eW
end
end Go.Ren
