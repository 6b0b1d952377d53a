import Derived.Orders
import Derived.Test.YtlhimdjkkiflhaaGreatReads08
set_option maxHeartbeats 8000000
set_option maxRecDepth 100000
open Go renaming Frame→Γ,Goroutine→Δ,World→Λ,Program→Ξ,Value→Φ,exitTo→ζ,FuncId→η,stepG→θ,yielded→ι,Operand→ξ,undef→π,Trace→υ,Event→φ,execOp→ψ
open Go.Sem renaming runT→Θ
open Go.MemOp renaming ofEvents→Ω
open Go.Region renaming wanted→χ
namespace Go.Ren
open Go Go.Conc
def wC (σ:List (Nat×Φ)):ξ→Bool
 |.tmp t=>σ.all λp=>p.1 != t
 |_=>true
theorem s7 {σ:List (Nat×Φ)}{t:Nat}(h:wC σ (.tmp t)=true):∀p∈σ,p.1≠t:=λp hp=>by
 have:=zbz.1 h p hp;simpa using this
def GU (σ:List (Nat×Φ))(t:Array Φ):Array Φ:=σ.foldl (λt p=>t.setIfInBounds p.1 p.2) t
theorem AV (t:Nat):∀(σ:List (Nat×Φ)) (x:Array Φ),(∀p∈σ,p.1≠t)→(GU σ x)[t]?=x[t]?
 |[],_,_=>rfl
 |p::σ,x,h=>by
  show(GU σ (x.setIfInBounds p.1 p.2))[t]?=_;rw[AV t σ _ λq hq=>h q (zbm _ hq),zax (h p zbt)]
theorem GX (d:Nat)(v:Φ):∀(σ:List (Nat×Φ)) (x:Array Φ),(∀p∈σ,p.1≠d)→(GU σ x).setIfInBounds d v=GU σ (x.setIfInBounds d v)
 |[],_,_=>rfl
 |p::σ,x,h=>by
  show(GU σ (x.setIfInBounds p.1 p.2)).setIfInBounds d v=GU σ ((x.setIfInBounds d v).setIfInBounds p.1 p.2);rw[GX d v σ _ λq hq=>h q (zbm _ hq),Array.setIfInBounds_comm _ _ (h p zbt)]
section
variable (σ:List (Nat×Φ))
def I2:Option Tmp→Bool
 |some d=>wC σ (.tmp d)
 |none=>true
def qX (ops:Array Oper)(o:Oper):Bool:=
 o.op.operands.all (wC σ)&&(match o.op with|.select ..=>false|_=>true)&&I2 σ o.dst&&(match o.guard with|some (j,_)=>I2 σ ((ops[j]?).bind (·.dst))|none=>true)
def kJ:Code→Bool
 |.skip |.ret |.exit _|.refuse _=>true
 |.region _ ops _=>ops.all (qX σ ops)
 |.seq a b=>kJ a&&kJ b
 |.cond c a b=>wC σ c&&kJ a&&kJ b
 |.block _ a|.loop a=>kJ a
 |_=>false
def eT:Item→Bool
 |.code c=>kJ σ c
 |.inBlock _=>true
 |.inLoop c=>kJ σ c
 |.inRegion ops l=>l.all λi=>(ops[i]?).all (qX σ ops)
 |_=>false
def ey (k:List Item)(x:Γ):Γ:={ x with todo:=x.todo.dropLast++k,tmps:=GU σ x.tmps }
def Cz (k:List Item):List Γ→List Γ
 |[]=>[]
 |[x]=>[ey σ k x]
 |c::d::r=>c::Cz k (d::r)
def sFJ (k:List Item)(f:Γ):List Γ→Γ
 |[]=>ey σ k f
 |_::_=>f
end
theorem ea {id:Nat}{q:Item→Bool}:∀{l k':List Item},ζ id l=some k'→l.all q=true→k'.all q=true
 |[],k',h,_=>by simp[ζ]at h
 |.inBlock id'::l,k',h,hl=>by
  simp only[zaq,zai]at hl;simp only[ζ]at h;split at h
  ·cases h;exact hl.2
  ·exact ea h hl.2
 |.code c::l,k',h,hl=>by simp only[ζ,zaq,zai]at h hl;exact ea h hl.2
 |.inLoop c::l,k',h,hl=>by simp only[ζ,zaq,zai]at h hl;exact ea h hl.2
 |.inRegion ..::l,k',h,hl=>by simp only[ζ,zaq,zai]at h hl;exact ea h hl.2
 |.inScope c::l,k',h,hl=>by simp only[ζ,zaq,zai]at h hl;exact ea h hl.2
 |.inRangeFunc c::l,k',h,hl=>by simp only[ζ,zaq,zai]at h hl;exact ea h hl.2
 |.endRangeFunc c::l,k',h,hl=>by simp only[ζ,zaq,zai]at h hl;exact ea h hl.2
 |.beginRound::l,k',h,hl=>by simp only[ζ,zaq,zai]at h hl;exact ea h hl.2
 |.call ..::l,k',h,hl=>by simp only[ζ,zaq,zai]at h hl;exact ea h hl.2
 |.extern ..::l,k',h,hl=>by simp only[ζ,zaq,zai]at h hl;exact ea h hl.2
section
variable {P:Ξ}{F:η→Bool}{S:Sd}{w w1:Λ}{es:Array φ}{σ:List (Nat×Φ)}
theorem wD {ops:Array Oper}{o:Oper}(h:qX σ ops o=true):o.op.operands.all (wC σ)=true∧(∀cs b,o.op≠.select cs b)∧I2 σ o.dst=true:=by
 unfold qX at h;simp only[zai]at h;refine⟨h.1.1.1,λcs b e=>?_,h.1.2⟩;have:=h.1.1.2;rw[e]at this;cases this
theorem AW {ops:Array Oper}{o:Oper}(h:qX σ ops o=true)(t:Array Φ):χ o (ι ops (GU σ t))=χ o (ι ops t):=by
 unfold qX at h;simp only[zai]at h;have h4:=h.2;unfold χ;cases hg:o.guard with
 |none=>rfl
 |some p=>
  obtain⟨j,want⟩:=p;rw[hg]at h4;dsimp only at h4 ⊢
  congr 1
  unfold ι;cases hd:(ops[j]?).bind (·.dst)with
  |none=>rfl
  |some d=>
   rw[hd]at h4;simp only[Option.bind_some];rw[AV d σ t (s7 h4)]
theorem zr {x:ξ}(h:wC σ x=true)(fr:Γ)(k k':List Item):Γ.eval { fr with todo:=k,tmps:=GU σ fr.tmps } x=Γ.eval { fr with todo:=k' } x:=by
 cases x with
 |tmp t=>
  simp only[Γ.eval,zby];rw[AV t σ _ (s7 h)]
 |_=>rfl
theorem mC (k:List Item){x:Γ}{h:Item}{l:List Item}(hb:x.todo=h::l++[pz])(hh:az P F S h=true)(hj:eT σ h=true)(v:Φ):(ey σ k x).finish v=ey σ k (x.finish v)∧(x.finish v).fn=x.fn∧(x.finish v).mode=x.mode∧∃h',(x.finish v).todo=h'::l++[pz]∧eT σ h'=true:=by
 obtain⟨fn0,tmps,todo,defers,mode,kind,np⟩:=x;simp only at hb;subst hb;have dl:∀(a:Item),((a::(l++[pz])).dropLast++k)=a::(l++k):=λa=>by
  rw[show a::(l++[pz])=(a::l)++[pz] from rfl,gV];rfl
 cases h with
 |inRegion ops idx=>
  cases idx with
  |nil=>exact⟨by simp only[Γ.finish,ey,zaV,dl],rfl,rfl,_,rfl,hj⟩
  |cons i rest=>
   have hj':=hj;simp only[eT,zaq,zai]at hj';refine⟨?_,rfl,rfl,.inRegion ops rest,rfl,hj'.2⟩;have hd:I2 σ ((ops[i]?).bind (·.dst))=true:=by
    cases ho:ops[i]? with
    |none=>rfl
    |some o=>
     have:=hj'.1;rw[ho]at this;exact(wD this).2.2
   simp only[Γ.finish,ey,zaV,dl]
   revert hd
   generalize (ops[i]?).bind (·.dst)=d;intro hd;cases d with
   |none=>rfl
   |some d=>simp only[GX d v σ tmps (s7 hd)]
 |code c=>exact⟨by simp only[Γ.finish,ey,zaV,dl],rfl,rfl,_,rfl,hj⟩
 |inBlock id=>exact⟨by simp only[Γ.finish,ey,zaV,dl],rfl,rfl,_,rfl,hj⟩
 |inLoop c=>exact⟨by simp only[Γ.finish,ey,zaV,dl],rfl,rfl,_,rfl,hj⟩
 |_=>simp[az]at hh
theorem oO (k:List Item){x:Γ}{h:Item}{l:List Item}(hb:I1 x (h::l))(hh:az P F S h=true)(hj:(h::l).all (eT σ)=true){f1:Γ}{a1:List Γ}(hr:(aS P x []).runT P w #[]=(.ok (f1,a1) w1,es)):(∃l1,I1 f1 l1∧l1.all (eT σ)=true∧f1.fn=x.fn∧a1=[]∧(aS P (ey σ k x) []).runT P w #[]=(.ok (ey σ k f1,[]) w1,es))∨
 (f1={ x with mode:= .returning }∧a1=[]∧(aS P (ey σ k x) []).runT P w #[]=(.ok (ey σ k f1,[]) w1,es))∨
 (a1=[x]∧(aS P (ey σ k x) []).runT P w #[]=(.ok (f1,[ey σ k x]) w1,es)):=by
 obtain⟨fn0,tmps,todo,defers,mode,kind,np⟩:=x;obtain⟨ht,hm⟩:=hb;simp only at ht hm;subst ht hm;have dl:∀(a:Item),((a::(l++[pz])).dropLast++k)=a::(l++k):=λa=>by
  rw[show a::(l++[pz])=(a::l)++[pz] from rfl,gV];rfl
 have dl0:(l++[pz]).dropLast++k=l++k:=by rw[gV]
 have dl2:∀(a b:Item),((a::b::(l++[pz])).dropLast++k)=a::b::(l++k):=λa b=>by
  rw[show a::b::(l++[pz])=(a::b::l)++[pz] from rfl,gV];rfl
 simp only[zaq,zai]at hj;obtain⟨s8,yi⟩:=hj;simp only[zaV,ey,dl]at hr ⊢
 match h,hh,s8,hr with
 |.code .ret,_,_,hr=>
  simp only[aS,pure,Θ,zah,zam]at hr;obtain⟨⟨⟨rfl,rfl⟩,rfl⟩,rfl⟩:=hr;exact .inr (.inl ⟨rfl,rfl,by simp only[aS,pure,Θ,dl]⟩)
 |.code .skip,_,_,hr=>
  simp only[aS,pure,Θ,zah,zam]at hr;obtain⟨⟨⟨rfl,rfl⟩,rfl⟩,rfl⟩:=hr;exact .inl ⟨l,⟨rfl,rfl⟩,yi,rfl,rfl,by simp only[aS,pure,Θ,dl0]⟩
 |.inBlock _,_,_,hr=>
  simp only[aS,pure,Θ,zah,zam]at hr;obtain⟨⟨⟨rfl,rfl⟩,rfl⟩,rfl⟩:=hr;exact .inl ⟨l,⟨rfl,rfl⟩,yi,rfl,rfl,by simp only[aS,pure,Θ,dl0]⟩
 |.code (.seq a b),_,s8,hr=>
  simp only[aS,pure,Θ,zah,zam]at hr;obtain⟨⟨⟨rfl,rfl⟩,rfl⟩,rfl⟩:=hr;simp only[eT,kJ,zai]at s8;exact .inl ⟨.code a::.code b::l,⟨rfl,rfl⟩,by simp only[zaq,eT,s8.1,s8.2,yi,Bool.and_self],rfl,rfl,by simp only[aS,pure,Θ,dl2]⟩
 |.code (.block id a),_,s8,hr=>
  simp only[aS,pure,Θ,zah,zam]at hr;obtain⟨⟨⟨rfl,rfl⟩,rfl⟩,rfl⟩:=hr;simp only[eT,kJ]at s8;exact .inl ⟨.code a::.inBlock id::l,⟨rfl,rfl⟩,by simp only[zaq,eT,s8,yi,Bool.and_self],rfl,rfl,by simp only[aS,pure,Θ,dl2]⟩
 |.code (.loop a),_,s8,hr=>
  simp only[aS,pure,Θ,zah,zam]at hr;obtain⟨⟨⟨rfl,rfl⟩,rfl⟩,rfl⟩:=hr;simp only[eT,kJ]at s8;exact .inl ⟨.code a::.inLoop a::l,⟨rfl,rfl⟩,by simp only[zaq,eT,s8,yi,Bool.and_self],rfl,rfl,by simp only[aS,pure,Θ,dl2]⟩
 |.inLoop a,_,s8,hr=>
  simp only[aS,pure,Θ,zah,zam]at hr;obtain⟨⟨⟨rfl,rfl⟩,rfl⟩,rfl⟩:=hr;simp only[eT]at s8;exact .inl ⟨.code a::.inLoop a::l,⟨rfl,rfl⟩,by simp only[zaq,eT,s8,yi,Bool.and_self],rfl,rfl,by simp only[aS,pure,Θ,dl2]⟩
 |.inRegion _ [],_,_,hr=>
  simp only[aS,pure,Θ,zah,zam]at hr;obtain⟨⟨⟨rfl,rfl⟩,rfl⟩,rfl⟩:=hr;exact .inl ⟨l,⟨rfl,rfl⟩,yi,rfl,rfl,by simp only[aS,pure,Θ,dl0]⟩
 |.code (.cond c a b),_,s8,hr=>
  simp only[eT,kJ,zai]at s8;simp only[aS]at hr ⊢;have ev:Γ.eval ⟨fn0,GU σ tmps,.code (.cond c a b)::(l++k),defers,.run,kind,np⟩ c=Γ.eval ⟨fn0,tmps,.code (.cond c a b)::(l++[pz]),defers,.run,kind,np⟩ c:=zr s8.1.1 ⟨fn0,tmps,[],defers,.run,kind,np⟩ _ _;rw[ev];generalize Γ.eval ⟨fn0,tmps,.code (.cond c a b)::(l++[pz]),defers,.run,kind,np⟩ c=q at hr ⊢;cases q with
  |bool t=>
   simp only[pure,Θ,zah,zam]at hr;obtain⟨⟨⟨rfl,rfl⟩,rfl⟩,rfl⟩:=hr;exact .inl ⟨.code (if t then a else b)::l,⟨rfl,rfl⟩,by simp only[zaq,eT,yi,zbO];cases t<;>simp[s8.1.2,s8.2],rfl,rfl,by simp only[pure,Θ,dl]⟩
  |_=>simp[stuck]at hr
 |.code (.exit id),_,_,hr=>
  simp only[aS]at hr ⊢;cases he:ζ id (l++[pz])with
  |none=>rw[he]at hr;simp[stuck]at hr
  |some k'=>
   rw[he]at hr;have hall:=ea (q:=eT σ) he (by rw[List.all_append,yi];rfl);obtain⟨l',rfl,h2⟩:=dz k he;rw[h2];rw[List.all_append,zai]at hall;simp only[pure,Θ,zah,zam]at hr;obtain⟨⟨⟨rfl,rfl⟩,rfl⟩,rfl⟩:=hr;exact .inl ⟨l',⟨rfl,rfl⟩,hall.1,rfl,rfl,by simp only[pure,Θ,gV]⟩
 |.code (.region id ops draw),_,s8,hr=>
  simp only[eT,kJ]at s8;have WM:∀idx:List Nat,eT σ (.inRegion ops idx)=true:=λidx=>by
   simp only[eT,zbz];intro i _;cases ho:ops[i]? with
   |none=>rfl
   |some o=>exact zbQ.1 s8 o (zbG ho)
  cases draw with
  |false=>
   simp only[aS,pure,Θ,zah,zam,zaN,if_false]at hr ⊢;obtain⟨⟨⟨rfl,rfl⟩,rfl⟩,rfl⟩:=hr;exact .inl ⟨.inRegion ops (List.range ops.size)::l,⟨rfl,rfl⟩,by rw[zaq,WM,yi];rfl,rfl,rfl,by simp only[dl,and_self]⟩
  |true=>
   simp only[aS,if_true,bind,choose,Sem.bind,Θ,Question.forced,zaN,if_false,pure,zah,zam,Question.cut]at hr ⊢;obtain⟨⟨⟨rfl,rfl⟩,rfl⟩,rfl⟩:=hr;exact .inl ⟨.inRegion ops _::l,⟨rfl,rfl⟩,by rw[zaq,WM,yi];rfl,rfl,rfl,by simp only[dl,and_self]⟩
 |.inRegion ops (i::rest),hh,s8,hr=>
  have lD:=λv=>mC (P:=P) (F:=F) (S:=S) (σ:=σ) k (x:=⟨fn0,tmps,.inRegion ops (i::rest)::(l++[pz]),defers,.run,kind,np⟩) (h:= .inRegion ops (i::rest)) (l:=l) rfl hh s8 v;simp only[eT,zaq,zai]at s8;simp only[aS]at hr ⊢;have fin:∀v,(⟨fn0,GU σ tmps,.inRegion ops (i::rest)::(l++k),defers,.run,kind,np⟩:Γ).finish v=ey σ k ((⟨fn0,tmps,.inRegion ops (i::rest)::(l++[pz]),defers,.run,kind,np⟩:Γ).finish v):=λv=>by
   have:=(lD v).1;simp only[ey,dl]at this;exact this
  have bot:∀v,I1 ((⟨fn0,tmps,.inRegion ops (i::rest)::(l++[pz]),defers,.run,kind,np⟩:Γ).finish v) (.inRegion ops rest::l):=λv=>⟨rfl,rfl⟩;have hall:(Item.inRegion ops rest::l).all (eT σ)=true:=by
   rw[zaq,yi,zbO];exact s8.2
  cases ho:ops[i]? with
  |none=>
   rw[ho]at hr;simp only[Option.map_none,zbH,zaN,if_false]at hr ⊢;simp only[pure,Θ,zah,zam]at hr;obtain⟨⟨⟨rfl,rfl⟩,rfl⟩,rfl⟩:=hr;exact .inl ⟨_,bot π,hall,rfl,rfl,by simp only[pure,Θ,fin];rfl⟩
  |some o=>
   have hjo:qX σ ops o=true:=by
    have:=s8.1;rw[ho]at this;exact this
   have ev:ψ (Γ.eval ⟨fn0,GU σ tmps,.inRegion ops (i::rest)::(l++k),defers,.run,kind,np⟩) o=ψ (Γ.eval ⟨fn0,tmps,.inRegion ops (i::rest)::(l++[pz]),defers,.run,kind,np⟩) o:=
    execOp_congr o (wD hjo).2.1 λy hy=>zr (zbQ.1 (wD hjo).1 y hy) ⟨fn0,tmps,[],defers,.run,kind,np⟩ _ _
   rw[ho]at hr;simp only[zbA,zbw]at hr ⊢;rw[AW hjo];by_cases hw:χ o (ι ops tmps)=true
   ·rw[zac hw]at hr ⊢;rw[ev];generalize (ψ (Γ.eval ⟨fn0,tmps,.inRegion ops (i::rest)::(l++[pz]),defers,.run,kind,np⟩) o)=ex at hr ⊢;rw[bB]at hr ⊢;cases hrun:ex.runT P w #[]with
    |mk r di=>
     rw[hrun]at hr;cases r with
     |halt hh w1=>simp at hr
     |ok nx w1=>
      dsimp only at hr ⊢;cases nx with
      |value v=>
       simp only[pure,Θ,zah,zam]at hr;obtain⟨⟨⟨rfl,rfl⟩,rfl⟩,rfl⟩:=hr;exact .inl ⟨_,bot v,hall,rfl,rfl,by simp only[pure,Θ,fin];rfl⟩
      |skip=>
       simp only[pure,Θ,zah,zam]at hr;obtain⟨⟨⟨rfl,rfl⟩,rfl⟩,rfl⟩:=hr;exact .inl ⟨_,bot π,hall,rfl,rfl,by simp only[pure,Θ,fin];rfl⟩
      |enter f args=>
       simp only[pure,Θ,zah,zam]at hr;obtain⟨⟨⟨rfl,rfl⟩,rfl⟩,rfl⟩:=hr;exact .inr (.inr ⟨rfl,rfl⟩)
      |_=>simp[stuck]at hr
   ·rw[zaa hw]at hr ⊢;simp only[pure,Θ,zah,zam]at hr;obtain⟨⟨⟨rfl,rfl⟩,rfl⟩,rfl⟩:=hr;exact .inl ⟨_,bot π,hall,rfl,rfl,by simp only[pure,Θ,fin];rfl⟩
 |.code (.rangeFunc ..),hh,_,hr=>simp[az,br]at hh
 |.code (.scope ..),hh,_,hr=>simp[az,br]at hh
 |.code (.label ..),hh,_,hr=>simp[az,br]at hh
 |.code (.goto ..),hh,_,hr=>simp[az,br]at hh
 |.code (.refuse ..),hh,_,hr=>simp[aS,stuck]at hr
 |.inScope c,hh,_,hr=>simp[az]at hh
 |.inRangeFunc c,hh,_,hr=>simp[az]at hh
 |.endRangeFunc c,hh,_,hr=>simp[az]at hh
 |.beginRound,hh,_,hr=>simp[az]at hh
 |.call ..,hh,_,hr=>simp[az]at hh
 |.extern ..,hh,_,hr=>simp[az]at hh
end
section
variable {P:Ξ}{F:η→Bool}{S:Sd}{w W:Λ}{ρ:Rn}{k:List Item}{fn0:η}{Q:Γ→List Γ→Λ→Prop}{σ:List (Nat×Φ)}
theorem uh (k:List Item)(c:Γ)(r:List Γ):∀p:List Γ,Cz σ k (p++c::r)=p++Cz σ k (c::r)
 |[]=>rfl
 |[x]=>rfl
 |x::y::p=>by
  have:=uh k c r (y::p);simp only[zaV]at this ⊢;rw[Cz,this]
theorem AX {x:Γ}{h:Item}{l:List Item}(hx:kD P F S x)(hb:I1 x (h::l)):az P F S h=true:=by
 have:=hx.todo;rw[hb.todo]at this;simp only[zaV,zaq,zai]at this;exact this.1
theorem CB {x:Γ}(h:kD P F S x):kD P F S (b8 ρ x):=⟨h.defers,h.mode,h.kind,h.round,h.todo,h.fn⟩
def I3 (σ:List (Nat×Φ))(fn0:η)(f:Γ)(ab:List Γ):Prop:=
 match ab.getLast? with
 |none=>f.fn=fn0∧(f.mode=.returning∨∃l,I1 f l∧l.all (eT σ)=true)
 |some x=>∃h l,I1 x (h::l)∧(h::l).all (eT σ)=true∧x.fn=fn0
theorem Fa {x:Γ}{h:Item}{l:List Item}(hx:kD P F S x)(hb:I1 x (h::l))(k:List Item):Co P F S (ey σ k x):=⟨hx.defers,hx.mode,hx.kind,hx.round,by
 have e:(ey σ k x).todo=h::(l++k):=by
  show x.todo.dropLast++k=_;rw[hb.todo,gV];rfl
 rw[e];simpa using AX hx hb,hx.fn⟩
theorem Fb {f f1:Γ}{ab a1:List Γ}{w0 w1 W1:Λ}{es es':Array φ}(bM:kD P F S f)(aba:∀x∈ab,kD P F S x)(hT:I3 σ fn0 f ab)(hn:ab=[]→∃h l,I1 f (h::l)∧(h::l).all (eT σ)=true)
 (hp:(aS P f ab).runT P w0 #[]=(.ok (f1,a1) w1,es))(hr:(aS P (b8 ρ f) (ab.map (b8 ρ))).runT P W #[]=(.ok (b8 ρ f1,a1.map (b8 ρ)) W1,es'))(main:Bool)(cs:List Γ):
 I3 σ fn0 f1 a1∧θ P main (G (sFJ σ k (b8 ρ f) ab) (Cz σ k (ab.map (b8 ρ))++cs)) W=.go (G (sFJ σ k (b8 ρ f1) a1) (Cz σ k (a1.map (b8 ρ))++cs)) W1 (seen P f.fn es'):=by
 cases ab with
 |nil=>
  obtain⟨hf,-⟩:=hT;obtain⟨h,l,hb,hj⟩:=hn rfl;have hh:=AX bM hb;have hb':I1 (b8 ρ f) (h::l):=⟨hb.todo,hb.run⟩;have hH:Co P F S (ey σ k (b8 ρ f)):=Fa (CB bM) hb' k;rcases oO k hb hh hj hp with⟨l1,b1,bj,b2,rfl,_⟩|⟨m1,rfl,_⟩|⟨rfl,_⟩
  ·rcases oO k hb' hh hj hr with⟨l2,c1,_,c2,_,c3⟩|⟨m1,_,m2⟩|⟨e,_⟩
   ·refine⟨⟨b2.trans hf,.inr ⟨l1,b1,bj⟩⟩,?_⟩;exact eR (main:=main) (cs:=cs) hH c3
   ·have:f1.mode=.returning:=zal Γ.mode m1;rw[b1.run]at this;cases this
   ·simp at e
  ·rcases oO k hb' hh hj hr with⟨l2,c1,_,c2,_,c3⟩|⟨_,_,c3⟩|⟨e,_⟩
   ·have:f1.mode=.returning:=zal Γ.mode m1;have c4:f1.mode=.run:=c1.run;rw[c4]at this;cases this
   ·refine⟨⟨by rw[m1];exact hf,.inl (by rw[m1])⟩,?_⟩;exact eR (main:=main) (cs:=cs) hH c3
   ·simp at e
  ·rcases oO k hb' hh hj hr with⟨l2,c1,_,c2,e,c3⟩|⟨m1,e,m2⟩|⟨e,c3⟩
   ·simp at e
   ·simp at e
   ·exact⟨⟨h,l,hb,hj,hf⟩,eR (main:=main) (cs:=cs) hH c3⟩
 |cons c r=>
  have hH:Co P F S (b8 ρ f):=Gz (CB bM);rcases AU hp with⟨p,rfl,_⟩|⟨v,rfl,rfl,_⟩
  ·rcases AU (c:=b8 ρ c) (r:=r.map (b8 ρ)) hr with⟨p',e,h2⟩|⟨v,_,e,_⟩
   ·have ep:p'=p.map (b8 ρ):=by
     rw[zbI,zaC]at e;exact(List.append_cancel_right e).symm
    subst ep;have hT':I3 σ fn0 f1 (p++c::r):=by
     unfold I3 at hT ⊢;rw[List.getLast?_append];cases hg:(c::r).getLast? with
     |none=>simp at hg
     |some x=>rw[hg]at hT;exact hT
    refine⟨hT',?_⟩;have e1:sFJ σ k (b8 ρ f1) (p++c::r)=b8 ρ f1:=by cases p<;>rfl
    rw[e1,zbI,zaC,uh];exact eR (main:=main) (cs:=cs) hH (h2 _)
   ·have:=zal List.length e;simp at this;omega
  ·rcases AU (c:=b8 ρ c) (r:=a1.map (b8 ρ)) hr with⟨p',e,h2⟩|⟨v',e1,_,h2⟩
   ·have:=zal List.length e;simp at this;omega
   ·cases a1 with
    |nil=>
     obtain⟨h,l,hb,hj,hf⟩:=hT;have hcO:=aba c zbt;have hh:=AX hcO hb;have hj':=hj;simp only[zaq,zai]at hj';obtain⟨g1,g2,g3,h',g4,g5⟩:=mC k hb.todo hh hj'.1 v;obtain⟨q1,-,-,-,-⟩:=mC k (x:=b8 ρ c) hb.todo hh hj'.1 v';refine⟨⟨g2.trans hf,.inr ⟨h'::l,⟨g4,g3.trans hb.run⟩,by rw[zaq,g5,hj'.2];rfl⟩⟩,?_⟩;have h3:=eR (main:=main) (cs:=cs) hH (h2 (ey σ k (b8 ρ c)) []);rw[q1,←e1]at h3;exact h3
    |cons d r2=>
     refine⟨?_,?_⟩
     ·unfold I3 at hT ⊢;rw[List.getLast?_cons_cons]at hT;exact hT
     ·have h3:=eR (main:=main) (cs:=cs) hH (h2 (b8 ρ c) (Cz σ k ((d::r2).map (b8 ρ))));rw[←e1]at h3;exact h3
def S4 (P:Ξ)(F:η→Bool)(S:Sd)(Q:Γ→List Γ→Λ→Prop)(σ:List (Nat×Φ))(k:List Item)(fn0:η)(cs:List Γ)(kE:Rn)(n₀:Nat)(own:Nat→Prop)(g:Δ)(W:Λ):Prop:=
 ∃fr w ρ,(I1 fr []∨fr.mode=.returning)∧fr.fn=fn0∧Lb P Q fr [] w∧PI P F S fr [] w∧iO P S ρ w W∧own=Touch S.d ρ w∧g=G (ey σ k (b8 ρ fr)) cs∧n₀≤w.heap.size∧∀r,r<n₀→ρ r=kE r
theorem CC (hC:kZ P F S){main:Bool}{ro:Nat→Prop}(hQ:∀f a w,Q f a w→a=[]∧(I1 f []∨f.mode=.returning)){cs:List Γ}{fr:Γ}{above:List Γ}{w:Λ}(hb:Lb P Q fr above w):PI P F S fr above w→I3 σ fn0 fr above→∀(kE:Rn) (n₀:Nat) (ρ:Rn) (W:Λ),iO P S ρ w W→n₀≤w.heap.size→(∀r,r<n₀→ρ r=kE r)→af P main ro (S4 P F S Q σ k fn0 cs kE n₀) (Touch S.d ρ w) (G (sFJ σ k (b8 ρ fr) above) (Cz σ k (above.map (b8 ρ))++cs)) W:=by
 induction hb with
 | @stop fr above w h=>
   intro hI hT kE n₀ ρ W hS hn vk;obtain⟨rfl,LB⟩:=hQ _ _ _ h;have hfn:fr.fn=fn0:=hT.1;refine .stop λaG hr=>⟨fr,w,_,LB,hfn,.stop h,hI,hS.rely hr,dG.symm,?_,hn,λr hlt=>by rw[aV (by omega)];exact vk r hlt⟩;show G (ey σ k (b8 ρ fr)) ([]++cs)=_;rw[eK (P:=P) (S:=S) (n:=w.heap.size) (fr:=fr) hI.cl (ρ:=ρ) (ρ':=dT ρ w.heap.size aG.heap.size) (λr hlt=>(aV hlt).symm) (λ_=>rfl)];rfl
 | @step fr above w nf na nw ne h1 h2 ih=>
   intro hI hT kE n₀ ρ W hS hn vk;by_cases hend:above=[]∧(I1 fr []∨fr.mode=.returning)
   ·obtain⟨rfl,LB⟩:=hend;have hfn:fr.fn=fn0:=hT.1;refine .stop λaG hr=>⟨fr,w,_,LB,hfn,.step nf na nw ne h1 h2,hI,hS.rely hr,dG.symm,?_,hn,λr hlt=>by rw[aV (by omega)];exact vk r hlt⟩;show G (ey σ k (b8 ρ fr)) ([]++cs)=_;rw[eK (P:=P) (S:=S) (n:=w.heap.size) (fr:=fr) hI.cl (ρ:=ρ) (ρ':=dT ρ w.heap.size aG.heap.size) (λr hlt=>(aV hlt).symm) (λ_=>rfl)];rfl
   ·refine af.step' rfl λaG hr=>?_;have hS1:=hS.rely hr;generalize sW:dT ρ w.heap.size aG.heap.size=ct at hS1;have ET:∀r,r<w.heap.size→ct r=ρ r:=λr hlt=>by rw[←sW];exact aV hlt
    have lf:∀x,ct.f x=ρ.f x:=λx=>by rw[←sW];rfl
    have hrun:=h1 aG.tape aG.drawn;have hW:WR P S ct (w.re aG.tape aG.drawn) aG:=⟨hS1.wr.live,hS1.wr.ok,hS1.wr.dead,hS1.wr.closed,hS1.wr.next,hS1.wr.low,hS1.wr.big⟩;have WN:=hI.re aG.tape aG.drawn;have hpl:Plain P ct:=⟨λt i v a b=>hC.zero t i v a b _,hS1.inj⟩;have AH:=AB (ρ:=ct) hC hpl hS1.fix WN.ok WN.oks (λv _=> .inl hS1.ld) (λv hv=>jb (WN.cl v hv));obtain⟨bb,W2,es',r1,⟨rfl,o1,o2⟩,r3,q1,q2,r6⟩:=dn hpl (λo=> .inl hS1.ld) _ _ _ (λn=>FF P F S (sg S S.d n)) (w.re aG.tape aG.drawn) aG #[] #[] _ _ _ AH (sU hC WN) hW (λj _ q=>rfl) hrun;have q3:∀e∈es',nh S.d ct (nw aG.tape aG.drawn) e:=λe he=>(r6 e he).resolve_left (by simp);have Ex:=(eu hC WN hrun).1;have SP:iO P S ct (w.re aG.tape aG.drawn) aG:=⟨hW,hS1.inj,hS1.ld,hS1.f,hS1.px⟩;have wy:iO P S ct (nw aG.tape aG.drawn) W2:=⟨q1,hS1.inj,hS1.ld,hS1.f,by have:=hS1.px;have h3:=q2.size;have h4:=q2.gw;omega⟩;have hgrow:Touch S.d ct (nw aG.tape aG.drawn)=Grow (Touch S.d ρ w) aG W2:=by
     rw[wx SP q2];have:Touch S.d ct (w.re aG.tape aG.drawn)=Touch S.d ρ w:=by
      rw[←sW];exact dG
     rw[this]
    have p6:b8 ρ fr=b8 ct fr:=eK hI.cl (λr hlt=>(ET r hlt).symm) (λx=>(lf x).symm);have hab:above.map (b8 ρ)=above.map (b8 ct):=eV (λr hlt=>(ET r hlt).symm) (λx=>(lf x).symm) hI.cls;obtain⟨qY,q4⟩:=Fb (k:=k) (ρ:=ct) hI.ok hI.oks hT (λe=>by
     subst e;rcases hT.2 with hm|⟨l,hl,hj⟩
     ·exact absurd ⟨rfl,.inr hm⟩ hend
     ·cases l with
      |nil=>exact absurd ⟨rfl,.inl hl⟩ hend
      |cons h l=>exact⟨h,l,hl,hj⟩) hrun r1 main cs
    refine⟨_,W2,_,by rw[p6,hab];exact q4,⟨q2.tape,q2.os,q2.output,by have h3:=q2.size;have h4:=q2.gw;simp only[Λ.re]at h3 h4;omega,λb hb Ky=>?_,λe he=>?_⟩,?_⟩
    ·refine q2.frame b hb λht=>?_;rw[hgrow]at ht;rcases ht with h|⟨h,_⟩
     ·exact Ky h
     ·omega
    ·have:=q3 e (mem_seen he);unfold nh at this;unfold B4;rw[←hgrow];cases hl:e.loc<;>simp only[hl]at this ⊢<;>first|exact .inl this|exact this
    ·rw[←hgrow];refine ih aG.tape aG.drawn Ex qY kE n₀ ct W2 wy ?_ λr hlt=>(ET r (by omega)).trans (vk r hlt);have h4:=q2.gw;simp only[Λ.re]at h4;omega
end
theorem s9 (x:ξ):wC [] x=true:=by cases x<;>rfl
theorem CE (d:Option Tmp):I2 [] d=true:=by cases d<;>first|rfl|exact s9 _
theorem zt {P:Ξ}{F:η→Bool}{S:Sd}{ops:Array Oper}{o:Oper}(h:jx P F S o.op=true):qX [] ops o=true:=by
 unfold qX;rw[zbQ.2 λx _=>s9 x,CE];have h1:(match o.guard with|some (j,_)=>I2 [] ((ops[j]?).bind (·.dst))|none=>true)=true:=by split<;>first|rfl|exact CE _
 have h2:(match o.op with|.select ..=>false|_=>true)=true:=by
  split
  ·rename_i e;rw[e]at h;cases h
  ·rfl
 rw[h1,h2];rfl
theorem jd {P:Ξ}{F:η→Bool}{S:Sd}:∀c:Code,br P F S c=true→kJ [] c=true
 |.skip,_|.ret,_|.exit _,_|.refuse _,_=>rfl
 |.region _ ops _,h=>zbQ.2 λo ho=>zt (zbQ.1 h o ho)
 |.seq a b,h=>by
  simp only[br,kJ,zai]at h ⊢;exact⟨jd a h.1,jd b h.2⟩
 |.cond c a b,h=>by
  simp only[br,kJ,zai]at h ⊢;exact⟨⟨s9 c,jd a h.1.2⟩,jd b h.2⟩
 |.block _ a,h=>jd a h
 |.loop a,h=>jd a h
theorem I4 {P:Ξ}{F:η→Bool}{S:Sd}{x:Item}(h:az P F S x=true):eT [] x=true:=by
 cases x<;>simp only[az,eT]at h ⊢<;>first|contradiction|exact jd _ h|skip
 refine zbz.2 λi hi=>?_;have:=zbz.1 h i hi
 revert this
 cases (‹Array Oper›)[i]? with
 |none=>exact λ_=>rfl
 |some o=>exact λq=>zt q
section
variable {P:Ξ}{F:η→Bool}{S:Sd}{Ψ:dZ}{cs:List Γ}{w:Λ}{b:Γ}{a:Act}{k:List Item}
theorem AY:∀(above:List Γ) (fr:Γ) (w:Λ) (chain:List PanicEntry) (n:Nat) (qQ:Γ) (wf:Λ),fr.defers=[]→(∃f,P.funcs[fr.fn]?=some f)→(∀f∈above,kD P F S f)→runN P n (Go.lone { fr with mode:= .panicking chain } (above++[c0 P]) w)=.next (Go.lone qQ [c0 P] wf)→(∀ch,qQ.mode≠.panicking ch)→False:=by
 intro above
 induction above with
 |nil=>
  rintro fr w chain n qQ wf hd ⟨f,hf⟩ _ hr hm;cases n with
  |zero=>
   simp only[runN,zbx]at hr;obtain⟨rfl,_,_⟩:=iy hr;exact hm _ rfl
  |succ n=>
   have h1:step P (Go.lone { fr with mode:= .panicking chain } ([]++[c0 P]) w)=.next (Go.lone ((c0 P).raise chain) [] w):=by
    refine ki (es:=#[]) ?_;simp[G,θ,unwind,hd,Γ.catches,hf]
   simp only[runN,h1]at hr;cases n with
   |zero=>
    simp only[runN,zbx]at hr;obtain⟨_,e,_⟩:=iy hr;cases e
   |succ n=>
    have h2:∃o w3 es,θ P true (G ((c0 P).raise chain) []) w=.ended o w3 es:=by
     simp[G,θ,unwind,c0,Γ.raise,Γ.catches]
    obtain⟨o,w3,es,h2⟩:=h2;simp only[runN,jc h2]at hr;cases hr
 |cons c rest ih=>
  rintro fr w chain n qQ wf hd ⟨f,hf⟩ bM hr hm;cases n with
  |zero=>
   simp only[runN,zbx]at hr;obtain⟨rfl,_,_⟩:=iy hr;exact hm _ rfl
  |succ n=>
   have hc:=bM c (by simp);have h1:step P (Go.lone { fr with mode:= .panicking chain } (c::rest++[c0 P]) w)=.next (Go.lone { c with mode:= .panicking chain } (rest++[c0 P]) w):=by
    refine ki (es:=#[]) ?_;have Wu:c.raise chain={ c with mode:= .panicking chain }:=by
     unfold Γ.raise;rcases hc.mode with e|e<;>rw[e]
    simp[G,θ,unwind,hd,Γ.catches,hf,Wu]
   simp only[runN,h1]at hr;exact ih c w chain n qQ wf hc.defers hc.fn (λg hg=>bM g (by simp[hg])) hr hm
theorem pM (hC:kZ P F S):∀(n:Nat) (fr:Γ) (above:List Γ) (w:Λ) (qQ:Γ) (wf:Λ),PI P F S fr above w→runN P n (Go.lone fr (above++[c0 P]) w)=.next (Go.lone qQ [c0 P] wf)→(∀ch,qQ.mode≠.panicking ch)→∃m,mA P m fr above w qQ [] wf:=by
 intro n
 induction n with
 |zero=>
  intro fr above w qQ wf h hr hm;simp only[runN,zbx]at hr;obtain⟨rfl,e,rfl⟩:=iy hr;have:above=[]:=by
   have:=zal List.length e;simp at this;exact this
  subst this;exact⟨0,.zero⟩
 |succ n ih=>
  intro fr above w qQ wf h hr hm;by_cases hl:above=[]∧fr.mode=.returning
  ·obtain⟨rfl,hl⟩:=hl;exact(uf hC h hl hr).elim
  ·cases hrun:(aS P fr above).runT P w #[]with
   |mk r es=>
    cases r with
    |ok x w1=>
     obtain⟨f1,a1⟩:=x;have hs:=mz (main:=true) (cs:=[c0 P]) h.ok hrun;simp only[runN,ki hs]at hr;obtain⟨m,GG⟩:=ih f1 a1 w1 qQ wf (eu hC h hrun).1 hr hm;exact⟨m+1,.succ hrun GG⟩
    |halt hh w1=>
     rcases zl (cs:=[c0 P]) hC h hl hrun with⟨chain,w2,es',e⟩|⟨o,w2,es',e⟩
     ·simp only[runN,ki e]at hr;exact(AY above fr w2 chain n qQ wf h.ok.defers h.ok.fn h.oks hr hm).elim
     ·simp only[runN,jc e]at hr;cases hr
def LC (P:Ξ)(S:Sd)(Ψ:dZ)(b:Γ)(k:List Item)(cs:List Γ)(f:Γ)(ab:List Γ)(w:Λ):Prop:=
 ab=[]∧((I1 f []∧ae P S Ψ (b.at ⟨f.tmps,f.defers⟩ k) cs w)∨(f.mode=.returning∧∀todo,ae P S Ψ (fJ b ⟨f.tmps,f.defers⟩ todo) cs w))
theorem ae.item (hC:kZ P F S){x:Item}(bM:az P F S x=true)(hk:b.kind=.normal)(hfn:∃f,P.funcs[b.fn]?=some f)(hd:a.defers=[])
 (h:∀τ,(∃a' w',ae P S Ψ (b.at a' k) cs w'∧Steps P (Go.lone (b.at a [x,pz]) [c0 P] (w.re τ 0)) (Go.lone (b.at a' [pz]) [c0 P] w'))∨∃a' w' todo,(∀todo,ae P S Ψ (fJ b a' todo) cs w')∧Steps P (Go.lone (b.at a [x,pz]) [c0 P] (w.re τ 0)) (Go.lone { b.at a' todo with mode:= .returning } [c0 P] w')):ae P S Ψ (b.at a (x::k)) cs w:=
 ae.walk λρ W hS hc hcs _=>by
  have hI:PI P F S (b.at a [x,pz]) [] w:=⟨⟨hd,.inl rfl,hk,rfl,by show[x,pz].all _=true;simp only[zaq,List.all_nil,bM,Bool.true_and,zbO];rfl,hfn⟩,by simp,hc,by simp,hS.self⟩;have hT:∀τ:Tp,∃n f a1 w',mA P n (b.at a [x,pz]) [] (w.re τ 0) f a1 w'∧LC P S Ψ b k cs f a1 w':=λτ=>by
   rcases h τ with⟨a',w',hK,n,hn⟩|⟨a',w',todo,hK,n,hn⟩
   ·obtain⟨m,hm⟩:=pM hC n _ [] (w.re τ 0) _ w' (hI.re τ 0) hn (λch e=>by cases e);exact⟨m,_,[],w',hm,rfl,.inl ⟨⟨rfl,rfl⟩,hK⟩⟩
   ·obtain⟨m,hm⟩:=pM hC n _ [] (w.re τ 0) _ w' (hI.re τ 0) hn (λch e=>by cases e);exact⟨m,_,[],w',hm,rfl,.inr ⟨rfl,hK⟩⟩
  have SQ:=ue (Q:=LC P S Ψ b k cs) hC (λf a1 w τ d _ hx=>⟨hx.1,hx.2.imp (λq=>⟨q.1,q.2.re rfl⟩) λq=>⟨q.1,λtodo=>(q.2 todo).re rfl⟩⟩) hI hT;have key:=CC (σ:=[]) (k:=k) (fn0:=b.fn) (main:=true) (ro:=Ψ.ro) (cs:=cs.map (b8 ρ)++Ψ.bot) hC (λf a1 w' hx=>⟨hx.1,hx.2.imp (·.1) (·.1)⟩) SQ hI ⟨rfl,.inr ⟨[x],⟨rfl,rfl⟩,by simp[I4 bM]⟩⟩ ρ w.heap.size ρ W hS (zab _) (λ_ _=>rfl);refine af.bind key λown g W' hst=>?_;obtain⟨LD,w1,wE,hb1,lf,WO,Kw,hS1,rfl,rfl,hn,sV⟩:=hst;have ecs:cs.map (b8 ρ)=cs.map (b8 wE):=eV (λr hr=>(sV r hr).symm) (λx=>by rw[hS.f,hS1.f]) hcs;rw[ecs];have abb:LC P S Ψ b k cs LD [] w1:=by
   cases WO with
   |stop hx=>exact hx
   |step nf na nw ne h1 h2=>
    exfalso;have hr:=h1 w1.tape 0;rcases hb1 with hb1|hb1
    ·obtain⟨fn0,tmps,todo,defers,mode,kind,np⟩:=LD;obtain⟨ht,hm⟩:=hb1;simp only[List.nil_append]at ht hm;subst ht hm;simp[aS,stuck]at hr
    ·exact LA (by rw[hb1];simp) hr
  rcases abb.2 with⟨LB,hK⟩|⟨WQ,hK⟩
  ·have efr:ey [] k (b8 wE LD)=b8 wE (b.at ⟨LD.tmps,LD.defers⟩ k):=by
    obtain⟨fn0,tmps,todo,defers,mode,kind,np⟩:=LD;obtain⟨ht,hm⟩:=LB;have h3:kind=.normal:=Kw.ok.kind;have h4:np=none:=Kw.ok.round;simp only[List.nil_append]at ht hm lf;subst ht hm h3 h4 lf;simp[ey,GU,b8,Γ.at,hk]
   rw[efr];exact af.co hK hS1 (λ_ h=>h) Kw.cl (λf hf=>ix hn (hcs f hf)) ⟨hn,sV⟩
  ·have efr:ey [] k (b8 wE LD)=b8 wE (fJ b ⟨LD.tmps,LD.defers⟩ (LD.todo.dropLast++k)):=by
    obtain⟨fn0,tmps,todo,defers,mode,kind,np⟩:=LD;have h3:kind=.normal:=Kw.ok.kind;have h4:np=none:=Kw.ok.round;simp only at WQ lf;subst WQ h3 h4 lf;simp[ey,GU,b8,fJ,Γ.at,hk]
   rw[efr];exact af.co (hK _) hS1 (λ_ h=>h) Kw.cl (λf hf=>ix hn (hcs f hf)) ⟨hn,sV⟩
def LF (P:Ξ)(S:Sd)(Ψ:dZ)(b:Γ)(k:List Item)(cs:List Γ):Exit→Act→Λ→Prop
 |.normal,a,w=>ae P S Ψ (b.at a k) cs w
 |.ret,a,w=>∀todo,ae P S Ψ (fJ b a todo) cs w
 |_,_,_=>False
theorem ae.code (hC:kZ P F S){c:Code}(bM:br P F S c=true)(hk:b.kind=.normal)(hfn:∃f,P.funcs[b.fn]?=some f)(hd:a.defers=[])
 (h:∀τ d,c.wp P (LF P S Ψ b k cs) a (w.re τ d)):ae P S Ψ (b.at a (.code c::k)) cs w:=
 ae.item hC bM hk hfn hd λτ=>by
  obtain⟨e,a',w',hK,qb⟩:=h τ 0 b [pz] [c0 P];cases e with
  |normal=>exact .inl ⟨a',w',hK,qb⟩
  |ret=>obtain⟨todo,hs⟩:=qb;exact .inr ⟨a',w',todo,hK,hs⟩
  |_=>exact hK.elim
theorem ae.ops (hC:kZ P F S){ops:Array Oper}(hk:b.kind=.normal)(hfn:∃f,P.funcs[b.fn]?=some f)(hd:a.defers=[]){l:List Nat}(bM:(l.all λi=>(ops[i]?).all λo=>jx P F S o.op)=true)(i:Nat)(rest:List Oper)(hl:l=List.range' i rest.length)(hr:∀j,rest[j]?=ops[i+j]?)
 (h:∀τ d,wpList P ops (LF P S Ψ b k cs) rest a (w.re τ d)):ae P S Ψ (b.at a (.inRegion ops l::k)) cs w:=
 ae.item hC bM hk hfn hd λτ=>by
  have h0:=h τ 0;rw[←wpOps_eq_wpList rest i hr,←hl]at h0;obtain⟨e,a',w',hK,qb⟩:=wp_ops l a (w.re τ 0) h0 b [pz] [c0 P];cases e with
  |normal=>exact .inl ⟨a',w',hK,qb⟩
  |ret=>obtain⟨todo,hs⟩:=qb;exact .inr ⟨a',w',todo,hK,hs⟩
  |_=>exact hK.elim
end
end Go.Ren
namespace Go.Ren
open Go Go.Conc
open Go.ConcN (sumTo)
theorem gW {P:Ξ}{c:Nat}{a b:Δ}{Q:Machine→υ→Prop}{J:Λ→υ→Prop}(WD:awake a)(WE:awake b)(hrun:a.status=.running∨b.status=.running)
 (hJ:∀w t d ops,J w t→(∀op∈ops,op.act.touch? =none∧∀a,op.act≠.mark (.release a))→(∀B,∀op∈ops,op.act.low B)→Deaf (t++ops) 0=Deaf t 0→Deaf (t++ops) c=Deaf t c→J (w.at d) (t++ops))
 (hst:∀w t,J w t→Cv P w a∧Cv P w b)
 (H0:a.status=.running→∀gs w sl t q,ew P c t gs q→gs[0]?=some a→gs[c]?=some b→J w t→∃m' ops,runT P (crowd gs w sl) 0=(.next m',ops)∧Reach P m' (t++ops) Q)
 (HC:b.status=.running→∀gs w sl t q,ew P c t gs q→gs[0]?=some a→gs[c]?=some b→J w t→∃m' ops,runT P (crowd gs w sl) c=(.next m',ops)∧Reach P m' (t++ops) Q):
 ∀gs w sl t q,ew P c t gs q→gs[0]?=some a→gs[c]?=some b→J w t→Reach P (crowd gs w sl) t Q:=by
 intro gs w sl t q hC h0 hc hj;generalize hM:sumTo c q=M
 induction M using Nat.strongRecOn generalizing gs w sl t q with
 |_ M ih=>
  have hd:∀w t d,J w t→J (w.at d) t:=λw t d h=>by
   have:=hJ w t d #[] h (by simp) (by simp) (by simp) (by simp);simpa using this
  rcases EX (sl:=sl) hC h0 hc WD WE hrun (hst w t hj).1 (hst w t hj).2 with⟨hr,d,sl',hs⟩|⟨hr,d,sl',hs⟩|⟨gs',d,sl',ops,q',hs,hC',I0,hc',hlt,h1,h2,h3,h4⟩
  ·obtain⟨m',ops,e,hR⟩:=H0 hr gs (w.at d) sl' t q hC h0 hc (hd w t d hj);exact Reach.step (hs.trans e) hR
  ·obtain⟨m',ops,e,hR⟩:=HC hr gs (w.at d) sl' t q hC h0 hc (hd w t d hj);exact Reach.step (hs.trans e) hR
  ·exact Reach.step hs (ih _ (by omega) gs' (w.at d) sl' (t++ops) q' hC' I0 hc' (hJ w t d ops hj h1 h2 h3 h4) rfl)
def iA (P:Ξ)(ch:Nat)(z:Φ)(Next:(Nat→Prop)→Δ→Λ→Prop)(own:Nat→Prop)(g:Δ)(w:Λ):Prop:=
 g.status=.running∧θ P true g w=.comm (core g) #[rcase ch z] true (.recv true) w #[]∧Next own (core g) w
def lF (P:Ξ)(ro:Nat→Prop)(ch:Nat)(z:Φ)(Fin:(Nat→Prop)→Δ→Λ→Prop):List Φ→(Nat→Prop)→Δ→Λ→Prop
 |[],own,g,w=>af P true ro (iA P ch z λown g w=>Fin own (Conc.served g (.tuple #[z,.bool false])) w) own g w
 |v::vs,own,g,w=>af P true ro (iA P ch z λown g w=>lF P ro ch z Fin vs own (Conc.served g (.tuple #[v,.bool true])) w) own g w
def zu (P:Ξ)(ro:Nat→Prop)(ch:Nat)(z:Φ)(Fin:(Nat→Prop)→Δ→Λ→Prop):List Φ→(Nat→Prop)→Δ→Λ→Prop
 |[],own,g,w=>Fin own (Conc.served g (.tuple #[z,.bool false])) w
 |v::vs,own,g,w=>lF P ro ch z Fin vs own (Conc.served g (.tuple #[v,.bool true])) w
def GY (P:Ξ)(ch:Nat)(v:Φ)(Next:(Nat→Prop)→Δ→Λ→Prop)(own:Nat→Prop)(g:Δ)(w:Λ):Prop:=
 g.status=.running∧∃z',θ P false g w=.comm (core g) #[scase ch v z'] true .send w #[]∧Next own (Conc.served (core g) π) w
def gJ (ch:Nat):Array φ:=#[⟨.obj ch,false,true⟩,⟨.obj ch,true,true⟩]
def wF (P:Ξ)(ch:Nat)(fW:(Nat→Prop)→Δ→Λ→Prop)(own:Nat→Prop)(g:Δ)(w:Λ):Prop:=
 g.status=.running∧mayWake P g=true∧∃g₂,g₂.status=.running∧∀s r tm,w.heap[ch]?=some (.chan 0 #[] false s r tm)→θ P false g w=.go g₂ (w.setChan ch 0 #[] true s r tm) (gJ ch)∧fW own g₂ (w.setChan ch 0 #[] true s r tm)
def jU (P:Ξ)(ro:Nat→Prop)(ch:Nat)(fW:(Nat→Prop)→Δ→Λ→Prop):List Φ→(Nat→Prop)→Δ→Λ→Prop
 |[],own,g,w=>af P false ro (wF P ch fW) own g w
 |v::vs,own,g,w=>af P false ro (GY P ch v (jU P ro ch fW vs)) own g w
def StopG (P:Ξ)(ro:Nat→Prop)(ch:Nat)(fW:(Nat→Prop)→Δ→Λ→Prop):List Φ→(Nat→Prop)→Δ→Λ→Prop
 |[]=>wF P ch fW
 |v::vs=>GY P ch v (jU P ro ch fW vs)
theorem cE {P:Ξ}{ro:Nat→Prop}{ch:Nat}{z:Φ}{Fin:(Nat→Prop)→Δ→Λ→Prop}{vs:List Φ}{own:Nat→Prop}{g:Δ}{w:Λ}:lF P ro ch z Fin vs own g w↔af P true ro (iA P ch z (zu P ro ch z Fin vs)) own g w:=by cases vs<;>exact Iff.rfl
theorem dM {P:Ξ}{ro:Nat→Prop}{ch:Nat}{fW:(Nat→Prop)→Δ→Λ→Prop}{vs:List Φ}{own:Nat→Prop}{g:Δ}{w:Λ}:jU P ro ch fW vs own g w↔af P false ro (StopG P ro ch fW vs) own g w:=by cases vs<;>exact Iff.rfl
theorem af.running {P:Ξ}{main:Bool}{ro own:Nat→Prop}{Stop:(Nat→Prop)→Δ→Λ→Prop}{g:Δ}{w:Λ}(h:af P main ro Stop own g w)(hs:∀own g w,Stop own g w→g.status=.running):g.status=.running:=by
 cases h with
 |stop h=>exact hs _ _ _ (h w (bW.refl _ _ _))
 |step _ _ _ h=>exact h
theorem StopG.running {P:Ξ}{ro:Nat→Prop}{ch:Nat}{fW:(Nat→Prop)→Δ→Λ→Prop}{vs:List Φ}{own:Nat→Prop}{g:Δ}{w:Λ}(h:StopG P ro ch fW vs own g w):g.status=.running:=by cases vs<;>exact h.1
structure Lay (Q Shun:Loc→Prop) (c ch Low:Nat) (ro:Nat→Prop):Prop where
 c0:c≠0
 ko:∀b,ro b→b<Low
 Fe:ch<Low
 I5:¬ro ch
 QS:∀l,Q l→Shun l
 qV:∀l,Shun l→l.low Low
 rS:∀l,jS ro l→¬Shun l
 Qch:Q (.obj ch)
structure lh (Q Shun:Loc→Prop) (c ch Low:Nat) (ro bq aL X:Nat→Prop) (closed:Bool) (w0 w:Λ) (t:υ):Prop where
 ti:TI Q Shun c aL ro w.heap.size t
 d0:Deaf t 0=0
 dc:closed=false→Deaf t c=0
 mlt:∀b,bq b→Low≤b∧b<w.heap.size
 Ff:∀b,aL b→Low≤b∧b<w.heap.size
 apart:∀b,bq b→¬aL b
 big:Low≤w.heap.size
 chan:∃s r tm,w.heap[ch]?=some (.chan 0 #[] closed s r tm)
 tape:w.tape=w0.tape
 os:w.os=w0.os
 output:w.output=w0.output
 keep:∀b,b<Low→¬X b→w.heap[b]?=w0.heap[b]?
 Pr:X ch
section
variable {P:Ξ}{Q Shun:Loc→Prop}{c ch Low:Nat}{ro bq aL X:Nat→Prop}{cl:Bool}{w0 w w':Λ}{t u:υ}{es:Array φ}{fn:η}{pos:String}
theorem td {X:Nat→Prop}(h:∀b,X b→Low≤b){l:Loc}(hi:jS X l)(hl:l.low Low):False:=Pk hi (λb hb hlt=>by have:=h b hb;omega) hl
theorem wH {ro own:Nat→Prop}{g:Nat}(h:∀e∈es,B4 ro own e):∀op∈Ω g fn pos es,op.g=g∧Lp ro own op:=by
 intro op hop;obtain⟨e,he,rfl⟩:=zbd hop;refine⟨rfl,zm (h e he),?_,?_⟩
 ·intro e';exact(nK (h e he)).1 (by obtain⟨loc,wr,sy⟩:=e;cases loc<;>cases wr<;>cases sy<;>simp_all [MemAct.ofEvent])
 ·intro e';exact(nK (h e he)).2 (by obtain⟨loc,wr,sy⟩:=e;cases loc<;>cases wr<;>cases sy<;>simp_all [MemAct.ofEvent])
theorem wI {ro own:Nat→Prop}{g B:Nat}(hB:∀b,own b→b<B)(hr:∀b,ro b→b<B)(h:∀e∈es,B4 ro own e):∀op∈Ω g fn pos es,op.act.low B:=by
 intro op hop;obtain⟨e,he,rfl⟩:=zbd hop;exact GM hB hr (h e he)
theorem wJ {ro own:Nat→Prop}{g:Nat}(h:∀e∈es,B4 ro own e):Deaf (t++Ω g fn pos es) g=Deaf t g:=by
 rw[Deaf_own];exact deafBehind_still (λe he=>nK (h e he)) _
theorem lh.still (h:lh Q Shun c ch Low ro bq aL X cl w0 w t)(d:Nat)(h1:∀op∈u,op.act.touch? =none)(h2:∀op∈u,op.act.low w.heap.size)(h3:Deaf (t++u) 0=Deaf t 0)(h4:Deaf (t++u) c=Deaf t c):lh Q Shun c ch Low ro bq aL X cl w0 (w.at d) (t++u):=
 ⟨h.ti.still h1 h2,h3.trans h.d0,λe=>h4.trans (h.dc e),h.mlt,h.Ff,h.apart,h.big,h.chan,h.tape,h.os,h.output,h.keep,h.Pr⟩
theorem lh.LG (hY:Lay Q Shun c ch Low ro)(h:lh Q Shun c ch Low ro bq aL X cl w0 w t)(hg:Cs ro bq w w' es):lh Q Shun c ch Low ro (Grow bq w w') aL X cl w0 w' (t++Ω 0 fn pos es)∧bW ro aL w w':=by
 have hs:=hg.size;have hb:=h.big;have ft:∀b,Grow bq w w' b→Low≤b∧b<w'.heap.size:=λb hb'=>hb'.elim (λx=>by have:=h.mlt b x;omega) λx=>by omega
 have hap:∀b,Grow bq w w' b→¬aL b:=λb hb' hgb=>hb'.elim (λx=>h.apart b x hgb) λx=>by have:=h.Ff b hgb;omega
 have jy:∀b,b<w.heap.size→¬bq b→w'.heap[b]?=w.heap[b]?:=hg.block;have eQ:∀b,b<Low→w'.heap[b]?=w.heap[b]?:=λb hlt=>jy b (by omega) λhm=>by have:=h.mlt b hm;omega
 refine⟨⟨(h.ti.mono hs).app0 (own:=Grow bq w w') hY.c0 (wH hg.evs) (wI (λb hb'=>(ft b hb').2) (λb hb'=>by have:=hY.ko b hb';omega) hg.evs) ?_ ?_ hap ?_ ?_,(wJ hg.evs).trans h.d0,?_,ft,λb hb'=>by have:=h.Ff b hb';omega,hap,by omega,?_,hg.tape.trans h.tape,hg.os.trans h.os,hg.output.trans h.output,λb h1 h2=>(eQ b h1).trans (h.keep b h1 h2),h.Pr⟩,hg.tape,hg.os,hg.output,hs,?_⟩
 ·rintro l (hl|hl) hS
  ·exact td (λb hb'=>(ft b hb').1) hl (hY.qV l hS)
  ·exact hY.rS l hl hS
 ·rintro l (hl|hl) hS
  ·exact td (λb hb'=>(ft b hb').1) hl (hY.qV l (hY.QS l hS))
  ·exact hY.rS l hl (hY.QS l hS)
 ·intro b hb' hr;have:=ft b hb';have:=hY.ko b hr;omega
 ·intro b hb' hr;have:=h.Ff b hb';have:=hY.ko b hr;omega
 ·intro e;rw[zaF t (Ne.symm hY.c0) _ ofEvents_g];exact h.dc e
 ·obtain⟨s,r,tm,e⟩:=h.chan;exact⟨s,r,tm,by rw[eQ ch hY.Fe];exact e⟩
 ·rintro b (hb'|hb')
  ·exact jy b (h.Ff b hb').2 λhm=>h.apart b hm hb'
  ·exact eQ b (hY.ko b hb')
theorem lh.stepG (hY:Lay Q Shun c ch Low ro)(h:lh Q Shun c ch Low ro bq aL X cl w0 w t)(hg:Cs ro aL w w' es):lh Q Shun c ch Low ro bq (Grow aL w w') X cl w0 w' (t++Ω c fn pos es)∧bW ro bq w w':=by
 have hs:=hg.size;have hb:=h.big;have ft:∀b,Grow aL w w' b→Low≤b∧b<w'.heap.size:=λb hb'=>hb'.elim (λx=>by have:=h.Ff b x;omega) λx=>by omega
 have hap:∀b,bq b→¬Grow aL w w' b:=λb hm hgb=>hgb.elim (λx=>h.apart b hm x) λx=>by have:=h.mlt b hm;omega
 have jy:∀b,b<w.heap.size→¬aL b→w'.heap[b]?=w.heap[b]?:=hg.block;have eQ:∀b,b<Low→w'.heap[b]?=w.heap[b]?:=λb hlt=>jy b (by omega) λhm=>by have:=h.Ff b hm;omega
 refine⟨⟨h.ti.aa6 (own':=Grow aL w w') hs (wH hg.evs) (wI (λb hb'=>(ft b hb').2) (λb hb'=>by have:=hY.ko b hb';omega) hg.evs) (λb=>Iff.rfl) ?_,?_,λe=>(wJ hg.evs).trans (h.dc e),λb hb'=>by have:=h.mlt b hb';omega,ft,hap,by omega,?_,hg.tape.trans h.tape,hg.os.trans h.os,hg.output.trans h.output,λb h1 h2=>(eQ b h1).trans (h.keep b h1 h2),h.Pr⟩,hg.tape,hg.os,hg.output,hs,?_⟩
 ·rintro l (hl|hl) hS
  ·exact td (λb hb'=>(ft b hb').1) hl (hY.qV l (hY.QS l hS))
  ·exact hY.rS l hl (hY.QS l hS)
 ·rw[zaF t hY.c0 _ ofEvents_g];exact h.d0
 ·obtain⟨s,r,tm,e⟩:=h.chan;exact⟨s,r,tm,by rw[eQ ch hY.Fe];exact e⟩
 ·rintro b (hb'|hb')
  ·exact jy b (h.mlt b hb').2 λhm=>h.apart b hb' hm
  ·exact eQ b (hY.ko b hb')
theorem kK {cap s r:Nat}{buf:Array Φ}{tm cl:Bool}{b:Nat}(h:b≠ch):(w.setChan ch cap buf cl s r tm).heap[b]?=w.heap[b]?:=by
 show(w.heap.setIfInBounds ch _)[b]?=_;rw[zax (Ne.symm h)]
theorem dP {cap s r:Nat}{buf:Array Φ}{tm cl:Bool}:(w.setChan ch cap buf cl s r tm).heap.size=w.heap.size:=by
 show(w.heap.setIfInBounds ch _).size=_;simp
theorem kr {cap s r:Nat}{buf:Array Φ}{tm cl:Bool}{own:Nat→Prop}(h:¬own ch)(hr:¬ro ch):bW ro own w (w.setChan ch cap buf cl s r tm):=
 ⟨rfl,rfl,rfl,by rw[dP];exact zab _,λb hb=>kK λe=>by subst e;exact hb.elim h hr⟩
theorem lh.chG (hY:Lay Q Shun c ch Low ro)(h:lh Q Shun c ch Low ro bq aL X cl w0 w t):¬aL ch:=λx=>by have:=h.Ff ch x;have:=hY.Fe;omega
theorem lh.chM (hY:Lay Q Shun c ch Low ro)(h:lh Q Shun c ch Low ro bq aL X cl w0 w t):¬bq ch:=λx=>by have:=h.mlt ch x;have:=hY.Fe;omega
theorem lh.meet (hY:Lay Q Shun c ch Low ro){s r s' r':Nat}{tm:Bool}(h:lh Q Shun c ch Low ro bq aL X false w0 w t)(hch:w.heap[ch]?=some (.chan 0 #[] false s r tm))(hu:Lr ch u):lh Q Shun c ch Low ro bq aL X false w0 (w.setChan ch 0 #[] false s' r' tm) (t++u):=by
 have hb:=h.big;have gz:=hY.Fe;refine⟨by rw[dP];exact h.ti.still (λop hop=>(hu op hop).1) λop hop=>(hu op hop).2.2 _ (by omega),by rw[dH t 0 u λop hop=>(hu op hop).2.1];exact h.d0,λe=>by rw[dH t c u λop hop=>(hu op hop).2.1];exact h.dc e,by rw[dP];exact h.mlt,by rw[dP];exact h.Ff,h.apart,by rw[dP];exact hb,⟨s',r',tm,heap_put hch⟩,h.tape,h.os,h.output,λb h1 h2=>(kK λe=>h2 (by rw[e];exact h.Pr)).trans (h.keep b h1 h2),h.Pr⟩
theorem oP (g:Nat):Ω g fn pos (gJ ch)=#[{ g:=g,fn:=fn,pos:=pos,act:= .access ⟨.obj ch,false,true⟩ },{ g:=g,fn:=fn,pos:=pos,act:= .close ch }]:=by
 simp[Ω,gJ,MemAct.ofEvent]
theorem lh.zv (h:lh Q Shun c ch Low ro bq aL X false w0 w t):Deaf (t++Ω c fn pos (gJ ch)) c=0:=by
 rw[dH t c _ λop hop m e=>?_]
 ·exact h.dc rfl
 ·rw[oP]at hop;simp at hop;rcases hop with rfl|rfl<;>simp at e
theorem lh.close (hY:Lay Q Shun c ch Low ro){s r:Nat}{tm:Bool}(h:lh Q Shun c ch Low ro bq aL X false w0 w t)(hch:w.heap[ch]?=some (.chan 0 #[] false s r tm)):lh Q Shun c ch Low ro bq aL X true w0 (w.setChan ch 0 #[] true s r tm) (t++Ω c fn pos (gJ ch)):=by
 have hb:=h.big;have gz:=hY.Fe;have hm:∀op∈Ω c fn pos (gJ ch),∀m,op.act≠.mark m:=λop hop m e=>by
  rw[oP]at hop;simp at hop;rcases hop with rfl|rfl<;>simp at e
 refine⟨?_,by rw[dH t 0 _ hm];exact h.d0,(λe=>by cases e),by rw[dP];exact h.mlt,by rw[dP];exact h.Ff,h.apart,by rw[dP];exact hb,⟨s,r,tm,heap_put hch⟩,h.tape,h.os,h.output,λb h1 h2=>(kK λe=>h2 (by rw[e];exact h.Pr)).trans (h.keep b h1 h2),h.Pr⟩;rw[dP];refine h.ti.Pm (g:=c) (.inr rfl) (λop hop=>⟨ofEvents_g op hop,λx hx=>?_⟩) (λop hop=>?_) hY.QS λl hl=>⟨λhi=>?_,λhi=>hY.rS l hi (hY.QS l hl)⟩
 ·rw[oP]at hop;simp at hop;rcases hop with rfl|rfl
  ·simp only[MemAct.touch?,zaG]at hx;subst hx;exact⟨hY.Qch,by simp,by simp⟩
  ·simp[MemAct.touch?]at hx
 ·rw[oP]at hop;simp at hop;have:ch<w.heap.size:=by omega
  rcases hop with rfl|rfl<;>exact this
 ·exact td (λb hb'=>(h.Ff b hb').1) hi (hY.qV l (hY.QS l hl))
end
end Go.Ren
