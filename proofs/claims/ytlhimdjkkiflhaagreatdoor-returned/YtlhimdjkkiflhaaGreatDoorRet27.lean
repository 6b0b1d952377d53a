import Derived.Test.YtlhimdjkkiflhaaGreatDoorRet26
set_option maxHeartbeats 8000000
set_option maxRecDepth 100000
namespace Go.Loop
section
variable {n:Nat}{S:Nat→List Nat}
theorem DD {w:WS}(h:w.Ok n){a:Nat}(ha:a<n)(i:Nat):w.met.getD i 0≤(w.hit a).met.getD i 0:=by
 rw[dJ h ha];split
 ·rename_i e;rw[e];omega
 ·exact Int.le_refl _
theorem tE (hS:∀x,x<n→∀y∈S x,y<n):∀(f:Nat) (w:WS) (a:Nat),w.Ok n→a<n→∀i,w.met.getD i 0≤(bf S f w a).met.getD i 0
 |0,_,_,_,_,_=>Int.le_refl _
 |f+1,w,a,h,ha,i=>by
  simp only[bf];split
  ·exact DD h ha i
  ·have h2:((w.hit a).enter a).Ok n:=(h.hit ha).enter ha (iW h ha);have:∀(l:List Nat) (t:WS),(∀y∈l,y<n)→t.Ok n→t.met.getD i 0≤(l.foldl (bf S f) t).met.getD i 0:=by
    intro l
    induction l with
    |nil=>intro t _ _;exact Int.le_refl _
    |cons y r ih=>
     intro t hl ht;have q1:=tE hS f t y ht (hl y (by simp)) i;have q2:=ih _ (λz hz=>hl z (by simp[hz])) (Ok.meet hS f t y ht (hl y (by simp)));exact Int.le_trans q1 q2
   exact Int.le_trans (DD h ha i) (this _ _ (hS a ha) h2)
theorem wZ (hS:∀x,x<n→∀y∈S x,y<n)(f:Nat)(i:Nat):∀(l:List Nat) (t:WS),(∀y∈l,y<n)→t.Ok n→t.met.getD i 0≤(l.foldl (bf S f) t).met.getD i 0
 |[],_,_,_=>Int.le_refl _
 |y::r,t,hl,ht=>Int.le_trans (tE hS f t y ht (hl y (by simp)) i) (wZ hS f i r _ (λz hz=>hl z (by simp[hz])) (Ok.meet hS f t y ht (hl y (by simp))))
end
section
variable (n:Nat)(K:Nat→Int)(S:Nat→List Nat)(L:Nat→Bool)(fin:Nat→Int)
structure XK:Prop where
 hS:∀x,x<n→∀y∈S x,y<n
 two:∀x,x<n→K x=1→(S x).length=2
 leaf:∀x,K x≠1→K x≠2→S x=[]
 cE:∀x,L x=true↔1<fin x∧1≤K x∧K x≤3
def Rel (t:TS)(w:WS):Prop:=∀b,1≤K b→K b≤3→(0≤t.cE.getD b (-1)↔0<w.met.getD b 0∧L b=true)
structure Lk (w w':WS) (lg:List Nat):Prop where
 nd:lg.Nodup
 b:∀b∈lg,(1≤K b∧K b≤3)∧w.met.getD b 0=0∧0<w'.met.getD b 0
end
section
variable {n:Nat}{K:Nat→Int}{S:Nat→List Nat}{At:Nat→List UInt8}{L:Nat→Bool}{fin:Nat→Int}
theorem Lk.nil (w w':WS):Lk K w w' []:=⟨zcg,λ_ h=>by cases h⟩
theorem Lk.app {w w1 w2:WS}{l1 l2:List Nat}(h1:Lk K w w1 l1)(h2:Lk K w1 w2 l2)(m0:∀i,0≤w.met.getD i 0)(m1:∀i,w.met.getD i 0≤w1.met.getD i 0)(m2:∀i,w1.met.getD i 0≤w2.met.getD i 0):Lk K w w2 (l1++l2):=by
 refine⟨?_,λb hb=>?_⟩
 ·rw[List.nodup_append];refine⟨h1.nd,h2.nd,λx hx y hy e=>?_⟩;subst e;have q1:=(h1.b x hx).2.2;have q2:=(h2.b x hy).2.1;omega
 ·rcases zaF.1 hb with hb|hb
  ·have q:=h1.b b hb;exact⟨q.1,q.2.1,by have:=m2 b;omega⟩
  ·have q:=h2.b b hb;have:=m0 b;have:=m1 b;exact⟨q.1,by omega,q.2.2⟩
def LkF (n:Nat)(K:Nat→Int)(S:Nat→List Nat)(At:Nat→List UInt8)(L:Nat→Bool)(fin:Nat→Int)(f:Nat)(fl:Bool):Prop:=∀(t:TS) (a:Nat) (w:WS) (f':Nat),t.Ok n L→a<n→w.Ok n→w.pQ (λ_=>1)<f'→Rel K L t w→403≤f+t.out.length→(WF K S At L f fl t a).long=false→(∀i,(bf S f' w a).met.getD i 0≤fin i)→Rel K L (WF K S At L f fl t a) (bf S f' w a)∧Lk K w (bf S f' w a) (WL K S At L f fl t a)
theorem Rel.add {t:TS}{w:WS}(h:Rel K L t w)(p:List UInt8):Rel K L (t.add p) w:=λb h1 h2=>by rw[gX];exact h b h1 h2
theorem Rel.atom (hC:XK n K S L fin){t:TS}{w w':WS}{a:Nat}(h:Rel K L t w)(ha:¬(1≤K a∧K a≤3))(hm:∀i,i≠a→w'.met.getD i 0=w.met.getD i 0):Rel K L t w':=λb h1 h2=>by
 have:=hC.hS;rw[h b h1 h2,hm b λe=>ha (by rw[←e];exact⟨h1,h2⟩)]
theorem tF {w:WS}{a f:Nat}(h:¬0<w.met.getD a 0):bf S (f+1) w a=((S a).foldl (bf S f) ((w.hit a).enter a)).leave a:=by simp only[bf];rw[zaa h]
theorem zu {w:WS}{a f:Nat}(h:0<w.met.getD a 0):bf S (f+1) w a=(w.hit a).again a:=by simp only[bf];rw[zab h]
theorem nH (hC:XK n K S L fin){t:TS}{w:WS}{a f:Nat}(hw:w.Ok n)(ha:a<n)(hR:Rel K L t w)(hk:1≤K a∧K a≤3)(hl:¬(0≤t.cE.getD a (-1))∨L a=false)(fU:(bf S (f+1) w a).met.getD a 0≤fin a):w.met.getD a 0=0:=by
 have hnn:=hw.nn a;by_cases hp:0<w.met.getD a 0
 ·exfalso;rw[zu hp]at fU;have e:((w.hit a).again a).met.getD a 0=w.met.getD a 0+1:=by
   show(w.hit a).met.getD a 0=_;rw[dJ hw ha,zab rfl]
  rw[e]at fU;have hLa:L a=true:=(hC.cE a).2 ⟨by omega,hk⟩;rcases hl with hl|hl
  ·exact hl ((hR a hk.1 hk.2).2 ⟨hp,hLa⟩)
  ·rw[hLa]at hl;cases hl
 ·omega
theorem Rel.first {t:TS}{w:WS}{a:Nat}(hO:t.Ok n L)(hw:w.Ok n)(ha:a<n)(hR:Rel K L t w)(h0:w.met.getD a 0=0):Rel K L (if L a then t.put a else t) ((w.hit a).enter a):=by
 intro b h1 h2;have hm:((w.hit a).enter a).met.getD b 0=if b=a then w.met.getD a 0+1 else w.met.getD b 0:=dJ hw ha b
 rw[hm];by_cases XI:b=a
 ·subst XI;rw[zab rfl,h0];cases hL:L b with
  |true=>
   have e0:(t.put b).cE.getD b (-1)=(t.next:Int):=by
    show(t.cE.set b (t.next:Int)).getD b (-1)=_;rw[cR _ _ _ _ _ (by rw[hO.ll];exact ha),zab rfl]
   show 0≤(t.put b).cE.getD b (-1)↔_;rw[e0];simp
  |false=>
   show 0≤t.cE.getD b (-1)↔_;rw[hR b h1 h2,hL];simp
 ·rw[zaa XI];have e0:(if L a then t.put a else t).cE.getD b (-1)=t.cE.getD b (-1):=by
   split
   ·show(t.cE.set a (t.next:Int)).getD b (-1)=_;rw[cR _ _ _ _ _ (by rw[hO.ll];exact ha),zaa XI]
   ·rfl
  rw[e0];exact hR b h1 h2
theorem kD (w:WS)(a i:Nat):(w.leave a).met.getD i 0=w.met.getD i 0:=rfl
theorem uL (w:WS)(a i:Nat):(w.enter a).met.getD i 0=w.met.getD i 0:=rfl
theorem B9 {w:WS}{a f:Nat}(hw:w.Ok n)(ha:a<n)(h0:w.met.getD a 0=0)(hp:w.pQ (λ_=>1)<f+1):((w.hit a).enter a).pQ (λ_=>1)<f:=by
 have:=pS hw ha (λ_=>1);rw[zab h0]at this;show(w.hit a).pQ (λ_=>1)<f;omega
theorem Ra (hC:XK n K S L fin){f:Nat}(hF:LkF n K S At L fin f false):∀(l:List Nat) (b:Bool) (t:TS) (w:WS) (f':Nat),t.Ok n L→(∀y∈l,y<n)→w.Ok n→w.pQ (λ_=>1)<f'→Rel K L t w→403≤f+t.out.length→(jZ (WF K S At L f false) b l t).long=false→(∀i,(l.foldl (bf S f') w).met.getD i 0≤fin i)→Rel K L (jZ (WF K S At L f false) b l t) (l.foldl (bf S f') w)∧Lk K w (l.foldl (bf S f') w) (Gu (WF K S At L f false) (WL K S At L f false) b l t)
 |[],_,_,_,_,_,_,_,_,hR,_,_,_=>⟨hR,Lk.nil _ _⟩
 |x::l,b,t,w,f',hO,hl,hw,hp,hR,hf,mi,fU=>by
  have hx:x<n:=hl x (by simp);have ab8:(jZ (WF K S At L f false) false l (WF K S At L f false (if b then t else t.add [32]) x)).long=false:=mi;have g3:=lM (λt y hq=>dX f false t y hq) l false _ ab8;have g2:=dX f false _ _ g3.nl;have GZ:=Ok.meet hC.hS f' w x hw hx;have ab9:∀i,(bf S f' w x).met.getD i 0≤fin i:=λi=>Int.le_trans (wZ hC.hS f' i l _ (λz hz=>hl z (by simp[hz])) GZ) (fU i);have h1:(if b then t else t.add [32]).Ok n L∧Rel K L (if b then t else t.add [32]) w∧t.out.length≤(if b then t else t.add [32]).out.length:=by
   cases b with
   |true=>exact⟨hO,hR,zac _⟩
   |false=>
    refine⟨hO.add _,hR.add _,?_⟩;have g2':Gr (t.add [32]) _:=g2;show _≤(t.add [32]).out.length;rw[(di g2'.nl).2];simp
  obtain⟨i1,i2⟩:=hF _ x w f' h1.1 hx hw hp h1.2.1 (by omega) g3.nl ab9;have hl2:=g2.len;obtain⟨j1,j2⟩:=Ra hC hF l false _ (bf S f' w x) f' (nS hC.hS hC.two f false _ _ h1.1 hx) (λz hz=>hl z (by simp[hz])) GZ (zch (oV hC.hS _ f' w x hw hx) hp) i1 (by omega) ab8 fU;exact⟨j1,i2.app j2 hw.nn (λi=>tE hC.hS f' w x hw hx i) (λi=>wZ hC.hS f' i l _ (λz hz=>hl z (by simp[hz])) GZ)⟩
theorem Rb (hC:XK n K S L fin){f:Nat}(hF:LkF n K S At L fin f false)(QY:LkF n K S At L fin f true){a x y:Nat}{t:TS}{w:WS}{f':Nat}(hSa:S a=[x,y])(ha:a<n)(hk:K a=1)(hO:t.Ok n L)(hw:w.Ok n)(h0:w.met.getD a 0=0)(hp:w.pQ (λ_=>1)<f'+1)(hR:Rel K L t ((w.hit a).enter a))(hf:403≤f+t.out.length)(mi:(WF K S At L f true (WF K S At L f false t x) y).long=false)(fU:∀i,(bf S (f'+1) w a).met.getD i 0≤fin i):Rel K L (WF K S At L f true (WF K S At L f false t x) y) (bf S (f'+1) w a)∧Lk K w (bf S (f'+1) w a) (a::(WL K S At L f false t x++WL K S At L f true (WF K S At L f false t x) y)):=by
 have hx:x<n:=hC.hS a ha x (by rw[hSa];simp);have hy:y<n:=hC.hS a ha y (by rw[hSa];simp);have g3:=dX f true _ _ mi;have g2:=dX f false _ _ g3.nl;have hl2:=g2.len;have hw0:((w.hit a).enter a).Ok n:=(hw.hit ha).enter ha (iW hw ha);have hp0:=B9 hw ha h0 hp;have e:bf S (f'+1) w a=(bf S f' (bf S f' ((w.hit a).enter a) x) y).leave a:=by
  rw[tF (by omega),hSa];rfl
 rw[e]at fU ⊢;have GZ:=Ok.meet hC.hS f' _ x hw0 hx;have DN:∀i,(bf S f' (bf S f' ((w.hit a).enter a) x) y).met.getD i 0≤fin i:=λi=>fU i;have ZP:=λi=>tE hC.hS f' (bf S f' ((w.hit a).enter a) x) y GZ hy i;have aca:=λi=>tE hC.hS f' ((w.hit a).enter a) x hw0 hx i;obtain⟨i1,i2⟩:=hF t x _ f' hO hx hw0 hp0 hR hf g3.nl (λi=>Int.le_trans (ZP i) (DN i));obtain⟨j1,j2⟩:=QY _ y _ f' (nS hC.hS hC.two f false _ _ hO hx) hy GZ (zch (oV hC.hS _ f' _ x hw0 hx) hp0) i1 (by omega) mi DN;have hk2:=i2.app j2 hw0.nn aca ZP;have ha1:((w.hit a).enter a).met.getD a 0=1:=by rw[uL,dJ hw ha,zab rfl,h0];rfl
 refine⟨λb h1 h2=>by rw[kD];exact j1 b h1 h2,?_,λb hb=>?_⟩
 ·rw[zco];exact⟨λhm=>(by have:=(hk2.b a hm).2.1;omega),hk2.nd⟩
 ·rw[kD];rcases zal.1 hb with rfl|hb
  ·have q1:=aca b;have q2:=ZP b;exact⟨by omega,h0,by omega⟩
  ·have q:=hk2.b b hb;have q3:w.met.getD b 0≤((w.hit a).enter a).met.getD b 0:=DD hw ha b;have:=hw.nn b;exact⟨q.1,by omega,q.2.2⟩
theorem Ca (hC:XK n K S L fin){a:Nat}(ha:a<n)(hk:K a=1):S a=[(S a).getD 0 0,(S a).getD 1 0]:=by
 have h2:=hC.two a ha hk;cases hl:S a with
 |nil=>rw[hl]at h2;cases h2
 |cons x l=>
  cases l with
  |nil=>rw[hl]at h2;simp at h2
  |cons y l=>
   cases l with
   |nil=>rfl
   |cons z l=>rw[hl]at h2;simp at h2
theorem KR (hC:XK n K S L fin){t:TS}{w:WS}{a f':Nat}(hw:w.Ok n)(ha:a<n)(hp:w.pQ (λ_=>1)<f')(hR:Rel K L t w)(hk:¬(1≤K a∧K a≤3)):Rel K L t (bf S f' w a):=by
 obtain⟨XL,rfl⟩:∃x,f'=x+1:=⟨f'-1,by omega⟩;refine hR.atom hC hk λi hi=>?_;by_cases hm:0<w.met.getD a 0
 ·rw[zu hm];show(w.hit a).met.getD i 0=_;rw[dJ hw ha,zaa hi]
 ·rw[tF hm,hC.leaf a (by omega) (by omega)];show(w.hit a).met.getD i 0=_;rw[dJ hw ha,zaa hi]
theorem Ju (hC:XK n K S L fin):∀f,LkF n K S At L fin f false∧LkF n K S At L fin f true
 |0=>by
  constructor<;>
  ·intro t a w f' hO _ _ _ _ hf mi;have:=hO.lo mi;omega
 |f+1=>by
  have hF:=(Ju hC f).1;have QY:=(Ju hC f).2;constructor
  ·intro t a w f' hO ha hw hp hR hf mi fU;have cV:t.long=false:=(dX (f+1) false t a mi).nl;obtain⟨XL,rfl⟩:∃x,f'=x+1:=⟨f'-1,by omega⟩;simp only[WF]at mi ⊢;simp only[WL];rw[zaa (by simp[cV])]at mi ⊢;by_cases h0:0≤t.cE.getD a (-1)
   ·rw[zab h0]at mi ⊢;rw[zab h0];have hLa:=hO.lL a h0;have hka:=((hC.cE a).1 hLa).2;have hm:=((hR a hka.1 hka.2).1 h0).1;rw[zu hm];refine⟨λb h1 h2=>?_,Lk.nil _ _⟩;rw[gX,hR b h1 h2];show _↔0<(w.hit a).met.getD b 0∧_;rw[dJ hw ha];by_cases XI:b=a
    ·subst XI;rw[zab rfl];constructor
     ·rintro ⟨q1,q2⟩;exact⟨by omega,q2⟩
     ·rintro ⟨_,q2⟩;exact⟨hm,q2⟩
    ·rw[zaa XI]
   ·rw[zaa h0]at mi ⊢;rw[zaa h0];have hO0:(if L a then t.put a else t).Ok n L:=by
     cases hL:L a with
     |true=>exact hO.put ha hL cV
     |false=>exact hO
    by_cases h1:K a=1
    ·rw[zab h1]at mi ⊢;rw[zab h1];have hm:=nH hC hw ha hR (by omega) (.inl h0) (fU a);have g3:=dX f true _ _ mi;have g2:=dX f false _ _ g3.nl;have ho:=(di g2.nl).2;have XM:=Rel.first hO hw ha hR hm;have acb:t.out.length≤(if L a then t.put a else t).out.length:=by
      cases hL:L a with
      |true=>
       rw[hL]at g2;have g2':Gr ((t.put a).add [40]) _:=g2;show _≤(t.put a).out.length;rw[(zl (di g2'.nl).1).2];simp
      |false=>exact zac _
     exact Rb hC hF QY (Ca hC ha h1) ha h1 (hO0.add _) hw hm hp (XM.add _) (by rw[ho,zaR];simp only[zar,zbk];omega) mi fU
    ·rw[zaa h1]at mi ⊢;rw[zaa h1];by_cases h2:K a=2
     ·rw[zab h2,pX]at mi ⊢;rw[zab h2];have hm:=nH hC hw ha hR (by omega) (.inl h0) (fU a);have g3:=Gr.add mi;have g2:=lM (λt y hq=>dX f false t y hq) _ _ _ g3.nl;have ho:=(di g2.nl).2;have XM:=Rel.first hO hw ha hR hm;have acb:t.out.length≤(if L a then t.put a else t).out.length:=by
       cases hL:L a with
       |true=>
        rw[hL]at g2;have g2':Gr ((t.put a).add [35,40]) _:=g2;show _≤(t.put a).out.length;rw[(zl (di g2'.nl).1).2];simp
       |false=>exact zac _
      have hw0:((w.hit a).enter a).Ok n:=(hw.hit ha).enter ha (iW hw ha);have e:bf S (XL+1) w a=((S a).foldl (bf S XL) ((w.hit a).enter a)).leave a:=tF (by omega);rw[e]at fU ⊢;obtain⟨i1,i2⟩:=Ra hC hF (S a) true _ _ XL (hO0.add [35,40]) (hC.hS a ha) hw0 (B9 hw ha hm hp) (XM.add _) (by rw[ho,zaR];simp only[zar,zbk];omega) g3.nl (λi=>fU i);have ha1:((w.hit a).enter a).met.getD a 0=1:=by rw[uL,dJ hw ha,zab rfl,hm];rfl
      refine⟨λb q1 q2=>by rw[gX,kD];exact i1 b q1 q2,?_,λb hb=>?_⟩
      ·rw[zco];exact⟨λhmm=>(by have:=(i2.b a hmm).2.1;omega),i2.nd⟩
      ·rw[kD];rcases zal.1 hb with rfl|hb
       ·have q1:=wZ hC.hS XL b (S b) _ (hC.hS b ha) hw0;exact⟨by omega,hm,by omega⟩
       ·have q:=i2.b b hb;have q3:w.met.getD b 0≤((w.hit a).enter a).met.getD b 0:=DD hw ha b;have:=hw.nn b;exact⟨q.1,by omega,q.2.2⟩
     ·rw[zaa h2]at mi ⊢;rw[zaa h2];by_cases h3:K a=3
      ·rw[zab h3];have hm:=nH hC hw ha hR (by omega) (.inl h0) (fU a);have XM:=Rel.first hO hw ha hR hm;have e:bf S (XL+1) w a=((w.hit a).enter a).leave a:=by rw[tF (by omega),hC.leaf a h1 h2];rfl
       rw[e];refine⟨λb q1 q2=>by rw[gX,kD];exact XM b q1 q2,by simp,λb hb=>?_⟩;rw[zbA.1 hb];refine⟨by omega,hm,?_⟩;rw[kD,uL,dJ hw ha,zab rfl];omega
      ·rw[zaa h3];have hk:¬(1≤K a∧K a≤3):=by omega
       have hLa:L a=false:=by
        cases hL:L a with
        |false=>rfl
        |true=>exact absurd ((hC.cE a).1 hL).2 hk
       rw[hLa];exact⟨(KR hC hw ha hp hR hk).add _,Lk.nil _ _⟩
  ·intro t r w f' hO hr hw hp hR hf mi fU;obtain⟨XL,rfl⟩:∃x,f'=x+1:=⟨f'-1,by omega⟩;simp only[WF]at mi ⊢;simp only[WL];by_cases h1:K r=1∧L r=false
   ·rw[zab h1]at mi ⊢;rw[zab h1];have hm:=nH hC hw hr hR (by omega) (.inr h1.2) (fU r);have g3:=dX f true _ _ mi;have g2:=dX f false _ _ g3.nl;have ho:=(di g2.nl).2;have XM:=Rel.first hO hw hr hR hm;rw[h1.2]at XM;exact Rb hC hF QY (Ca hC hr h1.1) hr h1.1 (hO.add _) hw hm hp (Rel.add XM _) (by rw[ho,zaR];simp only[zar,zbk];omega) mi fU
   ·rw[zaa h1]at mi ⊢;rw[zaa h1];by_cases h0:K r=0
    ·rw[zab h0]at mi ⊢;rw[zab h0];exact⟨(KR hC hw hr hp hR (by omega)).add _,Lk.nil _ _⟩
    ·rw[zaa h0]at mi ⊢;rw[zaa h0];have g1:=Gr.add mi;have g2:=dX f false _ _ g1.nl;have ho:=(di g2.nl).2;obtain⟨i1,i2⟩:=hF _ r w (XL+1) (hO.add [32,46,32]) hr hw hp (hR.add _) (by rw[ho,zaR];simp only[zar,zbk];omega) g1.nl fU;exact⟨i1.add _,i2⟩
end
structure MI (g:fP):Prop where
 lt:∀i k:Nat,g.met.lookup i=some k→k<g.nodes.length
 inj:∀i j k:Nat,g.met.lookup i=some k→g.met.lookup j=some k→i=j
theorem MI.new {g:fP}(h:MI g)(i:Nat)(x:eO):MI ⟨g.nodes++[x],(i,g.nodes.length)::g.met⟩:=by
 refine⟨λj k q=>?_,λj j' k q q'=>?_⟩
 ·have q0:((i,g.nodes.length)::g.met).lookup j=some k:=q;rw[lookup_cons]at q0;show k<(g.nodes++[x]).length;rw[zaR,zar];split at q0
  ·cases q0;omega
  ·have:=h.lt j k q0;omega
 ·have q0:((i,g.nodes.length)::g.met).lookup j=some k:=q;have q1:((i,g.nodes.length)::g.met).lookup j'=some k:=q';rw[lookup_cons]at q0 q1;split at q0<;>split at q1
  ·rename_i e1 e2;rw[e1,e2]
  ·cases q0;have:=h.lt j' _ q1;omega
  ·cases q1;have:=h.lt j _ q0;omega
  ·exact h.inj j j' k q0 q1
theorem Ve {root:Dt}:∀n,(∀d g k g',MI g→ie root n d g=some (k,g')→MI g')∧(∀l acc g ks g',MI g→dV root n l acc g=some (ks,g')→MI g'):=by
 intro n
 induction n with
 |zero=>
  constructor
  ·intro _ _ _ _ _ h;simp[ie]at h
  ·intro _ _ _ _ _ _ h;simp[dV]at h
 |succ n ih=>
  have hold:∀{g:fP} {y:List Nat×fP} {L:Nat},MI y.2→MI { y.2 with nodes:=bE y.2.nodes L y.1 }:=λh=>
   ⟨λi k q=>by show k<(bE _ _ _).length;simp only[bE,List.length_modify];exact h.lt i k q,h.inj⟩
  have add:∀{g:fP} {x:eO},MI g→MI (g.add x):=λh=>
   ⟨λi k q=>by have:=h.lt i k q;simp only[fP.add,zaR,zar];omega,h.inj⟩
  constructor
  ·intro d g k g' hm h;simp only[ie]at h;split at h
   ·split at h
    ·cases h;exact hm
    ·obtain⟨y,h1,h2⟩:=zas.1 h;cases h2;exact hold (g:=g) (ih.2 _ _ _ _ _ (hm.new _ _) h1)
   ·split at h
    ·cases h;exact hm
    ·obtain⟨y,h1,h2⟩:=zas.1 h;cases h2;exact hold (g:=g) (ih.2 _ _ _ _ _ (hm.new _ _) h1)
   ·split at h
    ·cases h;exact hm
    ·cases h;exact hm.new _ _
   all_goals cases h;exact add hm
  ·intro l acc g ks g' hm h;cases l with
   |cZ=>simp only[dV]at h;cases h;exact hm
   |br a l=>
    simp only[dV]at h;obtain⟨x,h1,h2⟩:=zaO.1 h;exact ih.2 _ _ _ _ _ (ih.1 _ _ _ _ hm h1) h2
   |_=>simp only[dV]at h;cases h
theorem Jv {ck:Nat→Option Nat}{c i:Nat}:∀{l:List Nat},i∈l→ck i=some c→1≤cn ck c l
 |x::l,h,hp=>by
  rw[nC];rcases zal.1 h with rfl|h
  ·rw[zab hp];omega
  ·have:=Jv h hp;omega
theorem Re {ck:Nat→Option Nat}{c i j:Nat}:∀{l:List Nat},cn ck c l≤1→i∈l→j∈l→ck i=some c→ck j=some c→i=j
 |x::l,h,hi,hj,pi,pj=>by
  rw[nC]at h;rcases zal.1 hi with e|hi'
  ·rcases zal.1 hj with e'|hj'
   ·rw[e,e']
   ·have:=Jv hj' pj;rw[←e,zab pi]at h;omega
  ·rcases zal.1 hj with e'|hj'
   ·have:=Jv hi' pi;rw[←e',zab pj]at h;omega
   ·exact Re (by omega) hi' hj' pi pj
theorem ky {x:Dt}{i:Nat}:∀{r:Dt},x∈bp r→i∈aY x→i∈aY r
 |.pair j u v,hx,hi=>by
  simp only[bp,zal,zaF]at hx;rcases hx with rfl|hx|hx
  ·exact hi
  ·simp[aY,ky hx hi]
  ·simp[aY,ky hx hi]
 |.br u v,hx,hi=>by
  simp only[bp,zal,zaF]at hx;rcases hx with rfl|hx|hx
  ·exact hi
  ·simp[aY,ky hx hi]
  ·simp[aY,ky hx hi]
 |.vec j u,hx,hi=>by
  simp only[bp,zal]at hx;rcases hx with rfl|hx
  ·exact hi
  ·simp[aY,ky hx hi]
 |.put m u,hx,hi=>by
  simp only[bp,zal]at hx;rcases hx with rfl|hx
  ·exact hi
  ·simpa[aY]using ky hx hi
 |.nil,hx,hi=>by simp[bp]at hx;subst hx;exact hi
 |.sym _,hx,hi=>by simp[bp]at hx;subst hx;exact hi
 |.num _ _,hx,hi=>by simp[bp]at hx;subst hx;exact hi
 |.cD _,hx,hi=>by simp[bp]at hx;subst hx;exact hi
 |.kB _,hx,hi=>by simp[bp]at hx;subst hx;exact hi
 |.txt _ _,hx,hi=>by simp[bp]at hx;subst hx;exact hi
 |.cZ,hx,hi=>by simp[bp]at hx;subst hx;exact hi
 |.ask _,hx,hi=>by simp[bp]at hx;subst hx;exact hi
end Go.Loop
namespace Go.Proofs.YtlhimdjkkiflhaaGreatDoor
open Go.RowKit Go.Loop
section
variable {G:List Nd}{lam:Int→Nat}{ck:Nat→Option Nat}
theorem Rg.leaf (hR:Rg G){a:Nat}(h1:aJ G a≠1)(h2:aJ G a≠2):ai G a=[]:=by
 cases hx:G[a]? with
 |none=>unfold ai;rw[hx]
 |some x=>
  have hk:=hR.kind a x hx;have hK:=B8 hx;rw[hK]at h1 h2;have hl:x.subs.length=0:=by
   by_cases k0:x.kind=0
   ·exact(Jo hk k0).2.2.2
   by_cases k3:x.kind=3
   ·exact(Jp hk k3).2.2.2
   by_cases k4:x.kind=4
   ·exact(Jq hk k4).2.2
   by_cases k5:x.kind=5
   ·exact(Jr hk k5).2
   by_cases k6:x.kind=6
   ·exact(Js hk k6).2.2
   by_cases k7:x.kind=7
   ·exact(Jt hk k7).2.2
   exfalso;unfold aQ at hk;rw[zaa k0,zaa h1,zaa h2,zaa k3,zaa k4,zaa k5,zaa k6,zaa k7]at hk;cases hk
  have:=B6 hx;rw[hl]at this;exact zcf this
theorem ZQ (hR:Rg G)(hn:1≤G.length)(mi:(WG G (iY G 2) 403 false (bu G.length) 0).long=false):(LG G (iY G 2) 403 false (bu G.length) 0).Nodup:=by
 have hC:XK G.length (aJ G) (ai G) (iY G 2) (λi=>(fj (ai G) G.length).met.getD i 0):=by
  refine⟨λx _ y hy=>hR.subs x y hy,λx _ hk=>hR.two hk,λx h1 h2=>hR.leaf h1 h2,λx=>?_⟩;unfold iY;rw[zaa (by decide),zab rfl,zae,zaK,zaK]
 have hm:∀i,(WS.start G.length).met.getD i 0=0:=λi=>by
  show(List.replicate G.length (0:Int)).getD i 0=0;exact ez _ _ _
 have hl:∀i,(bu G.length).cE.getD i (-1)=-1:=λi=>ez G.length i (-1);exact((Ju (At:=jD G) hC 403).1 (bu G.length) 0 (WS.start G.length) (G.length+1) (pU _ _) (by omega) (kY _) (by show sW (λ_=>1) 0 (List.replicate G.length 0)<_;rw[yT];omega) (λb _ _=>by rw[hl,hm];simp) (by omega) mi (λi=>Int.le_refl _)).2.nd
theorem KS {root:Dt}{l0:List Nat}{g:fP}(h0:Wd G lam ck root l0)(hg:bH root root=true){a k:Nat}(hr:RB G lam ck root g a k)(hk:1≤aJ G a∧aJ G a≤3):∃i,i∈aY root∧ck i=some a∧g.met.lookup i=some k:=by
 obtain⟨ha,x,pK,hxp,hw,hat⟩:=hr;have hm:=tD h0 hg 200000 x pK hw;have uB:=GF hg pK hxp;have ho:=Q3 pK 200000;unfold Al at hat
 cases hy:bQ root 200000 x with
 |pair i u v=>
  rw[hy]at hat hm ho;obtain⟨b,e,_,p1,_,_⟩:=hm;cases e;exact⟨i,ky (ho.resolve_right (by simp)) (by simp[aY]),p1,hat⟩
 |vec i u=>
  rw[hy]at hat hm ho;obtain⟨b,e,_,p1,_⟩:=hm;cases e;exact⟨i,ky (ho.resolve_right (by simp)) (by simp[aY]),p1,hat⟩
 |txt i w=>
  rw[hy]at hat hm ho;obtain⟨b,e,_,_,p1⟩:=hm;cases e;exact⟨i,ky (ho.resolve_right (by simp)) (by simp[aY]),p1,hat⟩
 |sym w=>rw[hy]at hm;obtain⟨b,e,k1,_⟩:=hm;cases e;omega
 |num n d=>rw[hy]at hm;obtain⟨b,e,k1,_⟩:=hm;cases e;omega
 |cD n=>rw[hy]at hm;obtain⟨b,e,k1,_⟩:=hm;cases e;omega
 |kB n=>rw[hy]at hm;obtain⟨b,e,k1,_⟩:=hm;cases e;omega
 |nil=>rw[hy]at hm;obtain⟨b,e,k1⟩:=hm;cases e;omega
 |put m u=>rw[hy]at uB;cases uB
 |ask m=>rw[hy]at uB;cases uB
 |cZ=>rw[hy]at uB;cases uB
 |br u v=>rw[hy]at uB;cases uB
def One (G:List Nd)(R:Nat→Nat→Prop):Prop:=(∀a k k',R a k→R a k'→1≤aJ G a∧aJ G a≤3→k=k')∧∀a a' k,R a k→R a' k→1≤aJ G a∧aJ G a≤3→1≤aJ G a'∧aJ G a'≤3→a=a'
theorem Rf (hR:Rg G)(hn:1≤G.length)(mi:(WG G (iY G 2) 403 false (bu G.length) 0).long=false){s:List UInt8}(hs:s=(WG G (iY G 2) 403 false (bu G.length) 0).out):(∃a,cS s 30=some ([],a,6))∨cS s 30=some ([],0,2)∨∃H R,cS s 30=some (H,s.length,0)∧H≠[]∧Bis G H R∧R 0 0∧One G R:=by
 obtain⟨hlen,h|h|⟨d,σ,ck,k,g,eK,cO,_,hN,hw,aeb⟩⟩:=B4 hR hn mi hs
 ·exact .inl h
 ·exact .inr (.inl h)
 ·have hgd:=(tj hlen 30 d σ eK).1;have Ak:=((Dw (aw (s.length+1) s 0) 30 (λt ht rG=>zag (nt _ _ _ t ht rG) (by omega)) 2000).datum _ _ d σ eK).sh;obtain⟨hX,hat⟩:=(GC (root:=d) 100000).1 d ⟨[],[]⟩ k g (cX d) cO;have hk:=GD cO;subst hk;have hMI:=(Ve (root:=d) 100000).1 d ⟨[],[]⟩ 0 g ⟨λ_ _ q=>(by cases q),λ_ _ _ q=>(by cases q)⟩ cO;have hnd:=ZQ hR hn mi;have hc1:∀c,cn ck c (aY d)≤1:=λc=>by rw[aeb];exact List.nodup_iff_count.1 hnd c
  have h00:RB G (zr (WG G (iY G 2) 403 false (bu G.length) 0)) ck d g 0 0:=⟨by omega,d,cX d,Ak,hw,hat⟩;refine .inr (.inr ⟨g.nodes,RB G _ ck d g,hN,λe=>?_,Dz hR hw hgd Ak hX,h00,λa k k' r r' hh=>?_,λa a' k r r' hh NF=>?_⟩)
  ·obtain⟨_,z,_,hz,_⟩:=Dz hR hw hgd Ak hX 0 0 h00;rw[e]at hz;cases hz
  ·obtain⟨i,i1,i2,i3⟩:=KS hw hgd r hh;obtain⟨j,j1,j2,j3⟩:=KS hw hgd r' hh;have e:=Re (hc1 a) i1 j1 i2 j2;subst e;rw[i3]at j3;exact zaM j3
  ·obtain⟨i,i1,i2,i3⟩:=KS hw hgd r hh;obtain⟨j,j1,j2,j3⟩:=KS hw hgd r' NF;have e:=hMI.inj i j k i3 j3;subst e;rw[i2]at j2;exact zaM j2
end
end Go.Proofs.YtlhimdjkkiflhaaGreatDoor
