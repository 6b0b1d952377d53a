import Derived.LaidEqlPtr
import Derived.Test.YtlhimdjkkiflhaaGreatReads19
set_option maxHeartbeats 8000000
set_option maxRecDepth 100000
open Go renaming Value→Γ,World→Δ,Calls→Λ
open Go.Departure renaming mixedOrders→Θ
namespace Go.Proofs.YtlhimdjkkiflhaaGreat
open Go.Proofs.Tryz
open Go.RowKit Go.Loop
section
variable (R M g cap:Nat)(T:List Tok)(dp:Nat)
def Sa (n:Nat):Prop:=∀(t:Tok) (p:Pl) (a0:Option Addr) (n0 c0:Nat) (w:Δ) (E:Env) (s:eA) (r:RR Dt),bH w R M g cap T dp E s→iR w E s p.ahead (.slice a0 n0 c0)→(p.depth≤dp∧p.ahead.length≤p.depth)→(r=if p.passed∨t.n∈s.ax then .fail 5 t.from_
 else if p.depth=dp then .fail 6 t.from_
 else(aI T dp n ⟨p.depth+1,p.passed,p.ahead++[t.n]⟩ { s with ax:=t.n::s.ax }).bind λd s=> .ok (.put t.n d) s)→r≠.out→
    Λ prog 66 #[ai R,bC t,gf p.depth p.passed (.slice a0 n0 c0)] w λe w'=>jM R M g cap T dp (Γ.slice a0 n0 c0).ownBlock w E s r e w'
def Sb:Prop:=∀(t:Tok) (p:Pl) (a0:Option Addr) (n0 c0:Nat) (w:Δ) (E:Env) (s:eA) (r:RR Dt),bH w R M g cap T dp E s→iR w E s p.ahead (.slice a0 n0 c0)→(p.depth≤dp∧p.ahead.length≤p.depth)→(r=if p.passed∨t.n∉s.ax∨t.n∈p.ahead then .fail 5 t.from_ else .ok (.ask t.n) s)→Λ prog 67 #[ai R,bC t,gf p.depth p.passed (.slice a0 n0 c0)] w λe w'=>jM R M g cap T dp none w E s r e w'
end
section
variable {R M g cap:Nat}{T:List Tok}{dp:Nat}
theorem jL.up {w w':Δ}(h:jL R M none w w')(A:Option Nat):jL R M A w w':=h.plain.a A
theorem MH {n:Nat}(ih:∀m,m≤n→IH R M g cap T dp m)(hput:Sa R M g cap T dp n)(uV:Sb R M g cap T dp)(yM:(∃t∈T,t.kind=5)→Dp R M g cap T dp)(yN:(∃t∈T,t.kind=4)→Dq R M g cap T dp)(t:Tok)(p:Pl)(av:Γ)(w:Δ)(E:Env)(s:eA)(hm:t∈T)(hr:bH w R M g cap T dp E s)(ha:iR w E s p.ahead av)(hd:p.depth≤dp∧p.ahead.length≤p.depth)(ho:bQ T dp (n+1) t p s≠.out):Λ prog 33 #[ai R,bC t,gf p.depth p.passed av] w λe w'=>jM R M g cap T dp av.ownBlock w E s (bQ T dp (n+1) t p s) e w':=by
 have VF:Hid ((t.kind=5→Dp R M g cap T dp)∧(t.kind=4→Dq R M g cap T dp)):=⟨λh=>yM ⟨t,hm,h⟩,λh=>yN ⟨t,hm,h⟩⟩;clear yM yN hm;have mixed:prog.follows Θ=true:=by kernel_rfl
 obtain⟨⟨a0,n0,c0,rfl⟩⟩:=(⟨ha.2.1⟩:Nonempty _);have KI:R<w.heap.size:=hr.lt;generalize et:bQ T dp (n+1) t p s=r at *;have mH:=et.symm;unfold bQ at mH;clear et;have hb0:Below w.heap.size w ((w.alloc (ic t)).alloc (gL p.depth p.passed a0 n0 c0)):=((zad _ w).alloc (zab _) _).alloc (by simp) _;have uU:Hid (Kp R M w ((w.alloc (ic t)).alloc (gL p.depth p.passed a0 n0 c0))):=Kp.aF hb0;have sI:Hid _:=hr.below hb0;have Hs:Hid _:=ha.below hb0;have HO:Hid _:=ho;by_cases YA:t.kind=3∨t.kind=7
 ·have HE:Hid (r=.fail 3 t.from_):=mH.trans (zac YA);clear mH hb0 hr ha ih hput uV;have hq:(((t.kind:Nat):Int)==3)=true∨((((t.kind:Nat):Int)==3)=false∧(((t.kind:Nat):Int)==7)=true):=by
   rcases YA with h|h
   ·exact .inl (by rw[h];rfl)
   ·exact .inr ⟨by rw[h];rfl,by rw[h];rfl⟩
  clear YA;unfold gf ai bC;rcases hq with q3|⟨q3,q7⟩
  all_goals
   go_enter func33,ntmps33;go_wp2_with fail;go_region;go_wp2_with fail;go_ret2;rw[HE.out];refine⟨⟨w.heap.size+1+1,rfl,?_⟩,(Kp.trans uU.out (Kp.aF (((zad _ _).alloc (zab _) _).drew))).a _⟩;exact(show _=_ from by rw[show w.heap.size+1+1=((w.alloc (ic t)).alloc (gL p.depth p.passed a0 n0 c0)).heap.size by simp];exact zau _ _)
 replace mH:=mH.trans (zaa YA);have q3:(((t.kind:Nat):Int)==3)=false:=by rw[zao];omega
 have q7:(((t.kind:Nat):Int)==7)=false:=by rw[zao];omega
 clear YA;by_cases YB:t.kind=10
 ·have q10:(((t.kind:Nat):Int)==10)=true:=by rw[YB];rfl
  have HC:Hid _:=hput t p a0 n0 c0 _ E s r sI.out Hs.out hd (mH.trans (zac YB)) ho;clear mH hb0 hr ha ih hput uV YB;unfold gf ai bC at HC ⊢;go_enter func33,ntmps33;go_wp2_with fail;refine zae HC.out ?_;intro e w3 bM;have l7:=jM.from bM uU.out;clear bM HC;cases r with
  |out=>exact absurd rfl HO.out
  |fail er a=>
   obtain⟨⟨b,rfl,hf⟩,hk2⟩:=l7;have HG:Hid (jM R M g cap T dp (Γ.slice a0 n0 c0).ownBlock w E s (RR.fail er a) (.returned (.tuple #[.nilIface,ai b])) w3):=⟨⟨b,rfl,hf⟩,hk2⟩;clear hf hk2;unfold ai;go_wp2_with fail;go_ret2;exact HG.out
  |ok d s2=>
   obtain⟨v,E2,rfl,⟨ty,y,rfl⟩,cy,hx2,hr2,hk2⟩:=l7;have HG:Hid (jM R M g cap T dp (Γ.slice a0 n0 c0).ownBlock w E s (RR.ok d s2) (.returned (.tuple #[.iface ty y,.pointer none])) w3):=⟨.iface ty y,E2,rfl,⟨ty,y,rfl⟩,cy,hx2,hr2,hk2⟩;clear cy hx2 hr2 hk2;go_wp2_with fail;go_ret2;exact HG.out
 replace mH:=mH.trans (zaa YB);have q10:(((t.kind:Nat):Int)==10)=false:=by rw[zao];omega
 clear YB;by_cases KC:t.kind=11
 ·have q11:(((t.kind:Nat):Int)==11)=true:=by rw[KC];rfl
  have HC:Hid _:=uV t p a0 n0 c0 _ E s r sI.out Hs.out hd (mH.trans (zac KC));clear mH hb0 hr ha ih hput uV KC;unfold gf ai bC at HC ⊢;go_enter func33,ntmps33;go_wp2_with fail;refine zae HC.out ?_;intro e w3 bM;have l7:=jM.from bM uU.out;clear bM HC;cases r with
  |out=>exact absurd rfl HO.out
  |fail er a=>
   obtain⟨⟨b,rfl,hf⟩,hk2⟩:=l7;have HG:Hid (jM R M g cap T dp (Γ.slice a0 n0 c0).ownBlock w E s (RR.fail er a) (.returned (.tuple #[.nilIface,ai b])) w3):=⟨⟨b,rfl,hf⟩,jL.up hk2 _⟩;clear hf hk2;unfold ai;go_wp2_with fail;go_ret2;exact HG.out
  |ok d s2=>
   obtain⟨v,E2,rfl,⟨ty,y,rfl⟩,cy,hx2,hr2,hk2⟩:=l7;have HG:Hid (jM R M g cap T dp (Γ.slice a0 n0 c0).ownBlock w E s (RR.ok d s2) (.returned (.tuple #[.iface ty y,.pointer none])) w3):=⟨.iface ty y,E2,rfl,⟨ty,y,rfl⟩,cy,hx2,hr2,jL.up hk2 _⟩;clear cy hx2 hr2 hk2;go_wp2_with fail;go_ret2;exact HG.out
 replace mH:=mH.trans (zaa KC);have q11:(((t.kind:Nat):Int)==11)=false:=by rw[zao];omega
 clear KC;by_cases kh:t.kind=2∨t.kind=5∨t.kind=4
 ·have HC:Hid _:=Dx ih t VF p a0 n0 c0 _ E s sI.out hd r (mH.trans (zac kh)) ho;have hq:(((t.kind:Nat):Int)==2)=true∨((((t.kind:Nat):Int)==2)=false∧(((t.kind:Nat):Int)==5)=true)∨((((t.kind:Nat):Int)==2)=false∧(((t.kind:Nat):Int)==5)=false∧(((t.kind:Nat):Int)==4)=true):=by
   rcases kh with h|h|h
   ·exact .inl (by rw[h];rfl)
   ·exact .inr (.inl ⟨by rw[h];rfl,by rw[h];rfl⟩)
   ·exact .inr (.inr ⟨by rw[h];rfl,by rw[h];rfl,by rw[h];rfl⟩)
  clear mH hb0 hr ha ih hput uV kh;unfold gf ai bC at HC ⊢;rcases hq with q2|⟨q2,q5⟩|⟨q2,q5,q4⟩
  all_goals
   go_enter func33,ntmps33;go_wp2_with fail;refine zae HC.out ?_;intro e w3 bM;have l7:=jM.from bM uU.out;clear bM HC;cases r with
   |out=>exact absurd rfl HO.out
   |fail er a=>
    obtain⟨⟨b,rfl,hf⟩,hk2⟩:=l7;have HG:Hid (jM R M g cap T dp (Γ.slice a0 n0 c0).ownBlock w E s (RR.fail er a) (.returned (.tuple #[.nilIface,ai b])) w3):=⟨⟨b,rfl,hf⟩,jL.up hk2 _⟩;clear hf hk2;unfold ai;go_wp2_with fail;go_ret2;exact HG.out
   |ok d s2=>
    obtain⟨v,E2,rfl,⟨ty,y,rfl⟩,cy,hx2,hr2,hk2⟩:=l7;have HG:Hid (jM R M g cap T dp (Γ.slice a0 n0 c0).ownBlock w E s (RR.ok d s2) (.returned (.tuple #[.iface ty y,.pointer none])) w3):=⟨.iface ty y,E2,rfl,⟨ty,y,rfl⟩,cy,hx2,hr2,jL.up hk2 _⟩;clear cy hx2 hr2 hk2;go_wp2_with fail;go_ret2;exact HG.out
 replace mH:=mH.trans (zaa kh);have q2:(((t.kind:Nat):Int)==2)=false:=by rw[zao];omega
 have q5:(((t.kind:Nat):Int)==5)=false:=by rw[zao];omega
 have q4:(((t.kind:Nat):Int)==4)=false:=by rw[zao];omega
 clear kh;have HC:Hid (Λ prog 69 #[bC t] ((w.alloc (ic t)).alloc (gL p.depth p.passed a0 n0 c0)) λe w'=>jM R M g cap T dp none ((w.alloc (ic t)).alloc (gL p.depth p.passed a0 n0 c0)) E s r e w'):=by
  rw[mH];unfold uv;by_cases h8:t.kind=8
  ·rw[zac h8];refine(Mz t _ h8).mono ?_;rintro e w' ⟨b,rfl,hb,hc,hw⟩;have hbl:b<w'.heap.size:=(zag.1 hc).1;refine⟨_,E.one s.fresh b,rfl,⟨_,_,rfl⟩,?_,Ext.one hb hbl,bH.name (bH.below sI.out hw) rfl rfl rfl,(Kp.aF hw).a none⟩;have e1:(E.one s.fresh b).α s.fresh=b:=zac rfl;unfold bX;rw[e1];exact⟨Nat.lt_succ_self _,hb,rfl,hc⟩
  rw[zaa h8];by_cases hv:t.kind=9∨t.kind=12∨t.kind=14∨t.fault=0
  ·refine(MA t _ h8 hv).mono ?_;rintro e w' ⟨rfl,hw⟩;have key:∀d:Dt,(∃t' y,j8 t=.iface t' y)→bX ((w.alloc (ic t)).alloc (gL p.depth p.passed a0 n0 c0)).heap.size s.fresh s.ax w' E d (j8 t)→jM R M g cap T dp none ((w.alloc (ic t)).alloc (gL p.depth p.passed a0 n0 c0)) E s (.ok d s) (.returned (.tuple #[j8 t,.pointer none])) w':=λd hi h=>⟨_,E,rfl,hi,h,Ext.refl rfl rfl,bH.below sI.out hw,(Kp.aF hw).a none⟩;by_cases h9:t.kind=9
   ·rw[zac h9];exact key _ (by simp[j8,h9]) (by unfold bX;simp[j8,h9])
   rw[zaa h9];by_cases zE:t.kind=12
   ·rw[zac zE];exact key _ (by simp[j8,zE]) (by unfold bX;simp[j8,zE])
   rw[zaa zE];by_cases uN:t.kind=14
   ·rw[zac uN];exact key _ (by simp[j8,uN]) (by unfold bX;simp[j8,uN])
   rw[zaa uN,zaa (by omega)];exact key _ (by simp[j8,h9,zE,uN]) (by unfold bX;simp[j8,h9,zE,uN])
  ·rw[zaa (by omega),zaa (by omega),zaa (by omega),zac (by omega)];refine(FY t _ ⟨h8,by omega,by omega,by omega⟩ (by omega)).mono ?_;rintro e w' ⟨b,rfl,hc,hw⟩;exact⟨⟨b,rfl,hc⟩,(Kp.aF hw).a none⟩
 clear mH hb0 hr ha ih hput uV
 ·unfold gf ai bC at *;go_enter func33,ntmps33;go_wp2_with fail;refine zae HC.out ?_;intro e w3 bM;have l7:=jM.from bM uU.out;clear bM HC;cases r with
  |out=>exact absurd rfl HO.out
  |fail er a=>
   obtain⟨⟨b,rfl,hf⟩,hk2⟩:=l7;have HG:Hid (jM R M g cap T dp (Γ.slice a0 n0 c0).ownBlock w E s (RR.fail er a) (.returned (.tuple #[.nilIface,ai b])) w3):=⟨⟨b,rfl,hf⟩,jL.up hk2 _⟩;clear hf hk2;unfold ai;go_wp2_with fail;go_ret2;exact HG.out
  |ok d s2=>
   obtain⟨v,E2,rfl,⟨ty,y,rfl⟩,cy,hx2,hr2,hk2⟩:=l7;have HG:Hid (jM R M g cap T dp (Γ.slice a0 n0 c0).ownBlock w E s (RR.ok d s2) (.returned (.tuple #[.iface ty y,.pointer none])) w3):=⟨.iface ty y,E2,rfl,⟨ty,y,rfl⟩,cy,hx2,hr2,jL.up hk2 _⟩;clear cy hx2 hr2 hk2;go_wp2_with fail;go_ret2;exact HG.out
end
theorem Dy:prog.underlying 154=some (.pointer 157):=by kernel_rfl
theorem Qe:(prog.info? 157).map (λi=>i.size)=some 1:=by kernel_rfl
theorem YC (w:Δ)(b c:Nat)(hb:∃v,w.heap[b]?=some (.cells #[v] 157))(hc:∃v,w.heap[c]?=some (.cells #[v] 157)):(binOp .eql 154 (.pointer (some ⟨b,0,none⟩)) (.pointer (some ⟨c,0,none⟩))).run prog w=.ok (.bool (decide (b=c))) w:=by
 obtain⟨vb,hb⟩:=hb;obtain⟨vc,hc⟩:=hc;have hi:=Qe;cases hj:prog.info? 157 with
 |none=>rw[hj]at hi;cases hi
 |some j=>
  rw[hj]at hi;have hs:j.size=1:=by simpa using hi
  by_cases e:b=c
  ·subst e;rw[run_eql_ptr_same w _ Dy hj];simp
  ·rw[run_eql_ptr_other w (ca:=#[vb]) (cb:=#[vc]) Dy hj (by omega) (λh=>e (by cases h;rfl)) hb hc];simp[e]
theorem Bl (l:List Nat)(g c lo b:Nat)(w:Δ)(hrow:w.ownsRow lo 154 1 (.slice (some ⟨g,0,none⟩) l.length c) l.length (l.map ai))(F2:∃v,w.heap[b]?=some (.cells #[v] 157))(hll:∀x∈l,∃v,w.heap[x]?=some (.cells #[v] 157)):Λ prog 113 #[.slice (some ⟨g,0,none⟩) l.length c,ai b] w λe w'=>(∃i:Int,e=.returned (.int .i64 i)∧(if b∈l then 0≤i else i=-1))∧w'=w:=by
 have hg:g<w.heap.size:=(hrow.lt g rfl).2;have hn:l.length≤9223372036854775807:=by
  rcases hrow.2 with⟨h,_⟩|⟨_,cp,_,_,_,_,h1,h2,_⟩
  ·cases h
  ·simp only[maxLen]at h2;omega
 have hcell:Hid (∀(j:Nat) (x:Nat),l[j]?=some x→w.cell? ⟨g,j,none⟩=some (ai x)):=λj x hx=>by
  have hj:j<l.length:=(zaD.1 hx).1;rw[hrow.cellAt j (by omega),List.getElem?_map,hx];rfl
 clear hrow;unfold ai;go_enter func113,ntmps113;go_wp2_with fail;go_loopw [8] (λi wr=>∃j:Nat,j≤l.length∧i=.int .i64 j∧wr=w∧Hid (∀(k:Nat) x,k<j→l[k]?=some x→x≠b)) (λi _=>l.length-(intOf i).toNat)
 case atStart=>exact⟨0,by omega,rfl,rfl,λk x hk=>by omega⟩
 case round=>
  obtain⟨j,hj,rfl,rfl,hB⟩:=hrel;by_cases yi:j<l.length
  ·have hx:l[j]?=some l[j]:=zaP yi;have hc:=hcell.out j _ hx;unfold ai at hc;have q:((j:Int)<(l.length:Int)):=by omega
   have hq:=YC wr b l[j] F2 (hll _ (zci yi));by_cases hb:l[j]=b
   ·have hm:b∈l:=by rw[←hb];exact zci yi
    rw[hb]at hc hq;simp only[decide_true]at hq;go_wp2_with fail;go_ret;exact⟨⟨_,rfl,by omega⟩,rfl⟩
   ·have hb':decide (b=l[j])=false:=by rw[zcr];exact λe=>hb e.symm
    rw[hb']at hq;go_wp2_with fail;refine⟨⟨j+1,by omega,by simp,trivial,λk x hk hkx=>?_⟩,?_⟩
    ·rcases zar k j with h|h
     ·exact hB.out k x h hkx
     ·have:k=j:=by omega
      subst this;rw[hx]at hkx;cases hkx;exact hb
    ·simp only[intOf];omega
  ·have hm:¬b∈l:=λh=>by
    obtain⟨k,hk,hkb⟩:=List.getElem_of_mem h;exact hB.out k _ (by omega) (zaP hk) hkb
   have q:¬((j:Int)<(l.length:Int)):=by omega
   go_wp2_with fail;go_ret;simp
theorem JO (b:Nat)(w:Δ):Λ prog 113 #[.slice none 0 0,ai b] w λe w'=>e=.returned (.int .i64 (-1))∧w'=w:=by
 unfold ai;go_enter func113,ntmps113;go_wp2_with fail;go_loopw [8] (λi wr=>i=.int .i64 0∧wr=w) (λ_ _=>0)
 case atStart=>exact⟨rfl,rfl⟩
 case round=>
  obtain⟨rfl,rfl⟩:=hrel;go_wp2_with fail;go_ret;exact⟨rfl,rfl⟩
theorem Bn (l:List Nat)(av:Γ)(lo b:Nat)(w:Δ)(hrow:w.ownsRow lo 154 1 av l.length (l.map ai))(F2:∃v,w.heap[b]?=some (.cells #[v] 157))(hll:∀x∈l,∃v,w.heap[x]?=some (.cells #[v] 157)):Λ prog 92 #[av,ai b] w λe w'=>e=.returned (.bool (decide (b∈l)))∧w'=w:=by
 rcases hrow.2 with⟨rfl,h0⟩|⟨g,cap,cur,rfl,_⟩
 ·have:l=[]:=zch h0;subst this;have HC:Hid _:=JO b w;clear hrow;unfold ai at HC ⊢;go_enter func92,ntmps92;go_wp2_with fail;refine zae HC.out ?_;rintro e w' ⟨rfl,rfl⟩;go_wp2_with fail;go_ret;simp
 ·have HC:Hid _:=Bl l g cap lo b w hrow F2 hll;clear hrow;unfold ai at HC ⊢;go_enter func92,ntmps92;go_wp2_with fail;refine zae HC.out ?_;rintro e w' ⟨⟨i,rfl,hi⟩,rfl⟩;by_cases hm:b∈l
  ·rw[zac hm]at hi;go_wp2_with fail;go_ret;simp[hm]
  ·rw[zaa hm]at hi;subst hi;go_wp2_with fail;go_ret;simp[hm]
theorem xv {f:Int→Γ}(n:Int):∀l:List Int,(l.map λm=>(m,f m)).lookup n=if n∈l then some (f n)else none
 |[]=>rfl
 |m::l=>by
  rw[zaC,List.lookup_cons];by_cases h:n=m
  ·subst h;simp
  ·have:(n==m)=false:=by rw[zao];exact h
   rw[this,xv n l];simp[h]
theorem rK (E:Env)(ax:List Int)(n:Int):(uR E ax).lookup n=if n∈ax then some (ai (E.bT n))else none:=by
 unfold uR;rw[xv (f:=λm=>ai (E.bT m))];simp
theorem kv (w:Δ)(A B C:Obj):(((w.alloc A).alloc B).alloc C).heap[w.heap.size+1+1]?=some C:=by
 rw[show w.heap.size+1+1=((w.alloc A).alloc B).heap.size by simp];exact zau _ _
section
variable {R M g cap:Nat}{T:List Tok}{dp:Nat}
theorem TT:Sb R M g cap T dp:=by
 intro t p a0 n0 c0 w E s r hr ha hd et;have mixed:prog.follows Θ=true:=by kernel_rfl
 have hb0:Below w.heap.size w ((w.alloc (ic t)).alloc (gL p.depth p.passed a0 n0 c0)):=((zad _ w).alloc (zab _) _).alloc (by simp) _;have hs0:((w.alloc (ic t)).alloc (gL p.depth p.passed a0 n0 c0)).heap.size=w.heap.size+1+1:=by simp
 have uU:Hid (Kp R M w ((w.alloc (ic t)).alloc (gL p.depth p.passed a0 n0 c0))):=Kp.aF hb0;have sD:=hr.below hb0;have sI:Hid _:=sD;have cJ:=nY (w:=((w.alloc (ic t)).alloc (gL p.depth p.passed a0 n0 c0)).drew) (M:=M) (l:=uR E s.ax) sD.lm t.n;rw[rK]at cJ;have KI:R<w.heap.size:=hr.lt;have n1:¬R=w.heap.size:=by omega
 have n2:¬R=w.heap.size+1:=by omega
 have n3:R<w.heap.size+1:=by omega
 obtain⟨⟨r0,r1,r2,r3⟩,-⟩:=gP hr.blk;have Hs:Hid _:=ha.below hb0;by_cases hp:p.passed=true
 ·have HE:Hid (r=.fail 5 t.from_):=et.trans (zac (.inl hp));rw[hp]at cJ uU ⊢;clear et hr sD hb0 ha hs0 sI Hs;unfold gf ai bC;by_cases hl:t.n∈s.ax
  ·rw[zac hl,zbw]at cJ;unfold ai at cJ;go_enter func67,ntmps67;go_wp2_with fail;go_region;go_wp2_with fail;go_region;go_wp2_with fail;go_ret2;rw[HE.out];refine⟨⟨w.heap.size+1+1,rfl,?_⟩,(Kp.trans uU.out (Kp.aF ((((zad _ _).alloc (zab _) _).drew).drew))).a none⟩;exact kv w _ _ _
  ·rw[zaa hl,zbH]at cJ;go_enter func67,ntmps67;go_wp2_with fail;go_region;go_wp2_with fail;go_region;go_wp2_with fail;go_ret2;rw[HE.out];refine⟨⟨w.heap.size+1+1,rfl,?_⟩,(Kp.trans uU.out (Kp.aF ((((zad _ _).alloc (zab _) _).drew).drew))).a none⟩;exact kv w _ _ _
 have vt:p.passed=false:=by simpa using hp
 rw[vt]at cJ uU sI Hs hs0 ⊢;by_cases hl:t.n∈s.ax
 ·rw[zac hl,zbw]at cJ;have hrow:(((w.alloc (ic t)).alloc (gL p.depth false a0 n0 c0)).drew).ownsRow 0 154 1 (.slice a0 n0 c0) (p.ahead.map E.bT).length ((p.ahead.map E.bT).map ai):=by
   rw[List.length_map,List.map_map];exact Hs.out.1
  have HC:Hid _:=Bn (p.ahead.map E.bT) (.slice a0 n0 c0) 0 (E.bT t.n) _ hrow (sI.out.low _ hl) (λx hx=>by
   obtain⟨m,hm,rfl⟩:=zbN.1 hx;exact sI.out.low m (Hs.out.2.2 m hm))
  have yz:E.bT t.n∈p.ahead.map E.bT↔t.n∈p.ahead:=by
   constructor
   ·intro h;obtain⟨m,hm,e⟩:=zbN.1 h;rw[←sI.out.inj m (Hs.out.2.2 m hm) t.n hl e];exact hm
   ·exact λh=>zbN.2 ⟨_,h,rfl⟩
  by_cases Qf:t.n∈p.ahead
  ·have HE:Hid (r=.fail 5 t.from_):=et.trans (zac (.inr (.inr Qf)));rw[zcb (yz.2 Qf)]at HC;clear et hr sD hb0 ha hs0 hrow yz;unfold ai at cJ HC;unfold gf ai bC;go_enter func67,ntmps67;go_wp2_with fail;go_region;go_wp2_with fail;refine zae HC.out ?_;rintro e w' ⟨rfl,rfl⟩;go_wp2_with fail;go_region;go_wp2_with fail;go_ret2;rw[HE.out];refine⟨⟨w.heap.size+1+1,rfl,?_⟩,(Kp.trans uU.out (Kp.aF ((((zad _ _).alloc (zab _) _).drew).drew))).a none⟩;exact kv w _ _ _
  ·have HE:Hid (r=.ok (.ask t.n) s):=et.trans (zaa (by simp[vt,hl,Qf]));rw[zbr (λh=>Qf (yz.1 h))]at HC;have HG:Hid (jM R M g cap T dp none w E s (.ok (.ask t.n) s) (.returned (.tuple #[.iface 154 (ai (E.bT t.n)),.pointer none])) ((w.alloc (ic t)).alloc (gL p.depth false a0 n0 c0)).drew):=
    ⟨_,E,rfl,⟨_,_,rfl⟩,by unfold bX;exact⟨hl,rfl⟩,Ext.refl rfl rfl,bH.below sI.out ((zad _ _).drew),(Kp.trans uU.out (Kp.aF ((zad _ _).drew))).a none⟩
   clear et hr sD hb0 ha hs0 hrow yz;unfold ai at cJ HC;unfold gf ai bC;go_enter func67,ntmps67;go_wp2_with fail;go_region;go_wp2_with fail;refine zae HC.out ?_;rintro e w' ⟨rfl,rfl⟩;go_wp2_with fail;go_ret2;rw[HE.out];exact HG.out
 ·have HE:Hid (r=.fail 5 t.from_):=et.trans (zac (.inr (.inl hl)));rw[zaa hl,zbH]at cJ;clear et hr sD hb0 ha hs0 sI Hs;unfold gf ai bC
  ·go_enter func67,ntmps67;go_wp2_with fail;go_region;go_wp2_with fail;go_region;go_wp2_with fail;go_ret2;rw[HE.out];refine⟨⟨w.heap.size+1+1,rfl,?_⟩,(Kp.trans uU.out (Kp.aF ((((zad _ _).alloc (zab _) _).drew).drew))).a none⟩;exact kv w _ _ _
end
section
variable {R M g cap:Nat}{T:List Tok}{dp:Nat}
theorem JP (n:Nat)(t:Tok)(p:Pl)(a0:Option Addr)(n0 c0:Nat)(w:Δ)(E:Env)(s:eA)(r:RR Dt)(hr:bH w R M g cap T dp E s)(et:r=if p.passed∨t.n∈s.ax then .fail 5 t.from_
 else if p.depth=dp then .fail 6 t.from_
 else(aI T dp n ⟨p.depth+1,p.passed,p.ahead++[t.n]⟩ { s with ax:=t.n::s.ax }).bind λd s=> .ok (.put t.n d) s)(fM:p.passed=true∨t.n∈s.ax∨p.depth=dp):
 Λ prog 66 #[ai R,bC t,gf p.depth p.passed (.slice a0 n0 c0)] w λe w'=>jM R M g cap T dp (Γ.slice a0 n0 c0).ownBlock w E s r e w':=by
 have mixed:prog.follows Θ=true:=by kernel_rfl
 have hb0:Below w.heap.size w ((w.alloc (ic t)).alloc (gL p.depth p.passed a0 n0 c0)):=((zad _ w).alloc (zab _) _).alloc (by simp) _;have hs0:((w.alloc (ic t)).alloc (gL p.depth p.passed a0 n0 c0)).heap.size=w.heap.size+1+1:=by simp
 have uU:Hid (Kp R M w ((w.alloc (ic t)).alloc (gL p.depth p.passed a0 n0 c0))):=Kp.aF hb0;have sD:=hr.below hb0;have sI:Hid _:=sD;have cJ:=nY (w:=((w.alloc (ic t)).alloc (gL p.depth p.passed a0 n0 c0)).drew) (M:=M) (l:=uR E s.ax) sD.lm t.n;rw[rK]at cJ;have KI:R<w.heap.size:=hr.lt;have n1:¬R=w.heap.size:=by omega
 have n2:¬R=w.heap.size+1:=by omega
 have n3:R<w.heap.size+1:=by omega
 obtain⟨⟨r0,r1,r2,r3⟩,-⟩:=gP hr.blk;by_cases hp:p.passed=true
 ·have HE:Hid (r=.fail 5 t.from_):=et.trans (zac (.inl hp));rw[hp]at cJ uU ⊢;clear et hr sD hb0 hs0 sI cJ;unfold gf ai bC
  ·go_enter func66,ntmps66;go_wp2_with fail;go_region;go_wp2_with fail;go_region;go_wp2_with fail;go_ret2;rw[HE.out];refine⟨⟨w.heap.size+1+1,rfl,?_⟩,(Kp.trans uU.out (Kp.aF ((((zad _ _).alloc (zab _) _).drew).drew))).a _⟩;exact kv w _ _ _
 have vt:p.passed=false:=by simpa using hp
 rw[vt]at cJ uU sI hs0 ⊢;by_cases hl:t.n∈s.ax
 ·rw[zac hl,zbw]at cJ;have HE:Hid (r=.fail 5 t.from_):=et.trans (zac (.inr hl));clear et hr sD hb0 hs0 sI;unfold ai at cJ;unfold gf ai bC
  ·go_enter func66,ntmps66;go_wp2_with fail;go_region;go_wp2_with fail;go_region;go_wp2_with fail;go_ret2;rw[HE.out];refine⟨⟨w.heap.size+1+1,rfl,?_⟩,(Kp.trans uU.out (Kp.aF ((((zad _ _).alloc (zab _) _).drew).drew))).a _⟩;exact kv w _ _ _
 rw[zaa hl,zbH]at cJ;replace et:=et.trans (zaa (by simp[vt,hl]));have hc0:(((w.alloc (ic t)).alloc (gL p.depth false a0 n0 c0)).drew).cell? ⟨R,2,none⟩=some (.int .i64 dp):=(gP sI.out.blk).1.2.2.1;by_cases hdd:p.depth=dp
 ·have HE:Hid (r=.fail 6 t.from_):=et.trans (zac hdd);have HC:Hid _:=uw R dp t p.depth false a0 n0 c0 (((w.alloc (ic t)).alloc (gL p.depth false a0 n0 c0)).drew) hc0 (by simp;omega) hdd;clear et hr sD hb0 hs0 sI hc0 hdd;unfold gf ai bC at HC ⊢;go_enter func66,ntmps66;go_wp2_with fail;go_region;go_wp2_with fail;refine zae HC.out ?_;rintro e w1 ⟨b,rfl,hf,hb1⟩;have HF:Hid _:=hf;have Qb:Hid _:=Kp.trans (Kp.trans uU.out (Kp.aF ((zad _ _).drew))) (Kp.aF hb1);clear hf hb1 HC;go_wp2_with fail;go_ret2;rw[HE.out];exact⟨⟨b,rfl,dK.alloc HF.out _⟩,(Kp.trans Qb.out (Kp.aF ((zad _ _).alloc (zab _) _))).a _⟩
 ·exact absurd (fM.resolve_left hp) (by simp[hl,hdd])
end
end Go.Proofs.YtlhimdjkkiflhaaGreat
namespace Go.Proofs.YtlhimdjkkiflhaaGreat
open Go.RowKit Go.Loop
def Env.label (E:Env)(n:Int)(b:Nat):Env:=⟨E.α,λm=>if m=n then b else E.bT m⟩
theorem n7 (E:Env)(n:Int)(b k:Nat){ax:List Int}(hn:¬n∈ax):E.agree (E.label n b) k ax:=
 ⟨λ_ _=>rfl,λm hm=>zaa λe=>hn (by rw[←e];exact hm)⟩
theorem JQ (E:Env)(n:Int)(b:Nat){ax:List Int}(hn:¬n∈ax):uR (E.label n b) (n::ax)=uR E ax++[(n,ai b)]:=by
 unfold uR;rw[List.reverse_cons,zbI]
 congr 1
 ·exact List.map_congr_left λm hm=>by rw[(n7 E n b 0 hn).2 m (List.mem_reverse.1 hm)]
 ·simp[Env.label]
theorem bH.label {w:Δ}{R M g cap:Nat}{T:List Tok}{dp:Nat}{E:Env}{s:eA}(h:bH w R M g cap T dp E s){n:Int}{b:Nat}{o:Obj}(hn:¬n∈s.ax)(hb:∃v,w.heap[b]?=some (.cells #[v] 157))(vW:∀m∈s.ax,E.bT m≠b)
 (hm:mX { w with heap:=w.heap.setIfInBounds M o } M ((uR E s.ax++[(n,ai b)]).map λp=>(Γ.int .i64 p.1,p.2))):
 bH { w with heap:=w.heap.setIfInBounds M o } R M g cap T dp (E.label n b) { s with ax:=n::s.ax }:=by
 have ho:∀c,c≠M→(w.heap.setIfInBounds M o)[c]?=w.heap[c]?:=λc hc=>by rw[zax (λe=>hc e.symm)]
 have hlM:∀(c:Nat) (v:Γ),w.heap[c]?=some (.cells #[v] 157)→c≠M:=λc v hc e=>by
  obtain⟨es,cl,q,_⟩:=h.lm;rw[e,q]at hc;cases hc
 refine⟨h.rm,h.gr,h.gm,(ho R h.rm).trans h.blk,?_,?_,λm C9=>?_,λm h1 k h2 e=>?_,h.small,h.deep⟩
 ·refine⟨h.row.1,h.row.2.imp id ?_⟩;rintro ⟨c,cp,cur,h1,h2,h3,h4⟩;have:c=g:=by cases h1;rfl
  exact⟨c,cp,cur,h1,h2,(ho c (by rw[this];exact h.gm)).trans h3,h4⟩
 ·show mX _ M ((uR (E.label n b) (n::s.ax)).map _);rw[JQ E n b hn];exact hm
 ·show ∃v,(w.heap.setIfInBounds M o)[if m=n then b else E.bT m]?=_;by_cases e:m=n
  ·rw[zac e];obtain⟨v,hv⟩:=hb;exact⟨v,(ho b (hlM b v hv)).trans hv⟩
  ·rw[zaa e];have GG:m∈s.ax:=(zaI.1 C9).resolve_left e;obtain⟨v,hv⟩:=h.low m GG;exact⟨v,(ho _ (hlM _ v hv)).trans hv⟩
 ·have e':(if m=n then b else E.bT m)=(if k=n then b else E.bT k):=e;by_cases e1:m=n<;>by_cases e2:k=n
  ·rw[e1,e2]
  ·rw[zac e1,zaa e2]at e';exact absurd e'.symm (vW k ((zaI.1 h2).resolve_left e2))
  ·rw[zaa e1,zac e2]at e';exact absurd e' (vW m ((zaI.1 h1).resolve_left e1))
  ·rw[zaa e1,zaa e2]at e';exact h.inj m ((zaI.1 h1).resolve_left e1) k ((zaI.1 h2).resolve_left e2) e'
end Go.Proofs.YtlhimdjkkiflhaaGreat
namespace Go.Proofs.YtlhimdjkkiflhaaGreat
open Go.Proofs.Tryz
open Go.RowKit Go.Loop
theorem JR:prog.underlying 71=some (.slice 154):=by kernel_rfl
theorem rL {w:Δ}{v:Γ}{n:Nat}{xs:List Γ}(h:w.ownsRow 0 154 1 v n xs)(b:Nat)(o:Obj)(hb:w.heap[b]?=some o)(ho:∀cur,o≠.cells cur 154):some b≠v.ownBlock:=by
 intro e;rcases h.2 with⟨rfl,_⟩|⟨g,cap,cur,rfl,_,hg,_⟩
 ·cases e
 ·have:b=g:=by cases e;rfl
  rw[this,hg]at hb;exact ho cur (by cases hb;rfl)
section
variable {R M g cap:Nat}{T:List Tok}{dp:Nat}{E:Env}{s:eA}
theorem bH.tokens {w:Δ}(h:bH w R M g cap T dp E s):∃cur,w.heap[g]?=some (.cells cur 76):=by
 rcases h.row.2 with⟨e,_⟩|⟨b,cp,cur,h1,_,h3,_⟩
 ·cases e
 ·have:b=g:=by cases h1;rfl
  exact⟨cur,by rw[←this];exact h3⟩
theorem JS {w3 w4:Δ}{v:Γ}{n:Nat}{xs:List Γ}{A:Obj}(hr:bH w3 R M g cap T dp E s)(ho:w3.ownsRow 0 154 1 v n xs)(hg:(w3.alloc A).grownBy w4 v.ownBlock):bH w4 R M g cap T dp E s∧jL R M v.ownBlock w3 w4∧(∀b,b<w3.heap.size→some b≠v.ownBlock→w4.heap[b]?=w3.heap[b]?)∧w3.heap.size+1≤w4.heap.size:=by
 have hs:(w3.alloc A).heap.size=w3.heap.size+1:=by simp
 have hb:∀b,b<w3.heap.size→some b≠v.ownBlock→w4.heap[b]?=w3.heap[b]?:=λb h h'=>(hg.block b (by omega) h').trans (zaK _ _ _ h);have hz:=hg.size;refine⟨?_,⟨hg.os,hg.tape,hg.output,by omega,λb b1 _ _ b4=>hb b b1 b4⟩,hb,by omega⟩;obtain⟨es,c,hm,-⟩:=hr.lm;obtain⟨cur,Kz⟩:=hr.tokens;have q1:=rL ho R _ hr.blk (λcur e=>by simp at e);have q2:=rL ho g _ Kz (λcur e=>by simp at e);have q3:=rL ho M _ hm (λcur e=>by simp at e);exact bH.step hr (k:=s.k) ((hb R hr.lt q1).trans hr.blk) (by omega) (λb b1 b2=>hb b b1 (b2.elim (λe=>by rw[e];exact q2) λe=>by rw[e];exact q3)) λb x hv=>hb b (zag.1 hv).1 (rL ho b _ hv (λcur e=>by simp at e))
theorem bH.place {w:Δ}(h:bH w R M g cap T dp E s){b:Nat}{cs:Array Γ}(hb:w.heap[b]?=some (.cells cs 73))(i:Nat)(v:Γ):bH (w.setCell ⟨b,i,none⟩ v) R M g cap T dp E s:=by
 have ho:∀c,c≠b→(w.setCell ⟨b,i,none⟩ v).heap[c]?=w.heap[c]?:=λc hc=>zay _ _ _ _ hc;obtain⟨es,c,hm,-⟩:=h.lm;obtain⟨cur,Kz⟩:=h.tokens;have q1:R≠b:=λe=>by rw[←e,h.blk]at hb;simp at hb
 have q2:g≠b:=λe=>by rw[←e,Kz]at hb;simp at hb
 have q3:M≠b:=λe=>by rw[←e,hm]at hb;simp at hb
 exact bH.step h (k:=s.k) ((ho R q1).trans h.blk) (by simp) (λc _ c2=>ho c (c2.elim (λe=>by rw[e];exact q2) λe=>by rw[e];exact q3)) λc x hv=>ho c (λe=>by rw[e,hb]at hv;simp at hv)
theorem iR.more {w:Δ}{l:List Int}{v':Γ}{n:Int}{L0 b:Nat}{cs:Array Γ}(h:w.ownsRow 0 154 1 v' (l.length+1) (l.map (λm=>ai ((E.label n L0).bT m))++[ai L0]))(hb:w.heap[b]?=some (.cells cs 73))(hl:∀m∈l,m∈s.ax)(x:Γ):iR (w.setCell ⟨b,2,none⟩ x) (E.label n L0) { s with ax:=n::s.ax } (l++[n]) v':=by
 refine⟨?_,?_,λm hm=>?_⟩
 ·have e:((l++[n]).map λm=>ai ((E.label n L0).bT m))=l.map (λm=>ai ((E.label n L0).bT m))++[ai L0]:=by
   rw[zbI]
   congr 1
   simp[Env.label]
  rw[e,zaT];refine⟨h.1,h.2.imp id ?_⟩;rintro ⟨c,cp,cur,h1,h2,h3,h4⟩;exact⟨c,cp,cur,h1,h2,(zay _ _ _ _ (λe=>by rw[e,hb]at h3;simp at h3)).trans h3,h4⟩
 ·obtain⟨a,c,e⟩:=aw h;exact⟨a,_,c,e⟩
 ·rcases zaQ.1 hm with h1|h1
  ·exact zbm _ (hl m h1)
  ·simp at h1;subst h1;exact zbt
theorem jL.put {A B:Option Nat}{w w5 w6:Δ}(h:jL R M A w w5)(k:jL R M B w5 w6)(hv:B=A∨∃k,B=some k∧w.heap.size≤k):jL R M A w w6:=by
 have h1:=h.size;have h2:=k.size;refine⟨k.os.trans h.os,k.tape.trans h.tape,k.output.trans h.output,by omega,λb b1 b2 b3 b4=>(k.block b (by omega) b2 b3 λe=>?_).trans (h.block b b1 b2 b3 b4)⟩;rcases hv with hv|⟨c,hc,hlt⟩
 ·exact b4 (e.trans hv)
 ·rw[hc]at e;cases e;omega
theorem jL.above {A:Option Nat}{w w':Δ}(h:jL R M A w w'){b:Nat}(hb:w.heap.size≤b)(i:Nat)(v:Γ):jL R M A w (w'.setCell ⟨b,i,none⟩ v):=
 ⟨h.os,h.tape,h.output,by have:=h.size;simpa using this,λc c1 c2 c3 c4=>(zay _ _ _ _ (show c≠b by omega)).trans (h.block c c1 c2 c3 c4)⟩
theorem Qg {w w5 w6:Δ}{A:Option Nat}{v' x v:Γ}{E2:Env}{s2:eA}{n:Int}{d:Dt}{L0 m:Nat}{xs:List Γ}(hk:jL R M A w w5)(hL:w.heap.size≤L0)(qA:w5.heap[L0]?=some (.cells #[x] 157))
 (ho:w5.ownsRow 0 154 1 v' m xs)(hv:v'.ownBlock=A∨∃k,v'.ownBlock=some k∧w.heap.size≤k)(Ou:bH w5 R M g cap T dp (E.label n L0) { s with ax:=n::s.ax })(hn:¬n∈s.ax)
 (hi:∃t y,v=.iface t y)(cy:bX w5.heap.size s2.fresh s2.ax w6 E2 d v)(hx:Ext w5 w6 (E.label n L0) E2 { s with ax:=n::s.ax } s2)(yu:bH w6 R M g cap T dp E2 s2)(KL:jL R M v'.ownBlock w5 w6):
 w6.heap[L0]?=some (.cells #[x] 157)∧jM R M g cap T dp A w E s (.ok (.put n d) s2) (.returned (.tuple #[v,.pointer none])) (w6.setCell ⟨L0,0,none⟩ v):=by
 have hL5:L0<w5.heap.size:=(zag.1 qA).1;have hs5:=hk.size;have hs6:=KL.size;obtain⟨es,c,hm,-⟩:=Ou.lm;have q1:L0≠R:=λe=>by rw[e,Ou.blk]at qA;simp at qA
 have q3:L0≠M:=λe=>by rw[e,hm]at qA;simp at qA
 have uq:w6.heap[L0]?=some (.cells #[x] 157):=(KL.block L0 hL5 q1 q3 (rL ho L0 _ qA (λcur e=>by simp at e))).trans qA;obtain⟨cur,Kz⟩:=yu.tokens;have q2:g≠L0:=λe=>by rw[e,uq]at Kz;simp at Kz
 have hl0:(w6.setCell ⟨L0,0,none⟩ v).heap[L0]?=some (.cells #[v] 157):=bk uq 0 v;have YD:∀c,c≠L0→(w6.setCell ⟨L0,0,none⟩ v).heap[c]?=w6.heap[c]?:=λc hc=>zay _ _ _ _ hc;have JK:E2.bT n=L0:=(hx.agree.2 n zbt).trans (zac rfl);refine⟨uq,v,E2,rfl,hi,?_,?_,?_,(hk.put KL hv).above hL 0 v⟩
 ·unfold bX;rw[JK];exact⟨hx.ax n zbt,hL,hl0,bX.keep hs5 (zab _) (λ_ h=>h) (λb b1 _=>YD b (by omega)) ⟨λ_ _=>rfl,λ_ _=>rfl⟩ d v cy⟩
 ·have ag:=n7 E n L0 s.fresh hn;refine⟨⟨λi hi=>(hx.agree.1 i hi).trans (ag.1 i hi),λm hm=>(hx.agree.2 m (zbm _ hm)).trans (ag.2 m hm)⟩,hx.fresh,λm hm=>hx.ax m (zbm _ hm),λi i1 i2=>?_,hx.inj⟩;have:=hx.new i i1 i2;rw[show(w6.setCell ⟨L0,0,none⟩ v).heap.size=w6.heap.size by simp];omega
 ·refine⟨yu.rm,yu.gr,yu.gm,(YD R q1.symm).trans yu.blk,?_,?_,λm hm=>?_,yu.inj,yu.small,yu.deep⟩
  ·refine⟨yu.row.1,yu.row.2.imp id ?_⟩;rintro ⟨b,cp,cur,h1,h2,h3,h4⟩;have:b=g:=by cases h1;rfl
   exact⟨b,cp,cur,h1,h2,(YD b (by rw[this];exact q2)).trans h3,h4⟩
  ·obtain⟨es,c,h1,h2⟩:=yu.lm;exact⟨es,c,(YD M q3.symm).trans h1,h2⟩
  ·obtain⟨y,hy⟩:=yu.low m hm;by_cases e:E2.bT m=L0
   ·rw[e];exact⟨v,hl0⟩
   ·exact⟨y,(YD _ e).trans hy⟩
end
def bS:Code→Code
 |.seq _ y=>y
 |c=>c
section
variable {R M g cap:Nat}{T:List Tok}{dp:Nat}
theorem MK {n:Nat}(ih:IH R M g cap T dp n)(t:Tok)(p:Pl)(a0:Option Addr)(n0 c0:Nat)(w w1 w3:Δ)(E:Env)(s:eA)(r:RR Dt)(vt:p.passed=false)(hl:¬t.n∈s.ax)(hd:p.depth+1≤dp∧p.ahead.length≤p.depth)(qa:dp≤30)(MB:w.heap.size+1+1≤w1.heap.size)
 (hs3:w3.heap.size=w1.heap.size+2)(HE:Hid (r=(aI T dp n ⟨p.depth+1,p.passed,p.ahead++[t.n]⟩ { s with ax:=t.n::s.ax }).bind λd s=> .ok (.put t.n d) s))(HO:Hid (r≠.out))(zU:∀k,(Γ.slice a0 n0 c0).ownBlock=some k→k<w.heap.size)(HlA:Hid (∀m∈p.ahead,m∈s.ax))
 (tI:Hid (bH w3 R M g cap T dp (E.label t.n (w1.heap.size+1)) { s with ax:=t.n::s.ax }))(HL3:Hid (w3.heap[w1.heap.size+1]?=some (.cells #[.nilIface] 157)))(Oy:Hid (w3.heap[w1.heap.size]?=some (.cells #[.int .i64 ((p.depth:Int)+1),.bool false,.slice none 0 0] 73)))
 (MF:Hid (w3.heap[w.heap.size+1]?=some (gL p.depth false a0 n0 c0)))(ig:Hid (w3.ownsRow 0 154 1 (.slice a0 n0 c0) p.ahead.length (p.ahead.map λm=>ai ((E.label t.n (w1.heap.size+1)).bT m))))(uS:Hid (Kp R M w w3))
 (x1 x2 x3 x4 x6 x7 x9 x11 x12 x13 x14 x15 x16 x17 x18 x19 x20 x21 x22 x23 x24 x25 x26 x27 x28 x29 x30 x31 x32 x33 x34 x35 x36 x37 x38 x39 x40 x41 x42 x43 x44 x45 x46 x47 x48 x49 x50 x51 x52 x53 x54 x55 x56 x57 x58 x59 x60 x61 x62 x63 x64 x65 x66:Γ):
 (bS (bS (bS (bS (bS (bS (f66.body.getD .skip))))))).wp prog (bodyPost prog f66 λe w'=>jM R M g cap T dp (Γ.slice a0 n0 c0).ownBlock w E s r e w') ⟨#[.pointer (some ⟨R,0,none⟩),x1,x2,x3,x4,.pointer (some ⟨w.heap.size+1,0,none⟩),x6,x7,.pointer (some ⟨w1.heap.size,0,none⟩),x9,.pointer (some ⟨w1.heap.size+1,0,none⟩),x11,x12,x13,x14,x15,x16,x17,x18,x19,x20,x21,x22,x23,x24,x25,x26,x27,x28,x29,x30,x31,x32,x33,x34,x35,x36,x37,x38,x39,x40,x41,x42,x43,x44,x45,x46,x47,x48,x49,x50,x51,x52,x53,x54,x55,x56,x57,x58,x59,x60,x61,x62,x63,x64,x65,x66],[]⟩ w3:=by
 have mixed:prog.follows Θ=true:=by kernel_rfl
 obtain⟨q0,q1,q2⟩:=fh MF.out;obtain⟨z0,z1,z2⟩:=fh Oy.out;have hf3:w3.frozen? ⟨w1.heap.size,2,none⟩=false:=by simp[Δ.frozen?,Oy.out]
 obtain⟨i0,hi,hz0,hz1,hz2⟩:=info_parts JG;have hlen:p.ahead.length+1≤1000000:=by omega
 have lI:Hid _:=ih;have JX:Hid _:=hs3;clear ih hs3;dsimp only[f66,bS,Option.getD];go_wp2_with (at_builtin;(refine cj rfl _ _ 71 rfl 0 154 i0 (.pointer none) 8 JR hi hz0 hz1 hz2 (by decide) rfl (.slice a0 n0 c0) p.ahead.length (p.ahead.map λm=>ai ((E.label t.n (w1.heap.size+1)).bT m)) rfl (zbL ig.out _) ⟨w3.heap.size,0,none⟩ 1 1 [ai (w1.heap.size+1)] rfl (by decide) rfl ?c1 ?c2 ?c3 ?c4 ?_))
 case c1=>
  intro j u hj
  match j,hj with
  |0,hj=>simp at hj;subst hj;simp[Addr.add,ai]
 case c2=>intro u hu;simp at hu;subst hu;rfl
 case c3=>exact hlen
 case c4=>exact zap _
 intro v' w4 hown' hgrow cG;have hs3:=JX.out;obtain⟨hr4,hk4,hb4,KD⟩:=JS tI.out ig.out hgrow
 skip
 have L8:=(hb4 w1.heap.size (by omega) (λe=>by have:=zU _ e.symm;omega)).trans Oy.out;have hL4:=(hb4 (w1.heap.size+1) (by omega) (λe=>by have:=zU _ e.symm;omega)).trans HL3.out;obtain⟨a1,c1,rfl⟩:=aw hown';have JN:Hid (bH (w4.setCell ⟨w1.heap.size,2,none⟩ (.slice a1 (p.ahead.length+1) c1)) R M g cap T dp (E.label t.n (w1.heap.size+1)) { s with ax:=t.n::s.ax }):=bH.place hr4 L8 2 _;have HA5:Hid (iR (w4.setCell ⟨w1.heap.size,2,none⟩ (.slice a1 (p.ahead.length+1) c1)) (E.label t.n (w1.heap.size+1)) { s with ax:=t.n::s.ax } (p.ahead++[t.n]) (.slice a1 (p.ahead.length+1) c1)):=iR.more hown' L8 HlA.out _;have hL5:(w4.setCell ⟨w1.heap.size,2,none⟩ (.slice a1 (p.ahead.length+1) c1)).heap[w1.heap.size+1]?=some (.cells #[.nilIface] 157):=(zay _ _ _ _ (by show w1.heap.size+1≠w1.heap.size;omega)).trans hL4;have Vt:(w4.setCell ⟨w1.heap.size,2,none⟩ (.slice a1 (p.ahead.length+1) c1)).heap[w1.heap.size]?=some (.cells #[.int .i64 ((p.depth:Int)+1),.bool false,.slice a1 (p.ahead.length+1) c1] 73):=bk L8 2 _;have R9:Hid (jL R M (Γ.slice a0 n0 c0).ownBlock w (w4.setCell ⟨w1.heap.size,2,none⟩ (.slice a1 (p.ahead.length+1) c1))):=by
  exact jL.above (((uS.out).a _).trans hk4) (by omega) 2 _
 have hv5:(Γ.slice a1 (p.ahead.length+1) c1).ownBlock=(Γ.slice a0 n0 c0).ownBlock∨∃k,(Γ.slice a1 (p.ahead.length+1) c1).ownBlock=some k∧w.heap.size≤k:=cG.imp id λ⟨k,k1,k2⟩=>⟨k,k1,by have k3:w3.heap.size≤k:=zaj (by simp) k2;omega⟩;have TS:Hid _:=hv5;have HL5:Hid _:=hL5;have hne:aI T dp n ⟨p.depth+1,false,p.ahead++[t.n]⟩ { s with ax:=t.n::s.ax }≠.out:=λh=>HO.out (by rw[HE.out,vt,h];rfl);have HD:Hid _:=lI.out.datum ⟨p.depth+1,false,p.ahead++[t.n]⟩ (.slice a1 (p.ahead.length+1) c1) _ _ _ JN.out HA5.out ⟨hd.1,by show(p.ahead++[t.n]).length≤_;rw[zaT];have:=hd.2;simp;omega⟩ hne;obtain⟨y0,y1,y2⟩:=fh Vt;have hf4:w4.frozen? ⟨w1.heap.size,2,none⟩=false:=by simp[Δ.frozen?,L8]
 obtain⟨u0,u1,u2⟩:=fh L8;have hs5:(w4.setCell ⟨w1.heap.size,2,none⟩ (.slice a1 (p.ahead.length+1) c1)).heap.size=w4.heap.size:=by simp
 clear hr4 hk4 hb4 L8 hL4 hL5 Vt hown' hgrow cG hv5 hne lI tI ig MF Oy HL3 uS;unfold gf ai at HD;go_wp2_with fail;refine zae HD.out ?_;clear HD;intro e w6 bM;cases hF:aI T dp n ⟨p.depth+1,false,p.ahead++[t.n]⟩ { s with ax:=t.n::s.ax } with
 |out=>exact absurd (by rw[HE.out,vt,hF];rfl) HO.out
 |fail er a=>
  rw[hF]at bM;obtain⟨⟨b,rfl,hf⟩,KL⟩:=bM;have HG:Hid (jM R M g cap T dp (Γ.slice a0 n0 c0).ownBlock w E s (RR.fail er a) (.returned (.tuple #[.nilIface,ai b])) w6):=⟨⟨b,rfl,hf⟩,jL.put R9.out KL TS.out⟩;have jG:Hid (r=.fail er a):=by show _=_;rw[HE.out,vt,hF];rfl
  clear hf KL R9 TS HL5 JN HA5;unfold ai;go_wp2_with fail;go_ret2;rw[jG.out];exact HG.out
 |ok d s2=>
  rw[hF]at bM;obtain⟨v,E2,rfl,⟨ty,y,rfl⟩,cy,hx2,hr2,hk2⟩:=bM;obtain⟨hl6,hG⟩:=Qg R9.out (by omega) HL5.out HA5.out.1 TS.out JN.out hl ⟨ty,y,rfl⟩ cy hx2 hr2 hk2;have HG:Hid _:=hG;have jG:Hid (r=.ok (.put t.n d) s2):=by show _=_;rw[HE.out,vt,hF];rfl
  have c0:w6.cell? ⟨w1.heap.size+1,0,none⟩=some .nilIface:=by simp[Δ.cell?,hl6]
  have f0:w6.frozen? ⟨w1.heap.size+1,0,none⟩=false:=by simp[Δ.frozen?,hl6]
  clear cy hx2 hr2 hk2 R9 TS HL5 JN HA5 hl6 hG;go_wp2_with fail;go_ret2;rw[jG.out];exact HG.out
end
section
variable {R M g cap:Nat}{T:List Tok}{dp:Nat}
theorem TY {n:Nat}(ih:IH R M g cap T dp n):Sa R M g cap T dp n:=by
 intro t p a0 n0 c0 w E s r hr ha hd et ho;have mixed:prog.follows Θ=true:=by kernel_rfl
 have hb0:Below w.heap.size w ((w.alloc (ic t)).alloc (gL p.depth p.passed a0 n0 c0)):=((zad _ w).alloc (zab _) _).alloc (by simp) _;have hs0:((w.alloc (ic t)).alloc (gL p.depth p.passed a0 n0 c0)).heap.size=w.heap.size+1+1:=by simp
 have uU:Hid (Kp R M w ((w.alloc (ic t)).alloc (gL p.depth p.passed a0 n0 c0))):=Kp.aF hb0;have sD:=hr.below hb0;have sI:Hid _:=sD;have cJ:=nY (w:=((w.alloc (ic t)).alloc (gL p.depth p.passed a0 n0 c0)).drew) (M:=M) (l:=uR E s.ax) sD.lm t.n;rw[rK]at cJ;have KI:R<w.heap.size:=hr.lt;have lG:M<w.heap.size:=hr.mlt;have qa:=hr.deep;have n1:¬R=w.heap.size:=by omega
 have n2:¬R=w.heap.size+1:=by omega
 have n3:R<w.heap.size+1:=by omega
 obtain⟨⟨r0,r1,r2,r3⟩,-⟩:=gP hr.blk;have Hs:Hid _:=ha.below hb0;have zU:∀k,(Γ.slice a0 n0 c0).ownBlock=some k→k<w.heap.size:=λk hk=>(zcc ha.1 k hk).2;have HlA:Hid (∀m∈p.ahead,m∈s.ax):=ha.2.2;have lI:Hid _:=ih;have HO:Hid _:=ho;by_cases fM:p.passed=true∨t.n∈s.ax∨p.depth=dp
 ·exact JP n t p a0 n0 c0 w E s r hr et fM
 have hp:¬p.passed=true:=λh=>fM (.inl h);have hl:¬t.n∈s.ax:=λh=>fM (.inr (.inl h));have hdd:¬p.depth=dp:=λh=>fM (.inr (.inr h));have vt:p.passed=false:=by simpa using hp
 rw[vt]at cJ uU sI Hs hs0 ⊢;rw[zaa hl,zbH]at cJ;replace et:=et.trans (zaa (by simp[vt,hl]));have hc0:(((w.alloc (ic t)).alloc (gL p.depth false a0 n0 c0)).drew).cell? ⟨R,2,none⟩=some (.int .i64 dp):=(gP sI.out.blk).1.2.2.1
 ·have HC:Hid _:=zM R dp t p.depth false a0 n0 c0 (((w.alloc (ic t)).alloc (gL p.depth false a0 n0 c0)).drew) hc0 (by simp;omega) (by omega) hdd;have HE:Hid _:=et.trans (zaa hdd);have yL:p.depth+1≤dp:=by omega
  have HT0:Hid ((((w.alloc (ic t)).alloc (gL p.depth false a0 n0 c0)).drew).heap[w.heap.size]?=some (ic t)):=(zaK _ _ _ (by simp)).trans (zau w _);have HP0:Hid ((((w.alloc (ic t)).alloc (gL p.depth false a0 n0 c0)).drew).heap[w.heap.size+1]?=some (gL p.depth false a0 n0 c0)):=dJ w _ _;clear et hr sD hb0 ha hc0 hdd;unfold gf ai bC at HC ⊢;go_enter func66,ntmps66;go_wp2_with fail;go_region;go_wp2_with fail;refine zae HC.out ?_;rintro e w1 ⟨rfl,hb1⟩;have hs1:=hb1.size;have FD:=(hb1.block w.heap.size (by simp;omega)).trans HT0.out;have AH:=(hb1.block (w.heap.size+1) (by simp)).trans HP0.out;obtain⟨⟨o0,o1,o2,o3,o4,o5,o6⟩,-⟩:=cZ (zad _ _) FD;obtain⟨y0,y1,y2⟩:=fh AH;have sH:Hid _:=bH.below (bH.below sI.out ((zad _ _).drew)) hb1;have HA1:Hid _:=iR.below (iR.below Hs.out ((zad _ _).drew)) hb1;have Qb:Hid _:=Kp.trans (Kp.trans uU.out (Kp.aF ((zad _ _).drew))) (Kp.aF hb1);obtain⟨⟨x0,x1,x2,x3⟩,-⟩:=gP sH.out.blk;have yI:Hid _:=AH;clear hb1 HC FD AH r0 r1 r2 r3 cJ n1 n2 n3;have Qa:=sH.out.lt;have Oz:=sH.out.mlt;have e1:¬R=w1.heap.size:=by omega
  have e2:¬R=w1.heap.size+1:=by omega
  have e3:R<w1.heap.size+1:=by omega
  have e4:w.heap.size<w1.heap.size:=by simp at hs1;omega
  have e5:¬w.heap.size=w1.heap.size:=by omega
  have e6:¬w.heap.size=w1.heap.size+1:=by omega
  have e7:w.heap.size<w1.heap.size+1:=by omega
  have hb2:Below w1.heap.size w1 (((w1.alloc (.cells #[.int .i64 ((p.depth:Int)+1),.bool false,.slice none 0 0] 73)).alloc (.cells #[.nilIface] 157)).drew):=(((zad _ _).alloc (zab _) _).alloc (by simp) _).drew;have Du:Hid _:=bH.below sH.out hb2;obtain⟨o,hput,hmap⟩:=FW (w:=((w1.alloc (.cells #[.int .i64 ((p.depth:Int)+1),.bool false,.slice none 0 0] 73)).alloc (.cells #[.nilIface] 157)).drew) (M:=M) (l:=uR E s.ax) Du.out.lm t.n (by rw[rK,zaa hl]) (ai (w1.heap.size+1));have ac6:Hid _:=hmap;generalize hw3:({ ((w1.alloc (.cells #[.int .i64 ((p.depth:Int)+1),.bool false,.slice none 0 0] 73)).alloc (.cells #[.nilIface] 157)).drew with heap:=(((w1.alloc (.cells #[.int .i64 ((p.depth:Int)+1),.bool false,.slice none 0 0] 73)).alloc (.cells #[.nilIface] 157)).drew).heap.setIfInBounds M o }:Δ)=w3 at *;have OD:Hid _:=hw3;clear hw3 hmap;unfold ai at hput;go_wp2_with fail;go_region;have hs3:w3.heap.size=w1.heap.size+2:=by rw[←OD.out];simp
  have hb3:∀b,b≠M→w3.heap[b]?=(((w1.alloc (.cells #[.int .i64 ((p.depth:Int)+1),.bool false,.slice none 0 0] 73)).alloc (.cells #[.nilIface] 157)).drew).heap[b]?:=λb hb=>by
   rw[←OD.out];exact zax (λe=>hb e.symm)
  have hL:(((w1.alloc (.cells #[.int .i64 ((p.depth:Int)+1),.bool false,.slice none 0 0] 73)).alloc (.cells #[.nilIface] 157)).drew).heap[w1.heap.size+1]?=some (.cells #[.nilIface] 157):=dJ w1 _ _;have FE:(((w1.alloc (.cells #[.int .i64 ((p.depth:Int)+1),.bool false,.slice none 0 0] 73)).alloc (.cells #[.nilIface] 157)).drew).heap[w1.heap.size]?=some (.cells #[.int .i64 ((p.depth:Int)+1),.bool false,.slice none 0 0] 73):=(zaK _ _ _ (by simp)).trans (zau w1 _);have tI:Hid (bH w3 R M g cap T dp (E.label t.n (w1.heap.size+1)) { s with ax:=t.n::s.ax }):=by
   rw[←OD.out];exact bH.label Du.out hl ⟨_,hL⟩ (λm hm e=>by
    obtain⟨v,hv⟩:=sH.out.low m hm;have:=(zag.1 hv).1;omega) (by rw[OD.out];exact ac6.out)
  have HL3:Hid _:=(hb3 (w1.heap.size+1) (by omega)).trans hL;have Oy:Hid _:=(hb3 w1.heap.size (by omega)).trans FE;obtain⟨z0,z1,z2⟩:=fh Oy.out;have hf3:w3.frozen? ⟨w1.heap.size,2,none⟩=false:=by simp[Δ.frozen?,Oy.out]
  have MF:Hid _:=(hb3 (w.heap.size+1) (by omega)).trans ((hb2.block (w.heap.size+1) (by simp at hs1;omega)).trans yI.out);obtain⟨q0,q1,q2⟩:=fh MF.out;have PK:iR w3 (E.label t.n (w1.heap.size+1)) { s with ax:=t.n::s.ax } p.ahead (.slice a0 n0 c0):=
   iR.kp (iR.below HA1.out hb2) Du.out (M:=M) (R:=R) ⟨by rw[←OD.out],by rw[←OD.out],by rw[←OD.out],by rw[hs3];simp,λb _ _ h=>hb3 b h⟩ (n7 E t.n _ s.fresh hl) λm hm=>zbm _ hm
  have HA3:Hid _:=PK;have ig:Hid (w3.ownsRow 0 154 1 (.slice a0 n0 c0) p.ahead.length (p.ahead.map λm=>ai ((E.label t.n (w1.heap.size+1)).bT m))):=HA3.out.1;have MB:w.heap.size+1+1≤w1.heap.size:=by simp at hs1;omega
  have uS:Hid (Kp R M w w3):=Kp.trans Qb.out ⟨by rw[←OD.out];rfl,by rw[←OD.out];rfl,by rw[←OD.out];rfl,by omega,λb b1 _ b3=>(hb3 b b3).trans (hb2.block b b1)⟩;rename_i hK;exact hK _ _ (MK lI.out t p a0 n0 c0 w w1 w3 E s r vt hl ⟨yL,hd.2⟩ qa MB hs3 HE HO zU HlA tI HL3 Oy MF ig uS _ _ _ _ _ _ _ _ _ _ _ _ _ _ _ _ _ _ _ _ _ _ _ _ _ _ _ _ _ _ _ _ _ _ _ _ _ _ _ _ _ _ _ _ _ _ _ _ _ _ _ _ _ _ _ _ _ _ _ _ _ _ _)
end
end Go.Proofs.YtlhimdjkkiflhaaGreat
namespace Go.Proofs.YtlhimdjkkiflhaaGreat
open Go.RowKit Go.Loop
section
variable {R M g cap:Nat}{T:List Tok}{dp:Nat}
theorem Hw (yM:(∃t∈T,t.kind=5)→Dp R M g cap T dp)(yN:(∃t∈T,t.kind=4)→Dq R M g cap T dp):∀N n,n≤N→IH R M g cap T dp n
 |0,n,h=>by
  obtain rfl:n=0:=by omega
  exact⟨λp av w E s _ _ _ ho=>absurd (by unfold aI;rfl) ho,λp av w E s _ _ _ ho=>absurd (by unfold aM;rfl) ho,λt p av w E s _ _ _ _ ho=>absurd (by unfold bQ;rfl) ho⟩
 |N+1,n,h=>by
  have ih:=Hw yM yN N;cases n with
  |zero=>exact ih 0 (zap _)
  |succ n=>
   have ih':∀m,m≤n→IH R M g cap T dp m:=λm hm=>ih m (by omega);exact⟨FZ (ih' n (zab _)),JF ih',MH ih' (TY (ih' n (zab _))) TT yM yN⟩
theorem TZ (yM:(∃t∈T,t.kind=5)→Dp R M g cap T dp)(yN:(∃t∈T,t.kind=4)→Dq R M g cap T dp)(n:Nat):IH R M g cap T dp n:=Hw yM yN n n (zab _)
end
end Go.Proofs.YtlhimdjkkiflhaaGreat
