import Derived.Deep.RegionLaw
import Derived.Test.YtlhimdjkkiflhaaGreatDoorCut23
set_option maxHeartbeats 8000000
set_option maxRecDepth 100000
namespace Go.Proofs.YtlhimdjkkiflhaaGreatDoor
open Go.Proofs.Tryz
open Go.RowKit Go.Loop
section
variable (R M g cap:Nat)(T:List Tok)(dp:Nat)
def SL (n:Nat):Prop:=∀(t:Tok) (p:Pl) (a0:Option Addr) (n0 c0:Nat) (w:World) (E:Env) (s:eX) (r:RR Dt),bZ w R M g cap T dp E s→iZ w E s p.ahead (.slice a0 n0 c0)→(p.depth≤dp∧p.ahead.length≤p.depth)→(r=if p.passed∨t.n∈s.aN then .fail 5 t.from_
 else if p.depth=dp then .fail 6 t.from_
 else(aM T dp n ⟨p.depth+1,p.passed,p.ahead++[t.n]⟩ { s with aN:=t.n::s.aN }).bind λd s=> .ok (.put t.n d) s)→r≠.out→
    Calls prog 160 #[aH R,bn t,gX p.depth p.passed (.slice a0 n0 c0)] w λe w'=>j0 R M g cap T dp (Value.slice a0 n0 c0).ownBlock w E s r e w'
def SM:Prop:=∀(t:Tok) (p:Pl) (a0:Option Addr) (n0 c0:Nat) (w:World) (E:Env) (s:eX) (r:RR Dt),bZ w R M g cap T dp E s→iZ w E s p.ahead (.slice a0 n0 c0)→(p.depth≤dp∧p.ahead.length≤p.depth)→(r=if p.passed∨t.n∉s.aN∨t.n∈p.ahead then .fail 5 t.from_ else .ok (.ask t.n) s)→Calls prog 161 #[aH R,bn t,gX p.depth p.passed (.slice a0 n0 c0)] w λe w'=>j0 R M g cap T dp none w E s r e w'
end
section
variable {R M g cap:Nat}{T:List Tok}{dp:Nat}
theorem jP.up {w w':World}(h:jP R M none w w')(A:Option Nat):jP R M A w w':=h.plain.a A
theorem MA {n:Nat}(ih:∀m,m≤n→IH R M g cap T dp m)(hput:SL R M g cap T dp n)(uE:SM R M g cap T dp)(t:Tok)(p:Pl)(av:Value)(w:World)(E:Env)(s:eX)(hr:bZ w R M g cap T dp E s)(ha:iZ w E s p.ahead av)(hd:p.depth≤dp∧p.ahead.length≤p.depth)(ho:bG T dp (n+1) t p s≠.out):Calls prog 106 #[aH R,bn t,gX p.depth p.passed av] w λe w'=>j0 R M g cap T dp av.ownBlock w E s (bG T dp (n+1) t p s) e w':=by
 have mixed:prog.follows Departure.mixedOrders=true:=by kernel_rfl
 obtain⟨⟨a0,n0,c0,rfl⟩⟩:=(⟨ha.2.1⟩:Nonempty _);have Ko:R<w.heap.size:=hr.lt;generalize gl:bG T dp (n+1) t p s=r at *;have mR:=gl.symm;unfold bG at mR;clear gl;have hb0:Below w.heap.size w ((w.alloc (.cells #[.int .i64 t.kind,.int .i64 t.from_,.int .i64 t.dF,.string ⟨⟨t.text⟩⟩,.int .i64 t.n,.int .i64 t.d,.int .i64 t.fault] 131)).alloc (.cells #[.int .i64 p.depth,.bool p.passed,.slice a0 n0 c0] 128)):=((Below.refl _ w).alloc (zaa _) _).alloc (by simp) _;have ua:Hid (Kp R M w ((w.alloc (.cells #[.int .i64 t.kind,.int .i64 t.from_,.int .i64 t.dF,.string ⟨⟨t.text⟩⟩,.int .i64 t.n,.int .i64 t.d,.int .i64 t.fault] 131)).alloc (.cells #[.int .i64 p.depth,.bool p.passed,.slice a0 n0 c0] 128))):=Kp.aJ hb0;have qD:Hid _:=hr.below hb0;have Ks:Hid _:=ha.below hb0;have HO:Hid _:=ho;by_cases YQ:t.kind=3∨t.kind=7
 ·have HE:Hid (r=.fail 3 t.from_):=mR.trans (if_pos YQ);clear mR hb0 hr ha ih hput uE;have hq:(((t.kind:Nat):Int)==3)=true∨((((t.kind:Nat):Int)==3)=false∧(((t.kind:Nat):Int)==7)=true):=by
   rcases YQ with h|h
   ·exact .inl (by rw[h];rfl)
   ·exact .inr ⟨by rw[h];rfl,by rw[h];rfl⟩
  clear YQ;unfold gX aH bn;rcases hq with q3|⟨q3,q7⟩
  all_goals
   go_enter func106,ntmps106;go_wp2_with fail;go_region;go_wp2_with fail;go_ret2;rw[HE.out];refine⟨⟨w.heap.size+1+1,rfl,?_⟩,(Kp.trans ua.out (Kp.aJ (((Below.refl _ _).alloc (zaa _) _).drew))).a _⟩;exact(show _=_ from by rw[show w.heap.size+1+1=((w.alloc (.cells #[.int .i64 t.kind,.int .i64 t.from_,.int .i64 t.dF,.string ⟨⟨t.text⟩⟩,.int .i64 t.n,.int .i64 t.d,.int .i64 t.fault] 131)).alloc (.cells #[.int .i64 p.depth,.bool p.passed,.slice a0 n0 c0] 128)).heap.size by simp];exact heap_alloc_new _ _)
 replace mR:=mR.trans (if_neg YQ);have q3:(((t.kind:Nat):Int)==3)=false:=by rw[beq_eq_false_iff_ne];omega
 have q7:(((t.kind:Nat):Int)==7)=false:=by rw[beq_eq_false_iff_ne];omega
 clear YQ;by_cases YR:t.kind=10
 ·have q10:(((t.kind:Nat):Int)==10)=true:=by rw[YR];rfl
  have HC:Hid _:=hput t p a0 n0 c0 _ E s r qD.out Ks.out hd (mR.trans (if_pos YR)) ho;clear mR hb0 hr ha ih hput uE YR;unfold gX aH bn at HC ⊢;go_enter func106,ntmps106;go_wp2_with fail;refine Calls.mono HC.out ?_;intro e w3 cC;have mj:=j0.from cC ua.out;clear cC HC;cases r with
  |out=>exact absurd rfl HO.out
  |fail er a=>
   obtain⟨⟨b,rfl,hf⟩,hk2⟩:=mj;have HG:Hid (j0 R M g cap T dp (Value.slice a0 n0 c0).ownBlock w E s (RR.fail er a) (.returned (.tuple #[.nilIface,aH b])) w3):=⟨⟨b,rfl,hf⟩,hk2⟩;clear hf hk2;unfold aH;go_wp2_with fail;go_ret2;exact HG.out
  |ok d s2=>
   obtain⟨v,E2,rfl,⟨ty,y,rfl⟩,cH,hx2,hr2,hk2⟩:=mj;have HG:Hid (j0 R M g cap T dp (Value.slice a0 n0 c0).ownBlock w E s (RR.ok d s2) (.returned (.tuple #[.iface ty y,.pointer none])) w3):=⟨.iface ty y,E2,rfl,⟨ty,y,rfl⟩,cH,hx2,hr2,hk2⟩;clear cH hx2 hr2 hk2;go_wp2_with fail;go_ret2;exact HG.out
 replace mR:=mR.trans (if_neg YR);have q10:(((t.kind:Nat):Int)==10)=false:=by rw[beq_eq_false_iff_ne];omega
 clear YR;by_cases Ki:t.kind=11
 ·have q11:(((t.kind:Nat):Int)==11)=true:=by rw[Ki];rfl
  have HC:Hid _:=uE t p a0 n0 c0 _ E s r qD.out Ks.out hd (mR.trans (if_pos Ki));clear mR hb0 hr ha ih hput uE Ki;unfold gX aH bn at HC ⊢;go_enter func106,ntmps106;go_wp2_with fail;refine Calls.mono HC.out ?_;intro e w3 cC;have mj:=j0.from cC ua.out;clear cC HC;cases r with
  |out=>exact absurd rfl HO.out
  |fail er a=>
   obtain⟨⟨b,rfl,hf⟩,hk2⟩:=mj;have HG:Hid (j0 R M g cap T dp (Value.slice a0 n0 c0).ownBlock w E s (RR.fail er a) (.returned (.tuple #[.nilIface,aH b])) w3):=⟨⟨b,rfl,hf⟩,jP.up hk2 _⟩;clear hf hk2;unfold aH;go_wp2_with fail;go_ret2;exact HG.out
  |ok d s2=>
   obtain⟨v,E2,rfl,⟨ty,y,rfl⟩,cH,hx2,hr2,hk2⟩:=mj;have HG:Hid (j0 R M g cap T dp (Value.slice a0 n0 c0).ownBlock w E s (RR.ok d s2) (.returned (.tuple #[.iface ty y,.pointer none])) w3):=⟨.iface ty y,E2,rfl,⟨ty,y,rfl⟩,cH,hx2,hr2,jP.up hk2 _⟩;clear cH hx2 hr2 hk2;go_wp2_with fail;go_ret2;exact HG.out
 replace mR:=mR.trans (if_neg Ki);have q11:(((t.kind:Nat):Int)==11)=false:=by rw[beq_eq_false_iff_ne];omega
 clear Ki;by_cases kh:t.kind=2∨t.kind=5∨t.kind=4
 ·have HC:Hid _:=CS ih t p a0 n0 c0 _ E s qD.out hd r (mR.trans (if_pos kh)) ho;have hq:(((t.kind:Nat):Int)==2)=true∨((((t.kind:Nat):Int)==2)=false∧(((t.kind:Nat):Int)==5)=true)∨((((t.kind:Nat):Int)==2)=false∧(((t.kind:Nat):Int)==5)=false∧(((t.kind:Nat):Int)==4)=true):=by
   rcases kh with h|h|h
   ·exact .inl (by rw[h];rfl)
   ·exact .inr (.inl ⟨by rw[h];rfl,by rw[h];rfl⟩)
   ·exact .inr (.inr ⟨by rw[h];rfl,by rw[h];rfl,by rw[h];rfl⟩)
  clear mR hb0 hr ha ih hput uE kh;unfold gX aH bn at HC ⊢;rcases hq with q2|⟨q2,q5⟩|⟨q2,q5,q4⟩
  all_goals
   go_enter func106,ntmps106;go_wp2_with fail;refine Calls.mono HC.out ?_;intro e w3 cC;have mj:=j0.from cC ua.out;clear cC HC;cases r with
   |out=>exact absurd rfl HO.out
   |fail er a=>
    obtain⟨⟨b,rfl,hf⟩,hk2⟩:=mj;have HG:Hid (j0 R M g cap T dp (Value.slice a0 n0 c0).ownBlock w E s (RR.fail er a) (.returned (.tuple #[.nilIface,aH b])) w3):=⟨⟨b,rfl,hf⟩,jP.up hk2 _⟩;clear hf hk2;unfold aH;go_wp2_with fail;go_ret2;exact HG.out
   |ok d s2=>
    obtain⟨v,E2,rfl,⟨ty,y,rfl⟩,cH,hx2,hr2,hk2⟩:=mj;have HG:Hid (j0 R M g cap T dp (Value.slice a0 n0 c0).ownBlock w E s (RR.ok d s2) (.returned (.tuple #[.iface ty y,.pointer none])) w3):=⟨.iface ty y,E2,rfl,⟨ty,y,rfl⟩,cH,hx2,hr2,jP.up hk2 _⟩;clear cH hx2 hr2 hk2;go_wp2_with fail;go_ret2;exact HG.out
 replace mR:=mR.trans (if_neg kh);have q2:(((t.kind:Nat):Int)==2)=false:=by rw[beq_eq_false_iff_ne];omega
 have q5:(((t.kind:Nat):Int)==5)=false:=by rw[beq_eq_false_iff_ne];omega
 have q4:(((t.kind:Nat):Int)==4)=false:=by rw[beq_eq_false_iff_ne];omega
 clear kh;have HC:Hid (Calls prog 163 #[bn t] ((w.alloc (.cells #[.int .i64 t.kind,.int .i64 t.from_,.int .i64 t.dF,.string ⟨⟨t.text⟩⟩,.int .i64 t.n,.int .i64 t.d,.int .i64 t.fault] 131)).alloc (.cells #[.int .i64 p.depth,.bool p.passed,.slice a0 n0 c0] 128)) λe w'=>j0 R M g cap T dp none ((w.alloc (.cells #[.int .i64 t.kind,.int .i64 t.from_,.int .i64 t.dF,.string ⟨⟨t.text⟩⟩,.int .i64 t.n,.int .i64 t.d,.int .i64 t.fault] 131)).alloc (.cells #[.int .i64 p.depth,.bool p.passed,.slice a0 n0 c0] 128)) E s r e w'):=by
  rw[mR];unfold pO;by_cases h8:t.kind=8
  ·rw[if_pos h8];refine(Ms t _ h8).mono ?_;rintro e w' ⟨b,rfl,hb,hc,hw⟩;have hbl:b<w'.heap.size:=(zae.1 hc).1;refine⟨_,E.one s.fresh b,rfl,⟨_,_,rfl⟩,?_,Ext.one hb hbl,bZ.name (bZ.below qD.out hw) rfl rfl rfl,(Kp.aJ hw).a none⟩;have e1:(E.one s.fresh b).α s.fresh=b:=if_pos rfl;unfold cz;rw[e1];exact⟨Nat.lt_succ_self _,hb,rfl,hc⟩
  rw[if_neg h8];by_cases hv:t.kind=9∨t.kind=12∨t.kind=14∨t.fault=0
  ·refine(Mt t _ h8 hv).mono ?_;rintro e w' ⟨rfl,hw⟩;have key:∀d:Dt,(∃t' y,jZ t=.iface t' y)→cz ((w.alloc (.cells #[.int .i64 t.kind,.int .i64 t.from_,.int .i64 t.dF,.string ⟨⟨t.text⟩⟩,.int .i64 t.n,.int .i64 t.d,.int .i64 t.fault] 131)).alloc (.cells #[.int .i64 p.depth,.bool p.passed,.slice a0 n0 c0] 128)).heap.size s.fresh s.aN w' E d (jZ t)→j0 R M g cap T dp none ((w.alloc (.cells #[.int .i64 t.kind,.int .i64 t.from_,.int .i64 t.dF,.string ⟨⟨t.text⟩⟩,.int .i64 t.n,.int .i64 t.d,.int .i64 t.fault] 131)).alloc (.cells #[.int .i64 p.depth,.bool p.passed,.slice a0 n0 c0] 128)) E s (.ok d s) (.returned (.tuple #[jZ t,.pointer none])) w':=λd hi h=>⟨_,E,rfl,hi,h,Ext.refl rfl rfl,bZ.below qD.out hw,(Kp.aJ hw).a none⟩;by_cases h9:t.kind=9
   ·rw[if_pos h9];exact key _ (by simp[jZ,h9]) (by unfold cz;simp[jZ,h9])
   rw[if_neg h9];by_cases Bo:t.kind=12
   ·rw[if_pos Bo];exact key _ (by simp[jZ,Bo]) (by unfold cz;simp[jZ,Bo])
   rw[if_neg Bo];by_cases uV:t.kind=14
   ·rw[if_pos uV];exact key _ (by simp[jZ,uV]) (by unfold cz;simp[jZ,uV])
   rw[if_neg uV,if_neg (by omega)];exact key _ (by simp[jZ,h9,Bo,uV]) (by unfold cz;simp[jZ,h9,Bo,uV])
  ·rw[if_neg (by omega),if_neg (by omega),if_neg (by omega),if_pos (by omega)];refine(Fb t _ ⟨h8,by omega,by omega,by omega⟩ (by omega)).mono ?_;rintro e w' ⟨b,rfl,hc,hw⟩;exact⟨⟨b,rfl,hc⟩,(Kp.aJ hw).a none⟩
 clear mR hb0 hr ha ih hput uE
 ·unfold gX aH bn at *;go_enter func106,ntmps106;go_wp2_with fail;refine Calls.mono HC.out ?_;intro e w3 cC;have mj:=j0.from cC ua.out;clear cC HC;cases r with
  |out=>exact absurd rfl HO.out
  |fail er a=>
   obtain⟨⟨b,rfl,hf⟩,hk2⟩:=mj;have HG:Hid (j0 R M g cap T dp (Value.slice a0 n0 c0).ownBlock w E s (RR.fail er a) (.returned (.tuple #[.nilIface,aH b])) w3):=⟨⟨b,rfl,hf⟩,jP.up hk2 _⟩;clear hf hk2;unfold aH;go_wp2_with fail;go_ret2;exact HG.out
  |ok d s2=>
   obtain⟨v,E2,rfl,⟨ty,y,rfl⟩,cH,hx2,hr2,hk2⟩:=mj;have HG:Hid (j0 R M g cap T dp (Value.slice a0 n0 c0).ownBlock w E s (RR.ok d s2) (.returned (.tuple #[.iface ty y,.pointer none])) w3):=⟨.iface ty y,E2,rfl,⟨ty,y,rfl⟩,cH,hx2,hr2,jP.up hk2 _⟩;clear cH hx2 hr2 hk2;go_wp2_with fail;go_ret2;exact HG.out
end
theorem CU:prog.underlying 212=some (.pointer 215):=by kernel_rfl
theorem Px:(prog.info? 215).map (λi=>i.size)=some 1:=by kernel_rfl
theorem YS (w:World)(b c:Nat)(hb:∃v,w.heap[b]?=some (.cells #[v] 215))(hc:∃v,w.heap[c]?=some (.cells #[v] 215)):(binOp .eql 212 (.pointer (some ⟨b,0,none⟩)) (.pointer (some ⟨c,0,none⟩))).run prog w=.ok (.bool (decide (b=c))) w:=by
 obtain⟨vb,hb⟩:=hb;obtain⟨vc,hc⟩:=hc;have hi:=Px;cases hj:prog.info? 215 with
 |none=>rw[hj]at hi;cases hi
 |some j=>
  rw[hj]at hi;have hs:j.size=1:=by simpa using hi
  by_cases e:b=c
  ·subst e;rw[run_eql_ptr_same w _ CU hj];simp
  ·rw[run_eql_ptr_other w (ca:=#[vb]) (cb:=#[vc]) CU hj (by omega) (λh=>e (by cases h;rfl)) hb hc];simp[e]
theorem AW (l:List Nat)(g c lo b:Nat)(w:World)(hrow:w.ownsRow lo 212 1 (.slice (some ⟨g,0,none⟩) l.length c) l.length (l.map aH))(Kt:∃v,w.heap[b]?=some (.cells #[v] 215))(Py:∀x∈l,∃v,w.heap[x]?=some (.cells #[v] 215)):Calls prog 220 #[.slice (some ⟨g,0,none⟩) l.length c,aH b] w λe w'=>(∃i:Int,e=.returned (.int .i64 i)∧(if b∈l then 0≤i else i=-1))∧w'=w:=by
 have hg:g<w.heap.size:=(hrow.lt g rfl).2;have hn:l.length≤9223372036854775807:=by
  rcases hrow.2 with⟨h,_⟩|⟨_,cp,_,_,_,_,h1,h2,_⟩
  ·cases h
  ·simp only[maxLen]at h2;omega
 have hcell:Hid (∀(j:Nat) (x:Nat),l[j]?=some x→w.cell? ⟨g,j,none⟩=some (aH x)):=λj x hx=>by
  have hj:j<l.length:=(zbg.1 hx).1;rw[hrow.cellAt j (by omega),zbt,hx];rfl
 clear hrow;unfold aH;go_enter func220,ntmps220;go_wp2_with fail;go_loopw [8] (λi wr=>∃j:Nat,j≤l.length∧i=.int .i64 j∧wr=w∧Hid (∀(k:Nat) x,k<j→l[k]?=some x→x≠b)) (λi _=>l.length-(intOf i).toNat)
 case atStart=>exact⟨0,by omega,rfl,rfl,λk x hk=>by omega⟩
 case round=>
  obtain⟨j,hj,rfl,rfl,hB⟩:=hrel;by_cases vU:j<l.length
  ·have hx:l[j]?=some l[j]:=zai vU;have hc:=hcell.out j _ hx;unfold aH at hc;have q:((j:Int)<(l.length:Int)):=by omega
   have hq:=YS wr b l[j] Kt (Py _ (zaN vU));by_cases hb:l[j]=b
   ·have hm:b∈l:=by rw[←hb];exact zaN vU
    rw[hb]at hc hq;simp only[decide_true]at hq;go_wp2_with fail;go_ret;exact⟨⟨_,rfl,by omega⟩,rfl⟩
   ·have hb':decide (b=l[j])=false:=by rw[decide_eq_false_iff_not];exact λe=>hb e.symm
    rw[hb']at hq;go_wp2_with fail;refine⟨⟨j+1,by omega,by simp,trivial,λk x hk hkx=>?_⟩,?_⟩
    ·rcases zag k j with h|h
     ·exact hB.out k x h hkx
     ·have:k=j:=by omega
      subst this;rw[hx]at hkx;cases hkx;exact hb
    ·simp only[intOf];omega
  ·have hm:¬b∈l:=λh=>by
    obtain⟨k,hk,hkb⟩:=List.getElem_of_mem h;exact hB.out k _ (by omega) (zai hk) hkb
   have q:¬((j:Int)<(l.length:Int)):=by omega
   go_wp2_with fail;go_ret;simp
theorem Jt (b:Nat)(w:World):Calls prog 220 #[.slice none 0 0,aH b] w λe w'=>e=.returned (.int .i64 (-1))∧w'=w:=by
 unfold aH;go_enter func220,ntmps220;go_wp2_with fail;go_loopw [8] (λi wr=>i=.int .i64 0∧wr=w) (λ_ _=>0)
 case atStart=>exact⟨rfl,rfl⟩
 case round=>
  obtain⟨rfl,rfl⟩:=hrel;go_wp2_with fail;go_ret;exact⟨rfl,rfl⟩
theorem AX (l:List Nat)(av:Value)(lo b:Nat)(w:World)(hrow:w.ownsRow lo 212 1 av l.length (l.map aH))(Kt:∃v,w.heap[b]?=some (.cells #[v] 215))(Py:∀x∈l,∃v,w.heap[x]?=some (.cells #[v] 215)):Calls prog 193 #[av,aH b] w λe w'=>e=.returned (.bool (decide (b∈l)))∧w'=w:=by
 rcases hrow.2 with⟨rfl,h0⟩|⟨g,cap,cur,rfl,_⟩
 ·have:l=[]:=zby h0;subst this;have HC:Hid _:=Jt b w;clear hrow;unfold aH at HC ⊢;go_enter func193,ntmps193;go_wp2_with fail;refine Calls.mono HC.out ?_;rintro e w' ⟨rfl,rfl⟩;go_wp2_with fail;go_ret;simp
 ·have HC:Hid _:=AW l g cap lo b w hrow Kt Py;clear hrow;unfold aH at HC ⊢;go_enter func193,ntmps193;go_wp2_with fail;refine Calls.mono HC.out ?_;rintro e w' ⟨⟨i,rfl,hi⟩,rfl⟩;by_cases hm:b∈l
  ·rw[if_pos hm]at hi;go_wp2_with fail;go_ret;simp[hm]
  ·rw[if_neg hm]at hi;subst hi;go_wp2_with fail;go_ret;simp[hm]
theorem xh {f:Int→Value}(n:Int):∀l:List Int,(l.map λm=>(m,f m)).lookup n=if n∈l then some (f n)else none
 |[]=>rfl
 |m::l=>by
  rw[zao,List.lookup_cons];by_cases h:n=m
  ·subst h;simp
  ·have:(n==m)=false:=by rw[beq_eq_false_iff_ne];exact h
   rw[this,xh n l];simp[h]
theorem rO (E:Env)(aN:List Int)(n:Int):(uC E aN).lookup n=if n∈aN then some (aH (E.eL n))else none:=by
 unfold uC;rw[xh (f:=λm=>aH (E.eL m))];simp
theorem ky (w:World)(A B C:Obj):(((w.alloc A).alloc B).alloc C).heap[w.heap.size+1+1]?=some C:=by
 rw[show w.heap.size+1+1=((w.alloc A).alloc B).heap.size by simp];exact heap_alloc_new _ _
section
variable {R M g cap:Nat}{T:List Tok}{dp:Nat}
theorem UD:SM R M g cap T dp:=by
 intro t p a0 n0 c0 w E s r hr ha hd gl;have mixed:prog.follows Departure.mixedOrders=true:=by kernel_rfl
 have hb0:Below w.heap.size w ((w.alloc (.cells #[.int .i64 t.kind,.int .i64 t.from_,.int .i64 t.dF,.string ⟨⟨t.text⟩⟩,.int .i64 t.n,.int .i64 t.d,.int .i64 t.fault] 131)).alloc (.cells #[.int .i64 p.depth,.bool p.passed,.slice a0 n0 c0] 128)):=((Below.refl _ w).alloc (zaa _) _).alloc (by simp) _;have hs0:((w.alloc (.cells #[.int .i64 t.kind,.int .i64 t.from_,.int .i64 t.dF,.string ⟨⟨t.text⟩⟩,.int .i64 t.n,.int .i64 t.d,.int .i64 t.fault] 131)).alloc (.cells #[.int .i64 p.depth,.bool p.passed,.slice a0 n0 c0] 128)).heap.size=w.heap.size+1+1:=by simp
 have ua:Hid (Kp R M w ((w.alloc (.cells #[.int .i64 t.kind,.int .i64 t.from_,.int .i64 t.dF,.string ⟨⟨t.text⟩⟩,.int .i64 t.n,.int .i64 t.d,.int .i64 t.fault] 131)).alloc (.cells #[.int .i64 p.depth,.bool p.passed,.slice a0 n0 c0] 128))):=Kp.aJ hb0;have tP:=hr.below hb0;have qD:Hid _:=tP;have cU:=ot (w:=((w.alloc (.cells #[.int .i64 t.kind,.int .i64 t.from_,.int .i64 t.dF,.string ⟨⟨t.text⟩⟩,.int .i64 t.n,.int .i64 t.d,.int .i64 t.fault] 131)).alloc (.cells #[.int .i64 p.depth,.bool p.passed,.slice a0 n0 c0] 128)).drew) (M:=M) (l:=uC E s.aN) tP.lm t.n;rw[rO]at cU;have Ko:R<w.heap.size:=hr.lt;have n1:¬R=w.heap.size:=by omega
 have n2:¬R=w.heap.size+1:=by omega
 have n3:R<w.heap.size+1:=by omega
 obtain⟨⟨r0,r1,r2,r3⟩,-⟩:=im hr.blk;have Ks:Hid _:=ha.below hb0;by_cases hp:p.passed=true
 ·have HE:Hid (r=.fail 5 t.from_):=gl.trans (if_pos (.inl hp));rw[hp]at cU ua ⊢;clear gl hr tP hb0 ha hs0 qD Ks;unfold gX aH bn;by_cases hl:t.n∈s.aN
  ·rw[if_pos hl,zaD]at cU;unfold aH at cU;go_enter func161,ntmps161;go_wp2_with fail;go_region;go_wp2_with fail;go_region;go_wp2_with fail;go_ret2;rw[HE.out];refine⟨⟨w.heap.size+1+1,rfl,?_⟩,(Kp.trans ua.out (Kp.aJ ((((Below.refl _ _).alloc (zaa _) _).drew).drew))).a none⟩;exact ky w _ _ _
  ·rw[if_neg hl,zbd]at cU;go_enter func161,ntmps161;go_wp2_with fail;go_region;go_wp2_with fail;go_region;go_wp2_with fail;go_ret2;rw[HE.out];refine⟨⟨w.heap.size+1+1,rfl,?_⟩,(Kp.trans ua.out (Kp.aJ ((((Below.refl _ _).alloc (zaa _) _).drew).drew))).a none⟩;exact ky w _ _ _
 have uZ:p.passed=false:=by simpa using hp
 rw[uZ]at cU ua qD Ks hs0 ⊢;by_cases hl:t.n∈s.aN
 ·rw[if_pos hl,zaD]at cU;have hrow:(((w.alloc (.cells #[.int .i64 t.kind,.int .i64 t.from_,.int .i64 t.dF,.string ⟨⟨t.text⟩⟩,.int .i64 t.n,.int .i64 t.d,.int .i64 t.fault] 131)).alloc (.cells #[.int .i64 p.depth,.bool false,.slice a0 n0 c0] 128)).drew).ownsRow 0 212 1 (.slice a0 n0 c0) (p.ahead.map E.eL).length ((p.ahead.map E.eL).map aH):=by
   rw[zbn,List.map_map];exact Ks.out.1
  have HC:Hid _:=AX (p.ahead.map E.eL) (.slice a0 n0 c0) 0 (E.eL t.n) _ hrow (qD.out.low _ hl) (λx hx=>by
   obtain⟨m,hm,rfl⟩:=zaH.1 hx;exact qD.out.low m (Ks.out.2.2 m hm))
  have yl:E.eL t.n∈p.ahead.map E.eL↔t.n∈p.ahead:=by
   constructor
   ·intro h;obtain⟨m,hm,e⟩:=zaH.1 h;rw[←qD.out.inj m (Ks.out.2.2 m hm) t.n hl e];exact hm
   ·exact λh=>zaH.2 ⟨_,h,rfl⟩
  by_cases hin:t.n∈p.ahead
  ·have HE:Hid (r=.fail 5 t.from_):=gl.trans (if_pos (.inr (.inr hin)));rw[decide_eq_true (yl.2 hin)]at HC;clear gl hr tP hb0 ha hs0 hrow yl;unfold aH at cU HC;unfold gX aH bn;go_enter func161,ntmps161;go_wp2_with fail;go_region;go_wp2_with fail;refine Calls.mono HC.out ?_;rintro e w' ⟨rfl,rfl⟩;go_wp2_with fail;go_region;go_wp2_with fail;go_ret2;rw[HE.out];refine⟨⟨w.heap.size+1+1,rfl,?_⟩,(Kp.trans ua.out (Kp.aJ ((((Below.refl _ _).alloc (zaa _) _).drew).drew))).a none⟩;exact ky w _ _ _
  ·have HE:Hid (r=.ok (.ask t.n) s):=gl.trans (if_neg (by simp[uZ,hl,hin]));rw[decide_eq_false (λh=>hin (yl.1 h))]at HC;have HG:Hid (j0 R M g cap T dp none w E s (.ok (.ask t.n) s) (.returned (.tuple #[.iface 212 (aH (E.eL t.n)),.pointer none])) ((w.alloc (.cells #[.int .i64 t.kind,.int .i64 t.from_,.int .i64 t.dF,.string ⟨⟨t.text⟩⟩,.int .i64 t.n,.int .i64 t.d,.int .i64 t.fault] 131)).alloc (.cells #[.int .i64 p.depth,.bool false,.slice a0 n0 c0] 128)).drew):=
    ⟨_,E,rfl,⟨_,_,rfl⟩,by unfold cz;exact⟨hl,rfl⟩,Ext.refl rfl rfl,bZ.below qD.out ((Below.refl _ _).drew),(Kp.trans ua.out (Kp.aJ ((Below.refl _ _).drew))).a none⟩
   clear gl hr tP hb0 ha hs0 hrow yl;unfold aH at cU HC;unfold gX aH bn;go_enter func161,ntmps161;go_wp2_with fail;go_region;go_wp2_with fail;refine Calls.mono HC.out ?_;rintro e w' ⟨rfl,rfl⟩;go_wp2_with fail;go_ret2;rw[HE.out];exact HG.out
 ·have HE:Hid (r=.fail 5 t.from_):=gl.trans (if_pos (.inr (.inl hl)));rw[if_neg hl,zbd]at cU;clear gl hr tP hb0 ha hs0 qD Ks;unfold gX aH bn
  ·go_enter func161,ntmps161;go_wp2_with fail;go_region;go_wp2_with fail;go_region;go_wp2_with fail;go_ret2;rw[HE.out];refine⟨⟨w.heap.size+1+1,rfl,?_⟩,(Kp.trans ua.out (Kp.aJ ((((Below.refl _ _).alloc (zaa _) _).drew).drew))).a none⟩;exact ky w _ _ _
end
section
variable {R M g cap:Nat}{T:List Tok}{dp:Nat}
theorem Ju (n:Nat)(t:Tok)(p:Pl)(a0:Option Addr)(n0 c0:Nat)(w:World)(E:Env)(s:eX)(r:RR Dt)(hr:bZ w R M g cap T dp E s)(gl:r=if p.passed∨t.n∈s.aN then .fail 5 t.from_
 else if p.depth=dp then .fail 6 t.from_
 else(aM T dp n ⟨p.depth+1,p.passed,p.ahead++[t.n]⟩ { s with aN:=t.n::s.aN }).bind λd s=> .ok (.put t.n d) s)(yw:p.passed=true∨t.n∈s.aN∨p.depth=dp):
 Calls prog 160 #[aH R,bn t,gX p.depth p.passed (.slice a0 n0 c0)] w λe w'=>j0 R M g cap T dp (Value.slice a0 n0 c0).ownBlock w E s r e w':=by
 have mixed:prog.follows Departure.mixedOrders=true:=by kernel_rfl
 have hb0:Below w.heap.size w ((w.alloc (.cells #[.int .i64 t.kind,.int .i64 t.from_,.int .i64 t.dF,.string ⟨⟨t.text⟩⟩,.int .i64 t.n,.int .i64 t.d,.int .i64 t.fault] 131)).alloc (.cells #[.int .i64 p.depth,.bool p.passed,.slice a0 n0 c0] 128)):=((Below.refl _ w).alloc (zaa _) _).alloc (by simp) _;have hs0:((w.alloc (.cells #[.int .i64 t.kind,.int .i64 t.from_,.int .i64 t.dF,.string ⟨⟨t.text⟩⟩,.int .i64 t.n,.int .i64 t.d,.int .i64 t.fault] 131)).alloc (.cells #[.int .i64 p.depth,.bool p.passed,.slice a0 n0 c0] 128)).heap.size=w.heap.size+1+1:=by simp
 have ua:Hid (Kp R M w ((w.alloc (.cells #[.int .i64 t.kind,.int .i64 t.from_,.int .i64 t.dF,.string ⟨⟨t.text⟩⟩,.int .i64 t.n,.int .i64 t.d,.int .i64 t.fault] 131)).alloc (.cells #[.int .i64 p.depth,.bool p.passed,.slice a0 n0 c0] 128))):=Kp.aJ hb0;have tP:=hr.below hb0;have qD:Hid _:=tP;have cU:=ot (w:=((w.alloc (.cells #[.int .i64 t.kind,.int .i64 t.from_,.int .i64 t.dF,.string ⟨⟨t.text⟩⟩,.int .i64 t.n,.int .i64 t.d,.int .i64 t.fault] 131)).alloc (.cells #[.int .i64 p.depth,.bool p.passed,.slice a0 n0 c0] 128)).drew) (M:=M) (l:=uC E s.aN) tP.lm t.n;rw[rO]at cU;have Ko:R<w.heap.size:=hr.lt;have n1:¬R=w.heap.size:=by omega
 have n2:¬R=w.heap.size+1:=by omega
 have n3:R<w.heap.size+1:=by omega
 obtain⟨⟨r0,r1,r2,r3⟩,-⟩:=im hr.blk;by_cases hp:p.passed=true
 ·have HE:Hid (r=.fail 5 t.from_):=gl.trans (if_pos (.inl hp));rw[hp]at cU ua ⊢;clear gl hr tP hb0 hs0 qD cU;unfold gX aH bn
  ·go_enter func160,ntmps160;go_wp2_with fail;go_region;go_wp2_with fail;go_region;go_wp2_with fail;go_ret2;rw[HE.out];refine⟨⟨w.heap.size+1+1,rfl,?_⟩,(Kp.trans ua.out (Kp.aJ ((((Below.refl _ _).alloc (zaa _) _).drew).drew))).a _⟩;exact ky w _ _ _
 have uZ:p.passed=false:=by simpa using hp
 rw[uZ]at cU ua qD hs0 ⊢;by_cases hl:t.n∈s.aN
 ·rw[if_pos hl,zaD]at cU;have HE:Hid (r=.fail 5 t.from_):=gl.trans (if_pos (.inr hl));clear gl hr tP hb0 hs0 qD;unfold aH at cU;unfold gX aH bn
  ·go_enter func160,ntmps160;go_wp2_with fail;go_region;go_wp2_with fail;go_region;go_wp2_with fail;go_ret2;rw[HE.out];refine⟨⟨w.heap.size+1+1,rfl,?_⟩,(Kp.trans ua.out (Kp.aJ ((((Below.refl _ _).alloc (zaa _) _).drew).drew))).a _⟩;exact ky w _ _ _
 rw[if_neg hl,zbd]at cU;replace gl:=gl.trans (if_neg (by simp[uZ,hl]));have hc0:(((w.alloc (.cells #[.int .i64 t.kind,.int .i64 t.from_,.int .i64 t.dF,.string ⟨⟨t.text⟩⟩,.int .i64 t.n,.int .i64 t.d,.int .i64 t.fault] 131)).alloc (.cells #[.int .i64 p.depth,.bool false,.slice a0 n0 c0] 128)).drew).cell? ⟨R,2,none⟩=some (.int .i64 dp):=(im qD.out.blk).1.2.2.1;by_cases hdd:p.depth=dp
 ·have HE:Hid (r=.fail 6 t.from_):=gl.trans (if_pos hdd);have HC:Hid _:=tX R dp t p.depth false a0 n0 c0 (((w.alloc (.cells #[.int .i64 t.kind,.int .i64 t.from_,.int .i64 t.dF,.string ⟨⟨t.text⟩⟩,.int .i64 t.n,.int .i64 t.d,.int .i64 t.fault] 131)).alloc (.cells #[.int .i64 p.depth,.bool false,.slice a0 n0 c0] 128)).drew) hc0 (by simp;omega) hdd;clear gl hr tP hb0 hs0 qD hc0 hdd;unfold gX aH bn at HC ⊢;go_enter func160,ntmps160;go_wp2_with fail;go_region;go_wp2_with fail;refine Calls.mono HC.out ?_;rintro e w1 ⟨b,rfl,hf,hb1⟩;have HF:Hid _:=hf;have zu:Hid _:=Kp.trans (Kp.trans ua.out (Kp.aJ ((Below.refl _ _).drew))) (Kp.aJ hb1);clear hf hb1 HC;go_wp2_with fail;go_ret2;rw[HE.out];exact⟨⟨b,rfl,dL.alloc HF.out _⟩,(Kp.trans zu.out (Kp.aJ ((Below.refl _ _).alloc (zaa _) _))).a _⟩
 ·exact absurd (yw.resolve_left hp) (by simp[hl,hdd])
end
end Go.Proofs.YtlhimdjkkiflhaaGreatDoor
namespace Go.Proofs.YtlhimdjkkiflhaaGreatDoor
open Go.RowKit Go.Loop
def Env.label (E:Env)(n:Int)(b:Nat):Env:=⟨E.α,λm=>if m=n then b else E.eL m⟩
theorem ox (E:Env)(n:Int)(b k:Nat){aN:List Int}(hn:¬n∈aN):E.agree (E.label n b) k aN:=
 ⟨λ_ _=>rfl,λm hm=>if_neg λe=>hn (by rw[←e];exact hm)⟩
theorem Jv (E:Env)(n:Int)(b:Nat){aN:List Int}(hn:¬n∈aN):uC (E.label n b) (n::aN)=uC E aN++[(n,aH b)]:=by
 unfold uC;rw[List.reverse_cons,zbs]
 congr 1
 ·exact List.map_congr_left λm hm=>by rw[(ox E n b 0 hn).2 m (List.mem_reverse.1 hm)]
 ·simp[Env.label]
theorem bZ.label {w:World}{R M g cap:Nat}{T:List Tok}{dp:Nat}{E:Env}{s:eX}(h:bZ w R M g cap T dp E s){n:Int}{b:Nat}{o:Obj}(hn:¬n∈s.aN)(hb:∃v,w.heap[b]?=some (.cells #[v] 215))(pz:∀m∈s.aN,E.eL m≠b)
 (hm:ny { w with heap:=w.heap.setIfInBounds M o } M ((uC E s.aN++[(n,aH b)]).map λp=>(Value.int .i64 p.1,p.2))):
 bZ { w with heap:=w.heap.setIfInBounds M o } R M g cap T dp (E.label n b) { s with aN:=n::s.aN }:=by
 have ho:∀c,c≠M→(w.heap.setIfInBounds M o)[c]?=w.heap[c]?:=λc hc=>by rw[zan (λe=>hc e.symm)]
 have hlM:∀(c:Nat) (v:Value),w.heap[c]?=some (.cells #[v] 215)→c≠M:=λc v hc e=>by
  obtain⟨es,cl,q,_⟩:=h.lm;rw[e,q]at hc;cases hc
 refine⟨h.rm,h.gr,h.gm,(ho R h.rm).trans h.blk,?_,?_,λm Kl=>?_,λm h1 k h2 e=>?_,h.small,h.deep⟩
 ·refine⟨h.row.1,h.row.2.imp id ?_⟩;rintro ⟨c,cp,cur,h1,h2,h3,h4⟩;have:c=g:=by cases h1;rfl
  exact⟨c,cp,cur,h1,h2,(ho c (by rw[this];exact h.gm)).trans h3,h4⟩
 ·show ny _ M ((uC (E.label n b) (n::s.aN)).map _);rw[Jv E n b hn];exact hm
 ·show ∃v,(w.heap.setIfInBounds M o)[if m=n then b else E.eL m]?=_;by_cases e:m=n
  ·rw[if_pos e];obtain⟨v,hv⟩:=hb;exact⟨v,(ho b (hlM b v hv)).trans hv⟩
  ·rw[if_neg e];have Ii:m∈s.aN:=(zas.1 Kl).resolve_left e;obtain⟨v,hv⟩:=h.low m Ii;exact⟨v,(ho _ (hlM _ v hv)).trans hv⟩
 ·have e':(if m=n then b else E.eL m)=(if k=n then b else E.eL k):=e;by_cases e1:m=n<;>by_cases e2:k=n
  ·rw[e1,e2]
  ·rw[if_pos e1,if_neg e2]at e';exact absurd e'.symm (pz k ((zas.1 h2).resolve_left e2))
  ·rw[if_neg e1,if_pos e2]at e';exact absurd e' (pz m ((zas.1 h1).resolve_left e1))
  ·rw[if_neg e1,if_neg e2]at e';exact h.inj m ((zas.1 h1).resolve_left e1) k ((zas.1 h2).resolve_left e2) e'
end Go.Proofs.YtlhimdjkkiflhaaGreatDoor
namespace Go.Proofs.YtlhimdjkkiflhaaGreatDoor
open Go.Proofs.Tryz
open Go.RowKit Go.Loop
theorem Jw:prog.underlying 126=some (.slice 212):=by kernel_rfl
theorem rP {w:World}{v:Value}{n:Nat}{xs:List Value}(h:w.ownsRow 0 212 1 v n xs)(b:Nat)(o:Obj)(hb:w.heap[b]?=some o)(ho:∀cur,o≠.cells cur 212):some b≠v.ownBlock:=by
 intro e;rcases h.2 with⟨rfl,_⟩|⟨g,cap,cur,rfl,_,hg,_⟩
 ·cases e
 ·have:b=g:=by cases e;rfl
  rw[this,hg]at hb;exact ho cur (by cases hb;rfl)
section
variable {R M g cap:Nat}{T:List Tok}{dp:Nat}{E:Env}{s:eX}
theorem bZ.tokens {w:World}(h:bZ w R M g cap T dp E s):∃cur,w.heap[g]?=some (.cells cur 131):=by
 rcases h.row.2 with⟨e,_⟩|⟨b,cp,cur,h1,_,h3,_⟩
 ·cases e
 ·have:b=g:=by cases h1;rfl
  exact⟨cur,by rw[←this];exact h3⟩
theorem Jx {w3 w4:World}{v:Value}{n:Nat}{xs:List Value}{A:Obj}(hr:bZ w3 R M g cap T dp E s)(ho:w3.ownsRow 0 212 1 v n xs)(hg:(w3.alloc A).grownBy w4 v.ownBlock):bZ w4 R M g cap T dp E s∧jP R M v.ownBlock w3 w4∧(∀b,b<w3.heap.size→some b≠v.ownBlock→w4.heap[b]?=w3.heap[b]?)∧w3.heap.size+1≤w4.heap.size:=by
 have hs:(w3.alloc A).heap.size=w3.heap.size+1:=by simp
 have hb:∀b,b<w3.heap.size→some b≠v.ownBlock→w4.heap[b]?=w3.heap[b]?:=λb h h'=>(hg.block b (by omega) h').trans (Lib.alloc_old _ _ _ h);have hz:=hg.size;refine⟨?_,⟨hg.os,hg.tape,hg.output,by omega,λb b1 _ _ b4=>hb b b1 b4⟩,hb,by omega⟩;obtain⟨es,c,hm,-⟩:=hr.lm;obtain⟨cur,NW⟩:=hr.tokens;have q1:=rP ho R _ hr.blk (λcur e=>by simp at e);have q2:=rP ho g _ NW (λcur e=>by simp at e);have q3:=rP ho M _ hm (λcur e=>by simp at e);exact bZ.step hr (k:=s.k) ((hb R hr.lt q1).trans hr.blk) (by omega) (λb b1 b2=>hb b b1 (b2.elim (λe=>by rw[e];exact q2) λe=>by rw[e];exact q3)) λb x hv=>hb b (zae.1 hv).1 (rP ho b _ hv (λcur e=>by simp at e))
theorem bZ.place {w:World}(h:bZ w R M g cap T dp E s){b:Nat}{cs:Array Value}(hb:w.heap[b]?=some (.cells cs 128))(i:Nat)(v:Value):bZ (w.setCell ⟨b,i,none⟩ v) R M g cap T dp E s:=by
 have ho:∀c,c≠b→(w.setCell ⟨b,i,none⟩ v).heap[c]?=w.heap[c]?:=λc hc=>Below.heap_setCell _ _ _ _ hc;obtain⟨es,c,hm,-⟩:=h.lm;obtain⟨cur,NW⟩:=h.tokens;have q1:R≠b:=λe=>by rw[←e,h.blk]at hb;simp at hb
 have q2:g≠b:=λe=>by rw[←e,NW]at hb;simp at hb
 have q3:M≠b:=λe=>by rw[←e,hm]at hb;simp at hb
 exact bZ.step h (k:=s.k) ((ho R q1).trans h.blk) (by simp) (λc _ c2=>ho c (c2.elim (λe=>by rw[e];exact q2) λe=>by rw[e];exact q3)) λc x hv=>ho c (λe=>by rw[e,hb]at hv;simp at hv)
theorem iZ.more {w:World}{l:List Int}{v':Value}{n:Int}{L0 b:Nat}{cs:Array Value}(h:w.ownsRow 0 212 1 v' (l.length+1) (l.map (λm=>aH ((E.label n L0).eL m))++[aH L0]))(hb:w.heap[b]?=some (.cells cs 128))(hl:∀m∈l,m∈s.aN)(x:Value):iZ (w.setCell ⟨b,2,none⟩ x) (E.label n L0) { s with aN:=n::s.aN } (l++[n]) v':=by
 refine⟨?_,?_,λm hm=>?_⟩
 ·have e:((l++[n]).map λm=>aH ((E.label n L0).eL m))=l.map (λm=>aH ((E.label n L0).eL m))++[aH L0]:=by
   rw[zbs]
   congr 1
   simp[Env.label]
  rw[e,zaw];refine⟨h.1,h.2.imp id ?_⟩;rintro ⟨c,cp,cur,h1,h2,h3,h4⟩;exact⟨c,cp,cur,h1,h2,(Below.heap_setCell _ _ _ _ (λe=>by rw[e,hb]at h3;simp at h3)).trans h3,h4⟩
 ·obtain⟨a,c,e⟩:=bQ h;exact⟨a,_,c,e⟩
 ·rcases zaO.1 hm with h1|h1
  ·exact zax _ (hl m h1)
  ·simp at h1;subst h1;exact zau
theorem jP.put {A B:Option Nat}{w w5 w6:World}(h:jP R M A w w5)(k:jP R M B w5 w6)(hv:B=A∨∃k,B=some k∧w.heap.size≤k):jP R M A w w6:=by
 have h1:=h.size;have h2:=k.size;refine⟨k.os.trans h.os,k.tape.trans h.tape,k.output.trans h.output,by omega,λb b1 b2 b3 b4=>(k.block b (by omega) b2 b3 λe=>?_).trans (h.block b b1 b2 b3 b4)⟩;rcases hv with hv|⟨c,hc,hlt⟩
 ·exact b4 (e.trans hv)
 ·rw[hc]at e;cases e;omega
theorem jP.above {A:Option Nat}{w w':World}(h:jP R M A w w'){b:Nat}(hb:w.heap.size≤b)(i:Nat)(v:Value):jP R M A w (w'.setCell ⟨b,i,none⟩ v):=
 ⟨h.os,h.tape,h.output,by have:=h.size;simpa using this,λc c1 c2 c3 c4=>(Below.heap_setCell _ _ _ _ (show c≠b by omega)).trans (h.block c c1 c2 c3 c4)⟩
theorem Pz {w w5 w6:World}{A:Option Nat}{v' x v:Value}{E2:Env}{s2:eX}{n:Int}{d:Dt}{L0 m:Nat}{xs:List Value}(hk:jP R M A w w5)(hL:w.heap.size≤L0)(lC:w5.heap[L0]?=some (.cells #[x] 215))
 (ho:w5.ownsRow 0 212 1 v' m xs)(hv:v'.ownBlock=A∨∃k,v'.ownBlock=some k∧w.heap.size≤k)(xR:bZ w5 R M g cap T dp (E.label n L0) { s with aN:=n::s.aN })(hn:¬n∈s.aN)
 (hi:∃t y,v=.iface t y)(cH:cz w5.heap.size s2.fresh s2.aN w6 E2 d v)(hx:Ext w5 w6 (E.label n L0) E2 { s with aN:=n::s.aN } s2)(yh:bZ w6 R M g cap T dp E2 s2)(Kr:jP R M v'.ownBlock w5 w6):
 w6.heap[L0]?=some (.cells #[x] 215)∧j0 R M g cap T dp A w E s (.ok (.put n d) s2) (.returned (.tuple #[v,.pointer none])) (w6.setCell ⟨L0,0,none⟩ v):=by
 have hL5:L0<w5.heap.size:=(zae.1 lC).1;have hs5:=hk.size;have hs6:=Kr.size;obtain⟨es,c,hm,-⟩:=xR.lm;have q1:L0≠R:=λe=>by rw[e,xR.blk]at lC;simp at lC
 have q3:L0≠M:=λe=>by rw[e,hm]at lC;simp at lC
 have mL:w6.heap[L0]?=some (.cells #[x] 215):=(Kr.block L0 hL5 q1 q3 (rP ho L0 _ lC (λcur e=>by simp at e))).trans lC;obtain⟨cur,NW⟩:=yh.tokens;have q2:g≠L0:=λe=>by rw[e,mL]at NW;simp at NW
 have hl0:(w6.setCell ⟨L0,0,none⟩ v).heap[L0]?=some (.cells #[v] 215):=ey mL 0 v;have YT:∀c,c≠L0→(w6.setCell ⟨L0,0,none⟩ v).heap[c]?=w6.heap[c]?:=λc hc=>Below.heap_setCell _ _ _ _ hc;have Fg:E2.eL n=L0:=(hx.agree.2 n zau).trans (if_pos rfl);refine⟨mL,v,E2,rfl,hi,?_,?_,?_,(hk.put Kr hv).above hL 0 v⟩
 ·unfold cz;rw[Fg];exact⟨hx.aN n zau,hL,hl0,cz.keep hs5 (zaa _) (λ_ h=>h) (λb b1 _=>YT b (by omega)) ⟨λ_ _=>rfl,λ_ _=>rfl⟩ d v cH⟩
 ·have ag:=ox E n L0 s.fresh hn;refine⟨⟨λi hi=>(hx.agree.1 i hi).trans (ag.1 i hi),λm hm=>(hx.agree.2 m (zax _ hm)).trans (ag.2 m hm)⟩,hx.fresh,λm hm=>hx.aN m (zax _ hm),λi i1 i2=>?_,hx.inj⟩;have:=hx.new i i1 i2;rw[show(w6.setCell ⟨L0,0,none⟩ v).heap.size=w6.heap.size by simp];omega
 ·refine⟨yh.rm,yh.gr,yh.gm,(YT R q1.symm).trans yh.blk,?_,?_,λm hm=>?_,yh.inj,yh.small,yh.deep⟩
  ·refine⟨yh.row.1,yh.row.2.imp id ?_⟩;rintro ⟨b,cp,cur,h1,h2,h3,h4⟩;have:b=g:=by cases h1;rfl
   exact⟨b,cp,cur,h1,h2,(YT b (by rw[this];exact q2)).trans h3,h4⟩
  ·obtain⟨es,c,h1,h2⟩:=yh.lm;exact⟨es,c,(YT M q3.symm).trans h1,h2⟩
  ·obtain⟨y,hy⟩:=yh.low m hm;by_cases e:E2.eL m=L0
   ·rw[e];exact⟨v,hl0⟩
   ·exact⟨y,(YT _ e).trans hy⟩
end
section
variable {P:Program}
theorem uF (w:World)(base:Nat)(t ty e:TypeId)(i:TypeInfo)(z:Value)(sz y:Nat)(ht:P.underlying t=some (.slice e))(hi:P.info? e=some i)(hz:i.zero=some z)
 (hsize:i.size=sz)(hby:i.bytes=y)(hsz:0<sz)(hy:y≤100)(hzs:z.cells.size=sz)
 (v:Value)(n:Nat)(xs:List Value)(hown:w.ownsRow base e sz v n xs)
 (a:Addr)(m c:Nat)(news:List Value)(hm:m≠0)(hl:news.length=m*sz)(hnews:∀j u,news[j]?=some u→w.cell? (a.add j)=some u)(h1:∀u∈news,u.oneCell'=true)
 (hlen:n+m≤1000000)(hbase:base≤w.heap.size):
 ∃v' w',(Builtin.append_ #[t,t] ty #[v,.slice (some a) m c]).run P w=.ok v' w'∧w'.ownsRow base e sz v' (n+m) (xs++news)∧w.grownBy w' v.ownBlock∧
  (v'.ownBlock=v.ownBlock∨∃k,v'.ownBlock=some k∧w.heap.size≤k):=by
 have h63:n+m≤maxLen:=by unfold maxLen;omega
 have hbytes:(n+m)*y≤140737488355328:=zad (Nat.mul_le_mul hlen hy) (by decide);obtain⟨v',w',hr,h2,h3,h4⟩:=run_append_own (P:=P) w base t ty e i z sz y ht hi hz hsize hby hzs hsz v n xs hown a m c news hl hnews h1 h63 hbytes hbase;refine⟨v',w',hr,h2,h3,?_⟩;have E4:n+m≤9223372036854775807:=by omega
 rcases hown.2 with⟨rfl,rfl⟩|⟨g,cap,cur,rfl,hbg,hg,hnc,hcm,hcs,CH⟩
 ·have l4:=run_append_nil (P:=P) w t ty e i z ht hi hz a m c news (by rw[hsize];exact hl) hnews (by omega) (by omega) (by rw[hby];first|exact growslice_fits (by omega) (by simpa using hbytes)|exact zad (Nat.mul_le_mul (show m≤1000000 by omega) hy) (by decide));rw[l4]at hr;injection hr with a b;rw[←a];exact Or.inr ⟨_,rfl,zaa _⟩
 ·by_cases hroom:n+m≤cap
  ·have l4:=run_append_room (P:=P) w t ty e i ht hi g n cap cur hg a m c news (by rw[hsize];exact hl) hnews h1 hroom (by rw[hsize,hcs,hl,←Nat.add_mul];exact Nat.mul_le_mul hroom (zaa _));rw[l4]at hr;injection hr with a b;rw[←a];exact Or.inl rfl
  ·have holds:∀j u,xs[j]?=some u→w.cell? ((⟨g,0,none⟩:Addr).add j)=some u:=hown.cells (g:=g) rfl;have l4:=run_append_grow (P:=P) w t ty e i z ht hi hz ⟨g,0,none⟩ n cap xs (by rw[hsize];exact hown.1) holds a m c news (by rw[hsize];exact hl) hnews (by omega) (by omega) (by rw[hby];exact growslice_fits (by omega) hbytes);rw[l4]at hr;injection hr with a b;rw[←a];exact Or.inr ⟨_,rfl,zaa _⟩
theorem sZ {ops:Array Oper}{o:Oper}{a:Act}{w:World}{K:Act→World→Prop}{Q:Exit→Act→World→Prop}{X:Prop}
 (hg:o.guard=none)(s x:Operand)(t:TypeId)(hop:o.op=Op.call { callee:=Callee.builtin Builtin.append,args:=#[s,x],argTypes:=#[t,t] })
 (base:Nat)(e:TypeId)(i:TypeInfo)(z:Value)(sz y:Nat)(ht:P.underlying t=some (.slice e))(hi:P.info? e=some i)(hz:i.zero=some z)
 (hsize:i.size=sz)(hby:i.bytes=y)(hsz:0<sz)(hy:y≤100)(hzs:z.cells.size=sz)
 (v:Value)(n:Nat)(xs:List Value)(hs:a.eval s=v)(hown:w.ownsRow base e sz v n xs)
 (ad:Addr)(m c:Nat)(news:List Value)(hx:a.eval x=.slice (some ad) m c)(hm:m≠0)(hl:news.length=m*sz)(hnews:∀j u,news[j]?=some u→w.cell? (ad.add j)=some u)(h1:∀u∈news,u.oneCell'=true)
 (hlen:n+m≤1000000)(hbase:base≤w.heap.size)
 (hK:∀v' w',w'.ownsRow base e sz v' (n+m) (xs++news)→w.grownBy w' v.ownBlock→(v'.ownBlock=v.ownBlock∨∃k,v'.ownBlock=some k∧w.heap.size≤k)→K (a.put o.dst v') w'):
 if Region.wanted o (yielded ops a.tmps)=true then Oper.wp P o a w K Q else X:=by
 have hw:Region.wanted o (yielded ops a.tmps)=true:=by simp[Region.wanted,hg]
 rw[if_pos hw];obtain⟨v',w',hr,h2,h3,h4⟩:=uF (P:=P) w base t o.type e i z sz y ht hi hz hsize hby hsz hy hzs v n xs hown ad m c news hm hl hnews h1 hlen hbase;unfold Oper.wp;simp only[execOp,hop,resolve,invoke,builtin,Sem.run_bind,Sem.run_pure,Result.andThen_ok,zbe,zao,zaG,hs,hx,hr];exact hK v' w' h2 h3 h4
end
theorem Jy:(prog.info? 45).map (λi=>(i.zero,i.size,i.bytes))=some (some (.agg #[.int .i64 0,.string ⟨#[]⟩,.int .i64 0,.int .i64 0,.slice none 0 0]),5,64):=by kernel_rfl
theorem Fj:prog.underlying 28=some (.slice 45):=by kernel_rfl
def qE (x:pj)(sv:Value):List Value:=[.int .i64 x.kind,.string ⟨⟨x.text⟩⟩,.int .i64 x.n,.int .i64 x.d,sv]
def uG:List pj→List Value→List Value
 |x::l,sv::bS=>qE x sv++uG l bS
 |_,_=>[]
def SN (w:World)(base:Nat)(sv:Value)(l:List Nat):Prop:=
 (sv=.slice none 0 0∧l=[])∨∃b,sv=.slice (some ⟨b,0,none⟩) l.length l.length∧base≤b∧w.heap[b]?=some (.cells (l.map λk:Nat=>Value.int .i64 (k:Int)).toArray 3)
structure ez (w0 w:World) (G M:Nat) (κ:Nat→HK) (E:Env) (g:mh) (bS:List Value) (nv:Value):Prop where
 gm:G≠M
 WX:w0.heap.size≤G
 WY:w0.heap.size≤M
 low:Below w0.heap.size w0 w
 blk:w.heap[G]?=some (.cells #[nv,.map (some M)] 100)
 row:w.ownsRow w0.heap.size 45 5 nv g.nodes.length (uG g.nodes bS)
 map:ny w M (CM κ E g.met)
 len:bS.length=g.nodes.length
 subs:∀(j:Nat) x sv,g.nodes[j]?=some x→bS[j]?=some sv→SN w w0.heap.size sv x.subs
theorem CV:∀(l:List pj) (bS:List Value) (x:pj) (sv:Value),bS.length=l.length→uG (l++[x]) (bS++[sv])=uG l bS++qE x sv
 |[],[],x,sv,_=>by simp[uG]
 |[],_::_,_,_,h=>by simp at h
 |_::_,[],_,_,h=>by simp at h
 |y::l,s::bS,x,sv,h=>by
  have:=CV l bS x sv (by simpa using h);simp only[zat,uG,this,zaP]
end Go.Proofs.YtlhimdjkkiflhaaGreatDoor
