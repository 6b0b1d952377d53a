import Derived.Deep.RegionLaw
import Derived.Test.YtlhimdjkkiflhaaGreatDoorKnown22
set_option maxHeartbeats 8000000
set_option maxRecDepth 100000
namespace Go.Proofs.YtlhimdjkkiflhaaGreatDoor
open Go.Proofs.Tryz
open Go.RowKit Go.Loop
section
variable (R M g cap:Nat)(T:List Tok)(dp:Nat)
def Tl (n:Nat):Prop:=∀(t:Tok) (p:Pl) (a0:Option Addr) (n0 c0:Nat) (w:World) (E:Env) (s:gW) (r:RR Dt),bE w R M g cap T dp E s→iJ w E s p.ahead (.slice a0 n0 c0)→(p.depth≤dp∧p.ahead.length≤p.depth)→(r=if p.passed∨t.n∈s.aP then .fail 5 t.from_
 else if p.depth=dp then .fail 6 t.from_
 else(aV T dp n ⟨p.depth+1,p.passed,p.ahead++[t.n]⟩ { s with aP:=t.n::s.aP }).bind λd s=> .ok (.put t.n d) s)→r≠.out→
    Calls prog 160 #[au R,aX t,gA p.depth p.passed (.slice a0 n0 c0)] w λe w'=>jD R M g cap T dp (Value.slice a0 n0 c0).ownBlock w E s r e w'
def Tn:Prop:=∀(t:Tok) (p:Pl) (a0:Option Addr) (n0 c0:Nat) (w:World) (E:Env) (s:gW) (r:RR Dt),bE w R M g cap T dp E s→iJ w E s p.ahead (.slice a0 n0 c0)→(p.depth≤dp∧p.ahead.length≤p.depth)→(r=if p.passed∨t.n∉s.aP∨t.n∈p.ahead then .fail 5 t.from_ else .ok (.ask t.n) s)→Calls prog 161 #[au R,aX t,gA p.depth p.passed (.slice a0 n0 c0)] w λe w'=>jD R M g cap T dp none w E s r e w'
end
section
variable {R M g cap:Nat}{T:List Tok}{dp:Nat}
theorem js.up {w w':World}(h:js R M none w w')(A:Option Nat):js R M A w w':=h.plain.a A
theorem N6 {n:Nat}(ih:∀m,m≤n→IH R M g cap T dp m)(hput:Tl R M g cap T dp n)(A6:Tn R M g cap T dp)(t:Tok)(p:Pl)(av:Value)(w:World)(E:Env)(s:gW)(hr:bE w R M g cap T dp E s)(ha:iJ w E s p.ahead av)(hd:p.depth≤dp∧p.ahead.length≤p.depth)(ho:cJ T dp (n+1) t p s≠.out):Calls prog 106 #[au R,aX t,gA p.depth p.passed av] w λe w'=>jD R M g cap T dp av.ownBlock w E s (cJ T dp (n+1) t p s) e w':=by
 have mixed:prog.follows Departure.mixedOrders=true:=by kernel_rfl
 obtain⟨⟨a0,n0,c0,rfl⟩⟩:=(⟨ha.2.1⟩:Nonempty _);have LP:R<w.heap.size:=hr.lt;generalize et:cJ T dp (n+1) t p s=r at *;have mA:=et.symm;unfold cJ at mA;clear et;have hb0:Below w.heap.size w ((w.alloc (.cells #[.int .i64 t.kind,.int .i64 t.from_,.int .i64 t.cA,.string ⟨⟨t.text⟩⟩,.int .i64 t.n,.int .i64 t.d,.int .i64 t.fault] 131)).alloc (.cells #[.int .i64 p.depth,.bool p.passed,.slice a0 n0 c0] 128)):=((Below.refl _ w).alloc (zaa _) _).alloc (by simp) _;have rG:Hid (Kp R M w ((w.alloc (.cells #[.int .i64 t.kind,.int .i64 t.from_,.int .i64 t.cA,.string ⟨⟨t.text⟩⟩,.int .i64 t.n,.int .i64 t.d,.int .i64 t.fault] 131)).alloc (.cells #[.int .i64 p.depth,.bool p.passed,.slice a0 n0 c0] 128))):=Kp.ay hb0;have qu:Hid _:=hr.below hb0;have F9:Hid _:=ha.below hb0;have HO:Hid _:=ho;by_cases Zq:t.kind=3∨t.kind=7
 ·have HE:Hid (r=.fail 3 t.from_):=mA.trans (if_pos Zq);clear mA hb0 hr ha ih hput A6;have hq:(((t.kind:Nat):Int)==3)=true∨((((t.kind:Nat):Int)==3)=false∧(((t.kind:Nat):Int)==7)=true):=by
   rcases Zq with h|h
   ·exact .inl (by rw[h];rfl)
   ·exact .inr ⟨by rw[h];rfl,by rw[h];rfl⟩
  clear Zq;unfold gA au aX;rcases hq with q3|⟨q3,q7⟩
  all_goals
   go_enter func106,ntmps106;go_wp2_with fail;go_region;go_wp2_with fail;go_ret2;rw[HE.out];refine⟨⟨w.heap.size+1+1,rfl,?_⟩,(Kp.trans rG.out (Kp.ay (((Below.refl _ _).alloc (zaa _) _).drew))).a _⟩;exact(show _=_ from by rw[show w.heap.size+1+1=((w.alloc (.cells #[.int .i64 t.kind,.int .i64 t.from_,.int .i64 t.cA,.string ⟨⟨t.text⟩⟩,.int .i64 t.n,.int .i64 t.d,.int .i64 t.fault] 131)).alloc (.cells #[.int .i64 p.depth,.bool p.passed,.slice a0 n0 c0] 128)).heap.size by simp];exact heap_alloc_new _ _)
 replace mA:=mA.trans (if_neg Zq);have q3:(((t.kind:Nat):Int)==3)=false:=by rw[beq_eq_false_iff_ne];omega
 have q7:(((t.kind:Nat):Int)==7)=false:=by rw[beq_eq_false_iff_ne];omega
 clear Zq;by_cases Zr:t.kind=10
 ·have q10:(((t.kind:Nat):Int)==10)=true:=by rw[Zr];rfl
  have HC:Hid _:=hput t p a0 n0 c0 _ E s r qu.out F9.out hd (mA.trans (if_pos Zr)) ho;clear mA hb0 hr ha ih hput A6 Zr;unfold gA au aX at HC ⊢;go_enter func106,ntmps106;go_wp2_with fail;refine Calls.mono HC.out ?_;intro e w3 bX;have lU:=jD.from bX rG.out;clear bX HC;cases r with
  |out=>exact absurd rfl HO.out
  |fail er a=>
   obtain⟨⟨b,rfl,hf⟩,hk2⟩:=lU;have HG:Hid (jD R M g cap T dp (Value.slice a0 n0 c0).ownBlock w E s (RR.fail er a) (.returned (.tuple #[.nilIface,au b])) w3):=⟨⟨b,rfl,hf⟩,hk2⟩;clear hf hk2;unfold au;go_wp2_with fail;go_ret2;exact HG.out
  |ok d s2=>
   obtain⟨v,E2,rfl,⟨ty,y,rfl⟩,bW,hx2,hr2,hk2⟩:=lU;have HG:Hid (jD R M g cap T dp (Value.slice a0 n0 c0).ownBlock w E s (RR.ok d s2) (.returned (.tuple #[.iface ty y,.pointer none])) w3):=⟨.iface ty y,E2,rfl,⟨ty,y,rfl⟩,bW,hx2,hr2,hk2⟩;clear bW hx2 hr2 hk2;go_wp2_with fail;go_ret2;exact HG.out
 replace mA:=mA.trans (if_neg Zr);have q10:(((t.kind:Nat):Int)==10)=false:=by rw[beq_eq_false_iff_ne];omega
 clear Zr;by_cases LJ:t.kind=11
 ·have q11:(((t.kind:Nat):Int)==11)=true:=by rw[LJ];rfl
  have HC:Hid _:=A6 t p a0 n0 c0 _ E s r qu.out F9.out hd (mA.trans (if_pos LJ));clear mA hb0 hr ha ih hput A6 LJ;unfold gA au aX at HC ⊢;go_enter func106,ntmps106;go_wp2_with fail;refine Calls.mono HC.out ?_;intro e w3 bX;have lU:=jD.from bX rG.out;clear bX HC;cases r with
  |out=>exact absurd rfl HO.out
  |fail er a=>
   obtain⟨⟨b,rfl,hf⟩,hk2⟩:=lU;have HG:Hid (jD R M g cap T dp (Value.slice a0 n0 c0).ownBlock w E s (RR.fail er a) (.returned (.tuple #[.nilIface,au b])) w3):=⟨⟨b,rfl,hf⟩,js.up hk2 _⟩;clear hf hk2;unfold au;go_wp2_with fail;go_ret2;exact HG.out
  |ok d s2=>
   obtain⟨v,E2,rfl,⟨ty,y,rfl⟩,bW,hx2,hr2,hk2⟩:=lU;have HG:Hid (jD R M g cap T dp (Value.slice a0 n0 c0).ownBlock w E s (RR.ok d s2) (.returned (.tuple #[.iface ty y,.pointer none])) w3):=⟨.iface ty y,E2,rfl,⟨ty,y,rfl⟩,bW,hx2,hr2,js.up hk2 _⟩;clear bW hx2 hr2 hk2;go_wp2_with fail;go_ret2;exact HG.out
 replace mA:=mA.trans (if_neg LJ);have q11:(((t.kind:Nat):Int)==11)=false:=by rw[beq_eq_false_iff_ne];omega
 clear LJ;by_cases kh:t.kind=2∨t.kind=5∨t.kind=4
 ·have HC:Hid _:=Dc ih t p a0 n0 c0 _ E s qu.out hd r (mA.trans (if_pos kh)) ho;have hq:(((t.kind:Nat):Int)==2)=true∨((((t.kind:Nat):Int)==2)=false∧(((t.kind:Nat):Int)==5)=true)∨((((t.kind:Nat):Int)==2)=false∧(((t.kind:Nat):Int)==5)=false∧(((t.kind:Nat):Int)==4)=true):=by
   rcases kh with h|h|h
   ·exact .inl (by rw[h];rfl)
   ·exact .inr (.inl ⟨by rw[h];rfl,by rw[h];rfl⟩)
   ·exact .inr (.inr ⟨by rw[h];rfl,by rw[h];rfl,by rw[h];rfl⟩)
  clear mA hb0 hr ha ih hput A6 kh;unfold gA au aX at HC ⊢;rcases hq with q2|⟨q2,q5⟩|⟨q2,q5,q4⟩
  all_goals
   go_enter func106,ntmps106;go_wp2_with fail;refine Calls.mono HC.out ?_;intro e w3 bX;have lU:=jD.from bX rG.out;clear bX HC;cases r with
   |out=>exact absurd rfl HO.out
   |fail er a=>
    obtain⟨⟨b,rfl,hf⟩,hk2⟩:=lU;have HG:Hid (jD R M g cap T dp (Value.slice a0 n0 c0).ownBlock w E s (RR.fail er a) (.returned (.tuple #[.nilIface,au b])) w3):=⟨⟨b,rfl,hf⟩,js.up hk2 _⟩;clear hf hk2;unfold au;go_wp2_with fail;go_ret2;exact HG.out
   |ok d s2=>
    obtain⟨v,E2,rfl,⟨ty,y,rfl⟩,bW,hx2,hr2,hk2⟩:=lU;have HG:Hid (jD R M g cap T dp (Value.slice a0 n0 c0).ownBlock w E s (RR.ok d s2) (.returned (.tuple #[.iface ty y,.pointer none])) w3):=⟨.iface ty y,E2,rfl,⟨ty,y,rfl⟩,bW,hx2,hr2,js.up hk2 _⟩;clear bW hx2 hr2 hk2;go_wp2_with fail;go_ret2;exact HG.out
 replace mA:=mA.trans (if_neg kh);have q2:(((t.kind:Nat):Int)==2)=false:=by rw[beq_eq_false_iff_ne];omega
 have q5:(((t.kind:Nat):Int)==5)=false:=by rw[beq_eq_false_iff_ne];omega
 have q4:(((t.kind:Nat):Int)==4)=false:=by rw[beq_eq_false_iff_ne];omega
 clear kh;have HC:Hid (Calls prog 163 #[aX t] ((w.alloc (.cells #[.int .i64 t.kind,.int .i64 t.from_,.int .i64 t.cA,.string ⟨⟨t.text⟩⟩,.int .i64 t.n,.int .i64 t.d,.int .i64 t.fault] 131)).alloc (.cells #[.int .i64 p.depth,.bool p.passed,.slice a0 n0 c0] 128)) λe w'=>jD R M g cap T dp none ((w.alloc (.cells #[.int .i64 t.kind,.int .i64 t.from_,.int .i64 t.cA,.string ⟨⟨t.text⟩⟩,.int .i64 t.n,.int .i64 t.d,.int .i64 t.fault] 131)).alloc (.cells #[.int .i64 p.depth,.bool p.passed,.slice a0 n0 c0] 128)) E s r e w'):=by
  rw[mA];unfold C0;by_cases h8:t.kind=8
  ·rw[if_pos h8];refine(NY t _ h8).mono ?_;rintro e w' ⟨b,rfl,hb,hc,hw⟩;have hbl:b<w'.heap.size:=(zac.1 hc).1;refine⟨_,E.one s.fresh b,rfl,⟨_,_,rfl⟩,?_,Ext.one hb hbl,bE.name (bE.below qu.out hw) rfl rfl rfl,(Kp.ay hw).a none⟩;have e1:(E.one s.fresh b).α s.fresh=b:=if_pos rfl;unfold ba;rw[e1];exact⟨Nat.lt_succ_self _,hb,rfl,hc⟩
  rw[if_neg h8];by_cases hv:t.kind=9∨t.kind=12∨t.kind=14∨t.fault=0
  ·refine(NZ t _ h8 hv).mono ?_;rintro e w' ⟨rfl,hw⟩;have key:∀d:Dt,(∃t' y,jC t=.iface t' y)→ba ((w.alloc (.cells #[.int .i64 t.kind,.int .i64 t.from_,.int .i64 t.cA,.string ⟨⟨t.text⟩⟩,.int .i64 t.n,.int .i64 t.d,.int .i64 t.fault] 131)).alloc (.cells #[.int .i64 p.depth,.bool p.passed,.slice a0 n0 c0] 128)).heap.size s.fresh s.aP w' E d (jC t)→jD R M g cap T dp none ((w.alloc (.cells #[.int .i64 t.kind,.int .i64 t.from_,.int .i64 t.cA,.string ⟨⟨t.text⟩⟩,.int .i64 t.n,.int .i64 t.d,.int .i64 t.fault] 131)).alloc (.cells #[.int .i64 p.depth,.bool p.passed,.slice a0 n0 c0] 128)) E s (.ok d s) (.returned (.tuple #[jC t,.pointer none])) w':=λd hi h=>⟨_,E,rfl,hi,h,Ext.refl rfl rfl,bE.below qu.out hw,(Kp.ay hw).a none⟩;by_cases h9:t.kind=9
   ·rw[if_pos h9];exact key _ (by simp[jC,h9]) (by unfold ba;simp[jC,h9])
   rw[if_neg h9];by_cases BK:t.kind=12
   ·rw[if_pos BK];exact key _ (by simp[jC,BK]) (by unfold ba;simp[jC,BK])
   rw[if_neg BK];by_cases EJ:t.kind=14
   ·rw[if_pos EJ];exact key _ (by simp[jC,EJ]) (by unfold ba;simp[jC,EJ])
   rw[if_neg EJ,if_neg (by omega)];exact key _ (by simp[jC,h9,BK,EJ]) (by unfold ba;simp[jC,h9,BK,EJ])
  ·rw[if_neg (by omega),if_neg (by omega),if_neg (by omega),if_pos (by omega)];refine(F4 t _ ⟨h8,by omega,by omega,by omega⟩ (by omega)).mono ?_;rintro e w' ⟨b,rfl,hc,hw⟩;exact⟨⟨b,rfl,hc⟩,(Kp.ay hw).a none⟩
 clear mA hb0 hr ha ih hput A6
 ·unfold gA au aX at *;go_enter func106,ntmps106;go_wp2_with fail;refine Calls.mono HC.out ?_;intro e w3 bX;have lU:=jD.from bX rG.out;clear bX HC;cases r with
  |out=>exact absurd rfl HO.out
  |fail er a=>
   obtain⟨⟨b,rfl,hf⟩,hk2⟩:=lU;have HG:Hid (jD R M g cap T dp (Value.slice a0 n0 c0).ownBlock w E s (RR.fail er a) (.returned (.tuple #[.nilIface,au b])) w3):=⟨⟨b,rfl,hf⟩,js.up hk2 _⟩;clear hf hk2;unfold au;go_wp2_with fail;go_ret2;exact HG.out
  |ok d s2=>
   obtain⟨v,E2,rfl,⟨ty,y,rfl⟩,bW,hx2,hr2,hk2⟩:=lU;have HG:Hid (jD R M g cap T dp (Value.slice a0 n0 c0).ownBlock w E s (RR.ok d s2) (.returned (.tuple #[.iface ty y,.pointer none])) w3):=⟨.iface ty y,E2,rfl,⟨ty,y,rfl⟩,bW,hx2,hr2,js.up hk2 _⟩;clear bW hx2 hr2 hk2;go_wp2_with fail;go_ret2;exact HG.out
end
theorem Dd:prog.underlying 212=some (.pointer 215):=by kernel_rfl
theorem Ry:(prog.info? 215).map (λi=>i.size)=some 1:=by kernel_rfl
theorem Zs (w:World)(b c:Nat)(hb:∃v,w.heap[b]?=some (.cells #[v] 215))(hc:∃v,w.heap[c]?=some (.cells #[v] 215)):(binOp .eql 212 (.pointer (some ⟨b,0,none⟩)) (.pointer (some ⟨c,0,none⟩))).run prog w=.ok (.bool (decide (b=c))) w:=by
 obtain⟨vb,hb⟩:=hb;obtain⟨vc,hc⟩:=hc;have hi:=Ry;cases hj:prog.info? 215 with
 |none=>rw[hj]at hi;cases hi
 |some j=>
  rw[hj]at hi;have hs:j.size=1:=by simpa using hi
  by_cases e:b=c
  ·subst e;rw[run_eql_ptr_same w _ Dd hj];simp
  ·rw[run_eql_ptr_other w (ca:=#[vb]) (cb:=#[vc]) Dd hj (by omega) (λh=>e (by cases h;rfl)) hb hc];simp[e]
theorem A7 (l:List Nat)(g c lo b:Nat)(w:World)(hrow:w.ownsRow lo 212 1 (.slice (some ⟨g,0,none⟩) l.length c) l.length (l.map au))(LU:∃v,w.heap[b]?=some (.cells #[v] 215))(Rz:∀x∈l,∃v,w.heap[x]?=some (.cells #[v] 215)):Calls prog 220 #[.slice (some ⟨g,0,none⟩) l.length c,au b] w λe w'=>(∃i:Int,e=.returned (.int .i64 i)∧(if b∈l then 0≤i else i=-1))∧w'=w:=by
 have hg:g<w.heap.size:=(hrow.lt g rfl).2;have hn:l.length≤9223372036854775807:=by
  rcases hrow.2 with⟨h,_⟩|⟨_,cp,_,_,_,_,h1,h2,_⟩
  ·cases h
  ·simp only[maxLen]at h2;omega
 have hcell:Hid (∀(j:Nat) (x:Nat),l[j]?=some x→w.cell? ⟨g,j,none⟩=some (au x)):=λj x hx=>by
  have hj:j<l.length:=(zaT.1 hx).1;rw[hrow.cellAt j (by omega),zbj,hx];rfl
 clear hrow;unfold au;go_enter func220,ntmps220;go_wp2_with fail;go_loopw [8] (λi wr=>∃j:Nat,j≤l.length∧i=.int .i64 j∧wr=w∧Hid (∀(k:Nat) x,k<j→l[k]?=some x→x≠b)) (λi _=>l.length-(intOf i).toNat)
 case atStart=>exact⟨0,by omega,rfl,rfl,λk x hk=>by omega⟩
 case round=>
  obtain⟨j,hj,rfl,rfl,hB⟩:=hrel;by_cases Mz:j<l.length
  ·have hx:l[j]?=some l[j]:=zaf Mz;have hc:=hcell.out j _ hx;unfold au at hc;have q:((j:Int)<(l.length:Int)):=by omega
   have hq:=Zs wr b l[j] LU (Rz _ (zaC Mz));by_cases hb:l[j]=b
   ·have hm:b∈l:=by rw[←hb];exact zaC Mz
    rw[hb]at hc hq;simp only[decide_true]at hq;go_wp2_with fail;go_ret;exact⟨⟨_,rfl,by omega⟩,rfl⟩
   ·have hb':decide (b=l[j])=false:=by rw[decide_eq_false_iff_not];exact λe=>hb e.symm
    rw[hb']at hq;go_wp2_with fail;refine⟨⟨j+1,by omega,by simp,trivial,λk x hk hkx=>?_⟩,?_⟩
    ·rcases zag k j with h|h
     ·exact hB.out k x h hkx
     ·have:k=j:=by omega
      subst this;rw[hx]at hkx;cases hkx;exact hb
    ·simp only[intOf];omega
  ·have hm:¬b∈l:=λh=>by
    obtain⟨k,hk,hkb⟩:=List.getElem_of_mem h;exact hB.out k _ (by omega) (zaf hk) hkb
   have q:¬((j:Int)<(l.length:Int)):=by omega
   go_wp2_with fail;go_ret;simp
theorem Kr (b:Nat)(w:World):Calls prog 220 #[.slice none 0 0,au b] w λe w'=>e=.returned (.int .i64 (-1))∧w'=w:=by
 unfold au;go_enter func220,ntmps220;go_wp2_with fail;go_loopw [8] (λi wr=>i=.int .i64 0∧wr=w) (λ_ _=>0)
 case atStart=>exact⟨rfl,rfl⟩
 case round=>
  obtain⟨rfl,rfl⟩:=hrel;go_wp2_with fail;go_ret;exact⟨rfl,rfl⟩
theorem A8 (l:List Nat)(av:Value)(lo b:Nat)(w:World)(hrow:w.ownsRow lo 212 1 av l.length (l.map au))(LU:∃v,w.heap[b]?=some (.cells #[v] 215))(Rz:∀x∈l,∃v,w.heap[x]?=some (.cells #[v] 215)):Calls prog 193 #[av,au b] w λe w'=>e=.returned (.bool (decide (b∈l)))∧w'=w:=by
 rcases hrow.2 with⟨rfl,h0⟩|⟨g,cap,cur,rfl,_⟩
 ·have:l=[]:=zbi h0;subst this;have HC:Hid _:=Kr b w;clear hrow;unfold au at HC ⊢;go_enter func193,ntmps193;go_wp2_with fail;refine Calls.mono HC.out ?_;rintro e w' ⟨rfl,rfl⟩;go_wp2_with fail;go_ret;simp
 ·have HC:Hid _:=A7 l g cap lo b w hrow LU Rz;clear hrow;unfold au at HC ⊢;go_enter func193,ntmps193;go_wp2_with fail;refine Calls.mono HC.out ?_;rintro e w' ⟨⟨i,rfl,hi⟩,rfl⟩;by_cases hm:b∈l
  ·rw[if_pos hm]at hi;go_wp2_with fail;go_ret;simp[hm]
  ·rw[if_neg hm]at hi;subst hi;go_wp2_with fail;go_ret;simp[hm]
theorem xg {f:Int→Value}(n:Int):∀l:List Int,(l.map λm=>(m,f m)).lookup n=if n∈l then some (f n)else none
 |[]=>rfl
 |m::l=>by
  rw[zan,zby];by_cases h:n=m
  ·subst h;simp
  ·have:(n==m)=false:=by rw[beq_eq_false_iff_ne];exact h
   rw[this,xg n l];simp[h]
theorem rH (E:Env)(aP:List Int)(n:Int):(uJ E aP).lookup n=if n∈aP then some (au (E.ea n))else none:=by
 unfold uJ;rw[xg (f:=λm=>au (E.ea m))];simp
theorem jP (w:World)(A B C:Obj):(((w.alloc A).alloc B).alloc C).heap[w.heap.size+1+1]?=some C:=by
 rw[show w.heap.size+1+1=((w.alloc A).alloc B).heap.size by simp];exact heap_alloc_new _ _
section
variable {R M g cap:Nat}{T:List Tok}{dp:Nat}
theorem Vf:Tn R M g cap T dp:=by
 intro t p a0 n0 c0 w E s r hr ha hd et;have mixed:prog.follows Departure.mixedOrders=true:=by kernel_rfl
 have hb0:Below w.heap.size w ((w.alloc (.cells #[.int .i64 t.kind,.int .i64 t.from_,.int .i64 t.cA,.string ⟨⟨t.text⟩⟩,.int .i64 t.n,.int .i64 t.d,.int .i64 t.fault] 131)).alloc (.cells #[.int .i64 p.depth,.bool p.passed,.slice a0 n0 c0] 128)):=((Below.refl _ w).alloc (zaa _) _).alloc (by simp) _;have hs0:((w.alloc (.cells #[.int .i64 t.kind,.int .i64 t.from_,.int .i64 t.cA,.string ⟨⟨t.text⟩⟩,.int .i64 t.n,.int .i64 t.d,.int .i64 t.fault] 131)).alloc (.cells #[.int .i64 p.depth,.bool p.passed,.slice a0 n0 c0] 128)).heap.size=w.heap.size+1+1:=by simp
 have rG:Hid (Kp R M w ((w.alloc (.cells #[.int .i64 t.kind,.int .i64 t.from_,.int .i64 t.cA,.string ⟨⟨t.text⟩⟩,.int .i64 t.n,.int .i64 t.d,.int .i64 t.fault] 131)).alloc (.cells #[.int .i64 p.depth,.bool p.passed,.slice a0 n0 c0] 128))):=Kp.ay hb0;have xV:=hr.below hb0;have qu:Hid _:=xV;have cE:=nU (w:=((w.alloc (.cells #[.int .i64 t.kind,.int .i64 t.from_,.int .i64 t.cA,.string ⟨⟨t.text⟩⟩,.int .i64 t.n,.int .i64 t.d,.int .i64 t.fault] 131)).alloc (.cells #[.int .i64 p.depth,.bool p.passed,.slice a0 n0 c0] 128)).drew) (M:=M) (l:=uJ E s.aP) xV.lm t.n;rw[rH]at cE;have LP:R<w.heap.size:=hr.lt;have n1:¬R=w.heap.size:=by omega
 have n2:¬R=w.heap.size+1:=by omega
 have n3:R<w.heap.size+1:=by omega
 obtain⟨⟨r0,r1,r2,r3⟩,-⟩:=gJ hr.blk;have F9:Hid _:=ha.below hb0;by_cases hp:p.passed=true
 ·have HE:Hid (r=.fail 5 t.from_):=et.trans (if_pos (.inl hp));rw[hp]at cE rG ⊢;clear et hr xV hb0 ha hs0 qu F9;unfold gA au aX;by_cases hl:t.n∈s.aP
  ·rw[if_pos hl,zaF]at cE;unfold au at cE;go_enter func161,ntmps161;go_wp2_with fail;go_region;go_wp2_with fail;go_region;go_wp2_with fail;go_ret2;rw[HE.out];refine⟨⟨w.heap.size+1+1,rfl,?_⟩,(Kp.trans rG.out (Kp.ay ((((Below.refl _ _).alloc (zaa _) _).drew).drew))).a none⟩;exact jP w _ _ _
  ·rw[if_neg hl,zbc]at cE;go_enter func161,ntmps161;go_wp2_with fail;go_region;go_wp2_with fail;go_region;go_wp2_with fail;go_ret2;rw[HE.out];refine⟨⟨w.heap.size+1+1,rfl,?_⟩,(Kp.trans rG.out (Kp.ay ((((Below.refl _ _).alloc (zaa _) _).drew).drew))).a none⟩;exact jP w _ _ _
 have BL:p.passed=false:=by simpa using hp
 rw[BL]at cE rG qu F9 hs0 ⊢;by_cases hl:t.n∈s.aP
 ·rw[if_pos hl,zaF]at cE;have hrow:(((w.alloc (.cells #[.int .i64 t.kind,.int .i64 t.from_,.int .i64 t.cA,.string ⟨⟨t.text⟩⟩,.int .i64 t.n,.int .i64 t.d,.int .i64 t.fault] 131)).alloc (.cells #[.int .i64 p.depth,.bool false,.slice a0 n0 c0] 128)).drew).ownsRow 0 212 1 (.slice a0 n0 c0) (p.ahead.map E.ea).length ((p.ahead.map E.ea).map au):=by
   rw[zbk,List.map_map];exact F9.out.1
  have HC:Hid _:=A8 (p.ahead.map E.ea) (.slice a0 n0 c0) 0 (E.ea t.n) _ hrow (qu.out.low _ hl) (λx hx=>by
   obtain⟨m,hm,rfl⟩:=zaP.1 hx;exact qu.out.low m (F9.out.2.2 m hm))
  have pX:E.ea t.n∈p.ahead.map E.ea↔t.n∈p.ahead:=by
   constructor
   ·intro h;obtain⟨m,hm,e⟩:=zaP.1 h;rw[←qu.out.inj m (F9.out.2.2 m hm) t.n hl e];exact hm
   ·exact λh=>zaP.2 ⟨_,h,rfl⟩
  by_cases PV:t.n∈p.ahead
  ·have HE:Hid (r=.fail 5 t.from_):=et.trans (if_pos (.inr (.inr PV)));rw[decide_eq_true (pX.2 PV)]at HC;clear et hr xV hb0 ha hs0 hrow pX;unfold au at cE HC;unfold gA au aX;go_enter func161,ntmps161;go_wp2_with fail;go_region;go_wp2_with fail;refine Calls.mono HC.out ?_;rintro e w' ⟨rfl,rfl⟩;go_wp2_with fail;go_region;go_wp2_with fail;go_ret2;rw[HE.out];refine⟨⟨w.heap.size+1+1,rfl,?_⟩,(Kp.trans rG.out (Kp.ay ((((Below.refl _ _).alloc (zaa _) _).drew).drew))).a none⟩;exact jP w _ _ _
  ·have HE:Hid (r=.ok (.ask t.n) s):=et.trans (if_neg (by simp[BL,hl,PV]));rw[decide_eq_false (λh=>PV (pX.1 h))]at HC;have HG:Hid (jD R M g cap T dp none w E s (.ok (.ask t.n) s) (.returned (.tuple #[.iface 212 (au (E.ea t.n)),.pointer none])) ((w.alloc (.cells #[.int .i64 t.kind,.int .i64 t.from_,.int .i64 t.cA,.string ⟨⟨t.text⟩⟩,.int .i64 t.n,.int .i64 t.d,.int .i64 t.fault] 131)).alloc (.cells #[.int .i64 p.depth,.bool false,.slice a0 n0 c0] 128)).drew):=
    ⟨_,E,rfl,⟨_,_,rfl⟩,by unfold ba;exact⟨hl,rfl⟩,Ext.refl rfl rfl,bE.below qu.out ((Below.refl _ _).drew),(Kp.trans rG.out (Kp.ay ((Below.refl _ _).drew))).a none⟩
   clear et hr xV hb0 ha hs0 hrow pX;unfold au at cE HC;unfold gA au aX;go_enter func161,ntmps161;go_wp2_with fail;go_region;go_wp2_with fail;refine Calls.mono HC.out ?_;rintro e w' ⟨rfl,rfl⟩;go_wp2_with fail;go_ret2;rw[HE.out];exact HG.out
 ·have HE:Hid (r=.fail 5 t.from_):=et.trans (if_pos (.inr (.inl hl)));rw[if_neg hl,zbc]at cE;clear et hr xV hb0 ha hs0 qu F9;unfold gA au aX
  ·go_enter func161,ntmps161;go_wp2_with fail;go_region;go_wp2_with fail;go_region;go_wp2_with fail;go_ret2;rw[HE.out];refine⟨⟨w.heap.size+1+1,rfl,?_⟩,(Kp.trans rG.out (Kp.ay ((((Below.refl _ _).alloc (zaa _) _).drew).drew))).a none⟩;exact jP w _ _ _
end
section
variable {R M g cap:Nat}{T:List Tok}{dp:Nat}
theorem Ks (n:Nat)(t:Tok)(p:Pl)(a0:Option Addr)(n0 c0:Nat)(w:World)(E:Env)(s:gW)(r:RR Dt)(hr:bE w R M g cap T dp E s)(et:r=if p.passed∨t.n∈s.aP then .fail 5 t.from_
 else if p.depth=dp then .fail 6 t.from_
 else(aV T dp n ⟨p.depth+1,p.passed,p.ahead++[t.n]⟩ { s with aP:=t.n::s.aP }).bind λd s=> .ok (.put t.n d) s)(yF:p.passed=true∨t.n∈s.aP∨p.depth=dp):
 Calls prog 160 #[au R,aX t,gA p.depth p.passed (.slice a0 n0 c0)] w λe w'=>jD R M g cap T dp (Value.slice a0 n0 c0).ownBlock w E s r e w':=by
 have mixed:prog.follows Departure.mixedOrders=true:=by kernel_rfl
 have hb0:Below w.heap.size w ((w.alloc (.cells #[.int .i64 t.kind,.int .i64 t.from_,.int .i64 t.cA,.string ⟨⟨t.text⟩⟩,.int .i64 t.n,.int .i64 t.d,.int .i64 t.fault] 131)).alloc (.cells #[.int .i64 p.depth,.bool p.passed,.slice a0 n0 c0] 128)):=((Below.refl _ w).alloc (zaa _) _).alloc (by simp) _;have hs0:((w.alloc (.cells #[.int .i64 t.kind,.int .i64 t.from_,.int .i64 t.cA,.string ⟨⟨t.text⟩⟩,.int .i64 t.n,.int .i64 t.d,.int .i64 t.fault] 131)).alloc (.cells #[.int .i64 p.depth,.bool p.passed,.slice a0 n0 c0] 128)).heap.size=w.heap.size+1+1:=by simp
 have rG:Hid (Kp R M w ((w.alloc (.cells #[.int .i64 t.kind,.int .i64 t.from_,.int .i64 t.cA,.string ⟨⟨t.text⟩⟩,.int .i64 t.n,.int .i64 t.d,.int .i64 t.fault] 131)).alloc (.cells #[.int .i64 p.depth,.bool p.passed,.slice a0 n0 c0] 128))):=Kp.ay hb0;have xV:=hr.below hb0;have qu:Hid _:=xV;have cE:=nU (w:=((w.alloc (.cells #[.int .i64 t.kind,.int .i64 t.from_,.int .i64 t.cA,.string ⟨⟨t.text⟩⟩,.int .i64 t.n,.int .i64 t.d,.int .i64 t.fault] 131)).alloc (.cells #[.int .i64 p.depth,.bool p.passed,.slice a0 n0 c0] 128)).drew) (M:=M) (l:=uJ E s.aP) xV.lm t.n;rw[rH]at cE;have LP:R<w.heap.size:=hr.lt;have n1:¬R=w.heap.size:=by omega
 have n2:¬R=w.heap.size+1:=by omega
 have n3:R<w.heap.size+1:=by omega
 obtain⟨⟨r0,r1,r2,r3⟩,-⟩:=gJ hr.blk;by_cases hp:p.passed=true
 ·have HE:Hid (r=.fail 5 t.from_):=et.trans (if_pos (.inl hp));rw[hp]at cE rG ⊢;clear et hr xV hb0 hs0 qu cE;unfold gA au aX
  ·go_enter func160,ntmps160;go_wp2_with fail;go_region;go_wp2_with fail;go_region;go_wp2_with fail;go_ret2;rw[HE.out];refine⟨⟨w.heap.size+1+1,rfl,?_⟩,(Kp.trans rG.out (Kp.ay ((((Below.refl _ _).alloc (zaa _) _).drew).drew))).a _⟩;exact jP w _ _ _
 have BL:p.passed=false:=by simpa using hp
 rw[BL]at cE rG qu hs0 ⊢;by_cases hl:t.n∈s.aP
 ·rw[if_pos hl,zaF]at cE;have HE:Hid (r=.fail 5 t.from_):=et.trans (if_pos (.inr hl));clear et hr xV hb0 hs0 qu;unfold au at cE;unfold gA au aX
  ·go_enter func160,ntmps160;go_wp2_with fail;go_region;go_wp2_with fail;go_region;go_wp2_with fail;go_ret2;rw[HE.out];refine⟨⟨w.heap.size+1+1,rfl,?_⟩,(Kp.trans rG.out (Kp.ay ((((Below.refl _ _).alloc (zaa _) _).drew).drew))).a _⟩;exact jP w _ _ _
 rw[if_neg hl,zbc]at cE;replace et:=et.trans (if_neg (by simp[BL,hl]));have hc0:(((w.alloc (.cells #[.int .i64 t.kind,.int .i64 t.from_,.int .i64 t.cA,.string ⟨⟨t.text⟩⟩,.int .i64 t.n,.int .i64 t.d,.int .i64 t.fault] 131)).alloc (.cells #[.int .i64 p.depth,.bool false,.slice a0 n0 c0] 128)).drew).cell? ⟨R,2,none⟩=some (.int .i64 dp):=(gJ qu.out.blk).1.2.2.1;by_cases hdd:p.depth=dp
 ·have HE:Hid (r=.fail 6 t.from_):=et.trans (if_pos hdd);have HC:Hid _:=uh R dp t p.depth false a0 n0 c0 (((w.alloc (.cells #[.int .i64 t.kind,.int .i64 t.from_,.int .i64 t.cA,.string ⟨⟨t.text⟩⟩,.int .i64 t.n,.int .i64 t.d,.int .i64 t.fault] 131)).alloc (.cells #[.int .i64 p.depth,.bool false,.slice a0 n0 c0] 128)).drew) hc0 (by simp;omega) hdd;clear et hr xV hb0 hs0 qu hc0 hdd;unfold gA au aX at HC ⊢;go_enter func160,ntmps160;go_wp2_with fail;go_region;go_wp2_with fail;refine Calls.mono HC.out ?_;rintro e w1 ⟨b,rfl,hf,hb1⟩;have HF:Hid _:=hf;have xW:Hid _:=Kp.trans (Kp.trans rG.out (Kp.ay ((Below.refl _ _).drew))) (Kp.ay hb1);clear hf hb1 HC;go_wp2_with fail;go_ret2;rw[HE.out];exact⟨⟨b,rfl,cy.alloc HF.out _⟩,(Kp.trans xW.out (Kp.ay ((Below.refl _ _).alloc (zaa _) _))).a _⟩
 ·exact absurd (yF.resolve_left hp) (by simp[hl,hdd])
end
end Go.Proofs.YtlhimdjkkiflhaaGreatDoor
namespace Go.Proofs.YtlhimdjkkiflhaaGreatDoor
open Go.RowKit Go.Loop
def Env.label (E:Env)(n:Int)(b:Nat):Env:=⟨E.α,λm=>if m=n then b else E.ea m⟩
theorem nW (E:Env)(n:Int)(b k:Nat){aP:List Int}(hn:¬n∈aP):E.agree (E.label n b) k aP:=
 ⟨λ_ _=>rfl,λm hm=>if_neg λe=>hn (by rw[←e];exact hm)⟩
theorem Kt (E:Env)(n:Int)(b:Nat){aP:List Int}(hn:¬n∈aP):uJ (E.label n b) (n::aP)=uJ E aP++[(n,au b)]:=by
 unfold uJ;rw[List.reverse_cons,zbu]
 congr 1
 ·exact List.map_congr_left λm hm=>by rw[(nW E n b 0 hn).2 m (List.mem_reverse.1 hm)]
 ·simp[Env.label]
theorem bE.label {w:World}{R M g cap:Nat}{T:List Tok}{dp:Nat}{E:Env}{s:gW}(h:bE w R M g cap T dp E s){n:Int}{b:Nat}{o:Obj}(hn:¬n∈s.aP)(hb:∃v,w.heap[b]?=some (.cells #[v] 215))(B6:∀m∈s.aP,E.ea m≠b)
 (hm:jg { w with heap:=w.heap.setIfInBounds M o } M ((uJ E s.aP++[(n,au b)]).map λp=>(Value.int .i64 p.1,p.2))):
 bE { w with heap:=w.heap.setIfInBounds M o } R M g cap T dp (E.label n b) { s with aP:=n::s.aP }:=by
 have ho:∀c,c≠M→(w.heap.setIfInBounds M o)[c]?=w.heap[c]?:=λc hc=>by rw[zak (λe=>hc e.symm)]
 have hlM:∀(c:Nat) (v:Value),w.heap[c]?=some (.cells #[v] 215)→c≠M:=λc v hc e=>by
  obtain⟨es,cl,q,_⟩:=h.lm;rw[e,q]at hc;cases hc
 refine⟨h.rm,h.gr,h.gm,(ho R h.rm).trans h.blk,?_,?_,λm PQ=>?_,λm h1 k h2 e=>?_,h.small,h.deep⟩
 ·refine⟨h.row.1,h.row.2.imp id ?_⟩;rintro ⟨c,cp,cur,h1,h2,h3,h4⟩;have:c=g:=by cases h1;rfl
  exact⟨c,cp,cur,h1,h2,(ho c (by rw[this];exact h.gm)).trans h3,h4⟩
 ·show jg _ M ((uJ (E.label n b) (n::s.aP)).map _);rw[Kt E n b hn];exact hm
 ·show ∃v,(w.heap.setIfInBounds M o)[if m=n then b else E.ea m]?=_;by_cases e:m=n
  ·rw[if_pos e];obtain⟨v,hv⟩:=hb;exact⟨v,(ho b (hlM b v hv)).trans hv⟩
  ·rw[if_neg e];have LH:m∈s.aP:=(zao.1 PQ).resolve_left e;obtain⟨v,hv⟩:=h.low m LH;exact⟨v,(ho _ (hlM _ v hv)).trans hv⟩
 ·have e':(if m=n then b else E.ea m)=(if k=n then b else E.ea k):=e;by_cases e1:m=n<;>by_cases e2:k=n
  ·rw[e1,e2]
  ·rw[if_pos e1,if_neg e2]at e';exact absurd e'.symm (B6 k ((zao.1 h2).resolve_left e2))
  ·rw[if_neg e1,if_pos e2]at e';exact absurd e' (B6 m ((zao.1 h1).resolve_left e1))
  ·rw[if_neg e1,if_neg e2]at e';exact h.inj m ((zao.1 h1).resolve_left e1) k ((zao.1 h2).resolve_left e2) e'
end Go.Proofs.YtlhimdjkkiflhaaGreatDoor
namespace Go.Proofs.YtlhimdjkkiflhaaGreatDoor
open Go.Proofs.Tryz
open Go.RowKit Go.Loop
theorem Ku:prog.underlying 126=some (.slice 212):=by kernel_rfl
theorem rI {w:World}{v:Value}{n:Nat}{xs:List Value}(h:w.ownsRow 0 212 1 v n xs)(b:Nat)(o:Obj)(hb:w.heap[b]?=some o)(ho:∀cur,o≠.cells cur 212):some b≠v.ownBlock:=by
 intro e;rcases h.2 with⟨rfl,_⟩|⟨g,cap,cur,rfl,_,hg,_⟩
 ·cases e
 ·have:b=g:=by cases e;rfl
  rw[this,hg]at hb;exact ho cur (by cases hb;rfl)
section
variable {R M g cap:Nat}{T:List Tok}{dp:Nat}{E:Env}{s:gW}
theorem bE.tokens {w:World}(h:bE w R M g cap T dp E s):∃cur,w.heap[g]?=some (.cells cur 131):=by
 rcases h.row.2 with⟨e,_⟩|⟨b,cp,cur,h1,_,h3,_⟩
 ·cases e
 ·have:b=g:=by cases h1;rfl
  exact⟨cur,by rw[←this];exact h3⟩
theorem Kv {w3 w4:World}{v:Value}{n:Nat}{xs:List Value}{A:Obj}(hr:bE w3 R M g cap T dp E s)(ho:w3.ownsRow 0 212 1 v n xs)(hg:(w3.alloc A).grownBy w4 v.ownBlock):bE w4 R M g cap T dp E s∧js R M v.ownBlock w3 w4∧(∀b,b<w3.heap.size→some b≠v.ownBlock→w4.heap[b]?=w3.heap[b]?)∧w3.heap.size+1≤w4.heap.size:=by
 have hs:(w3.alloc A).heap.size=w3.heap.size+1:=by simp
 have hb:∀b,b<w3.heap.size→some b≠v.ownBlock→w4.heap[b]?=w3.heap[b]?:=λb h h'=>(hg.block b (by omega) h').trans (Lib.alloc_old _ _ _ h);have hz:=hg.size;refine⟨?_,⟨hg.os,hg.tape,hg.output,by omega,λb b1 _ _ b4=>hb b b1 b4⟩,hb,by omega⟩;obtain⟨es,c,hm,-⟩:=hr.lm;obtain⟨cur,PG⟩:=hr.tokens;have q1:=rI ho R _ hr.blk (λcur e=>by simp at e);have q2:=rI ho g _ PG (λcur e=>by simp at e);have q3:=rI ho M _ hm (λcur e=>by simp at e);exact bE.step hr (k:=s.k) ((hb R hr.lt q1).trans hr.blk) (by omega) (λb b1 b2=>hb b b1 (b2.elim (λe=>by rw[e];exact q2) λe=>by rw[e];exact q3)) λb x hv=>hb b (zac.1 hv).1 (rI ho b _ hv (λcur e=>by simp at e))
theorem bE.place {w:World}(h:bE w R M g cap T dp E s){b:Nat}{cs:Array Value}(hb:w.heap[b]?=some (.cells cs 128))(i:Nat)(v:Value):bE (w.setCell ⟨b,i,none⟩ v) R M g cap T dp E s:=by
 have ho:∀c,c≠b→(w.setCell ⟨b,i,none⟩ v).heap[c]?=w.heap[c]?:=λc hc=>Below.heap_setCell _ _ _ _ hc;obtain⟨es,c,hm,-⟩:=h.lm;obtain⟨cur,PG⟩:=h.tokens;have q1:R≠b:=λe=>by rw[←e,h.blk]at hb;simp at hb
 have q2:g≠b:=λe=>by rw[←e,PG]at hb;simp at hb
 have q3:M≠b:=λe=>by rw[←e,hm]at hb;simp at hb
 exact bE.step h (k:=s.k) ((ho R q1).trans h.blk) (by simp) (λc _ c2=>ho c (c2.elim (λe=>by rw[e];exact q2) λe=>by rw[e];exact q3)) λc x hv=>ho c (λe=>by rw[e,hb]at hv;simp at hv)
theorem iJ.more {w:World}{l:List Int}{v':Value}{n:Int}{L0 b:Nat}{cs:Array Value}(h:w.ownsRow 0 212 1 v' (l.length+1) (l.map (λm=>au ((E.label n L0).ea m))++[au L0]))(hb:w.heap[b]?=some (.cells cs 128))(hl:∀m∈l,m∈s.aP)(x:Value):iJ (w.setCell ⟨b,2,none⟩ x) (E.label n L0) { s with aP:=n::s.aP } (l++[n]) v':=by
 refine⟨?_,?_,λm hm=>?_⟩
 ·have e:((l++[n]).map λm=>au ((E.label n L0).ea m))=l.map (λm=>au ((E.label n L0).ea m))++[au L0]:=by
   rw[zbu]
   congr 1
   simp[Env.label]
  rw[e,zaL];refine⟨h.1,h.2.imp id ?_⟩;rintro ⟨c,cp,cur,h1,h2,h3,h4⟩;exact⟨c,cp,cur,h1,h2,(Below.heap_setCell _ _ _ _ (λe=>by rw[e,hb]at h3;simp at h3)).trans h3,h4⟩
 ·obtain⟨a,c,e⟩:=bh h;exact⟨a,_,c,e⟩
 ·rcases zaM.1 hm with h1|h1
  ·exact zas _ (hl m h1)
  ·simp at h1;subst h1;exact zap
theorem js.put {A B:Option Nat}{w w5 w6:World}(h:js R M A w w5)(k:js R M B w5 w6)(hv:B=A∨∃k,B=some k∧w.heap.size≤k):js R M A w w6:=by
 have h1:=h.size;have h2:=k.size;refine⟨k.os.trans h.os,k.tape.trans h.tape,k.output.trans h.output,by omega,λb b1 b2 b3 b4=>(k.block b (by omega) b2 b3 λe=>?_).trans (h.block b b1 b2 b3 b4)⟩;rcases hv with hv|⟨c,hc,hlt⟩
 ·exact b4 (e.trans hv)
 ·rw[hc]at e;cases e;omega
theorem js.above {A:Option Nat}{w w':World}(h:js R M A w w'){b:Nat}(hb:w.heap.size≤b)(i:Nat)(v:Value):js R M A w (w'.setCell ⟨b,i,none⟩ v):=
 ⟨h.os,h.tape,h.output,by have:=h.size;simpa using this,λc c1 c2 c3 c4=>(Below.heap_setCell _ _ _ _ (show c≠b by omega)).trans (h.block c c1 c2 c3 c4)⟩
theorem RA {w w5 w6:World}{A:Option Nat}{v' x v:Value}{E2:Env}{s2:gW}{n:Int}{d:Dt}{L0 m:Nat}{xs:List Value}(hk:js R M A w w5)(hL:w.heap.size≤L0)(nP:w5.heap[L0]?=some (.cells #[x] 215))
 (ho:w5.ownsRow 0 212 1 v' m xs)(hv:v'.ownBlock=A∨∃k,v'.ownBlock=some k∧w.heap.size≤k)(PH:bE w5 R M g cap T dp (E.label n L0) { s with aP:=n::s.aP })(hn:¬n∈s.aP)
 (hi:∃t y,v=.iface t y)(bW:ba w5.heap.size s2.fresh s2.aP w6 E2 d v)(hx:Ext w5 w6 (E.label n L0) E2 { s with aP:=n::s.aP } s2)(yq:bE w6 R M g cap T dp E2 s2)(LR:js R M v'.ownBlock w5 w6):
 w6.heap[L0]?=some (.cells #[x] 215)∧jD R M g cap T dp A w E s (.ok (.put n d) s2) (.returned (.tuple #[v,.pointer none])) (w6.setCell ⟨L0,0,none⟩ v):=by
 have hL5:L0<w5.heap.size:=(zac.1 nP).1;have hs5:=hk.size;have hs6:=LR.size;obtain⟨es,c,hm,-⟩:=PH.lm;have q1:L0≠R:=λe=>by rw[e,PH.blk]at nP;simp at nP
 have q3:L0≠M:=λe=>by rw[e,hm]at nP;simp at nP
 have mZ:w6.heap[L0]?=some (.cells #[x] 215):=(LR.block L0 hL5 q1 q3 (rI ho L0 _ nP (λcur e=>by simp at e))).trans nP;obtain⟨cur,PG⟩:=yq.tokens;have q2:g≠L0:=λe=>by rw[e,mZ]at PG;simp at PG
 have hl0:(w6.setCell ⟨L0,0,none⟩ v).heap[L0]?=some (.cells #[v] 215):=dN mZ 0 v;have Zt:∀c,c≠L0→(w6.setCell ⟨L0,0,none⟩ v).heap[c]?=w6.heap[c]?:=λc hc=>Below.heap_setCell _ _ _ _ hc;have F6:E2.ea n=L0:=(hx.agree.2 n zap).trans (if_pos rfl);refine⟨mZ,v,E2,rfl,hi,?_,?_,?_,(hk.put LR hv).above hL 0 v⟩
 ·unfold ba;rw[F6];exact⟨hx.aP n zap,hL,hl0,ba.keep hs5 (zaa _) (λ_ h=>h) (λb b1 _=>Zt b (by omega)) ⟨λ_ _=>rfl,λ_ _=>rfl⟩ d v bW⟩
 ·have ag:=nW E n L0 s.fresh hn;refine⟨⟨λi hi=>(hx.agree.1 i hi).trans (ag.1 i hi),λm hm=>(hx.agree.2 m (zas _ hm)).trans (ag.2 m hm)⟩,hx.fresh,λm hm=>hx.aP m (zas _ hm),λi i1 i2=>?_,hx.inj⟩;have:=hx.new i i1 i2;rw[show(w6.setCell ⟨L0,0,none⟩ v).heap.size=w6.heap.size by simp];omega
 ·refine⟨yq.rm,yq.gr,yq.gm,(Zt R q1.symm).trans yq.blk,?_,?_,λm hm=>?_,yq.inj,yq.small,yq.deep⟩
  ·refine⟨yq.row.1,yq.row.2.imp id ?_⟩;rintro ⟨b,cp,cur,h1,h2,h3,h4⟩;have:b=g:=by cases h1;rfl
   exact⟨b,cp,cur,h1,h2,(Zt b (by rw[this];exact q2)).trans h3,h4⟩
  ·obtain⟨es,c,h1,h2⟩:=yq.lm;exact⟨es,c,(Zt M q3.symm).trans h1,h2⟩
  ·obtain⟨y,hy⟩:=yq.low m hm;by_cases e:E2.ea m=L0
   ·rw[e];exact⟨v,hl0⟩
   ·exact⟨y,(Zt _ e).trans hy⟩
end
section
variable {P:Program}
theorem uL (w:World)(base:Nat)(t ty e:TypeId)(i:TypeInfo)(z:Value)(sz y:Nat)(ht:P.underlying t=some (.slice e))(hi:P.info? e=some i)(hz:i.zero=some z)
 (hsize:i.size=sz)(hby:i.bytes=y)(hsz:0<sz)(hy:y≤100)(hzs:z.cells.size=sz)
 (v:Value)(n:Nat)(xs:List Value)(hown:w.ownsRow base e sz v n xs)
 (a:Addr)(m c:Nat)(news:List Value)(hm:m≠0)(hl:news.length=m*sz)(hnews:∀j u,news[j]?=some u→w.cell? (a.add j)=some u)(h1:∀u∈news,u.oneCell'=true)
 (hlen:n+m≤1000000)(hbase:base≤w.heap.size):
 ∃v' w',(Builtin.append_ #[t,t] ty #[v,.slice (some a) m c]).run P w=.ok v' w'∧w'.ownsRow base e sz v' (n+m) (xs++news)∧w.grownBy w' v.ownBlock∧
  (v'.ownBlock=v.ownBlock∨∃k,v'.ownBlock=some k∧w.heap.size≤k):=by
 have h63:n+m≤maxLen:=by unfold maxLen;omega
 have hbytes:(n+m)*y≤140737488355328:=zad (Nat.mul_le_mul hlen hy) (by decide);obtain⟨v',w',hr,h2,h3,h4⟩:=run_append_own (P:=P) w base t ty e i z sz y ht hi hz hsize hby hzs hsz v n xs hown a m c news hl hnews h1 h63 hbytes hbase;refine⟨v',w',hr,h2,h3,?_⟩;have FW:n+m≤9223372036854775807:=by omega
 rcases hown.2 with⟨rfl,rfl⟩|⟨g,cap,cur,rfl,hbg,hg,hnc,hcm,hcs,CZ⟩
 ·have nE:=run_append_nil (P:=P) w t ty e i z ht hi hz a m c news (by rw[hsize];exact hl) hnews (by omega) (by omega) (by rw[hby];first|exact growslice_fits (by omega) (by simpa using hbytes)|exact zad (Nat.mul_le_mul (show m≤1000000 by omega) hy) (by decide));rw[nE]at hr;injection hr with a b;rw[←a];exact Or.inr ⟨_,rfl,zaa _⟩
 ·by_cases hroom:n+m≤cap
  ·have nE:=run_append_room (P:=P) w t ty e i ht hi g n cap cur hg a m c news (by rw[hsize];exact hl) hnews h1 hroom (by rw[hsize,hcs,hl,←Nat.add_mul];exact Nat.mul_le_mul hroom (zaa _));rw[nE]at hr;injection hr with a b;rw[←a];exact Or.inl rfl
  ·have holds:∀j u,xs[j]?=some u→w.cell? ((⟨g,0,none⟩:Addr).add j)=some u:=hown.cells (g:=g) rfl;have nE:=run_append_grow (P:=P) w t ty e i z ht hi hz ⟨g,0,none⟩ n cap xs (by rw[hsize];exact hown.1) holds a m c news (by rw[hsize];exact hl) hnews (by omega) (by omega) (by rw[hby];exact growslice_fits (by omega) hbytes);rw[nE]at hr;injection hr with a b;rw[←a];exact Or.inr ⟨_,rfl,zaa _⟩
theorem tq {ops:Array Oper}{o:Oper}{a:Act}{w:World}{K:Act→World→Prop}{Q:Exit→Act→World→Prop}{X:Prop}
 (hg:o.guard=none)(s x:Operand)(t:TypeId)(hop:o.op=Op.call { callee:=Callee.builtin Builtin.append,args:=#[s,x],argTypes:=#[t,t] })
 (base:Nat)(e:TypeId)(i:TypeInfo)(z:Value)(sz y:Nat)(ht:P.underlying t=some (.slice e))(hi:P.info? e=some i)(hz:i.zero=some z)
 (hsize:i.size=sz)(hby:i.bytes=y)(hsz:0<sz)(hy:y≤100)(hzs:z.cells.size=sz)
 (v:Value)(n:Nat)(xs:List Value)(hs:a.eval s=v)(hown:w.ownsRow base e sz v n xs)
 (ad:Addr)(m c:Nat)(news:List Value)(hx:a.eval x=.slice (some ad) m c)(hm:m≠0)(hl:news.length=m*sz)(hnews:∀j u,news[j]?=some u→w.cell? (ad.add j)=some u)(h1:∀u∈news,u.oneCell'=true)
 (hlen:n+m≤1000000)(hbase:base≤w.heap.size)
 (hK:∀v' w',w'.ownsRow base e sz v' (n+m) (xs++news)→w.grownBy w' v.ownBlock→(v'.ownBlock=v.ownBlock∨∃k,v'.ownBlock=some k∧w.heap.size≤k)→K (a.put o.dst v') w'):
 if Region.wanted o (yielded ops a.tmps)=true then Oper.wp P o a w K Q else X:=by
 have hw:Region.wanted o (yielded ops a.tmps)=true:=by simp[Region.wanted,hg]
 rw[if_pos hw];obtain⟨v',w',hr,h2,h3,h4⟩:=uL (P:=P) w base t o.type e i z sz y ht hi hz hsize hby hsz hy hzs v n xs hown ad m c news hm hl hnews h1 hlen hbase;unfold Oper.wp;simp only[execOp,hop,resolve,invoke,builtin,Sem.run_bind,Sem.run_pure,Result.andThen_ok,zaZ,zan,zaO,hs,hx,hr];exact hK v' w' h2 h3 h4
end
theorem Kw:(prog.info? 45).map (λi=>(i.zero,i.size,i.bytes))=some (some (.agg #[.int .i64 0,.string ⟨#[]⟩,.int .i64 0,.int .i64 0,.slice none 0 0]),5,64):=by kernel_rfl
theorem Ga:prog.underlying 28=some (.slice 45):=by kernel_rfl
def qw (x:ng)(sv:Value):List Value:=[.int .i64 x.kind,.string ⟨⟨x.text⟩⟩,.int .i64 x.n,.int .i64 x.d,sv]
def uM:List ng→List Value→List Value
 |x::l,sv::bu=>qw x sv++uM l bu
 |_,_=>[]
def Tq (w:World)(base:Nat)(sv:Value)(l:List Nat):Prop:=
 (sv=.slice none 0 0∧l=[])∨∃b,sv=.slice (some ⟨b,0,none⟩) l.length l.length∧base≤b∧w.heap[b]?=some (.cells (l.map λk:Nat=>Value.int .i64 (k:Int)).toArray 3)
structure dI (w0 w:World) (G M:Nat) (κ:Nat→HK) (E:Env) (g:mU) (bu:List Value) (nv:Value):Prop where
 gm:G≠M
 Xk:w0.heap.size≤G
 Xl:w0.heap.size≤M
 low:Below w0.heap.size w0 w
 blk:w.heap[G]?=some (.cells #[nv,.map (some M)] 100)
 row:w.ownsRow w0.heap.size 45 5 nv g.nodes.length (uM g.nodes bu)
 map:jg w M (C4 κ E g.met)
 len:bu.length=g.nodes.length
 subs:∀(j:Nat) x sv,g.nodes[j]?=some x→bu[j]?=some sv→Tq w w0.heap.size sv x.subs
theorem De:∀(l:List ng) (bu:List Value) (x:ng) (sv:Value),bu.length=l.length→uM (l++[x]) (bu++[sv])=uM l bu++qw x sv
 |[],[],x,sv,_=>by simp[uM]
 |[],_::_,_,_,h=>by simp at h
 |_::_,[],_,_,h=>by simp at h
 |y::l,s::bu,x,sv,h=>by
  have:=De l bu x sv (by simpa using h);simp only[zay,uM,this,List.append_assoc]
end Go.Proofs.YtlhimdjkkiflhaaGreatDoor
