import Derived.OwnWalk
import Derived.Test.YtlhimdjkkiflhaaGreatDoorMade08
set_option maxHeartbeats 8000000
set_option maxRecDepth 100000
open Go.Value renaming int→Γ
open Go.IntKind renaming i64→Δ
open Go renaming World→Θ,Value→Λ
open Go.Departure renaming mixedOrders→Ξ
namespace Go.Proofs.YtlhimdjkkiflhaaGreatDoor
open Go.Proofs.Tryz
open Go.RowKit Go.Loop
def bM:Code→Code
 |.seq _ y=>y
 |c=>c
section
variable {R M g cap:Nat}{T:List Tok}{dp:Nat}
theorem P8 {n:Nat}(ih:IH R M g cap T dp n)(t:Tok)(p:Pl)(a0:Option Addr)(n0 c0:Nat)(w w1 w3:Θ)(E:Env)(s:eD)(r:RR Dt)(wN:p.passed=false)(hl:¬t.n∈s.ak)(hd:p.depth+1≤dp∧p.ahead.length≤p.depth)(qz:dp≤30)(PW:w.heap.size+1+1≤w1.heap.size)
 (hs3:w3.heap.size=w1.heap.size+2)(HE:Hid (r=(ay T dp n ⟨p.depth+1,p.passed,p.ahead++[t.n]⟩ { s with ak:=t.n::s.ak }).bind λd s=> .ok (.put t.n d) s))(HO:Hid (r≠.out))(BL:∀k,(Λ.slice a0 n0 c0).ownBlock=some k→k<w.heap.size)(HlA:Hid (∀m∈p.ahead,m∈s.ak))
 (P3:Hid (bS w3 R M g cap T dp (E.label t.n (w1.heap.size+1)) { s with ak:=t.n::s.ak }))(HL3:Hid (w3.heap[w1.heap.size+1]?=some (.cells #[.nilIface] 215)))(Ml:Hid (w3.heap[w1.heap.size]?=some (.cells #[Γ Δ ((p.depth:Int)+1),.bool false,.slice none 0 0] 128)))
 (P0:Hid (w3.heap[w.heap.size+1]?=some (gW p.depth false a0 n0 c0)))(ku:Hid (w3.ownsRow 0 212 1 (.slice a0 n0 c0) p.ahead.length (p.ahead.map λm=>aC ((E.label t.n (w1.heap.size+1)).cE m))))(nZ:Hid (Kp R M w w3))
 (x1 x2 x3 x4 x6 x7 x9 x11 x12 x13 x14 x15 x16 x17 x18 x19 x20 x21 x22 x23 x24 x25 x26 x27 x28 x29 x30 x31 x32 x33 x34 x35 x36 x37 x38 x39 x40 x41 x42 x43 x44 x45 x46 x47 x48 x49 x50 x51 x52 x53 x54 x55 x56 x57 x58 x59 x60 x61 x62 x63 x64 x65 x66:Λ):
 (bM (bM (bM (bM (bM (bM (f160.body.getD .skip))))))).wp prog (bodyPost prog f160 λe w'=>jP R M g cap T dp (Λ.slice a0 n0 c0).ownBlock w E s r e w') ⟨#[.pointer (some ⟨R,0,none⟩),x1,x2,x3,x4,.pointer (some ⟨w.heap.size+1,0,none⟩),x6,x7,.pointer (some ⟨w1.heap.size,0,none⟩),x9,.pointer (some ⟨w1.heap.size+1,0,none⟩),x11,x12,x13,x14,x15,x16,x17,x18,x19,x20,x21,x22,x23,x24,x25,x26,x27,x28,x29,x30,x31,x32,x33,x34,x35,x36,x37,x38,x39,x40,x41,x42,x43,x44,x45,x46,x47,x48,x49,x50,x51,x52,x53,x54,x55,x56,x57,x58,x59,x60,x61,x62,x63,x64,x65,x66],[]⟩ w3:=by
 have mixed:prog.follows Ξ=true:=by kernel_rfl
 obtain⟨q0,q1,q2⟩:=fG P0.out;obtain⟨z0,z1,z2⟩:=fG Ml.out;have hf3:w3.frozen? ⟨w1.heap.size,2,none⟩=false:=by simp[Θ.frozen?,Ml.out]
 obtain⟨i0,hi,hz0,hz1,hz2⟩:=info_parts Mm;have hlen:p.ahead.length+1≤1000000:=by omega
 have yM:Hid _:=ih;have SV:Hid _:=hs3;clear ih hs3;dsimp only[f160,bM,Option.getD];go_wp2_with (at_builtin;(refine fH rfl _ _ 126 rfl 0 212 i0 (.pointer none) 8 Mu hi hz0 hz1 hz2 (by decide) rfl (.slice a0 n0 c0) p.ahead.length (p.ahead.map λm=>aC ((E.label t.n (w1.heap.size+1)).cE m)) rfl (zcI ku.out _) ⟨w3.heap.size,0,none⟩ 1 1 [aC (w1.heap.size+1)] rfl (by decide) rfl ?c1 ?c2 ?c3 ?c4 ?_))
 case c1=>
  intro j u hj
  match j,hj with
  |0,hj=>simp at hj;subst hj;simp[Addr.add,aC]
 case c2=>intro u hu;simp at hu;subst hu;rfl
 case c3=>exact hlen
 case c4=>exact zaq _
 intro v' w4 hown' hgrow kT;have hs3:=SV.out;obtain⟨hr4,hk4,hb4,NB⟩:=Mv P3.out ku.out hgrow
 skip
 have Pk:=(hb4 w1.heap.size (by omega) (λe=>by have:=BL _ e.symm;omega)).trans Ml.out;have hL4:=(hb4 (w1.heap.size+1) (by omega) (λe=>by have:=BL _ e.symm;omega)).trans HL3.out;obtain⟨a1,c1,rfl⟩:=bD hown';have Xc:Hid (bS (w4.setCell ⟨w1.heap.size,2,none⟩ (.slice a1 (p.ahead.length+1) c1)) R M g cap T dp (E.label t.n (w1.heap.size+1)) { s with ak:=t.n::s.ak }):=bS.place hr4 Pk 2 _;have HA5:Hid (jd (w4.setCell ⟨w1.heap.size,2,none⟩ (.slice a1 (p.ahead.length+1) c1)) (E.label t.n (w1.heap.size+1)) { s with ak:=t.n::s.ak } (p.ahead++[t.n]) (.slice a1 (p.ahead.length+1) c1)):=jd.more hown' Pk HlA.out _;have hL5:(w4.setCell ⟨w1.heap.size,2,none⟩ (.slice a1 (p.ahead.length+1) c1)).heap[w1.heap.size+1]?=some (.cells #[.nilIface] 215):=(zax _ _ _ _ (by show w1.heap.size+1≠w1.heap.size;omega)).trans hL4;have hP5:(w4.setCell ⟨w1.heap.size,2,none⟩ (.slice a1 (p.ahead.length+1) c1)).heap[w1.heap.size]?=some (.cells #[Γ Δ ((p.depth:Int)+1),.bool false,.slice a1 (p.ahead.length+1) c1] 128):=eE Pk 2 _;have G2:Hid (jO R M (Λ.slice a0 n0 c0).ownBlock w (w4.setCell ⟨w1.heap.size,2,none⟩ (.slice a1 (p.ahead.length+1) c1))):=by
  exact jO.above (((nZ.out).a _).trans hk4) (by omega) 2 _
 have hv5:(Λ.slice a1 (p.ahead.length+1) c1).ownBlock=(Λ.slice a0 n0 c0).ownBlock∨∃k,(Λ.slice a1 (p.ahead.length+1) c1).ownBlock=some k∧w.heap.size≤k:=kT.imp id λ⟨k,k1,k2⟩=>⟨k,k1,by have k3:w3.heap.size≤k:=zag (by simp) k2;omega⟩;have YO:Hid _:=hv5;have HL5:Hid _:=hL5;have hne:ay T dp n ⟨p.depth+1,false,p.ahead++[t.n]⟩ { s with ak:=t.n::s.ak }≠.out:=λh=>HO.out (by rw[HE.out,wN,h];rfl);have HD:Hid _:=yM.out.datum ⟨p.depth+1,false,p.ahead++[t.n]⟩ (.slice a1 (p.ahead.length+1) c1) _ _ _ Xc.out HA5.out ⟨hd.1,by show(p.ahead++[t.n]).length≤_;rw[zaR];have:=hd.2;simp;omega⟩ hne;obtain⟨y0,y1,y2⟩:=fG hP5;have hf4:w4.frozen? ⟨w1.heap.size,2,none⟩=false:=by simp[Θ.frozen?,Pk]
 obtain⟨u0,u1,u2⟩:=fG Pk;have hs5:(w4.setCell ⟨w1.heap.size,2,none⟩ (.slice a1 (p.ahead.length+1) c1)).heap.size=w4.heap.size:=by simp
 clear hr4 hk4 hb4 Pk hL4 hL5 hP5 hown' hgrow kT hv5 hne yM P3 ku P0 Ml HL3 nZ;unfold gI aC at HD;go_wp2_with fail;refine zai HD.out ?_;clear HD;intro e w6 cG;cases hF:ay T dp n ⟨p.depth+1,false,p.ahead++[t.n]⟩ { s with ak:=t.n::s.ak } with
 |out=>exact absurd (by rw[HE.out,wN,hF];rfl) HO.out
 |fail er a=>
  rw[hF]at cG;obtain⟨⟨b,rfl,hf⟩,NM⟩:=cG;have HG:Hid (jP R M g cap T dp (Λ.slice a0 n0 c0).ownBlock w E s (RR.fail er a) (.returned (.tuple #[.nilIface,aC b])) w6):=⟨⟨b,rfl,hf⟩,jO.put G2.out NM YO.out⟩;have jL:Hid (r=.fail er a):=by show _=_;rw[HE.out,wN,hF];rfl
  clear hf NM G2 YO HL5 Xc HA5;unfold aC;go_wp2_with fail;go_ret2;rw[jL.out];exact HG.out
 |ok d s2=>
  rw[hF]at cG;obtain⟨v,E2,rfl,⟨ty,y,rfl⟩,cK,hx2,hr2,hk2⟩:=cG;obtain⟨YT,hG⟩:=Uv G2.out (by omega) HL5.out HA5.out.1 YO.out Xc.out hl ⟨ty,y,rfl⟩ cK hx2 hr2 hk2;have HG:Hid _:=hG;have jL:Hid (r=.ok (.put t.n d) s2):=by show _=_;rw[HE.out,wN,hF];rfl
  have c0:w6.cell? ⟨w1.heap.size+1,0,none⟩=some .nilIface:=by simp[Θ.cell?,YT]
  have f0:w6.frozen? ⟨w1.heap.size+1,0,none⟩=false:=by simp[Θ.frozen?,YT]
  clear cK hx2 hr2 hk2 G2 YO HL5 Xc HA5 YT hG;go_wp2_with fail;go_ret2;rw[jL.out];exact HG.out
end
section
variable {R M g cap:Nat}{T:List Tok}{dp:Nat}
theorem YX {n:Nat}(ih:IH R M g cap T dp n):Xd R M g cap T dp n:=by
 intro t p a0 n0 c0 w E s r hr ha hd eK ho;have mixed:prog.follows Ξ=true:=by kernel_rfl
 have hb0:Below w.heap.size w ((w.alloc (iz t)).alloc (gW p.depth p.passed a0 n0 c0)):=((zad _ w).alloc (zac _) _).alloc (by simp) _;have hs0:((w.alloc (iz t)).alloc (gW p.depth p.passed a0 n0 c0)).heap.size=w.heap.size+1+1:=by simp
 have vo:Hid (Kp R M w ((w.alloc (iz t)).alloc (gW p.depth p.passed a0 n0 c0))):=Kp.aG hb0;have Ai:=hr.below hb0;have rL:Hid _:=Ai;have cU:=oN (w:=((w.alloc (iz t)).alloc (gW p.depth p.passed a0 n0 c0)).drew) (M:=M) (l:=vO E s.ak) Ai.lm t.n;rw[sS]at cU;have NH:R<w.heap.size:=hr.lt;have lS:M<w.heap.size:=hr.mlt;have qz:=hr.deep;have n1:¬R=w.heap.size:=by omega
 have n2:¬R=w.heap.size+1:=by omega
 have n3:R<w.heap.size+1:=by omega
 obtain⟨⟨r0,r1,r2,r3⟩,-⟩:=ig hr.blk;have NP:Hid _:=ha.below hb0;have BL:∀k,(Λ.slice a0 n0 c0).ownBlock=some k→k<w.heap.size:=λk hk=>(zcr ha.1 k hk).2;have HlA:Hid (∀m∈p.ahead,m∈s.ak):=ha.2.2;have yM:Hid _:=ih;have HO:Hid _:=ho;by_cases AU:p.passed=true∨t.n∈s.ak∨p.depth=dp
 ·exact Ms n t p a0 n0 c0 w E s r hr eK AU
 have hp:¬p.passed=true:=λh=>AU (.inl h);have hl:¬t.n∈s.ak:=λh=>AU (.inr (.inl h));have hdd:¬p.depth=dp:=λh=>AU (.inr (.inr h));have wN:p.passed=false:=by simpa using hp
 rw[wN]at cU vo rL NP hs0 ⊢;rw[zaa hl,zbH]at cU;replace eK:=eK.trans (zaa (by simp[wN,hl]));have hc0:(((w.alloc (iz t)).alloc (gW p.depth false a0 n0 c0)).drew).cell? ⟨R,2,none⟩=some (Γ Δ dp):=(ig rL.out.blk).1.2.2.1
 ·have HC:Hid _:=BD R dp t p.depth false a0 n0 c0 (((w.alloc (iz t)).alloc (gW p.depth false a0 n0 c0)).drew) hc0 (by simp;omega) (by omega) hdd;have HE:Hid _:=eK.trans (zaa hdd);have IK:p.depth+1≤dp:=by omega
  have HT0:Hid ((((w.alloc (iz t)).alloc (gW p.depth false a0 n0 c0)).drew).heap[w.heap.size]?=some (iz t)):=(zaT _ _ _ (by simp)).trans (zav w _);have HP0:Hid ((((w.alloc (iz t)).alloc (gW p.depth false a0 n0 c0)).drew).heap[w.heap.size+1]?=some (gW p.depth false a0 n0 c0)):=en w _ _;clear eK hr Ai hb0 ha hc0 hdd;unfold gI aC bP at HC ⊢;go_enter func160,ntmps160;go_wp2_with fail;go_region;go_wp2_with fail;refine zai HC.out ?_;rintro e w1 ⟨rfl,hb1⟩;have hs1:=hb1.size;have rH:=(hb1.block w.heap.size (by simp;omega)).trans HT0.out;have Ag:=(hb1.block (w.heap.size+1) (by simp)).trans HP0.out;obtain⟨⟨o0,o1,o2,o3,o4,o5,o6⟩,-⟩:=dt (zad _ _) rH;obtain⟨y0,y1,y2⟩:=fG Ag;have wO:Hid _:=bS.below (bS.below rL.out ((zad _ _).drew)) hb1;have HA1:Hid _:=jd.below (jd.below NP.out ((zad _ _).drew)) hb1;have BJ:Hid _:=Kp.trans (Kp.trans vo.out (Kp.aG ((zad _ _).drew))) (Kp.aG hb1);obtain⟨⟨x0,x1,x2,x3⟩,-⟩:=ig wO.out.blk;have SS:Hid _:=Ag;clear hb1 HC rH Ag r0 r1 r2 r3 cU n1 n2 n3;have hRl:=wO.out.lt;have hMl:=wO.out.mlt;have e1:¬R=w1.heap.size:=by omega
  have e2:¬R=w1.heap.size+1:=by omega
  have e3:R<w1.heap.size+1:=by omega
  have e4:w.heap.size<w1.heap.size:=by simp at hs1;omega
  have e5:¬w.heap.size=w1.heap.size:=by omega
  have e6:¬w.heap.size=w1.heap.size+1:=by omega
  have e7:w.heap.size<w1.heap.size+1:=by omega
  have hb2:Below w1.heap.size w1 (((w1.alloc (.cells #[Γ Δ ((p.depth:Int)+1),.bool false,.slice none 0 0] 128)).alloc (.cells #[.nilIface] 215)).drew):=(((zad _ _).alloc (zac _) _).alloc (by simp) _).drew;have IG:Hid _:=bS.below wO.out hb2;obtain⟨o,hput,hmap⟩:=Iz (w:=((w1.alloc (.cells #[Γ Δ ((p.depth:Int)+1),.bool false,.slice none 0 0] 128)).alloc (.cells #[.nilIface] 215)).drew) (M:=M) (l:=vO E s.ak) IG.out.lm t.n (by rw[sS,zaa hl]) (aC (w1.heap.size+1));have adM:Hid _:=hmap;generalize hw3:({ ((w1.alloc (.cells #[Γ Δ ((p.depth:Int)+1),.bool false,.slice none 0 0] 128)).alloc (.cells #[.nilIface] 215)).drew with heap:=(((w1.alloc (.cells #[Γ Δ ((p.depth:Int)+1),.bool false,.slice none 0 0] 128)).alloc (.cells #[.nilIface] 215)).drew).heap.setIfInBounds M o }:Θ)=w3 at *;have Aj:Hid _:=hw3;clear hw3 hmap;unfold aC at hput;go_wp2_with fail;go_region;have hs3:w3.heap.size=w1.heap.size+2:=by rw[←Aj.out];simp
  have hb3:∀b,b≠M→w3.heap[b]?=(((w1.alloc (.cells #[Γ Δ ((p.depth:Int)+1),.bool false,.slice none 0 0] 128)).alloc (.cells #[.nilIface] 215)).drew).heap[b]?:=λb hb=>by
   rw[←Aj.out];exact zaA (λe=>hb e.symm)
  have hL:(((w1.alloc (.cells #[Γ Δ ((p.depth:Int)+1),.bool false,.slice none 0 0] 128)).alloc (.cells #[.nilIface] 215)).drew).heap[w1.heap.size+1]?=some (.cells #[.nilIface] 215):=en w1 _ _;have hP2:(((w1.alloc (.cells #[Γ Δ ((p.depth:Int)+1),.bool false,.slice none 0 0] 128)).alloc (.cells #[.nilIface] 215)).drew).heap[w1.heap.size]?=some (.cells #[Γ Δ ((p.depth:Int)+1),.bool false,.slice none 0 0] 128):=(zaT _ _ _ (by simp)).trans (zav w1 _);have P3:Hid (bS w3 R M g cap T dp (E.label t.n (w1.heap.size+1)) { s with ak:=t.n::s.ak }):=by
   rw[←Aj.out];exact bS.label IG.out hl ⟨_,hL⟩ (λm hm e=>by
    obtain⟨v,hv⟩:=wO.out.low m hm;have:=(zaj.1 hv).1;omega) (by rw[Aj.out];exact adM.out)
  have HL3:Hid _:=(hb3 (w1.heap.size+1) (by omega)).trans hL;have Ml:Hid _:=(hb3 w1.heap.size (by omega)).trans hP2;obtain⟨z0,z1,z2⟩:=fG Ml.out;have hf3:w3.frozen? ⟨w1.heap.size,2,none⟩=false:=by simp[Θ.frozen?,Ml.out]
  have P0:Hid _:=(hb3 (w.heap.size+1) (by omega)).trans ((hb2.block (w.heap.size+1) (by simp at hs1;omega)).trans SS.out);obtain⟨q0,q1,q2⟩:=fG P0.out;have TZ:jd w3 (E.label t.n (w1.heap.size+1)) { s with ak:=t.n::s.ak } p.ahead (.slice a0 n0 c0):=
   jd.kp (jd.below HA1.out hb2) IG.out (M:=M) (R:=R) ⟨by rw[←Aj.out],by rw[←Aj.out],by rw[←Aj.out],by rw[hs3];simp,λb _ _ h=>hb3 b h⟩ (oP E t.n _ s.fresh hl) λm hm=>zaQ _ hm
  have HA3:Hid _:=TZ;have ku:Hid (w3.ownsRow 0 212 1 (.slice a0 n0 c0) p.ahead.length (p.ahead.map λm=>aC ((E.label t.n (w1.heap.size+1)).cE m))):=HA3.out.1;have PW:w.heap.size+1+1≤w1.heap.size:=by simp at hs1;omega
  have nZ:Hid (Kp R M w w3):=Kp.trans BJ.out ⟨by rw[←Aj.out];rfl,by rw[←Aj.out];rfl,by rw[←Aj.out];rfl,by omega,λb b1 _ b3=>(hb3 b b3).trans (hb2.block b b1)⟩;rename_i hK;exact hK _ _ (P8 yM.out t p a0 n0 c0 w w1 w3 E s r wN hl ⟨IK,hd.2⟩ qz PW hs3 HE HO BL HlA P3 HL3 Ml P0 ku nZ _ _ _ _ _ _ _ _ _ _ _ _ _ _ _ _ _ _ _ _ _ _ _ _ _ _ _ _ _ _ _ _ _ _ _ _ _ _ _ _ _ _ _ _ _ _ _ _ _ _ _ _ _ _ _ _ _ _ _ _ _ _ _)
end
section
variable {R M g cap:Nat}{T:List Tok}{dp:Nat}
theorem Kv (AQ:(∃t∈T,t.kind=5)→Fx R M g cap T dp)(AR:(∃t∈T,t.kind=4)→Fy R M g cap T dp):∀N n,n≤N→IH R M g cap T dp n
 |0,n,h=>by
  obtain rfl:n=0:=by omega
  exact⟨λp av w E s _ _ _ ho=>absurd (by unfold ay;rfl) ho,λp av w E s _ _ _ ho=>absurd (by unfold aM;rfl) ho,λt p av w E s _ _ _ _ ho=>absurd (by unfold aL;rfl) ho⟩
 |N+1,n,h=>by
  have ih:=Kv AQ AR N;cases n with
  |zero=>exact ih 0 (zaq _)
  |succ n=>
   have ih':∀m,m≤n→IH R M g cap T dp m:=λm hm=>ih m (by omega);exact⟨IE (ih' n (zac _)),Mk ih',P4 ih' (YX (ih' n (zac _))) YQ AQ AR⟩
theorem YY (AQ:(∃t∈T,t.kind=5)→Fx R M g cap T dp)(AR:(∃t∈T,t.kind=4)→Fy R M g cap T dp)(n:Nat):IH R M g cap T dp n:=Kv AQ AR n n (zac _)
end
def OkR (T:List Tok)(w:Θ)(r:RR Dt)(e:Ending)(w':Θ):Prop:=
 Below w.heap.size w w'∧match r with
 |.out=>True
 |.fail er a=>∃b,e=.returned (.tuple #[.nilIface,Γ Δ 0,aC b])∧dQ w' b er a
 |.ok d s'=>∃v E' t,T[s'.k-1]?=some t∧e=.returned (.tuple #[v,Γ Δ t.gw,.pointer none])∧(∃t y,v=.iface t y)∧ct w.heap.size s'.fresh s'.ak w' E' d v∧
   (∀i j,i<s'.fresh→j<s'.fresh→E'.α i=E'.α j→i=j)∧(∀n∈s'.ak,∃v,w'.heap[E'.cE n]?=some (.cells #[v] 215))
theorem Kp.low {R M:Nat}{w w2 w':Θ}(h:Kp R M w2 w')(hb:Below w.heap.size w w2)(h1:w.heap.size≤R)(h2:w.heap.size≤M):Below w.heap.size w w':=
 ⟨h.os.trans hb.os,h.tape.trans hb.tape,h.output.trans hb.output,zag hb.size h.size,λb hb'=>(h.block b (zaI hb' hb.size) (by omega) (by omega)).trans (hb.block b hb')⟩
theorem FR (T:List Tok)(dp g cap:Nat)(AQ:(∃t∈T,t.kind=5)→∀R M,Fx R M g cap T dp)(AR:(∃t∈T,t.kind=4)→∀R M,Fy R M g cap T dp)(w:Θ)(qz:dp≤30)(hT:∀k t,T[k]?=some t→t.kind≠0→t.kind≠1→k+1<T.length)(YZ:T≠[])(hsm:T.length≤900)
 (hrow:w.ownsRow 0 131 7 (.slice (some ⟨g,0,none⟩) T.length cap) T.length (T.flatMap iR)):
 Calls prog 42 #[.slice (some ⟨g,0,none⟩) T.length cap,Γ Δ dp] w λe w'=>OkR T w (ay T dp 2000 ⟨0,false,[]⟩ ⟨0,0,[]⟩) e w':=by
 have mixed:prog.follows Ξ=true:=by kernel_rfl
 have hg:g<w.heap.size:=(hrow.lt g rfl).2;have hb2:Below w.heap.size w ((w.alloc (.map #[] 0)).alloc (.cells #[.slice (some ⟨g,0,none⟩) T.length cap,Γ Δ 0,Γ Δ dp,.map (some w.heap.size)] 123)):=((zad _ w).alloc (zac _) _).alloc (by simp) _;have iB:Hid _:=hb2;have IG:Hid (bS ((w.alloc (.map #[] 0)).alloc (.cells #[.slice (some ⟨g,0,none⟩) T.length cap,Γ Δ 0,Γ Δ dp,.map (some w.heap.size)] 123)) (w.heap.size+1) w.heap.size g cap T dp ⟨λ_=>0,λ_=>0⟩ ⟨0,0,[]⟩):=
  ⟨by omega,by omega,by omega,en w _ _,bC hrow (zac _) λb _ hlt=>hb2.block b hlt,⟨#[],0,(zaT _ _ _ (by simp)).trans (zav w _),rfl⟩,λn hn=>(by cases hn),λn hn=>(by cases hn),by omega,qz⟩
 have dh:=(fuel T dp hT 2000).datum ⟨0,false,[]⟩ ⟨0,0,[]⟩ (zbT.2 YZ) (by show 2*(T.length-0)+2≤2000;omega);have hne:ay T dp 2000 ⟨0,false,[]⟩ ⟨0,0,[]⟩≠.out:=λh=>by rw[h]at dh;exact dh
 have HD:Hid _:=(YY (λh=>AQ h _ _) (λh=>AR h _ _) 2000).datum ⟨0,false,[]⟩ (.slice none 0 0) _ _ _ IG.out ⟨⟨rfl,.inl ⟨rfl,rfl⟩⟩,⟨_,_,_,rfl⟩,λn hn=>(by cases hn)⟩ ⟨zaq _,zaq _⟩ hne;generalize eK:ay T dp 2000 ⟨0,false,[]⟩ ⟨0,0,[]⟩=r at *;clear hrow hb2 eK hT YZ AQ AR;have hmk:(Instr.makeMap 121 none).run prog w=.ok (.map (some w.heap.size)) (w.alloc (.map #[] 0)):=rfl;unfold gI aC at HD;go_enter func42,ntmps42;go_wp2_with fail;refine zai HD.out ?_;clear HD;intro e w3 cG;cases r with
 |out=>exact absurd rfl hne
 |fail er a=>
  obtain⟨⟨b,rfl,hf⟩,hk⟩:=cG;have HG:Hid (OkR T w (RR.fail er a) (.returned (.tuple #[.nilIface,Γ Δ 0,aC b])) w3):=⟨Kp.low hk.plain iB.out (by omega) (zac _),b,rfl,hf⟩;clear hf hk;unfold aC;go_wp2_with fail
  go_ret3
  exact HG.out
 |ok d0 s'=>
  obtain⟨v,E',rfl,⟨ty,y,rfl⟩,cK,hx,hr,hk⟩:=cG;obtain⟨k',O1⟩:∃k',s'.k=k'+1:=⟨s'.k-1,by have:=dh.1;simp at this;omega⟩;have hlt:k'<T.length:=by have:=dh.2;omega
  obtain⟨t,ht⟩:∃t,T[k']?=some t:=⟨_,zat hlt⟩;obtain⟨⟨r0,r1,r2,r3⟩,rf⟩:=ig hr.blk;have t2:w3.cell? ⟨g,k'*7+2,none⟩=some (Γ Δ t.gw):=by rw[hr.row.cellAt _ (by omega),PX T k' 2 t ht (by omega)];rfl
  rw[O1]at r1;have hs2:=iB.out.size;have HG:Hid (OkR T w (RR.ok d0 s') (.returned (.tuple #[.iface ty y,Γ Δ t.gw,.pointer none])) w3.drew):=
   ⟨(Kp.low hk.plain iB.out (by omega) (zac _)).drew,.iface ty y,E',t,by rw[O1];exact ht,rfl,⟨ty,y,rfl⟩,ct.keep (w:=w3) (w':=w3.drew) hs2 (zac _) (λ_ h=>h) (λ_ _ _=>rfl) ⟨λ_ _=>rfl,λ_ _=>rfl⟩ d0 _ cK,
     λi j h1 h2 e=>hx.inj i j (zaq _) h1 (zaq _) h2 e,hr.low⟩
  have hgr:g<w3.heap.size:=(hr.row.lt g rfl).2;have hRr:w.heap.size+1<w3.heap.size:=hr.lt;clear cK hx hr hk dh hne IG iB ht;go_wp2_with fail;go_region;go_wp2_with fail
  go_ret3
  exact HG.out
end Go.Proofs.YtlhimdjkkiflhaaGreatDoor
