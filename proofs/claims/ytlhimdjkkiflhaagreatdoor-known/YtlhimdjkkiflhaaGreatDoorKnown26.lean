import Derived.OwnWalk
import Derived.Laws.ResultCell
import Derived.Test.YtlhimdjkkiflhaaGreatDoorKnown25
set_option maxHeartbeats 8000000
set_option maxRecDepth 100000
namespace Go.Proofs.YtlhimdjkkiflhaaGreatDoor
open Go.Proofs.Tryz
open Go.RowKit Go.Loop
section
variable {R M g cap:Nat}{T:List Tok}{dp:Nat}
theorem Vl {n:Nat}(ih:IH R M g cap T dp n):Tl R M g cap T dp n:=by
 intro t p a0 n0 c0 w E s r hr ha hd et ho;have mixed:prog.follows Departure.mixedOrders=true:=by kernel_rfl
 have hb0:Below w.heap.size w ((w.alloc (.cells #[.int .i64 t.kind,.int .i64 t.from_,.int .i64 t.cA,.string ⟨⟨t.text⟩⟩,.int .i64 t.n,.int .i64 t.d,.int .i64 t.fault] 131)).alloc (.cells #[.int .i64 p.depth,.bool p.passed,.slice a0 n0 c0] 128)):=((Below.refl _ w).alloc (zaa _) _).alloc (by simp) _;have hs0:((w.alloc (.cells #[.int .i64 t.kind,.int .i64 t.from_,.int .i64 t.cA,.string ⟨⟨t.text⟩⟩,.int .i64 t.n,.int .i64 t.d,.int .i64 t.fault] 131)).alloc (.cells #[.int .i64 p.depth,.bool p.passed,.slice a0 n0 c0] 128)).heap.size=w.heap.size+1+1:=by simp
 have rG:Hid (Kp R M w ((w.alloc (.cells #[.int .i64 t.kind,.int .i64 t.from_,.int .i64 t.cA,.string ⟨⟨t.text⟩⟩,.int .i64 t.n,.int .i64 t.d,.int .i64 t.fault] 131)).alloc (.cells #[.int .i64 p.depth,.bool p.passed,.slice a0 n0 c0] 128))):=Kp.ay hb0;have xV:=hr.below hb0;have qu:Hid _:=xV;have cE:=nU (w:=((w.alloc (.cells #[.int .i64 t.kind,.int .i64 t.from_,.int .i64 t.cA,.string ⟨⟨t.text⟩⟩,.int .i64 t.n,.int .i64 t.d,.int .i64 t.fault] 131)).alloc (.cells #[.int .i64 p.depth,.bool p.passed,.slice a0 n0 c0] 128)).drew) (M:=M) (l:=uJ E s.aP) xV.lm t.n;rw[rH]at cE;have LP:R<w.heap.size:=hr.lt;have k8:M<w.heap.size:=hr.mlt;have wj:=hr.deep;have n1:¬R=w.heap.size:=by omega
 have n2:¬R=w.heap.size+1:=by omega
 have n3:R<w.heap.size+1:=by omega
 obtain⟨⟨r0,r1,r2,r3⟩,-⟩:=gJ hr.blk;have F9:Hid _:=ha.below hb0;have zy:∀k,(Value.slice a0 n0 c0).ownBlock=some k→k<w.heap.size:=λk hk=>(World.ownsRow.lt ha.1 k hk).2;have HlA:Hid (∀m∈p.ahead,m∈s.aP):=ha.2.2;have KB:Hid _:=ih;have HO:Hid _:=ho;by_cases yF:p.passed=true∨t.n∈s.aP∨p.depth=dp
 ·exact Ks n t p a0 n0 c0 w E s r hr et yF
 have hp:¬p.passed=true:=λh=>yF (.inl h);have hl:¬t.n∈s.aP:=λh=>yF (.inr (.inl h));have hdd:¬p.depth=dp:=λh=>yF (.inr (.inr h));have BL:p.passed=false:=by simpa using hp
 rw[BL]at cE rG qu F9 hs0 ⊢;rw[if_neg hl,zbc]at cE;replace et:=et.trans (if_neg (by simp[BL,hl]));have hc0:(((w.alloc (.cells #[.int .i64 t.kind,.int .i64 t.from_,.int .i64 t.cA,.string ⟨⟨t.text⟩⟩,.int .i64 t.n,.int .i64 t.d,.int .i64 t.fault] 131)).alloc (.cells #[.int .i64 p.depth,.bool false,.slice a0 n0 c0] 128)).drew).cell? ⟨R,2,none⟩=some (.int .i64 dp):=(gJ qu.out.blk).1.2.2.1
 ·have HC:Hid _:=zu R dp t p.depth false a0 n0 c0 (((w.alloc (.cells #[.int .i64 t.kind,.int .i64 t.from_,.int .i64 t.cA,.string ⟨⟨t.text⟩⟩,.int .i64 t.n,.int .i64 t.d,.int .i64 t.fault] 131)).alloc (.cells #[.int .i64 p.depth,.bool false,.slice a0 n0 c0] 128)).drew) hc0 (by simp;omega) (by omega) hdd;have HE:Hid _:=et.trans (if_neg hdd);have BN:p.depth+1≤dp:=by omega
  have HT0:Hid ((((w.alloc (.cells #[.int .i64 t.kind,.int .i64 t.from_,.int .i64 t.cA,.string ⟨⟨t.text⟩⟩,.int .i64 t.n,.int .i64 t.d,.int .i64 t.fault] 131)).alloc (.cells #[.int .i64 p.depth,.bool false,.slice a0 n0 c0] 128)).drew).heap[w.heap.size]?=some (.cells #[.int .i64 t.kind,.int .i64 t.from_,.int .i64 t.cA,.string ⟨⟨t.text⟩⟩,.int .i64 t.n,.int .i64 t.d,.int .i64 t.fault] 131)):=(Lib.alloc_old _ _ _ (by simp)).trans (heap_alloc_new w _);have HP0:Hid ((((w.alloc (.cells #[.int .i64 t.kind,.int .i64 t.from_,.int .i64 t.cA,.string ⟨⟨t.text⟩⟩,.int .i64 t.n,.int .i64 t.d,.int .i64 t.fault] 131)).alloc (.cells #[.int .i64 p.depth,.bool false,.slice a0 n0 c0] 128)).drew).heap[w.heap.size+1]?=some (.cells #[.int .i64 p.depth,.bool false,.slice a0 n0 c0] 128)):=cO w _ _;clear et hr xV hb0 ha hc0 hdd;unfold gA au aX at HC ⊢;go_enter func160,ntmps160;go_wp2_with fail;go_region;go_wp2_with fail;refine Calls.mono HC.out ?_;rintro e w1 ⟨rfl,hb1⟩;have hs1:=hb1.size;have mn:=(hb1.block w.heap.size (by simp;omega)).trans HT0.out;have yj:=(hb1.block (w.heap.size+1) (by simp)).trans HP0.out;obtain⟨⟨o0,o1,o2,o3,o4,o5,o6⟩,-⟩:=cN (Below.refl _ _) mn;obtain⟨y0,y1,y2⟩:=eE yj;have kK:Hid _:=bE.below (bE.below qu.out ((Below.refl _ _).drew)) hb1;have N1:Hid _:=iJ.below (iJ.below F9.out ((Below.refl _ _).drew)) hb1;have xW:Hid _:=Kp.trans (Kp.trans rG.out (Kp.ay ((Below.refl _ _).drew))) (Kp.ay hb1);obtain⟨⟨x0,x1,x2,x3⟩,-⟩:=gJ kK.out.blk;have PT:Hid _:=yj;clear hb1 HC mn yj r0 r1 r2 r3 cE n1 n2 n3;have Xg:=kK.out.lt;have Xh:=kK.out.mlt;have e1:¬R=w1.heap.size:=by omega
  have e2:¬R=w1.heap.size+1:=by omega
  have e3:R<w1.heap.size+1:=by omega
  have e4:w.heap.size<w1.heap.size:=by simp at hs1;omega
  have e5:¬w.heap.size=w1.heap.size:=by omega
  have e6:¬w.heap.size=w1.heap.size+1:=by omega
  have e7:w.heap.size<w1.heap.size+1:=by omega
  have hb2:Below w1.heap.size w1 (((w1.alloc (.cells #[.int .i64 ((p.depth:Int)+1),.bool false,.slice none 0 0] 128)).alloc (.cells #[.nilIface] 215)).drew):=(((Below.refl _ _).alloc (zaa _) _).alloc (by simp) _).drew;have xf:Hid _:=bE.below kK.out hb2;obtain⟨o,hput,hmap⟩:=F2 (w:=((w1.alloc (.cells #[.int .i64 ((p.depth:Int)+1),.bool false,.slice none 0 0] 128)).alloc (.cells #[.nilIface] 215)).drew) (M:=M) (l:=uJ E s.aP) xf.out.lm t.n (by rw[rH,if_neg hl]) (au (w1.heap.size+1));have ado:Hid _:=hmap;generalize hw3:({ ((w1.alloc (.cells #[.int .i64 ((p.depth:Int)+1),.bool false,.slice none 0 0] 128)).alloc (.cells #[.nilIface] 215)).drew with heap:=(((w1.alloc (.cells #[.int .i64 ((p.depth:Int)+1),.bool false,.slice none 0 0] 128)).alloc (.cells #[.nilIface] 215)).drew).heap.setIfInBounds M o }:World)=w3 at *;have xY:Hid _:=hw3;clear hw3 hmap;unfold au at hput;go_wp2_with fail;go_region;have hs3:w3.heap.size=w1.heap.size+2:=by rw[←xY.out];simp
  have hb3:∀b,b≠M→w3.heap[b]?=(((w1.alloc (.cells #[.int .i64 ((p.depth:Int)+1),.bool false,.slice none 0 0] 128)).alloc (.cells #[.nilIface] 215)).drew).heap[b]?:=λb hb=>by
   rw[←xY.out];exact zak (λe=>hb e.symm)
  have hL:(((w1.alloc (.cells #[.int .i64 ((p.depth:Int)+1),.bool false,.slice none 0 0] 128)).alloc (.cells #[.nilIface] 215)).drew).heap[w1.heap.size+1]?=some (.cells #[.nilIface] 215):=cO w1 _ _;have hP2:(((w1.alloc (.cells #[.int .i64 ((p.depth:Int)+1),.bool false,.slice none 0 0] 128)).alloc (.cells #[.nilIface] 215)).drew).heap[w1.heap.size]?=some (.cells #[.int .i64 ((p.depth:Int)+1),.bool false,.slice none 0 0] 128):=(Lib.alloc_old _ _ _ (by simp)).trans (heap_alloc_new w1 _);have C9:Hid (bE w3 R M g cap T dp (E.label t.n (w1.heap.size+1)) { s with aP:=t.n::s.aP }):=by
   rw[←xY.out];exact bE.label xf.out hl ⟨_,hL⟩ (λm hm e=>by
    obtain⟨v,hv⟩:=kK.out.low m hm;have:=(zac.1 hv).1;omega) (by rw[xY.out];exact ado.out)
  have HL3:Hid _:=(hb3 (w1.heap.size+1) (by omega)).trans hL;have PU:Hid _:=(hb3 w1.heap.size (by omega)).trans hP2;obtain⟨z0,z1,z2⟩:=eE PU.out;have hf3:w3.frozen? ⟨w1.heap.size,2,none⟩=false:=by simp[World.frozen?,PU.out]
  have N5:Hid _:=(hb3 (w.heap.size+1) (by omega)).trans ((hb2.block (w.heap.size+1) (by simp at hs1;omega)).trans PT.out);obtain⟨q0,q1,q2⟩:=eE N5.out;have uZ:iJ w3 (E.label t.n (w1.heap.size+1)) { s with aP:=t.n::s.aP } p.ahead (.slice a0 n0 c0):=
   iJ.kp (iJ.below N1.out hb2) xf.out (M:=M) (R:=R) ⟨by rw[←xY.out],by rw[←xY.out],by rw[←xY.out],by rw[hs3];simp,λb _ _ h=>hb3 b h⟩ (nW E t.n _ s.fresh hl) λm hm=>zas _ hm
  have KH:Hid _:=uZ;have mB:Hid (w3.ownsRow 0 212 1 (.slice a0 n0 c0) p.ahead.length (p.ahead.map λm=>au ((E.label t.n (w1.heap.size+1)).ea m))):=KH.out.1;have Ki:w.heap.size+1+1≤w1.heap.size:=by simp at hs1;omega
  have lS:Hid (Kp R M w w3):=Kp.trans xW.out ⟨by rw[←xY.out];rfl,by rw[←xY.out];rfl,by rw[←xY.out];rfl,by omega,λb b1 _ b3=>(hb3 b b3).trans (hb2.block b b1)⟩;rename_i hK;exact hK _ _ (Ob KB.out t p a0 n0 c0 w w1 w3 E s r BL hl ⟨BN,hd.2⟩ wj Ki hs3 HE HO zy HlA C9 HL3 PU N5 mB lS _ _ _ _ _ _ _ _ _ _ _ _ _ _ _ _ _ _ _ _ _ _ _ _ _ _ _ _ _ _ _ _ _ _ _ _ _ _ _ _ _ _ _ _ _ _ _ _ _ _ _ _ _ _ _ _ _ _ _ _ _ _ _)
end
end Go.Proofs.YtlhimdjkkiflhaaGreatDoor
namespace Go.Proofs.YtlhimdjkkiflhaaGreatDoor
open Go.RowKit Go.Loop
section
variable {R M g cap:Nat}{T:List Tok}{dp:Nat}
theorem ID:∀N n,n≤N→IH R M g cap T dp n
 |0,n,h=>by
  obtain rfl:n=0:=by omega
  exact⟨λp av w E s _ _ _ ho=>absurd (by unfold aV;rfl) ho,λp av w E s _ _ _ ho=>absurd (by unfold bq;rfl) ho,λt p av w E s _ _ _ ho=>absurd (by unfold cJ;rfl) ho⟩
 |N+1,n,h=>by
  have ih:=ID N;cases n with
  |zero=>exact ih 0 (zah _)
  |succ n=>
   have ih':∀m,m≤n→IH R M g cap T dp m:=λm hm=>ih m (by omega);exact⟨F5 (ih' n (zaa _)),Kk ih',N6 ih' (Vl (ih' n (zaa _))) Vf⟩
theorem Vm (n:Nat):IH R M g cap T dp n:=ID n n (zaa _)
end
end Go.Proofs.YtlhimdjkkiflhaaGreatDoor
namespace Go.Proofs.YtlhimdjkkiflhaaGreatDoor
open Go.Proofs.Tryz
open Go.RowKit Go.Loop
def OkR (T:List Tok)(w:World)(r:RR Dt)(e:Ending)(w':World):Prop:=
 Below w.heap.size w w'∧match r with
 |.out=>True
 |.fail er a=>∃b,e=.returned (.tuple #[.nilIface,.int .i64 0,au b])∧cy w' b er a
 |.ok d s'=>∃v E' t,T[s'.k-1]?=some t∧e=.returned (.tuple #[v,.int .i64 t.cA,.pointer none])∧(∃t y,v=.iface t y)∧ba w.heap.size s'.fresh s'.aP w' E' d v∧
   (∀i j,i<s'.fresh→j<s'.fresh→E'.α i=E'.α j→i=j)∧(∀n∈s'.aP,∃v,w'.heap[E'.ea n]?=some (.cells #[v] 215))
theorem Kp.low {R M:Nat}{w w2 w':World}(h:Kp R M w2 w')(hb:Below w.heap.size w w2)(h1:w.heap.size≤R)(h2:w.heap.size≤M):Below w.heap.size w w':=
 ⟨h.os.trans hb.os,h.tape.trans hb.tape,h.output.trans hb.output,zad hb.size h.size,λb hb'=>(h.block b (zaw hb' hb.size) (by omega) (by omega)).trans (hb.block b hb')⟩
theorem Gg (T:List Tok)(dp g cap:Nat)(w:World)(wj:dp≤30)(hT:∀k t,T[k]?=some t→t.kind≠0→t.kind≠1→k+1<T.length)(Vn:T≠[])(hsm:T.length≤900)
 (hrow:w.ownsRow 0 131 7 (.slice (some ⟨g,0,none⟩) T.length cap) T.length (T.flatMap iy)):
 Calls prog 42 #[.slice (some ⟨g,0,none⟩) T.length cap,.int .i64 dp] w λe w'=>OkR T w (aV T dp 2000 ⟨0,false,[]⟩ ⟨0,0,[]⟩) e w':=by
 have mixed:prog.follows Departure.mixedOrders=true:=by kernel_rfl
 have hg:g<w.heap.size:=(hrow.lt g rfl).2;have hb2:Below w.heap.size w ((w.alloc (.map #[] 0)).alloc (.cells #[.slice (some ⟨g,0,none⟩) T.length cap,.int .i64 0,.int .i64 dp,.map (some w.heap.size)] 123)):=((Below.refl _ w).alloc (zaa _) _).alloc (by simp) _;have gN:Hid _:=hb2;have xf:Hid (bE ((w.alloc (.map #[] 0)).alloc (.cells #[.slice (some ⟨g,0,none⟩) T.length cap,.int .i64 0,.int .i64 dp,.map (some w.heap.size)] 123)) (w.heap.size+1) w.heap.size g cap T dp ⟨λ_=>0,λ_=>0⟩ ⟨0,0,[]⟩):=
  ⟨by omega,by omega,by omega,cO w _ _,bg hrow (zaa _) λb _ hlt=>hb2.block b hlt,⟨#[],0,(Lib.alloc_old _ _ _ (by simp)).trans (heap_alloc_new w _),rfl⟩,λn hn=>(by cases hn),λn hn=>(by cases hn),by omega,wj⟩
 have bY:=(fuel T dp hT 2000).datum ⟨0,false,[]⟩ ⟨0,0,[]⟩ (List.length_pos_iff.2 Vn) (by show 2*(T.length-0)+2≤2000;omega);have hne:aV T dp 2000 ⟨0,false,[]⟩ ⟨0,0,[]⟩≠.out:=λh=>by rw[h]at bY;exact bY
 have HD:Hid _:=(Vm 2000).datum ⟨0,false,[]⟩ (.slice none 0 0) _ _ _ xf.out ⟨⟨rfl,.inl ⟨rfl,rfl⟩⟩,⟨_,_,_,rfl⟩,λn hn=>(by cases hn)⟩ ⟨zah _,zah _⟩ hne;generalize et:aV T dp 2000 ⟨0,false,[]⟩ ⟨0,0,[]⟩=r at *;clear hrow hb2 et hT Vn;have PX:(Instr.makeMap 121 none).run prog w=.ok (.map (some w.heap.size)) (w.alloc (.map #[] 0)):=rfl;unfold gA au at HD;go_enter func42,ntmps42;go_wp2_with fail;refine Calls.mono HD.out ?_;clear HD;intro e w3 bX;cases r with
 |out=>exact absurd rfl hne
 |fail er a=>
  obtain⟨⟨b,rfl,hf⟩,hk⟩:=bX;have HG:Hid (OkR T w (RR.fail er a) (.returned (.tuple #[.nilIface,.int .i64 0,au b])) w3):=⟨Kp.low hk.plain gN.out (by omega) (zaa _),b,rfl,hf⟩;clear hf hk;unfold au;go_wp2_with fail
  go_ret3
  exact HG.out
 |ok d0 s'=>
  obtain⟨v,E',rfl,⟨ty,y,rfl⟩,bW,hx,hr,hk⟩:=bX;obtain⟨k',hk'⟩:∃k',s'.k=k'+1:=⟨s'.k-1,by have:=bY.1;simp at this;omega⟩;have hlt:k'<T.length:=by have:=bY.2;omega
  obtain⟨t,ht⟩:∃t,T[k']?=some t:=⟨_,zaf hlt⟩;obtain⟨⟨r0,r1,r2,r3⟩,rf⟩:=gJ hr.blk;have t2:w3.cell? ⟨g,k'*7+2,none⟩=some (.int .i64 t.cA):=by rw[hr.row.cellAt _ (by omega),N2 T k' 2 t ht (by omega)];rfl
  rw[hk']at r1;have hs2:=gN.out.size;have HG:Hid (OkR T w (RR.ok d0 s') (.returned (.tuple #[.iface ty y,.int .i64 t.cA,.pointer none])) w3.drew):=
   ⟨(Kp.low hk.plain gN.out (by omega) (zaa _)).drew,.iface ty y,E',t,by rw[hk'];exact ht,rfl,⟨ty,y,rfl⟩,ba.keep (w:=w3) (w':=w3.drew) hs2 (zaa _) (λ_ h=>h) (λ_ _ _=>rfl) ⟨λ_ _=>rfl,λ_ _=>rfl⟩ d0 _ bW,
     λi j h1 h2 e=>hx.inj i j (zah _) h1 (zah _) h2 e,hr.low⟩
  have hgr:g<w3.heap.size:=(hr.row.lt g rfl).2;have hRr:w.heap.size+1<w3.heap.size:=hr.lt;clear bW hx hr hk bY hne xf gN ht;go_wp2_with fail;go_region;go_wp2_with fail
  go_ret3
  exact HG.out
end Go.Proofs.YtlhimdjkkiflhaaGreatDoor
namespace Go.Ren
open Go.Proofs.Tryz
open Go Go.Conc Go.ConcX Go.RowKit Go.Proofs Go.Loop Go.Proofs.YtlhimdjkkiflhaaGreatDoor
def c8 (f:Func):Code:=f.body.getD .skip
def c8a (f:Func):Code:=Ren.aC (c8 f)
def Xp (f:Func):Code:=Ren.aC (Ren.aL (c8 f))
def Zz (f:Func):Code:=Ren.aL (Ren.aL (c8 f))
def o8 (f:Func):Array Oper:=Ren.cC (Ren.aC (Zz f))
def RQ (f:Func):Code:=Ren.aL (Zz f)
theorem Oi:prog.funcs[25]?=some f25:=by kernel_rfl
theorem ZA:f25.body=some (.seq (c8a f25) (.seq (Xp f25) (.seq (.region 3 (o8 f25) false) (RQ f25)))):=by kernel_rfl
theorem nt8:f25.ntmps=40:=by kernel_rfl
theorem t40 (x y:Value):(#[x,y]++Array.replicate (40-#[x,y].size) undef:Array Value)=#[x,y,undef,undef,undef,undef,undef,undef,undef,undef,undef,undef,undef,undef,undef,undef,undef,undef,undef,undef,undef,undef,undef,undef,undef,undef,undef,undef,undef,undef,undef,undef,undef,undef,undef,undef,undef,undef,undef,undef]:=by
 generalize undef=u;simp[Array.replicate,List.replicate]
theorem Vo (x y:Value):Frame.enter prog 25 #[x,y] .normal=(base 25).at ⟨#[x,y,undef,undef,undef,undef,undef,undef,undef,undef,undef,undef,undef,undef,undef,undef,undef,undef,undef,undef,undef,undef,undef,undef,undef,undef,undef,undef,undef,undef,undef,undef,undef,undef,undef,undef,undef,undef,undef,undef],[]⟩ [.code (.seq (c8a f25) (.seq (Xp f25) (.seq (.region 3 (o8 f25) false) (RQ f25))))]:=by
 rw[enter_at _ Oi ZA,nt8,t40]
theorem adp:aG prog Fz Sz (c8a f25)=true:=by kernel_rfl
theorem ZB:aG prog Fz Sz (Xp f25)=true:=by kernel_rfl
theorem ZC:aG prog Fz Sz (RQ f25)=true:=by kernel_rfl
def aj (w w':World):Prop:=w.heap.size≤w'.heap.size∧∀r,r<w.heap.size→w'.heap[r]?=w.heap[r]?
theorem aj.trans {a b c:World}(h:aj a b)(k:aj b c):aj a c:=⟨zad h.1 k.1,λr hr=>(k.2 r (zaw hr h.1)).trans (h.2 r hr)⟩
theorem aj.of {w w':World}(h:Below w.heap.size w w'):aj w w':=⟨h.size,h.block⟩
def Vp (s:List UInt8)(dp:Nat)(w:World)(v:Value):Prop:=∃lo K L E d s',aV (aU (s.length+1) s 0) dp 2000 ⟨0,false,[]⟩ ⟨0,0,[]⟩=.ok d s'∧ba lo K L w E d v∧(∀i j,i<K→j<K→E.α i=E.α j→i=j)∧bn d d=true
def Dk (s:List UInt8)(dp:Nat)(w:World)(v:Value)(w':World):Prop:=
 aj w w'∧((∃b e at_,v=.tuple #[.agg #[.nilIface,.slice none 0 0,.int .i64 0],au b]∧cy w' b e at_∧ji s dp=some ([],at_,e))∨
  ∃ty y nv bu nodes cA,v=.tuple #[.agg #[.iface ty y,nv,.int .i64 (cA:Nat)],.pointer none]∧bC w' 0 nv bu nodes∧ji s dp=some (nodes,cA,0)∧Vp s dp w' (.iface ty y))
def lX (s:List UInt8)(dp:Nat):Prop:=∀d s',aV (aU (s.length+1) s 0) dp 2000 ⟨0,false,[]⟩ ⟨0,0,[]⟩=.ok d s'→bn d d=true∧∃k g,lR d 100000 d ⟨[],[]⟩=some (k,g)∧g.nodes.length≤999999
abbrev Dl:Obj:= .cells #[.nilIface,.slice none 0 0,.int .i64 0] 60
theorem len8:(o8 f25).size=11:=by kernel_rfl
theorem Bb {w1:World}{b:Nat}{x0 x1 x2:Value}{e:TypeId}(h:w1.heap[b]?=some (.cells #[x0,x1,x2] e)):(w1.frozen? ⟨b,0,none⟩=false∧w1.frozen? ⟨b,1,none⟩=false∧w1.frozen? ⟨b,2,none⟩=false):=by
 refine⟨?_,?_,?_⟩<;>simp[World.frozen?,h]
theorem aa.n4 {P:Program}{S:Sd}{Ψ:cI}{b:Frame}{a:Act}{cs:List Frame}{w:World}{ops:Array Oper}{i:Nat}{rest:List Nat}{o:Oper}{kk:List Item}(ho:ops[i]?=some o)(hw:o.guard=none)(hk:b.kind≠.early){f:FuncId}{xs:Array Operand}{ats:Array TypeId}(hop:o.op=.call { callee:= .value (.func f),args:=xs,argTypes:=ats })
 (qQ:(P.funcs[f]?).any (λfn=>fn.body.isSome)=true)(MH:(P.funcs[f]?).any (λfn=>fn.name != "runtime.NumGoroutine")=true)(hx:xs.all (fV S)=true){args:Array Value}(ZE:xs.map a.eval=args)
 (h:aa P S Ψ (Frame.enter P f args .normal) (b.at a (.inRegion ops (i::rest)::kk)::cs) w):aa P S Ψ (b.at a (.inRegion ops (i::rest)::kk)) cs w:=by
 subst ZE;exact aa.enter ho (by simp[Region.wanted,hw]) hk hop qQ MH hx h
theorem aa.move' {P:Program}{F:FuncId→Bool}{S:Sd}{Ψ:cI}{b:Frame}{a:Act}{cs:List Frame}{w:World}{ops:Array Oper}{i:Nat}{rest:List Nat}{o:Oper}{kk:List Item}(hC:kO P F S)(ho:ops[i]?=some o)(hw:o.guard=none)(hk:b.kind≠.early){t d:Tmp}(hop:o.op=.move (.tmp t))(hd:o.dst=some d){a':Act}(ha:a.put (some d) (a.eval (.tmp t))=a')
 (h:aa P S Ψ (b.at a' (.inRegion ops rest::kk)) cs w):aa P S Ψ (b.at a (.inRegion ops (i::rest)::kk)) cs w:=by
 subst ha;refine aa.Hn hC (by rw[hop];rfl) ho (by simp[Region.wanted,hw]) hk λτ dd=>⟨a.eval (.tmp t),w.re τ dd,?_,?_⟩
 ·simp[execOp,hop]
 ·rw[hd];exact h.re rfl
theorem aa.RS {Ψ:cI}{cs:List Frame}{w:World}{b:Frame}{a:Act}{ops:Array Oper}{i:Nat}{rest:List Nat}{kk:List Item}{s:List UInt8}(hlen:s.length≤1000){d:Tmp}(hd:(ops[i]?).bind (·.dst)=some d){a':Value→Act}(ha:∀v,a.put (some d) v=a' v)(h:∀v w',Below w.heap.size w w'→w'.ownsRow w.heap.size 131 7 v (aU (s.length+1) s 0).length ((aU (s.length+1) s 0).flatMap iy)→aa prog Sz Ψ (b.at (a' v) (.inRegion ops rest::kk)) cs w'):aa prog Sz Ψ (Frame.enter prog 43 #[.string ⟨⟨s⟩⟩] .normal) (b.at a (.inRegion ops (i::rest)::kk)::cs) w:=
 aa.U6 hlen λv w' h1 h2=>by rw[hd,ha];exact h v w' h1 h2
theorem Bc {w:World}{b:Nat}{y0 y1 y2:Value}{e:TypeId}(h:w.heap[b]?=some (.cells #[y0,y1,y2] e))(x0 x1 x2:Value):(((w.setCell ⟨b,0,none⟩ x0).setCell ⟨b,1,none⟩ x1).setCell ⟨b,2,none⟩ x2).heap[b]?=some (.cells #[x0,x1,x2] e):=by
 have h1:=dN h 0 x0;have h2:=dN h1 1 x1;have h3:=dN h2 2 x2;simpa using h3
theorem vh {w:World}{b c:Nat}(h:c≠b)(x0 x1 x2:Value):(((w.setCell ⟨b,0,none⟩ x0).setCell ⟨b,1,none⟩ x1).setCell ⟨b,2,none⟩ x2).heap[c]?=w.heap[c]?:=
 (Below.heap_setCell _ _ _ _ h).trans ((Below.heap_setCell _ _ _ _ h).trans (Below.heap_setCell _ _ _ _ h))
theorem zC (w:World)(b:Nat)(x0 x1 x2:Value):(((w.setCell ⟨b,0,none⟩ x0).setCell ⟨b,1,none⟩ x1).setCell ⟨b,2,none⟩ x2).heap.size=w.heap.size:=by simp
theorem Oj {w w3:World}(hb:aj w w3){y0 y1 y2:Value}{e:TypeId}(_h:w3.heap[w.heap.size]?=some (.cells #[y0,y1,y2] e))(x0 x1 x2:Value):aj w (((w3.setCell ⟨w.heap.size,0,none⟩ x0).setCell ⟨w.heap.size,1,none⟩ x1).setCell ⟨w.heap.size,2,none⟩ x2):=
 ⟨by rw[zC];exact hb.1,λr hr=>(vh (by omega) _ _ _).trans (hb.2 r hr)⟩
theorem Ol {w w3:World}(hb:aj w w3){y0 y1 y2:Value}{e:TypeId}(h:w3.heap[w.heap.size]?=some (.cells #[y0,y1,y2] e))(x0 x1 x2:Value)(o:Obj):aj w ((((w3.setCell ⟨w.heap.size,0,none⟩ x0).setCell ⟨w.heap.size,1,none⟩ x1).setCell ⟨w.heap.size,2,none⟩ x2).alloc o)∧((((w3.setCell ⟨w.heap.size,0,none⟩ x0).setCell ⟨w.heap.size,1,none⟩ x1).setCell ⟨w.heap.size,2,none⟩ x2).alloc o).heap[w.heap.size]?=some (.cells #[x0,x1,x2] e)∧((((w3.setCell ⟨w.heap.size,0,none⟩ x0).setCell ⟨w.heap.size,1,none⟩ x1).setCell ⟨w.heap.size,2,none⟩ x2).alloc o).heap[w3.heap.size]?=some o:=by
 have h1:=Oj hb h x0 x1 x2;have h2:=Bc h x0 x1 x2;have h3:=zC w3 w.heap.size x0 x1 x2;generalize ((w3.setCell ⟨w.heap.size,0,none⟩ x0).setCell ⟨w.heap.size,1,none⟩ x1).setCell ⟨w.heap.size,2,none⟩ x2=w5 at *;refine⟨h1.trans (aj.of ((Below.refl _ _).alloc (zaa _) _)),(Lib.alloc_old _ _ _ (zac.1 h2).1).trans h2,?_⟩;rw[←h3];exact heap_alloc_new w5 o
theorem bC.keep {w w':World}{lo NW:Nat}{nv:Value}{bu:List Value}{nodes:List ng}(h:bC w lo nv bu nodes)(hl:NW≤lo)(hw:∀(b:Nat) c,w.heap[b]?=some (.cells c 45)∨w.heap[b]?=some (.cells c 3)→w'.heap[b]?=w.heap[b]?):bC w' NW nv bu nodes:=by
 refine⟨⟨h.1.1,h.1.2.imp id ?_⟩,h.2.1,λj x sv hx qx=>?_⟩
 ·rintro ⟨b,cp,cur,q1,q2,q3,q4⟩;exact⟨b,cp,cur,q1,by omega,(hw b _ (.inl q3)).trans q3,q4⟩
 ·rcases h.2.2 j x sv hx qx with q|⟨b,q1,q2,q3⟩
  ·exact .inl q
  ·exact .inr ⟨b,q1,by omega,(hw b _ (.inr q3)).trans q3⟩
theorem bC.adq {w:World}{lo:Nat}{nv:Value}{bu:List Value}{nodes:List ng}(h:bC w lo nv bu nodes){b:Nat}{y0 y1 y2:Value}(hb:w.heap[b]?=some (.cells #[y0,y1,y2] 60))(x0 x1 x2:Value):bC (((w.setCell ⟨b,0,none⟩ x0).setCell ⟨b,1,none⟩ x1).setCell ⟨b,2,none⟩ x2) 0 nv bu nodes:=
 Ren.bC.keep h (zah _) λc cc hc=>vh (λe=>by
  rw[e,hb]at hc;rcases hc with hc|hc<;>simp at hc) _ _ _
theorem Gh {s:List UInt8}{dp:Nat}(wj:dp≤30)(h:400<s.length):ji s dp=some ([],0,2):=by
 unfold ji;rw[if_neg (by omega),if_pos h]
theorem kT {s:List UInt8}{dp:Nat}(wj:dp≤30)(h:¬400<s.length):ji s dp=match aV (aU (s.length+1) s 0) dp 2000 ⟨0,false,[]⟩ ⟨0,0,[]⟩with
 |.out=>none
 |.fail e a=>some ([],a,e)
 |.ok d s'=>(lR d 100000 d ⟨[],[]⟩).map λg=>if 150<g.2.nodes.length then([],0,2)else(g.2.nodes,(((aU (s.length+1) s 0)[s'.k-1]?).map (·.cA)).getD 0,0):=by
 unfold ji;rw[if_neg (by omega),if_neg h,zaE];cases aV (aU (s.length+1) s 0) dp 2000 ⟨0,false,[]⟩ ⟨0,0,[]⟩<;>rfl
def Vq (f:Func)(i:Nat):Oper:=(o8 f)[i]!
theorem ZF:(o8 f25)[0]?=some (Vq f25 0):=by kernel_rfl
theorem ZG:(o8 f25)[1]?=some (Vq f25 1):=by kernel_rfl
theorem ZH:(Vq f25 0).op=.move (.tmp 0):=by kernel_rfl
theorem ZI:(Vq f25 1).op=.call { callee:= .value (.func 43),args:=#[.tmp 17],argTypes:=#[9] }:=by kernel_rfl
theorem ZJ:(Vq f25 0).guard=none:=by kernel_rfl
theorem ZK:(Vq f25 1).guard=none:=by kernel_rfl
theorem ZL:(Vq f25 0).dst=some 17:=by kernel_rfl
theorem ZM:((o8 f25)[1]?).bind (·.dst)=some 18:=by kernel_rfl
theorem adr:([2,3,4,5,6,7,8,9,10].all λi=>((o8 f25)[i]?).all λo=>fw prog Fz Sz o.op)=true:=by kernel_rfl
theorem ads:(prog.funcs[43]?).any (λfn=>fn.body.isSome)=true:=by kernel_rfl
theorem adt:(prog.funcs[43]?).any (λfn=>fn.name != "runtime.NumGoroutine")=true:=by kernel_rfl
theorem adu:f25.results=#[.cell 4 60,.tmp 5]:=by kernel_rfl
theorem rJ {W:World}{R:Nat}{x0 x1 x2 fv:Value}{tmps:Array Value}(h4:tmps.getD 4 undef=.pointer (some ⟨R,0,none⟩))(h5:tmps.getD 5 undef=fv)(h:W.heap[R]?=some (.cells #[x0,x1,x2] 60)):(results f25 tmps).run prog W=.ok (.tuple #[.agg #[x0,x1,x2],fv]) W:=by
 rw[results_cell_tmp adu,h4,h5];obtain⟨z0,z1,z2⟩:=eE h;have h1:(loadVar 60 ⟨R,0,none⟩).run prog W=.ok (.agg #[x0,x1,x2]) W:=by
  go_simp
 simp[asAddr,h1]
section
variable {Ψ:cI}{cs:List Frame}{w:World}{b:Frame}{a:Act}{ops:Array Oper}{i:Nat}{rest:List Nat}{kk:List Item}
theorem aa.read {s:List UInt8}{dp:Nat}(wj:dp≤30)(bY:lX s dp)(h:∀v w',Dk s dp w v w'→aa prog Sz Ψ (b.at (a.put ((ops[i]?).bind (·.dst)) v) (.inRegion ops rest::kk)) cs w'):aa prog Sz Ψ (Frame.enter prog 25 #[.string ⟨⟨s⟩⟩,.int .i64 dp] .normal) (b.at a (.inRegion ops (i::rest)::kk)::cs) w:=by
 have HH:Hid _:=h;have LV:Hid _:=bY;clear h bY;rw[Vo];refine aa.seq ?_;refine aa.code bZ adp rfl ⟨_,Oi⟩ rfl λτ d=>?_;have hw:(w.re τ d).heap=w.heap:=rfl;generalize w.re τ d=w1 at *;generalize cP:([.code (.seq (Xp f25) (.seq (.region 3 (o8 f25) false) (RQ f25)))]:List Item)=kq;dsimp only[c8a,c8,Ren.aC,f25,Option.getD];go_wp2_with fail;subst cP;show aa _ _ _ _ _ _;have gN:Hid (aj w (w1.alloc Dl)):=⟨by rw[←hw];simp,λr hr=>by rw[←hw]at hr ⊢;exact Lib.alloc_old _ _ _ hr⟩;have hR2:(w1.alloc Dl).heap[w.heap.size]?=some Dl:=by rw[←hw];exact heap_alloc_new w1 _
 generalize hw2:w1.alloc Dl=w2 at *;clear hw2 hw;refine aa.seq ?_;by_cases dP:400<s.length
 ·refine aa.code bZ ZB rfl ⟨_,Oi⟩ rfl λτ d=>?_;have hw:(w2.re τ d).heap=w2.heap:=rfl;generalize w2.re τ d=w3 at *;have RU:w3.heap[w.heap.size]?=some Dl:=by rw[hw];exact hR2
  obtain⟨z0,z1,z2⟩:=eE RU;obtain⟨f0,f1,f2⟩:=Bb RU;have e2:w.heap.size<w3.heap.size:=(zac.1 RU).1;have e1:¬w.heap.size=w3.heap.size:=by omega
  have HW:Hid _:=hw;have C9:Hid _:=RU;clear hw RU hR2;have hlI:(400:Int)<(s.length:Int):=by omega
  generalize cP:([.code (.seq (.region 3 (o8 f25) false) (RQ f25))]:List Item)=kq;dsimp only[Xp,c8,Ren.aC,Ren.aL,f25,Option.getD];go_wp2_with fail;show ∀todo,aa _ _ _ _ _ _;intro todo;have hb3:aj w w3:=⟨by rw[HW.out];exact gN.out.1,λr hr=>by rw[HW.out];exact gN.out.2 r hr⟩;obtain⟨q1,q2,q3⟩:=Ol hb3 C9.out .nilIface (.slice none 0 0) (.int .i64 0) (.cells #[.int .i64 2,.int .i64 0] 65);refine aa.jz bZ rfl rfl Oi (rJ rfl rfl q2) ?_;exact HH.out _ _ ⟨q1,.inl ⟨w3.heap.size,2,0,rfl,q3,Gh wj dP⟩⟩
 ·refine aa.code bZ ZB rfl ⟨_,Oi⟩ rfl λτ d=>?_;have hw:(w2.re τ d).heap=w2.heap:=rfl;generalize w2.re τ d=w3 at *;have hlI:¬((400:Int)<(s.length:Int)):=by omega
  generalize cP:([.code (.seq (.region 3 (o8 f25) false) (RQ f25))]:List Item)=kq;dsimp only[Xp,c8,Ren.aC,Ren.aL,f25,Option.getD];go_wp2_with fail;subst cP;show aa _ _ _ _ _ _;have gQ:Hid (aj w w3):=⟨by rw[hw];exact gN.out.1,λr hr=>by rw[hw];exact gN.out.2 r hr⟩;have RU:w3.heap[w.heap.size]?=some Dl:=by rw[hw];exact hR2
  clear hw gN hR2 hlI;refine aa.seq ?_;refine aa.region ?_;rw[len8,show List.range 11=[0,1,2,3,4,5,6,7,8,9,10] from rfl];refine aa.move' bZ ZF ZJ (by decide) ZH ZL (a':=⟨#[.string ⟨⟨s⟩⟩,.int .i64 dp,undef,undef,.pointer (some ⟨w.heap.size,0,none⟩),.pointer none,undef,undef,undef,undef,.string ⟨⟨s⟩⟩,.int .i64 s.length,.bool false,undef,undef,undef,undef,.string ⟨⟨s⟩⟩,undef,undef,undef,undef,undef,undef,undef,undef,undef,undef,undef,undef,undef,undef,undef,undef,undef,undef,undef,undef,undef,undef],[]⟩) (by simp[Act.eval,Act.put]) ?_;refine aa.n4 (f:=43) (xs:=#[.tmp 17]) (ats:=#[9]) (args:=#[.string ⟨⟨s⟩⟩]) ZG ZK (by decide) ZI ads adt (by simp[fV]) (by simp[Act.eval]) ?_;refine aa.RS (by omega) ZM (a':=λv=>⟨#[.string ⟨⟨s⟩⟩,.int .i64 dp,undef,undef,.pointer (some ⟨w.heap.size,0,none⟩),.pointer none,undef,undef,undef,undef,.string ⟨⟨s⟩⟩,.int .i64 s.length,.bool false,undef,undef,undef,undef,.string ⟨⟨s⟩⟩,v,undef,undef,undef,undef,undef,undef,undef,undef,undef,undef,undef,undef,undef,undef,undef,undef,undef,undef,undef,undef,undef],[]⟩) (λv=>by simp[Act.put]) λv w4 hb4 hrow=>?_;have hlen:=zr (s.length+1) s 0;obtain⟨Vn,hT⟩:=ug (s.length+1) s 0 (zah _) (by omega);obtain⟨g,cap,rfl⟩:∃g cap,v=.slice (some ⟨g,0,none⟩) (aU (s.length+1) s 0).length cap:=by
   rcases hrow.2 with⟨_,h0⟩|⟨g,cap,cur,e,_⟩
   ·exact absurd (zbi h0) Vn
   ·exact⟨g,cap,e⟩
  refine aa.ops bZ rfl ⟨_,Oi⟩ rfl adr 2 ((o8 f25).toList.drop 2) (by rw[zaj,zbl,len8];rfl) (λj=>by rw[zaU,zaN]) λpz d'=>?_;have oT:Hid (aj w w4):=gQ.out.trans ⟨hb4.size,hb4.block⟩;have hR4:w4.heap[w.heap.size]?=some Dl:=(hb4.block _ (zac.1 RU).1).trans RU;have hw:(w4.re pz d').heap=w4.heap:=rfl;have mB:Hid ((w4.re pz d').ownsRow 0 131 7 (.slice (some ⟨g,0,none⟩) (aU (s.length+1) s 0).length cap) (aU (s.length+1) s 0).length ((aU (s.length+1) s 0).flatMap iy)):=bg (w:=w4) hrow (zah _) λ_ _ _=>rfl;generalize w4.re pz d'=w5 at *;have hfu:=(fuel (aU (s.length+1) s 0) dp hT 2000).datum ⟨0,false,[]⟩ ⟨0,0,[]⟩ (List.length_pos_iff.2 Vn) (by show 2*((aU (s.length+1) s 0).length - 0)+2≤2000;omega);have HC:Hid _:=Gg (aU (s.length+1) s 0) dp g cap w5 wj hT Vn (by omega) mB.out;have HLO:Hid (w.heap.size<w5.heap.size):=by show _<_;rw[hw];exact(zac.1 hR4).1
  clear hrow hb4 gQ RU mB hT Vn;have pI:Hid _:=hw;clear hw;generalize cP:([.code (RQ f25)]:List Item)=kq;dsimp only[o8,Zz,c8,Ren.cC,Ren.aC,Ren.aL,f25,Option.getD];simp only[zaG,zaA];go_wp2_with fail;refine Calls.mono HC.out ?_;clear HC;rintro e w6 ⟨mZ,iK⟩;have lp:Hid (aj w w6):=oT.out.trans (aj.trans ⟨by rw[pI.out];exact zaa _,λr _=>by rw[pI.out]⟩ (aj.of mZ));have RV:w6.heap[w.heap.size]?=some Dl:=(mZ.block _ (by rw[pI.out];exact(zac.1 hR4).1)).trans (by rw[pI.out];exact hR4);have Kq:Hid _:=RV;clear mZ oT pI hR4;cases et:aV (aU (s.length+1) s 0) dp 2000 ⟨0,false,[]⟩ ⟨0,0,[]⟩with
  |out=>rw[et]at hfu;exact hfu.elim
  |fail er at_=>
   rw[et]at iK;obtain⟨fb,rfl,Om⟩:=iK;have HF:Hid _:=Om;have PZ:Hid (ji s dp=some ([],at_,er)):=by show _=_;rw[kT wj dP,et]
   clear Om hfu et RV;unfold au;go_wp2_with fail;subst cP;show aa _ _ _ _ _ _;refine aa.code bZ ZC rfl ⟨_,Oi⟩ rfl λτ d=>?_;have hw:(w6.re τ d).heap=w6.heap:=rfl;generalize w6.re τ d=w7 at *;have P0:w7.heap[w.heap.size]?=some Dl:=by rw[hw];exact Kq.out
   obtain⟨z0,z1,z2⟩:=eE P0;obtain⟨f0,f1,f2⟩:=Bb P0;have HW:Hid _:=hw;have LS:Hid _:=P0;clear hw P0;dsimp only[RQ,Zz,c8,Ren.aC,Ren.aL,f25,Option.getD];go_wp2_with fail;show ∀todo,aa _ _ _ _ _ _;intro todo;have BP:aj w w7:=⟨by rw[HW.out];exact lp.out.1,λr hr=>by rw[HW.out];exact lp.out.2 r hr⟩;have q1:=Oj BP LS.out .nilIface (.slice none 0 0) (.int .i64 0);have q2:=Bc LS.out .nilIface (.slice none 0 0) (.int .i64 0);have q3:cy (((w7.setCell ⟨w.heap.size,0,none⟩ .nilIface).setCell ⟨w.heap.size,1,none⟩ (.slice none 0 0)).setCell ⟨w.heap.size,2,none⟩ (.int .i64 0)) fb er at_:=by
    have hf:w6.heap[fb]?=_:=HF.out;refine(vh (λe=>?_) _ _ _).trans (by rw[HW.out];exact hf);rw[e,Kq.out]at hf;simp at hf
   refine aa.jz bZ rfl rfl Oi (rJ rfl rfl q2) ?_;exact HH.out _ _ ⟨q1,.inl ⟨fb,er,at_,rfl,q3,PZ.out⟩⟩
  |ok d0 s'=>
   rw[et]at iK;obtain⟨v,E',t,ht,rfl,⟨ty,y,rfl⟩,bW,lV,-⟩:=iK;obtain⟨hgd,k0,g0,cr,E9⟩:=LV.out d0 s' et;have PZ:Hid (ji s dp=if 150<g0.nodes.length then some ([],0,2)else some (g0.nodes,t.cA,0)):=by
    show _=_;rw[kT wj dP,et];simp only[cr,zaH,ht,zaF];split<;>rfl
   have HD:Hid _:=bW;have HI:Hid _:=lV;have HGB:Hid _:=hgd;have Ty:Hid _:=cr;have vg:Hid _:=et;have agj:w.heap.size<w5.heap.size:=HLO.out;clear bW lV hgd cr hfu et RV ht HLO;go_wp2_with fail;subst cP;show aa _ _ _ _ _ _;refine aa.code bZ ZC rfl ⟨_,Oi⟩ rfl λτ d=>?_;have hw:(w6.re τ d).heap=w6.heap:=rfl;generalize w6.re τ d=w7 at *;have HD7:Hid (ba w5.heap.size s'.fresh s'.aP w7 E' d0 (.iface ty y)):=ba.keep (w:=w6) (w':=w7) (zaa _) (zaa _) (λ_ h=>h) (λb _ _=>by rw[hw]) ⟨λ_ _=>rfl,λ_ _=>rfl⟩ d0 _ HD.out;have HGC:Hid _:=Dj w7 d0 (.iface ty y) (ba.keep (w:=w6) (w':=w7) (zaa _) (zaa _) (λ_ h=>h) (λb _ _=>by rw[hw]) ⟨λ_ _=>rfl,λ_ _=>rfl⟩ d0 _ HD.out) HGB.out HI.out 100000 k0 g0 Ty.out E9;have pK:Hid (aj w w7):=⟨by rw[hw];exact lp.out.1,λr hr=>by rw[hw];exact lp.out.2 r hr⟩;have LS:Hid (w7.heap[w.heap.size]?=some Dl):=by show _=_;rw[hw];exact Kq.out
   clear hw HD Ty lp Kq;dsimp only[RQ,Zz,c8,Ren.aC,Ren.aL,f25,Option.getD];go_wp2_with fail;refine Calls.mono HGC.out ?_;clear HGC;rintro e w8 ⟨nv,bu,rfl,mD,hb8⟩;obtain⟨na,nc,rfl⟩:=bh mD.1;have ZN:w8.heap[w.heap.size]?=some Dl:=(hb8.block _ (zac.1 LS.out).1).trans LS.out;have Oo:Hid (aj w w8):=pK.out.trans (aj.of hb8);have HN8:Hid _:=mD;have HD8:Hid (ba w5.heap.size s'.fresh s'.aP w8 E' d0 (.iface ty y)):=ba.keep (w:=w7) (w':=w8) (zaa _) (zaa _) (λ_ h=>h) (λb _ h=>hb8.block b h) ⟨λ_ _=>rfl,λ_ _=>rfl⟩ d0 _ HD7.out;have Vr:Hid _:=ZN;obtain⟨z0,z1,z2⟩:=eE ZN;obtain⟨f0,f1,f2⟩:=Bb ZN;have e2:w.heap.size<w8.heap.size:=(zac.1 ZN).1;have e1:¬w.heap.size=w8.heap.size:=by omega
   clear hb8 mD ZN pK LS;by_cases Tz:150<g0.nodes.length
   ·have hmI:(150:Int)<(g0.nodes.length:Int):=by omega
    go_wp2_with fail;show ∀todo,aa _ _ _ _ _ _;intro todo;obtain⟨q1,q2,q3⟩:=Ol Oo.out Vr.out .nilIface (.slice none 0 0) (.int .i64 0) (.cells #[.int .i64 2,.int .i64 0] 65);refine aa.jz bZ rfl rfl Oi (rJ rfl rfl q2) ?_;exact HH.out _ _ ⟨q1,.inl ⟨w8.heap.size,2,0,rfl,q3,by rw[PZ.out,if_pos Tz]⟩⟩
   ·have hmI:¬((150:Int)<(g0.nodes.length:Int)):=by omega
    go_wp2_with fail;show ∀todo,aa _ _ _ _ _ _;intro todo;have q1:=Oj Oo.out Vr.out (.iface ty y) (.slice na g0.nodes.length nc) (.int .i64 t.cA);have q2:=Bc Vr.out (.iface ty y) (.slice na g0.nodes.length nc) (.int .i64 t.cA);have q3:=bC.adq HN8.out Vr.out (.iface ty y) (.slice na g0.nodes.length nc) (.int .i64 t.cA);refine aa.jz bZ rfl rfl Oi (rJ rfl rfl q2) ?_;exact HH.out _ _ ⟨q1,.inr ⟨ty,y,.slice na g0.nodes.length nc,bu,g0.nodes,t.cA,rfl,q3,by rw[PZ.out,if_neg Tz],_,_,_,_,_,_,vg.out,ba.keep (w:=w8) (zaa _) (zaa _) (λ_ h=>h) (λb h _=>vh (by omega) _ _ _) ⟨λ_ _=>rfl,λ_ _=>rfl⟩ d0 _ HD8.out,HI.out,HGB.out⟩⟩
end
def c5 (f:Func):Code:=f.body.getD .skip
def c5a (f:Func):Code:=Ren.aC (c5 f)
def Xq (f:Func):Code:=Ren.aC (Ren.aL (c5 f))
def Xr (f:Func):Code:=Ren.aL (Ren.aL (c5 f))
def o5 (f:Func):Array Oper:=Ren.cC (Ren.aC (Xr f))
def P1 (f:Func):Code:=Ren.aL (Xr f)
theorem P2:prog.funcs[18]?=some f18:=by kernel_rfl
theorem ZO:f18.body=some (.seq (c5a f18) (.seq (Xq f18) (.seq (.region 3 (o5 f18) false) (P1 f18)))):=by kernel_rfl
theorem nt5:f18.ntmps=35:=by kernel_rfl
theorem t35 (x y:Value):(#[x,y]++Array.replicate (35-#[x,y].size) undef:Array Value)=#[x,y,undef,undef,undef,undef,undef,undef,undef,undef,undef,undef,undef,undef,undef,undef,undef,undef,undef,undef,undef,undef,undef,undef,undef,undef,undef,undef,undef,undef,undef,undef,undef,undef,undef]:=by
 generalize undef=u;simp[Array.replicate,List.replicate]
theorem Vs (x y:Value):Frame.enter prog 18 #[x,y] .normal=(base 18).at ⟨#[x,y,undef,undef,undef,undef,undef,undef,undef,undef,undef,undef,undef,undef,undef,undef,undef,undef,undef,undef,undef,undef,undef,undef,undef,undef,undef,undef,undef,undef,undef,undef,undef,undef,undef],[]⟩ [.code (.seq (c5a f18) (.seq (Xq f18) (.seq (.region 3 (o5 f18) false) (P1 f18))))]:=by
 rw[enter_at _ P2 ZO,nt5,t35]
theorem adv:aG prog Fz Sz (c5a f18)=true:=by kernel_rfl
theorem ZP:aG prog Fz Sz (Xq f18)=true:=by kernel_rfl
theorem ZQ:aG prog Fz Sz (P1 f18)=true:=by kernel_rfl
theorem ZR:(o5 f18).size=9:=by kernel_rfl
def Oq (f:Func)(i:Nat):Oper:=(o5 f)[i]!
theorem ZT:(o5 f18)[0]?=some (Oq f18 0):=by kernel_rfl
theorem ZU:(o5 f18)[1]?=some (Oq f18 1):=by kernel_rfl
theorem ZV:(o5 f18)[2]?=some (Oq f18 2):=by kernel_rfl
theorem ZW:(Oq f18 0).op=.move (.tmp 0):=by kernel_rfl
theorem ZX:(Oq f18 1).op=.move (.tmp 1):=by kernel_rfl
theorem ZY:(Oq f18 2).op=.call { callee:= .value (.func 25),args:=#[.tmp 16,.tmp 17],argTypes:=#[9,3] }:=by kernel_rfl
theorem ZZ:(Oq f18 0).guard=none:=by kernel_rfl
theorem Z0:(Oq f18 1).guard=none:=by kernel_rfl
theorem Z1:(Oq f18 2).guard=none:=by kernel_rfl
theorem Z2:(Oq f18 0).dst=some 16:=by kernel_rfl
theorem Z3:(Oq f18 1).dst=some 17:=by kernel_rfl
theorem Z4:((o5 f18)[2]?).bind (·.dst)=some 18:=by kernel_rfl
theorem adw:([3,4,5,6,7,8].all λi=>((o5 f18)[i]?).all λo=>fw prog Fz Sz o.op)=true:=by kernel_rfl
theorem bd8:(prog.funcs[25]?).any (λfn=>fn.body.isSome)=true:=by kernel_rfl
theorem nm8:(prog.funcs[25]?).any (λfn=>fn.name != "runtime.NumGoroutine")=true:=by kernel_rfl
theorem Vt:f18.results=#[.tmp 4,.tmp 5,.tmp 6]:=by kernel_rfl
def IE (s:List UInt8)(dep:Int)(w:World)(v:Value)(w':World):Prop:=
 aj w w'∧∃nodes at_ e nv bu,ji s dep=some (nodes,at_,e)∧v=.tuple #[nv,.int .i64 (at_:Nat),.int .i64 e]∧bC w' 0 nv bu nodes
theorem aa.TA {Ψ:cI}{cs:List Frame}{w:World}{b:Frame}{a:Act}{ops:Array Oper}{i:Nat}{rest:List Nat}{kk:List Item}{s:List UInt8}{dp:Nat}(wj:dp≤30)(bY:lX s dp){d:Tmp}(hd:(ops[i]?).bind (·.dst)=some d){a':Value→Act}(ha:∀v,a.put (some d) v=a' v)(h:∀v w',Dk s dp w v w'→aa prog Sz Ψ (b.at (a' v) (.inRegion ops rest::kk)) cs w'):aa prog Sz Ψ (Frame.enter prog 25 #[.string ⟨⟨s⟩⟩,.int .i64 dp] .normal) (b.at a (.inRegion ops (i::rest)::kk)::cs) w:=
 aa.read wj bY λv w' h1=>by rw[hd,ha];exact h v w' h1
theorem bC.nil (w:World):bC w 0 (.slice none 0 0) [] []:=⟨World.ownsRow_nil _ _ _ _,rfl,λj x sv h=>by simp at h⟩
theorem aj.heap {w w' w'':World}(h:aj w w')(e:w''.heap=w'.heap):aj w w'':=⟨by rw[e];exact h.1,λr hr=>by rw[e];exact h.2 r hr⟩
theorem bC.heap {w w':World}{lo:Nat}{nv:Value}{bu:List Value}{nodes:List ng}(h:bC w lo nv bu nodes)(e:w'.heap=w.heap):bC w' lo nv bu nodes:=Ren.bC.keep h (zaa _) λb c _=>by rw[e]
section
variable {Ψ:cI}{cs:List Frame}{w:World}{b:Frame}{a:Act}{ops:Array Oper}{i:Nat}{rest:List Nat}{kk:List Item}
theorem aa.top {s:List UInt8}{dep:Int}(bY:∀dp:Nat,dep=dp→dp≤30→lX s dp)(h:∀v w',IE s dep w v w'→aa prog Sz Ψ (b.at (a.put ((ops[i]?).bind (·.dst)) v) (.inRegion ops rest::kk)) cs w'):aa prog Sz Ψ (Frame.enter prog 18 #[.string ⟨⟨s⟩⟩,.int .i64 dep] .normal) (b.at a (.inRegion ops (i::rest)::kk)::cs) w:=by
 have mixed:prog.follows Departure.mixedOrders=true:=by kernel_rfl
 have HH:Hid _:=h;have LV:Hid _:=bY;clear h bY;rw[Vs];refine aa.seq ?_;refine aa.code bZ adv rfl ⟨_,P2⟩ rfl λτ d=>?_;have gP:Hid (aj w (w.re τ d)):=⟨zaa _,λ_ _=>rfl⟩;generalize w.re τ d=w1 at *;generalize cP:([.code (.seq (Xq f18) (.seq (.region 3 (o5 f18) false) (P1 f18)))]:List Item)=kq;dsimp only[c5a,c5,Ren.aC,f18,Option.getD];go_wp2_with fail;subst cP;show aa _ _ _ _ _ _;refine aa.seq ?_;by_cases yF:dep<0∨30<dep
 ·refine aa.code bZ ZP rfl ⟨_,P2⟩ rfl λτ d=>?_;have gN:Hid (aj w (w1.re τ d)):=aj.heap gP.out rfl;generalize w1.re τ d=w2 at *;generalize cP:([.code (.seq (.region 3 (o5 f18) false) (P1 f18))]:List Item)=kq;dsimp only[Xq,c5,Ren.aC,Ren.aL,f18,Option.getD];have PZ:Hid (ji s dep=some ([],0,1)):=by show _=_;unfold ji;rw[if_pos yF]
  have fin:∀(tm:Array Value) (todo:List Item),tm.getD 4 undef=.slice none 0 0→tm.getD 5 undef=.int .i64 0→tm.getD 6 undef=.int .i64 1→aa prog Sz Ψ (fR (base 18) ⟨tm,[]⟩ todo) (b.at a (.inRegion ops (i::rest)::kk)::cs) w2:=λtm todo h4 h5 h6=>by
   refine aa.jz bZ rfl rfl P2 ((results_tmp3 Vt _ _ _).trans (by rw[h4,h5,h6])) ?_;exact HH.out _ _ ⟨gN.out,[],0,1,_,[],PZ.out,rfl,Ren.bC.nil _⟩
  have RI:Hid _:=fin;clear fin;by_cases RX:dep<0
  ·go_wp2_with fail;show ∀todo,aa _ _ _ _ _ _;exact λtodo=>RI.out _ todo rfl rfl rfl
  ·have h30:30<dep:=yF.resolve_left RX;go_wp2_with fail;show ∀todo,aa _ _ _ _ _ _;exact λtodo=>RI.out _ todo rfl rfl rfl
 ·obtain⟨dp,rfl⟩:∃dp:Nat,dep=dp:=⟨dep.toNat,by omega⟩;have wj:dp≤30:=by omega
  refine aa.code bZ ZP rfl ⟨_,P2⟩ rfl λτ d=>?_;have gN:Hid (aj w (w1.re τ d)):=aj.heap gP.out rfl;generalize w1.re τ d=w2 at *;generalize cP:([.code (.seq (.region 3 (o5 f18) false) (P1 f18))]:List Item)=kq;dsimp only[Xq,c5,Ren.aC,Ren.aL,f18,Option.getD];have hn:¬((dp:Int)<0):=by omega
  have LL:¬((30:Int)<(dp:Int)):=by omega
  go_wp2_with fail;subst cP;show aa _ _ _ _ _ _;clear gP hn LL yF;refine aa.seq ?_;refine aa.region ?_;rw[ZR,show List.range 9=[0,1,2,3,4,5,6,7,8] from rfl];refine aa.move' bZ ZT ZZ (by decide) ZW Z2 (a':=⟨#[.string ⟨⟨s⟩⟩,.int .i64 dp,undef,undef,.slice none 0 0,.int .i64 0,.int .i64 0,undef,undef,.int .i64 dp,.bool false,.bool false,.int .i64 dp,.bool false,.bool false,undef,.string ⟨⟨s⟩⟩,undef,undef,undef,undef,undef,undef,undef,undef,undef,undef,undef,undef,undef,undef,undef,undef,undef,undef],[]⟩) (by simp[Act.eval,Act.put]) ?_;refine aa.move' bZ ZU Z0 (by decide) ZX Z3 (a':=⟨#[.string ⟨⟨s⟩⟩,.int .i64 dp,undef,undef,.slice none 0 0,.int .i64 0,.int .i64 0,undef,undef,.int .i64 dp,.bool false,.bool false,.int .i64 dp,.bool false,.bool false,undef,.string ⟨⟨s⟩⟩,.int .i64 dp,undef,undef,undef,undef,undef,undef,undef,undef,undef,undef,undef,undef,undef,undef,undef,undef,undef],[]⟩) (by simp[Act.eval,Act.put]) ?_;refine aa.n4 (f:=25) (xs:=#[.tmp 16,.tmp 17]) (ats:=#[9,3]) (args:=#[.string ⟨⟨s⟩⟩,.int .i64 dp]) ZV Z1 (by decide) ZY bd8 nm8 (by simp[fV]) (by simp[Act.eval]) ?_;refine aa.TA wj (LV.out dp rfl wj) Z4 (a':=λv=>⟨#[.string ⟨⟨s⟩⟩,.int .i64 dp,undef,undef,.slice none 0 0,.int .i64 0,.int .i64 0,undef,undef,.int .i64 dp,.bool false,.bool false,.int .i64 dp,.bool false,.bool false,undef,.string ⟨⟨s⟩⟩,.int .i64 dp,v,undef,undef,undef,undef,undef,undef,undef,undef,undef,undef,undef,undef,undef,undef,undef,undef],[]⟩) (λv=>by simp[Act.put]) λv w4 iK=>?_;clear LV;refine aa.ops bZ rfl ⟨_,P2⟩ rfl adw 3 ((o5 f18).toList.drop 3) (by rw[zaj,zbl,ZR];rfl) (λj=>by rw[zaU,zaN]) λpz d'=>?_;have hw:(w4.re pz d').heap=w4.heap:=rfl;generalize w4.re pz d'=w5 at *;have n7:Hid (aj w w5):=aj.heap (gN.out.trans iK.1) hw;have pI:Hid _:=hw;clear hw gN;obtain⟨-,⟨fb,e,at_,rfl,hf,Ot⟩|⟨ty,y,nv,bu,nodes,cA,rfl,mD,Ot,-⟩⟩:=iK
  ·have HF:Hid (cy w5 fb e at_):=by show w5.heap[fb]?=_;rw[pI.out];exact hf
   have PZ:Hid _:=Ot;clear hf Ot pI;generalize cP:([.code (P1 f18)]:List Item)=kq;dsimp only[o5,Xr,c5,Ren.cC,Ren.aC,Ren.aL,f18,Option.getD];simp only[zaG,zaA];unfold au;go_wp2_with fail;subst cP;show aa _ _ _ _ _ _;have lp:Hid (aj w (w5.alloc Dl)):=n7.out.trans (aj.of ((Below.refl _ _).alloc (zaa _) _));have Z5:Hid (cy (w5.alloc Dl) fb e at_):=cy.alloc HF.out _;generalize w5.alloc Dl=w6 at *;refine aa.code bZ ZQ rfl ⟨_,P2⟩ rfl λτ d=>?_;have pK:Hid (aj w (w6.re τ d)):=aj.heap lp.out rfl;have HF7:Hid (cy (w6.re τ d) fb e at_):=Z5.out;generalize w6.re τ d=w7 at *;obtain⟨y0,y1⟩:w7.cell? ⟨fb,0,none⟩=some (.int .i64 e)∧w7.cell? ⟨fb,1,none⟩=some (.int .i64 at_):=by
    have hf:w7.heap[fb]?=_:=HF7.out;constructor<;>simp[World.cell?,hf]
   clear lp Z5 HF n7;dsimp only[P1,Xr,c5,Ren.aC,Ren.aL,f18,Option.getD];go_wp2_with fail;go_region;go_wp2_with fail;show ∀todo,aa _ _ _ _ _ _;intro todo;refine aa.jz bZ rfl rfl P2 (results_tmp3 Vt _ _ _) ?_;exact HH.out _ _ ⟨aj.heap pK.out rfl,[],at_,e,_,[],PZ.out,rfl,Ren.bC.nil _⟩
  ·have HN:Hid (bC w5 0 nv bu nodes):=Ren.bC.heap mD pI.out;have PZ:Hid _:=Ot;clear mD Ot pI;generalize cP:([.code (P1 f18)]:List Item)=kq;dsimp only[o5,Xr,c5,Ren.cC,Ren.aC,Ren.aL,f18,Option.getD];simp only[zaG,zaA];obtain⟨na,nc,rfl⟩:=bh HN.out.1;go_wp2_with fail;subst cP;show aa _ _ _ _ _ _;have lp:Hid (aj w (w5.alloc (.cells #[.iface ty y,.slice na nodes.length nc,.int .i64 cA] 60))):=n7.out.trans (aj.of ((Below.refl _ _).alloc (zaa _) _));have HN6:Hid (bC (w5.alloc (.cells #[.iface ty y,.slice na nodes.length nc,.int .i64 cA] 60)) 0 (.slice na nodes.length nc) bu nodes):=Ren.bC.keep HN.out (zaa _) λb c hb=>Lib.alloc_old _ _ _ (hb.elim (λq=>(zac.1 q).1) λq=>(zac.1 q).1);have RV:(w5.alloc (.cells #[.iface ty y,.slice na nodes.length nc,.int .i64 cA] 60)).heap[w5.heap.size]?=some (.cells #[.iface ty y,.slice na nodes.length nc,.int .i64 cA] 60):=heap_alloc_new w5 _;generalize w5.alloc (.cells #[.iface ty y,.slice na nodes.length nc,.int .i64 cA] 60)=w6 at *;refine aa.code bZ ZQ rfl ⟨_,P2⟩ rfl λτ d=>?_;have pK:Hid (aj w (w6.re τ d)):=aj.heap lp.out rfl;have HN7:Hid (bC (w6.re τ d) 0 (.slice na nodes.length nc) bu nodes):=Ren.bC.heap HN6.out rfl;have P0:(w6.re τ d).heap[w5.heap.size]?=some (.cells #[.iface ty y,.slice na nodes.length nc,.int .i64 cA] 60):=RV;generalize w6.re τ d=w7 at *;obtain⟨z0,z1,z2⟩:=eE P0;clear lp HN6 HN n7 RV P0;dsimp only[P1,Xr,c5,Ren.aC,Ren.aL,f18,Option.getD];go_wp2_with fail;go_region;go_wp2_with fail;show ∀todo,aa _ _ _ _ _ _;intro todo;refine aa.jz bZ rfl rfl P2 (results_tmp3 Vt _ _ _) ?_;exact HH.out _ _ ⟨aj.heap pK.out rfl,nodes,cA,0,_,bu,PZ.out,rfl,Ren.bC.heap HN7.out rfl⟩
end
end Go.Ren
