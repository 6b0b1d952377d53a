import Derived.OwnWalk
import Derived.Laws.ResultCell
import Derived.Test.YtlhimdjkkiflhaaGreatDoorCut26
set_option maxHeartbeats 8000000
set_option maxRecDepth 100000
namespace Go.Proofs.YtlhimdjkkiflhaaGreatDoor
open Go.Proofs.Tryz
open Go.RowKit Go.Loop
section
variable {R M g cap:Nat}{T:List Tok}{dp:Nat}
theorem UJ {n:Nat}(ih:IH R M g cap T dp n):SL R M g cap T dp n:=by
 intro t p a0 n0 c0 w E s r hr ha hd gl ho;have mixed:prog.follows Departure.mixedOrders=true:=by kernel_rfl
 have hb0:Below w.heap.size w ((w.alloc (.cells #[.int .i64 t.kind,.int .i64 t.from_,.int .i64 t.dF,.string ⟨⟨t.text⟩⟩,.int .i64 t.n,.int .i64 t.d,.int .i64 t.fault] 131)).alloc (.cells #[.int .i64 p.depth,.bool p.passed,.slice a0 n0 c0] 128)):=((Below.refl _ w).alloc (zaa _) _).alloc (by simp) _;have hs0:((w.alloc (.cells #[.int .i64 t.kind,.int .i64 t.from_,.int .i64 t.dF,.string ⟨⟨t.text⟩⟩,.int .i64 t.n,.int .i64 t.d,.int .i64 t.fault] 131)).alloc (.cells #[.int .i64 p.depth,.bool p.passed,.slice a0 n0 c0] 128)).heap.size=w.heap.size+1+1:=by simp
 have ua:Hid (Kp R M w ((w.alloc (.cells #[.int .i64 t.kind,.int .i64 t.from_,.int .i64 t.dF,.string ⟨⟨t.text⟩⟩,.int .i64 t.n,.int .i64 t.d,.int .i64 t.fault] 131)).alloc (.cells #[.int .i64 p.depth,.bool p.passed,.slice a0 n0 c0] 128))):=Kp.aJ hb0;have tP:=hr.below hb0;have qD:Hid _:=tP;have cU:=ot (w:=((w.alloc (.cells #[.int .i64 t.kind,.int .i64 t.from_,.int .i64 t.dF,.string ⟨⟨t.text⟩⟩,.int .i64 t.n,.int .i64 t.d,.int .i64 t.fault] 131)).alloc (.cells #[.int .i64 p.depth,.bool p.passed,.slice a0 n0 c0] 128)).drew) (M:=M) (l:=uC E s.aN) tP.lm t.n;rw[rO]at cU;have Ko:R<w.heap.size:=hr.lt;have lB:M<w.heap.size:=hr.mlt;have yc:=hr.deep;have n1:¬R=w.heap.size:=by omega
 have n2:¬R=w.heap.size+1:=by omega
 have n3:R<w.heap.size+1:=by omega
 obtain⟨⟨r0,r1,r2,r3⟩,-⟩:=im hr.blk;have Ks:Hid _:=ha.below hb0;have zw:∀k,(Value.slice a0 n0 c0).ownBlock=some k→k<w.heap.size:=λk hk=>(World.ownsRow.lt ha.1 k hk).2;have HlA:Hid (∀m∈p.ahead,m∈s.aN):=ha.2.2;have JD:Hid _:=ih;have HO:Hid _:=ho;by_cases yw:p.passed=true∨t.n∈s.aN∨p.depth=dp
 ·exact Ju n t p a0 n0 c0 w E s r hr gl yw
 have hp:¬p.passed=true:=λh=>yw (.inl h);have hl:¬t.n∈s.aN:=λh=>yw (.inr (.inl h));have hdd:¬p.depth=dp:=λh=>yw (.inr (.inr h));have uZ:p.passed=false:=by simpa using hp
 rw[uZ]at cU ua qD Ks hs0 ⊢;rw[if_neg hl,zbd]at cU;replace gl:=gl.trans (if_neg (by simp[uZ,hl]));have hc0:(((w.alloc (.cells #[.int .i64 t.kind,.int .i64 t.from_,.int .i64 t.dF,.string ⟨⟨t.text⟩⟩,.int .i64 t.n,.int .i64 t.d,.int .i64 t.fault] 131)).alloc (.cells #[.int .i64 p.depth,.bool false,.slice a0 n0 c0] 128)).drew).cell? ⟨R,2,none⟩=some (.int .i64 dp):=(im qD.out.blk).1.2.2.1
 ·have HC:Hid _:=zn R dp t p.depth false a0 n0 c0 (((w.alloc (.cells #[.int .i64 t.kind,.int .i64 t.from_,.int .i64 t.dF,.string ⟨⟨t.text⟩⟩,.int .i64 t.n,.int .i64 t.d,.int .i64 t.fault] 131)).alloc (.cells #[.int .i64 p.depth,.bool false,.slice a0 n0 c0] 128)).drew) hc0 (by simp;omega) (by omega) hdd;have HE:Hid _:=gl.trans (if_neg hdd);have Fi:p.depth+1≤dp:=by omega
  have HT0:Hid ((((w.alloc (.cells #[.int .i64 t.kind,.int .i64 t.from_,.int .i64 t.dF,.string ⟨⟨t.text⟩⟩,.int .i64 t.n,.int .i64 t.d,.int .i64 t.fault] 131)).alloc (.cells #[.int .i64 p.depth,.bool false,.slice a0 n0 c0] 128)).drew).heap[w.heap.size]?=some (.cells #[.int .i64 t.kind,.int .i64 t.from_,.int .i64 t.dF,.string ⟨⟨t.text⟩⟩,.int .i64 t.n,.int .i64 t.d,.int .i64 t.fault] 131)):=(Lib.alloc_old _ _ _ (by simp)).trans (heap_alloc_new w _);have HP0:Hid ((((w.alloc (.cells #[.int .i64 t.kind,.int .i64 t.from_,.int .i64 t.dF,.string ⟨⟨t.text⟩⟩,.int .i64 t.n,.int .i64 t.d,.int .i64 t.fault] 131)).alloc (.cells #[.int .i64 p.depth,.bool false,.slice a0 n0 c0] 128)).drew).heap[w.heap.size+1]?=some (.cells #[.int .i64 p.depth,.bool false,.slice a0 n0 c0] 128)):=ed w _ _;clear gl hr tP hb0 ha hc0 hdd;unfold gX aH bn at HC ⊢;go_enter func160,ntmps160;go_wp2_with fail;go_region;go_wp2_with fail;refine Calls.mono HC.out ?_;rintro e w1 ⟨rfl,hb1⟩;have hs1:=hb1.size;have qy:=(hb1.block w.heap.size (by simp;omega)).trans HT0.out;have vP:=(hb1.block (w.heap.size+1) (by simp)).trans HP0.out;obtain⟨⟨o0,o1,o2,o3,o4,o5,o6⟩,-⟩:=dz (Below.refl _ _) qy;obtain⟨y0,y1,y2⟩:=fL vP;have u7:Hid _:=bZ.below (bZ.below qD.out ((Below.refl _ _).drew)) hb1;have HA1:Hid _:=iZ.below (iZ.below Ks.out ((Below.refl _ _).drew)) hb1;have zu:Hid _:=Kp.trans (Kp.trans ua.out (Kp.aJ ((Below.refl _ _).drew))) (Kp.aJ hb1);obtain⟨⟨x0,x1,x2,x3⟩,-⟩:=im u7.out.blk;have N1:Hid _:=vP;clear hb1 HC qy vP r0 r1 r2 r3 cU n1 n2 n3;have WO:=u7.out.lt;have WQ:=u7.out.mlt;have e1:¬R=w1.heap.size:=by omega
  have e2:¬R=w1.heap.size+1:=by omega
  have e3:R<w1.heap.size+1:=by omega
  have e4:w.heap.size<w1.heap.size:=by simp at hs1;omega
  have e5:¬w.heap.size=w1.heap.size:=by omega
  have e6:¬w.heap.size=w1.heap.size+1:=by omega
  have e7:w.heap.size<w1.heap.size+1:=by omega
  have hb2:Below w1.heap.size w1 (((w1.alloc (.cells #[.int .i64 ((p.depth:Int)+1),.bool false,.slice none 0 0] 128)).alloc (.cells #[.nilIface] 215)).drew):=(((Below.refl _ _).alloc (zaa _) _).alloc (by simp) _).drew;have Ff:Hid _:=bZ.below u7.out hb2;obtain⟨o,hput,hmap⟩:=E9 (w:=((w1.alloc (.cells #[.int .i64 ((p.depth:Int)+1),.bool false,.slice none 0 0] 128)).alloc (.cells #[.nilIface] 215)).drew) (M:=M) (l:=uC E s.aN) Ff.out.lm t.n (by rw[rO,if_neg hl]) (aH (w1.heap.size+1));have abv:Hid _:=hmap;generalize hw3:({ ((w1.alloc (.cells #[.int .i64 ((p.depth:Int)+1),.bool false,.slice none 0 0] 128)).alloc (.cells #[.nilIface] 215)).drew with heap:=(((w1.alloc (.cells #[.int .i64 ((p.depth:Int)+1),.bool false,.slice none 0 0] 128)).alloc (.cells #[.nilIface] 215)).drew).heap.setIfInBounds M o }:World)=w3 at *;have xT:Hid _:=hw3;clear hw3 hmap;unfold aH at hput;go_wp2_with fail;go_region;have hs3:w3.heap.size=w1.heap.size+2:=by rw[←xT.out];simp
  have hb3:∀b,b≠M→w3.heap[b]?=(((w1.alloc (.cells #[.int .i64 ((p.depth:Int)+1),.bool false,.slice none 0 0] 128)).alloc (.cells #[.nilIface] 215)).drew).heap[b]?:=λb hb=>by
   rw[←xT.out];exact zan (λe=>hb e.symm)
  have hL:(((w1.alloc (.cells #[.int .i64 ((p.depth:Int)+1),.bool false,.slice none 0 0] 128)).alloc (.cells #[.nilIface] 215)).drew).heap[w1.heap.size+1]?=some (.cells #[.nilIface] 215):=ed w1 _ _;have hP2:(((w1.alloc (.cells #[.int .i64 ((p.depth:Int)+1),.bool false,.slice none 0 0] 128)).alloc (.cells #[.nilIface] 215)).drew).heap[w1.heap.size]?=some (.cells #[.int .i64 ((p.depth:Int)+1),.bool false,.slice none 0 0] 128):=(Lib.alloc_old _ _ _ (by simp)).trans (heap_alloc_new w1 _);have Mz:Hid (bZ w3 R M g cap T dp (E.label t.n (w1.heap.size+1)) { s with aN:=t.n::s.aN }):=by
   rw[←xT.out];exact bZ.label Ff.out hl ⟨_,hL⟩ (λm hm e=>by
    obtain⟨v,hv⟩:=u7.out.low m hm;have:=(zae.1 hv).1;omega) (by rw[xT.out];exact abv.out)
  have HL3:Hid _:=(hb3 (w1.heap.size+1) (by omega)).trans hL;have N3:Hid _:=(hb3 w1.heap.size (by omega)).trans hP2;obtain⟨z0,z1,z2⟩:=fL N3.out;have hf3:w3.frozen? ⟨w1.heap.size,2,none⟩=false:=by simp[World.frozen?,N3.out]
  have My:Hid _:=(hb3 (w.heap.size+1) (by omega)).trans ((hb2.block (w.heap.size+1) (by simp at hs1;omega)).trans N1.out);obtain⟨q0,q1,q2⟩:=fL My.out;have O4:iZ w3 (E.label t.n (w1.heap.size+1)) { s with aN:=t.n::s.aN } p.ahead (.slice a0 n0 c0):=
   iZ.kp (iZ.below HA1.out hb2) Ff.out (M:=M) (R:=R) ⟨by rw[←xT.out],by rw[←xT.out],by rw[←xT.out],by rw[hs3];simp,λb _ _ h=>hb3 b h⟩ (ox E t.n _ s.fresh hl) λm hm=>zax _ hm
  have HA3:Hid _:=O4;have mS:Hid (w3.ownsRow 0 212 1 (.slice a0 n0 c0) p.ahead.length (p.ahead.map λm=>aH ((E.label t.n (w1.heap.size+1)).eL m))):=HA3.out.1;have Mu:w.heap.size+1+1≤w1.heap.size:=by simp at hs1;omega
  have nE:Hid (Kp R M w w3):=Kp.trans zu.out ⟨by rw[←xT.out];rfl,by rw[←xT.out];rfl,by rw[←xT.out];rfl,by omega,λb b1 _ b3=>(hb3 b b3).trans (hb2.block b b1)⟩;rename_i hK;exact hK _ _ (MF JD.out t p a0 n0 c0 w w1 w3 E s r uZ hl ⟨Fi,hd.2⟩ yc Mu hs3 HE HO zw HlA Mz HL3 N3 My mS nE _ _ _ _ _ _ _ _ _ _ _ _ _ _ _ _ _ _ _ _ _ _ _ _ _ _ _ _ _ _ _ _ _ _ _ _ _ _ _ _ _ _ _ _ _ _ _ _ _ _ _ _ _ _ _ _ _ _ _ _ _ _ _)
end
end Go.Proofs.YtlhimdjkkiflhaaGreatDoor
namespace Go.Proofs.YtlhimdjkkiflhaaGreatDoor
open Go.RowKit Go.Loop
section
variable {R M g cap:Nat}{T:List Tok}{dp:Nat}
theorem Hc:∀N n,n≤N→IH R M g cap T dp n
 |0,n,h=>by
  obtain rfl:n=0:=by omega
  exact⟨λp av w E s _ _ _ ho=>absurd (by unfold aM;rfl) ho,λp av w E s _ _ _ ho=>absurd (by unfold aX;rfl) ho,λt p av w E s _ _ _ ho=>absurd (by unfold bG;rfl) ho⟩
 |N+1,n,h=>by
  have ih:=Hc N;cases n with
  |zero=>exact ih 0 (zaj _)
  |succ n=>
   have ih':∀m,m≤n→IH R M g cap T dp m:=λm hm=>ih m (by omega);exact⟨Fe (ih' n (zaa _)),Jn ih',MA ih' (UJ (ih' n (zaa _))) UD⟩
theorem UK (n:Nat):IH R M g cap T dp n:=Hc n n (zaa _)
end
end Go.Proofs.YtlhimdjkkiflhaaGreatDoor
namespace Go.Proofs.YtlhimdjkkiflhaaGreatDoor
open Go.Proofs.Tryz
open Go.RowKit Go.Loop
def OkR (T:List Tok)(w:World)(r:RR Dt)(e:Ending)(w':World):Prop:=
 Below w.heap.size w w'∧match r with
 |.out=>True
 |.fail er a=>∃b,e=.returned (.tuple #[.nilIface,.int .i64 0,aH b])∧dL w' b er a
 |.ok d s'=>∃v E' t,T[s'.k-1]?=some t∧e=.returned (.tuple #[v,.int .i64 t.dF,.pointer none])∧(∃t y,v=.iface t y)∧cz w.heap.size s'.fresh s'.aN w' E' d v∧
   (∀i j,i<s'.fresh→j<s'.fresh→E'.α i=E'.α j→i=j)∧(∀n∈s'.aN,∃v,w'.heap[E'.eL n]?=some (.cells #[v] 215))
theorem Kp.low {R M:Nat}{w w2 w':World}(h:Kp R M w2 w')(hb:Below w.heap.size w w2)(h1:w.heap.size≤R)(h2:w.heap.size≤M):Below w.heap.size w w':=
 ⟨h.os.trans hb.os,h.tape.trans hb.tape,h.output.trans hb.output,zad hb.size h.size,λb hb'=>(h.block b (zaq hb' hb.size) (by omega) (by omega)).trans (hb.block b hb')⟩
theorem Fu (T:List Tok)(dp g cap:Nat)(w:World)(yc:dp≤30)(hT:∀k t,T[k]?=some t→t.kind≠0→t.kind≠1→k+1<T.length)(UL:T≠[])(hsm:T.length≤900)
 (hrow:w.ownsRow 0 131 7 (.slice (some ⟨g,0,none⟩) T.length cap) T.length (T.flatMap iQ)):
 Calls prog 42 #[.slice (some ⟨g,0,none⟩) T.length cap,.int .i64 dp] w λe w'=>OkR T w (aM T dp 2000 ⟨0,false,[]⟩ ⟨0,0,[]⟩) e w':=by
 have mixed:prog.follows Departure.mixedOrders=true:=by kernel_rfl
 have hg:g<w.heap.size:=(hrow.lt g rfl).2;have hb2:Below w.heap.size w ((w.alloc (.map #[] 0)).alloc (.cells #[.slice (some ⟨g,0,none⟩) T.length cap,.int .i64 0,.int .i64 dp,.map (some w.heap.size)] 123)):=((Below.refl _ w).alloc (zaa _) _).alloc (by simp) _;have ij:Hid _:=hb2;have Ff:Hid (bZ ((w.alloc (.map #[] 0)).alloc (.cells #[.slice (some ⟨g,0,none⟩) T.length cap,.int .i64 0,.int .i64 dp,.map (some w.heap.size)] 123)) (w.heap.size+1) w.heap.size g cap T dp ⟨λ_=>0,λ_=>0⟩ ⟨0,0,[]⟩):=
  ⟨by omega,by omega,by omega,ed w _ _,bH hrow (zaa _) λb _ hlt=>hb2.block b hlt,⟨#[],0,(Lib.alloc_old _ _ _ (by simp)).trans (heap_alloc_new w _),rfl⟩,λn hn=>(by cases hn),λn hn=>(by cases hn),by omega,yc⟩
 have cQ:=(fuel T dp hT 2000).datum ⟨0,false,[]⟩ ⟨0,0,[]⟩ (zbC.2 UL) (by show 2*(T.length-0)+2≤2000;omega);have hne:aM T dp 2000 ⟨0,false,[]⟩ ⟨0,0,[]⟩≠.out:=λh=>by rw[h]at cQ;exact cQ
 have HD:Hid _:=(UK 2000).datum ⟨0,false,[]⟩ (.slice none 0 0) _ _ _ Ff.out ⟨⟨rfl,.inl ⟨rfl,rfl⟩⟩,⟨_,_,_,rfl⟩,λn hn=>(by cases hn)⟩ ⟨zaj _,zaj _⟩ hne;generalize gl:aM T dp 2000 ⟨0,false,[]⟩ ⟨0,0,[]⟩=r at *;clear hrow hb2 gl hT UL;have hmk:(Instr.makeMap 121 none).run prog w=.ok (.map (some w.heap.size)) (w.alloc (.map #[] 0)):=rfl;unfold gX aH at HD;go_enter func42,ntmps42;go_wp2_with fail;refine Calls.mono HD.out ?_;clear HD;intro e w3 cC;cases r with
 |out=>exact absurd rfl hne
 |fail er a=>
  obtain⟨⟨b,rfl,hf⟩,hk⟩:=cC;have HG:Hid (OkR T w (RR.fail er a) (.returned (.tuple #[.nilIface,.int .i64 0,aH b])) w3):=⟨Kp.low hk.plain ij.out (by omega) (zaa _),b,rfl,hf⟩;clear hf hk;unfold aH;go_wp2_with fail
  go_ret3
  exact HG.out
 |ok d0 s'=>
  obtain⟨v,E',rfl,⟨ty,y,rfl⟩,cH,hx,hr,hk⟩:=cC;obtain⟨k',Sn⟩:∃k',s'.k=k'+1:=⟨s'.k-1,by have:=cQ.1;simp at this;omega⟩;have hlt:k'<T.length:=by have:=cQ.2;omega
  obtain⟨t,ht⟩:∃t,T[k']?=some t:=⟨_,zai hlt⟩;obtain⟨⟨r0,r1,r2,r3⟩,rf⟩:=im hr.blk;have t2:w3.cell? ⟨g,k'*7+2,none⟩=some (.int .i64 t.dF):=by rw[hr.row.cellAt _ (by omega),Mv T k' 2 t ht (by omega)];rfl
  rw[Sn]at r1;have hs2:=ij.out.size;have HG:Hid (OkR T w (RR.ok d0 s') (.returned (.tuple #[.iface ty y,.int .i64 t.dF,.pointer none])) w3.drew):=
   ⟨(Kp.low hk.plain ij.out (by omega) (zaa _)).drew,.iface ty y,E',t,by rw[Sn];exact ht,rfl,⟨ty,y,rfl⟩,cz.keep (w:=w3) (w':=w3.drew) hs2 (zaa _) (λ_ h=>h) (λ_ _ _=>rfl) ⟨λ_ _=>rfl,λ_ _=>rfl⟩ d0 _ cH,
     λi j h1 h2 e=>hx.inj i j (zaj _) h1 (zaj _) h2 e,hr.low⟩
  have hgr:g<w3.heap.size:=(hr.row.lt g rfl).2;have hRr:w.heap.size+1<w3.heap.size:=hr.lt;clear cH hx hr hk cQ hne Ff ij ht;go_wp2_with fail;go_region;go_wp2_with fail
  go_ret3
  exact HG.out
end Go.Proofs.YtlhimdjkkiflhaaGreatDoor
namespace Go.Ren
open Go.Proofs.Tryz
open Go Go.Conc Go.ConcX Go.RowKit Go.Proofs Go.Loop Go.Proofs.YtlhimdjkkiflhaaGreatDoor
def c8 (f:Func):Code:=f.body.getD .skip
def c8a (f:Func):Code:=Ren.cJ (c8 f)
def Xd (f:Func):Code:=Ren.cJ (Ren.cd (c8 f))
def YZ (f:Func):Code:=Ren.cd (Ren.cd (c8 f))
def o8 (f:Func):Array Oper:=Ren.gB (Ren.cJ (YZ f))
def PQ (f:Func):Code:=Ren.cd (YZ f)
theorem MM:prog.funcs[25]?=some f25:=by kernel_rfl
theorem Y0:f25.body=some (.seq (c8a f25) (.seq (Xd f25) (.seq (.region 3 (o8 f25) false) (PQ f25)))):=by kernel_rfl
theorem nt8:f25.ntmps=40:=by kernel_rfl
theorem t40 (x y:Value):(#[x,y]++Array.replicate (40-#[x,y].size) undef:Array Value)=#[x,y,undef,undef,undef,undef,undef,undef,undef,undef,undef,undef,undef,undef,undef,undef,undef,undef,undef,undef,undef,undef,undef,undef,undef,undef,undef,undef,undef,undef,undef,undef,undef,undef,undef,undef,undef,undef,undef,undef]:=by
 generalize undef=u;simp[Array.replicate,List.replicate]
theorem UM (x y:Value):Frame.enter prog 25 #[x,y] .normal=(base 25).at ⟨#[x,y,undef,undef,undef,undef,undef,undef,undef,undef,undef,undef,undef,undef,undef,undef,undef,undef,undef,undef,undef,undef,undef,undef,undef,undef,undef,undef,undef,undef,undef,undef,undef,undef,undef,undef,undef,undef,undef,undef],[]⟩ [.code (.seq (c8a f25) (.seq (Xd f25) (.seq (.region 3 (o8 f25) false) (PQ f25))))]:=by
 rw[enter_at _ MM Y0,nt8,t40]
theorem abw:bh prog Fz Sz (c8a f25)=true:=by kernel_rfl
theorem Y1:bh prog Fz Sz (Xd f25)=true:=by kernel_rfl
theorem Y2:bh prog Fz Sz (PQ f25)=true:=by kernel_rfl
def aI (w w':World):Prop:=w.heap.size≤w'.heap.size∧∀r,r<w.heap.size→w'.heap[r]?=w.heap[r]?
theorem aI.trans {a b c:World}(h:aI a b)(k:aI b c):aI a c:=⟨zad h.1 k.1,λr hr=>(k.2 r (zaq hr h.1)).trans (h.2 r hr)⟩
theorem aI.of {w w':World}(h:Below w.heap.size w w'):aI w w':=⟨h.size,h.block⟩
def UN (s:List UInt8)(dp:Nat)(w:World)(v:Value):Prop:=∃lo K L E d s',aM (aQ (s.length+1) s 0) dp 2000 ⟨0,false,[]⟩ ⟨0,0,[]⟩=.ok d s'∧cz lo K L w E d v∧(∀i j,i<K→j<K→E.α i=E.α j→i=j)∧b8 d d=true
def C3 (s:List UInt8)(dp:Nat)(w:World)(v:Value)(w':World):Prop:=
 aI w w'∧((∃b e at_,v=.tuple #[.agg #[.nilIface,.slice none 0 0,.int .i64 0],aH b]∧dL w' b e at_∧bJ s dp=some ([],at_,e))∨
  ∃ty y nv bS nodes dF,v=.tuple #[.agg #[.iface ty y,nv,.int .i64 (dF:Nat)],.pointer none]∧cA w' 0 nv bS nodes∧bJ s dp=some (nodes,dF,0)∧UN s dp w' (.iface ty y))
def mm (s:List UInt8)(dp:Nat):Prop:=∀d s',aM (aQ (s.length+1) s 0) dp 2000 ⟨0,false,[]⟩ ⟨0,0,[]⟩=.ok d s'→b8 d d=true∧∃k g,kZ d 100000 d ⟨[],[]⟩=some (k,g)∧g.nodes.length≤999999
abbrev Hd:Obj:= .cells #[.nilIface,.slice none 0 0,.int .i64 0] 60
theorem len8:(o8 f25).size=11:=by kernel_rfl
theorem A0 {w1:World}{b:Nat}{x0 x1 x2:Value}{e:TypeId}(h:w1.heap[b]?=some (.cells #[x0,x1,x2] e)):(w1.frozen? ⟨b,0,none⟩=false∧w1.frozen? ⟨b,1,none⟩=false∧w1.frozen? ⟨b,2,none⟩=false):=by
 refine⟨?_,?_,?_⟩<;>simp[World.frozen?,h]
theorem af.Fv {P:Program}{S:Sd}{Ψ:bq}{b:Frame}{a:Act}{cs:List Frame}{w:World}{ops:Array Oper}{i:Nat}{rest:List Nat}{o:Oper}{kk:List Item}(ho:ops[i]?=some o)(hw:o.guard=none)(hk:b.kind≠.early){f:FuncId}{xs:Array Operand}{ats:Array TypeId}(hop:o.op=.call { callee:= .value (.func f),args:=xs,argTypes:=ats })
 (pZ:(P.funcs[f]?).any (λfn=>fn.body.isSome)=true)(Ew:(P.funcs[f]?).any (λfn=>fn.name != "runtime.NumGoroutine")=true)(hx:xs.all (gL S)=true){args:Array Value}(rj:xs.map a.eval=args)
 (h:af P S Ψ (Frame.enter P f args .normal) (b.at a (.inRegion ops (i::rest)::kk)::cs) w):af P S Ψ (b.at a (.inRegion ops (i::rest)::kk)) cs w:=by
 subst rj;exact af.enter ho (by simp[Region.wanted,hw]) hk hop pZ Ew hx h
theorem af.move' {P:Program}{F:FuncId→Bool}{S:Sd}{Ψ:bq}{b:Frame}{a:Act}{cs:List Frame}{w:World}{ops:Array Oper}{i:Nat}{rest:List Nat}{o:Oper}{kk:List Item}(hC:jB P F S)(ho:ops[i]?=some o)(hw:o.guard=none)(hk:b.kind≠.early){t d:Tmp}(hop:o.op=.move (.tmp t))(hd:o.dst=some d){a':Act}(ha:a.put (some d) (a.eval (.tmp t))=a')
 (h:af P S Ψ (b.at a' (.inRegion ops rest::kk)) cs w):af P S Ψ (b.at a (.inRegion ops (i::rest)::kk)) cs w:=by
 subst ha;refine af.BP hC (by rw[hop];rfl) ho (by simp[Region.wanted,hw]) hk λτ dd=>⟨a.eval (.tmp t),w.re τ dd,?_,?_⟩
 ·simp[execOp,hop]
 ·rw[hd];exact h.re rfl
theorem af.PR {Ψ:bq}{cs:List Frame}{w:World}{b:Frame}{a:Act}{ops:Array Oper}{i:Nat}{rest:List Nat}{kk:List Item}{s:List UInt8}(hlen:s.length≤1000){d:Tmp}(hd:(ops[i]?).bind (·.dst)=some d){a':Value→Act}(ha:∀v,a.put (some d) v=a' v)(h:∀v w',Below w.heap.size w w'→w'.ownsRow w.heap.size 131 7 v (aQ (s.length+1) s 0).length ((aQ (s.length+1) s 0).flatMap iQ)→af prog Sz Ψ (b.at (a' v) (.inRegion ops rest::kk)) cs w'):af prog Sz Ψ (Frame.enter prog 43 #[.string ⟨⟨s⟩⟩] .normal) (b.at a (.inRegion ops (i::rest)::kk)::cs) w:=
 af.Uv hlen λv w' h1 h2=>by rw[hd,ha];exact h v w' h1 h2
theorem A4 {w:World}{b:Nat}{y0 y1 y2:Value}{e:TypeId}(h:w.heap[b]?=some (.cells #[y0,y1,y2] e))(x0 x1 x2:Value):(((w.setCell ⟨b,0,none⟩ x0).setCell ⟨b,1,none⟩ x1).setCell ⟨b,2,none⟩ x2).heap[b]?=some (.cells #[x0,x1,x2] e):=by
 have h1:=ey h 0 x0;have h2:=ey h1 1 x1;have h3:=ey h2 2 x2;simpa using h3
theorem u9 {w:World}{b c:Nat}(h:c≠b)(x0 x1 x2:Value):(((w.setCell ⟨b,0,none⟩ x0).setCell ⟨b,1,none⟩ x1).setCell ⟨b,2,none⟩ x2).heap[c]?=w.heap[c]?:=
 (Below.heap_setCell _ _ _ _ h).trans ((Below.heap_setCell _ _ _ _ h).trans (Below.heap_setCell _ _ _ _ h))
theorem zx (w:World)(b:Nat)(x0 x1 x2:Value):(((w.setCell ⟨b,0,none⟩ x0).setCell ⟨b,1,none⟩ x1).setCell ⟨b,2,none⟩ x2).heap.size=w.heap.size:=by simp
theorem MN {w w3:World}(hb:aI w w3){y0 y1 y2:Value}{e:TypeId}(_h:w3.heap[w.heap.size]?=some (.cells #[y0,y1,y2] e))(x0 x1 x2:Value):aI w (((w3.setCell ⟨w.heap.size,0,none⟩ x0).setCell ⟨w.heap.size,1,none⟩ x1).setCell ⟨w.heap.size,2,none⟩ x2):=
 ⟨by rw[zx];exact hb.1,λr hr=>(u9 (by omega) _ _ _).trans (hb.2 r hr)⟩
theorem MO {w w3:World}(hb:aI w w3){y0 y1 y2:Value}{e:TypeId}(h:w3.heap[w.heap.size]?=some (.cells #[y0,y1,y2] e))(x0 x1 x2:Value)(o:Obj):aI w ((((w3.setCell ⟨w.heap.size,0,none⟩ x0).setCell ⟨w.heap.size,1,none⟩ x1).setCell ⟨w.heap.size,2,none⟩ x2).alloc o)∧((((w3.setCell ⟨w.heap.size,0,none⟩ x0).setCell ⟨w.heap.size,1,none⟩ x1).setCell ⟨w.heap.size,2,none⟩ x2).alloc o).heap[w.heap.size]?=some (.cells #[x0,x1,x2] e)∧((((w3.setCell ⟨w.heap.size,0,none⟩ x0).setCell ⟨w.heap.size,1,none⟩ x1).setCell ⟨w.heap.size,2,none⟩ x2).alloc o).heap[w3.heap.size]?=some o:=by
 have h1:=MN hb h x0 x1 x2;have h2:=A4 h x0 x1 x2;have h3:=zx w3 w.heap.size x0 x1 x2;generalize ((w3.setCell ⟨w.heap.size,0,none⟩ x0).setCell ⟨w.heap.size,1,none⟩ x1).setCell ⟨w.heap.size,2,none⟩ x2=w5 at *;refine⟨h1.trans (aI.of ((Below.refl _ _).alloc (zaa _) _)),(Lib.alloc_old _ _ _ (zae.1 h2).1).trans h2,?_⟩;rw[←h3];exact heap_alloc_new w5 o
theorem cA.keep {w w':World}{lo Mr:Nat}{nv:Value}{bS:List Value}{nodes:List pj}(h:cA w lo nv bS nodes)(hl:Mr≤lo)(hw:∀(b:Nat) c,w.heap[b]?=some (.cells c 45)∨w.heap[b]?=some (.cells c 3)→w'.heap[b]?=w.heap[b]?):cA w' Mr nv bS nodes:=by
 refine⟨⟨h.1.1,h.1.2.imp id ?_⟩,h.2.1,λj x sv hx qF=>?_⟩
 ·rintro ⟨b,cp,cur,q1,q2,q3,q4⟩;exact⟨b,cp,cur,q1,by omega,(hw b _ (.inl q3)).trans q3,q4⟩
 ·rcases h.2.2 j x sv hx qF with q|⟨b,q1,q2,q3⟩
  ·exact .inl q
  ·exact .inr ⟨b,q1,by omega,(hw b _ (.inr q3)).trans q3⟩
theorem cA.abx {w:World}{lo:Nat}{nv:Value}{bS:List Value}{nodes:List pj}(h:cA w lo nv bS nodes){b:Nat}{y0 y1 y2:Value}(hb:w.heap[b]?=some (.cells #[y0,y1,y2] 60))(x0 x1 x2:Value):cA (((w.setCell ⟨b,0,none⟩ x0).setCell ⟨b,1,none⟩ x1).setCell ⟨b,2,none⟩ x2) 0 nv bS nodes:=
 Ren.cA.keep h (zaj _) λc cc hc=>u9 (λe=>by
  rw[e,hb]at hc;rcases hc with hc|hc<;>simp at hc) _ _ _
theorem Fw {s:List UInt8}{dp:Nat}(yc:dp≤30)(h:400<s.length):bJ s dp=some ([],0,2):=by
 unfold bJ;rw[if_neg (by omega),if_pos h]
theorem ub {s:List UInt8}{dp:Nat}(yc:dp≤30)(h:¬400<s.length):bJ s dp=match aM (aQ (s.length+1) s 0) dp 2000 ⟨0,false,[]⟩ ⟨0,0,[]⟩with
 |.out=>none
 |.fail e a=>some ([],a,e)
 |.ok d s'=>(kZ d 100000 d ⟨[],[]⟩).map λg=>if 150<g.2.nodes.length then([],0,2)else(g.2.nodes,(((aQ (s.length+1) s 0)[s'.k-1]?).map (·.dF)).getD 0,0):=by
 unfold bJ;rw[if_neg (by omega),if_neg h,zaB];cases aM (aQ (s.length+1) s 0) dp 2000 ⟨0,false,[]⟩ ⟨0,0,[]⟩<;>rfl
def UO (f:Func)(i:Nat):Oper:=(o8 f)[i]!
theorem Y3:(o8 f25)[0]?=some (UO f25 0):=by kernel_rfl
theorem Y4:(o8 f25)[1]?=some (UO f25 1):=by kernel_rfl
theorem Y5:(UO f25 0).op=.move (.tmp 0):=by kernel_rfl
theorem Y6:(UO f25 1).op=.call { callee:= .value (.func 43),args:=#[.tmp 17],argTypes:=#[9] }:=by kernel_rfl
theorem Y7:(UO f25 0).guard=none:=by kernel_rfl
theorem Y8:(UO f25 1).guard=none:=by kernel_rfl
theorem Y9:(UO f25 0).dst=some 17:=by kernel_rfl
theorem Za:((o8 f25)[1]?).bind (·.dst)=some 18:=by kernel_rfl
theorem aby:([2,3,4,5,6,7,8,9,10].all λi=>((o8 f25)[i]?).all λo=>eN prog Fz Sz o.op)=true:=by kernel_rfl
theorem abz:(prog.funcs[43]?).any (λfn=>fn.body.isSome)=true:=by kernel_rfl
theorem abA:(prog.funcs[43]?).any (λfn=>fn.name != "runtime.NumGoroutine")=true:=by kernel_rfl
theorem abB:f25.results=#[.cell 4 60,.tmp 5]:=by kernel_rfl
theorem rQ {W:World}{R:Nat}{x0 x1 x2 fv:Value}{tmps:Array Value}(h4:tmps.getD 4 undef=.pointer (some ⟨R,0,none⟩))(h5:tmps.getD 5 undef=fv)(h:W.heap[R]?=some (.cells #[x0,x1,x2] 60)):(results f25 tmps).run prog W=.ok (.tuple #[.agg #[x0,x1,x2],fv]) W:=by
 rw[results_cell_tmp abB,h4,h5];obtain⟨z0,z1,z2⟩:=fL h;have h1:(loadVar 60 ⟨R,0,none⟩).run prog W=.ok (.agg #[x0,x1,x2]) W:=by
  go_simp
 simp[asAddr,h1]
section
variable {Ψ:bq}{cs:List Frame}{w:World}{b:Frame}{a:Act}{ops:Array Oper}{i:Nat}{rest:List Nat}{kk:List Item}
theorem af.read {s:List UInt8}{dp:Nat}(yc:dp≤30)(cQ:mm s dp)(h:∀v w',C3 s dp w v w'→af prog Sz Ψ (b.at (a.put ((ops[i]?).bind (·.dst)) v) (.inRegion ops rest::kk)) cs w'):af prog Sz Ψ (Frame.enter prog 25 #[.string ⟨⟨s⟩⟩,.int .i64 dp] .normal) (b.at a (.inRegion ops (i::rest)::kk)::cs) w:=by
 have HH:Hid _:=h;have SS:Hid _:=cQ;clear h cQ;rw[UM];refine af.seq ?_;refine af.code dV abw rfl ⟨_,MM⟩ rfl λτ d=>?_;have hw:(w.re τ d).heap=w.heap:=rfl;generalize w.re τ d=w1 at *;generalize gU:([.code (.seq (Xd f25) (.seq (.region 3 (o8 f25) false) (PQ f25)))]:List Item)=kq;dsimp only[c8a,c8,Ren.cJ,f25,Option.getD];go_wp2_with fail;subst gU;show af _ _ _ _ _ _;have ij:Hid (aI w (w1.alloc Hd)):=⟨by rw[←hw];simp,λr hr=>by rw[←hw]at hr ⊢;exact Lib.alloc_old _ _ _ hr⟩;have hR2:(w1.alloc Hd).heap[w.heap.size]?=some Hd:=by rw[←hw];exact heap_alloc_new w1 _
 generalize hw2:w1.alloc Hd=w2 at *;clear hw2 hw;refine af.seq ?_;by_cases eF:400<s.length
 ·refine af.code dV Y1 rfl ⟨_,MM⟩ rfl λτ d=>?_;have hw:(w2.re τ d).heap=w2.heap:=rfl;generalize w2.re τ d=w3 at *;have PS:w3.heap[w.heap.size]?=some Hd:=by rw[hw];exact hR2
  obtain⟨z0,z1,z2⟩:=fL PS;obtain⟨f0,f1,f2⟩:=A0 PS;have e2:w.heap.size<w3.heap.size:=(zae.1 PS).1;have e1:¬w.heap.size=w3.heap.size:=by omega
  have HW:Hid _:=hw;have Mz:Hid _:=PS;clear hw PS hR2;have hlI:(400:Int)<(s.length:Int):=by omega
  generalize gU:([.code (.seq (.region 3 (o8 f25) false) (PQ f25))]:List Item)=kq;dsimp only[Xd,c8,Ren.cJ,Ren.cd,f25,Option.getD];go_wp2_with fail;show ∀todo,af _ _ _ _ _ _;intro todo;have hb3:aI w w3:=⟨by rw[HW.out];exact ij.out.1,λr hr=>by rw[HW.out];exact ij.out.2 r hr⟩;obtain⟨q1,q2,q3⟩:=MO hb3 Mz.out .nilIface (.slice none 0 0) (.int .i64 0) (.cells #[.int .i64 2,.int .i64 0] 65);refine af.wk dV rfl rfl MM (rQ rfl rfl q2) ?_;exact HH.out _ _ ⟨q1,.inl ⟨w3.heap.size,2,0,rfl,q3,Fw yc eF⟩⟩
 ·refine af.code dV Y1 rfl ⟨_,MM⟩ rfl λτ d=>?_;have hw:(w2.re τ d).heap=w2.heap:=rfl;generalize w2.re τ d=w3 at *;have hlI:¬((400:Int)<(s.length:Int)):=by omega
  generalize gU:([.code (.seq (.region 3 (o8 f25) false) (PQ f25))]:List Item)=kq;dsimp only[Xd,c8,Ren.cJ,Ren.cd,f25,Option.getD];go_wp2_with fail;subst gU;show af _ _ _ _ _ _;have iz:Hid (aI w w3):=⟨by rw[hw];exact ij.out.1,λr hr=>by rw[hw];exact ij.out.2 r hr⟩;have PS:w3.heap[w.heap.size]?=some Hd:=by rw[hw];exact hR2
  clear hw ij hR2 hlI;refine af.seq ?_;refine af.region ?_;rw[len8,show List.range 11=[0,1,2,3,4,5,6,7,8,9,10] from rfl];refine af.move' dV Y3 Y7 (by decide) Y5 Y9 (a':=⟨#[.string ⟨⟨s⟩⟩,.int .i64 dp,undef,undef,.pointer (some ⟨w.heap.size,0,none⟩),.pointer none,undef,undef,undef,undef,.string ⟨⟨s⟩⟩,.int .i64 s.length,.bool false,undef,undef,undef,undef,.string ⟨⟨s⟩⟩,undef,undef,undef,undef,undef,undef,undef,undef,undef,undef,undef,undef,undef,undef,undef,undef,undef,undef,undef,undef,undef,undef],[]⟩) (by simp[Act.eval,Act.put]) ?_;refine af.Fv (f:=43) (xs:=#[.tmp 17]) (ats:=#[9]) (args:=#[.string ⟨⟨s⟩⟩]) Y4 Y8 (by decide) Y6 abz abA (by simp[gL]) (by simp[Act.eval]) ?_;refine af.PR (by omega) Za (a':=λv=>⟨#[.string ⟨⟨s⟩⟩,.int .i64 dp,undef,undef,.pointer (some ⟨w.heap.size,0,none⟩),.pointer none,undef,undef,undef,undef,.string ⟨⟨s⟩⟩,.int .i64 s.length,.bool false,undef,undef,undef,undef,.string ⟨⟨s⟩⟩,v,undef,undef,undef,undef,undef,undef,undef,undef,undef,undef,undef,undef,undef,undef,undef,undef,undef,undef,undef,undef,undef],[]⟩) (λv=>by simp[Act.put]) λv w4 hb4 hrow=>?_;have hlen:=sW (s.length+1) s 0;obtain⟨UL,hT⟩:=ou (s.length+1) s 0 (zaj _) (by omega);obtain⟨g,cap,rfl⟩:∃g cap,v=.slice (some ⟨g,0,none⟩) (aQ (s.length+1) s 0).length cap:=by
   rcases hrow.2 with⟨_,h0⟩|⟨g,cap,cur,e,_⟩
   ·exact absurd (zby h0) UL
   ·exact⟨g,cap,e⟩
  refine af.ops dV rfl ⟨_,MM⟩ rfl aby 2 ((o8 f25).toList.drop 2) (by rw[zah,zbh,len8];rfl) (λj=>by rw[zaQ,zaR]) λnA d'=>?_;have sk:Hid (aI w w4):=iz.out.trans ⟨hb4.size,hb4.block⟩;have hR4:w4.heap[w.heap.size]?=some Hd:=(hb4.block _ (zae.1 PS).1).trans PS;have hw:(w4.re nA d').heap=w4.heap:=rfl;have mS:Hid ((w4.re nA d').ownsRow 0 131 7 (.slice (some ⟨g,0,none⟩) (aQ (s.length+1) s 0).length cap) (aQ (s.length+1) s 0).length ((aQ (s.length+1) s 0).flatMap iQ)):=bH (w:=w4) hrow (zaj _) λ_ _ _=>rfl;generalize w4.re nA d'=w5 at *;have hfu:=(fuel (aQ (s.length+1) s 0) dp hT 2000).datum ⟨0,false,[]⟩ ⟨0,0,[]⟩ (zbC.2 UL) (by show 2*((aQ (s.length+1) s 0).length - 0)+2≤2000;omega);have HC:Hid _:=Fu (aQ (s.length+1) s 0) dp g cap w5 yc hT UL (by omega) mS.out;have HLO:Hid (w.heap.size<w5.heap.size):=by show _<_;rw[hw];exact(zae.1 hR4).1
  clear hrow hb4 iz PS mS hT UL;have tZ:Hid _:=hw;clear hw;generalize gU:([.code (PQ f25)]:List Item)=kq;dsimp only[o8,YZ,c8,Ren.gB,Ren.cJ,Ren.cd,f25,Option.getD];simp only[zaX,zaJ];go_wp2_with fail;refine Calls.mono HC.out ?_;clear HC;rintro e w6 ⟨mL,kQ⟩;have zy:Hid (aI w w6):=sk.out.trans (aI.trans ⟨by rw[tZ.out];exact zaa _,λr _=>by rw[tZ.out]⟩ (aI.of mL));have Xe:w6.heap[w.heap.size]?=some Hd:=(mL.block _ (by rw[tZ.out];exact(zae.1 hR4).1)).trans (by rw[tZ.out];exact hR4);have UA:Hid _:=Xe;clear mL sk tZ hR4;cases gl:aM (aQ (s.length+1) s 0) dp 2000 ⟨0,false,[]⟩ ⟨0,0,[]⟩with
  |out=>rw[gl]at hfu;exact hfu.elim
  |fail er at_=>
   rw[gl]at kQ;obtain⟨fb,rfl,MP⟩:=kQ;have HF:Hid _:=MP;have N5:Hid (bJ s dp=some ([],at_,er)):=by show _=_;rw[ub yc eF,gl]
   clear MP hfu gl Xe;unfold aH;go_wp2_with fail;subst gU;show af _ _ _ _ _ _;refine af.code dV Y2 rfl ⟨_,MM⟩ rfl λτ d=>?_;have hw:(w6.re τ d).heap=w6.heap:=rfl;generalize w6.re τ d=w7 at *;have UQ:w7.heap[w.heap.size]?=some Hd:=by rw[hw];exact UA.out
   obtain⟨z0,z1,z2⟩:=fL UQ;obtain⟨f0,f1,f2⟩:=A0 UQ;have HW:Hid _:=hw;have Pw:Hid _:=UQ;clear hw UQ;dsimp only[PQ,YZ,c8,Ren.cJ,Ren.cd,f25,Option.getD];go_wp2_with fail;show ∀todo,af _ _ _ _ _ _;intro todo;have Bp:aI w w7:=⟨by rw[HW.out];exact zy.out.1,λr hr=>by rw[HW.out];exact zy.out.2 r hr⟩;have q1:=MN Bp Pw.out .nilIface (.slice none 0 0) (.int .i64 0);have q2:=A4 Pw.out .nilIface (.slice none 0 0) (.int .i64 0);have q3:dL (((w7.setCell ⟨w.heap.size,0,none⟩ .nilIface).setCell ⟨w.heap.size,1,none⟩ (.slice none 0 0)).setCell ⟨w.heap.size,2,none⟩ (.int .i64 0)) fb er at_:=by
    have hf:w6.heap[fb]?=_:=HF.out;refine(u9 (λe=>?_) _ _ _).trans (by rw[HW.out];exact hf);rw[e,UA.out]at hf;simp at hf
   refine af.wk dV rfl rfl MM (rQ rfl rfl q2) ?_;exact HH.out _ _ ⟨q1,.inl ⟨fb,er,at_,rfl,q3,N5.out⟩⟩
  |ok d0 s'=>
   rw[gl]at kQ;obtain⟨v,E',t,ht,rfl,⟨ty,y,rfl⟩,cH,xk,-⟩:=kQ;obtain⟨hgd,k0,g0,dJ,NL⟩:=SS.out d0 s' gl;have N5:Hid (bJ s dp=if 150<g0.nodes.length then some ([],0,2)else some (g0.nodes,t.dF,0)):=by
    show _=_;rw[ub yc eF,gl];simp only[dJ,zaM,ht,zaD];split<;>rfl
   have HD:Hid _:=cH;have HI:Hid _:=xk;have HGB:Hid _:=hgd;have HNM:Hid _:=dJ;have Kq:Hid _:=gl;have acP:w.heap.size<w5.heap.size:=HLO.out;clear cH xk hgd dJ hfu gl Xe ht HLO;go_wp2_with fail;subst gU;show af _ _ _ _ _ _;refine af.code dV Y2 rfl ⟨_,MM⟩ rfl λτ d=>?_;have hw:(w6.re τ d).heap=w6.heap:=rfl;generalize w6.re τ d=w7 at *;have HD7:Hid (cz w5.heap.size s'.fresh s'.aN w7 E' d0 (.iface ty y)):=cz.keep (w:=w6) (w':=w7) (zaa _) (zaa _) (λ_ h=>h) (λb _ _=>by rw[hw]) ⟨λ_ _=>rfl,λ_ _=>rfl⟩ d0 _ HD.out;have HGC:Hid _:=C2 w7 d0 (.iface ty y) (cz.keep (w:=w6) (w':=w7) (zaa _) (zaa _) (λ_ h=>h) (λb _ _=>by rw[hw]) ⟨λ_ _=>rfl,λ_ _=>rfl⟩ d0 _ HD.out) HGB.out HI.out 100000 k0 g0 HNM.out NL;have Fx:Hid (aI w w7):=⟨by rw[hw];exact zy.out.1,λr hr=>by rw[hw];exact zy.out.2 r hr⟩;have Pw:Hid (w7.heap[w.heap.size]?=some Hd):=by show _=_;rw[hw];exact UA.out
   clear hw HD HNM zy UA;dsimp only[PQ,YZ,c8,Ren.cJ,Ren.cd,f25,Option.getD];go_wp2_with fail;refine Calls.mono HGC.out ?_;clear HGC;rintro e w8 ⟨nv,bS,rfl,td,hb8⟩;obtain⟨na,nc,rfl⟩:=bQ td.1;have Zb:w8.heap[w.heap.size]?=some Hd:=(hb8.block _ (zae.1 Pw.out).1).trans Pw.out;have HB8:Hid (aI w w8):=Fx.out.trans (aI.of hb8);have HN8:Hid _:=td;have HD8:Hid (cz w5.heap.size s'.fresh s'.aN w8 E' d0 (.iface ty y)):=cz.keep (w:=w7) (w':=w8) (zaa _) (zaa _) (λ_ h=>h) (λb _ h=>hb8.block b h) ⟨λ_ _=>rfl,λ_ _=>rfl⟩ d0 _ HD7.out;have HR8:Hid _:=Zb;obtain⟨z0,z1,z2⟩:=fL Zb;obtain⟨f0,f1,f2⟩:=A0 Zb;have e2:w.heap.size<w8.heap.size:=(zae.1 Zb).1;have e1:¬w.heap.size=w8.heap.size:=by omega
   clear hb8 td Zb Fx Pw;by_cases SY:150<g0.nodes.length
   ·have hmI:(150:Int)<(g0.nodes.length:Int):=by omega
    go_wp2_with fail;show ∀todo,af _ _ _ _ _ _;intro todo;obtain⟨q1,q2,q3⟩:=MO HB8.out HR8.out .nilIface (.slice none 0 0) (.int .i64 0) (.cells #[.int .i64 2,.int .i64 0] 65);refine af.wk dV rfl rfl MM (rQ rfl rfl q2) ?_;exact HH.out _ _ ⟨q1,.inl ⟨w8.heap.size,2,0,rfl,q3,by rw[N5.out,if_pos SY]⟩⟩
   ·have hmI:¬((150:Int)<(g0.nodes.length:Int)):=by omega
    go_wp2_with fail;show ∀todo,af _ _ _ _ _ _;intro todo;have q1:=MN HB8.out HR8.out (.iface ty y) (.slice na g0.nodes.length nc) (.int .i64 t.dF);have q2:=A4 HR8.out (.iface ty y) (.slice na g0.nodes.length nc) (.int .i64 t.dF);have q3:=cA.abx HN8.out HR8.out (.iface ty y) (.slice na g0.nodes.length nc) (.int .i64 t.dF);refine af.wk dV rfl rfl MM (rQ rfl rfl q2) ?_;exact HH.out _ _ ⟨q1,.inr ⟨ty,y,.slice na g0.nodes.length nc,bS,g0.nodes,t.dF,rfl,q3,by rw[N5.out,if_neg SY],_,_,_,_,_,_,Kq.out,cz.keep (w:=w8) (zaa _) (zaa _) (λ_ h=>h) (λb h _=>u9 (by omega) _ _ _) ⟨λ_ _=>rfl,λ_ _=>rfl⟩ d0 _ HD8.out,HI.out,HGB.out⟩⟩
end
def c5 (f:Func):Code:=f.body.getD .skip
def c5a (f:Func):Code:=Ren.cJ (c5 f)
def Xf (f:Func):Code:=Ren.cJ (Ren.cd (c5 f))
def Xg (f:Func):Code:=Ren.cd (Ren.cd (c5 f))
def o5 (f:Func):Array Oper:=Ren.gB (Ren.cJ (Xg f))
def N6 (f:Func):Code:=Ren.cd (Xg f)
theorem N7:prog.funcs[18]?=some f18:=by kernel_rfl
theorem Zc:f18.body=some (.seq (c5a f18) (.seq (Xf f18) (.seq (.region 3 (o5 f18) false) (N6 f18)))):=by kernel_rfl
theorem nt5:f18.ntmps=35:=by kernel_rfl
theorem t35 (x y:Value):(#[x,y]++Array.replicate (35-#[x,y].size) undef:Array Value)=#[x,y,undef,undef,undef,undef,undef,undef,undef,undef,undef,undef,undef,undef,undef,undef,undef,undef,undef,undef,undef,undef,undef,undef,undef,undef,undef,undef,undef,undef,undef,undef,undef,undef,undef]:=by
 generalize undef=u;simp[Array.replicate,List.replicate]
theorem UR (x y:Value):Frame.enter prog 18 #[x,y] .normal=(base 18).at ⟨#[x,y,undef,undef,undef,undef,undef,undef,undef,undef,undef,undef,undef,undef,undef,undef,undef,undef,undef,undef,undef,undef,undef,undef,undef,undef,undef,undef,undef,undef,undef,undef,undef,undef,undef],[]⟩ [.code (.seq (c5a f18) (.seq (Xf f18) (.seq (.region 3 (o5 f18) false) (N6 f18))))]:=by
 rw[enter_at _ N7 Zc,nt5,t35]
theorem abC:bh prog Fz Sz (c5a f18)=true:=by kernel_rfl
theorem Zd:bh prog Fz Sz (Xf f18)=true:=by kernel_rfl
theorem Ze:bh prog Fz Sz (N6 f18)=true:=by kernel_rfl
theorem Zf:(o5 f18).size=9:=by kernel_rfl
def MQ (f:Func)(i:Nat):Oper:=(o5 f)[i]!
theorem Zg:(o5 f18)[0]?=some (MQ f18 0):=by kernel_rfl
theorem Zh:(o5 f18)[1]?=some (MQ f18 1):=by kernel_rfl
theorem Zi:(o5 f18)[2]?=some (MQ f18 2):=by kernel_rfl
theorem Zj:(MQ f18 0).op=.move (.tmp 0):=by kernel_rfl
theorem Zk:(MQ f18 1).op=.move (.tmp 1):=by kernel_rfl
theorem Zl:(MQ f18 2).op=.call { callee:= .value (.func 25),args:=#[.tmp 16,.tmp 17],argTypes:=#[9,3] }:=by kernel_rfl
theorem Zm:(MQ f18 0).guard=none:=by kernel_rfl
theorem Zn:(MQ f18 1).guard=none:=by kernel_rfl
theorem Zo:(MQ f18 2).guard=none:=by kernel_rfl
theorem Zp:(MQ f18 0).dst=some 16:=by kernel_rfl
theorem Zq:(MQ f18 1).dst=some 17:=by kernel_rfl
theorem Zr:((o5 f18)[2]?).bind (·.dst)=some 18:=by kernel_rfl
theorem abD:([3,4,5,6,7,8].all λi=>((o5 f18)[i]?).all λo=>eN prog Fz Sz o.op)=true:=by kernel_rfl
theorem bd8:(prog.funcs[25]?).any (λfn=>fn.body.isSome)=true:=by kernel_rfl
theorem nm8:(prog.funcs[25]?).any (λfn=>fn.name != "runtime.NumGoroutine")=true:=by kernel_rfl
theorem UT:f18.results=#[.tmp 4,.tmp 5,.tmp 6]:=by kernel_rfl
def vd (s:List UInt8)(dep:Int)(w:World)(v:Value)(w':World):Prop:=
 aI w w'∧∃nodes at_ e nv bS,bJ s dep=some (nodes,at_,e)∧v=.tuple #[nv,.int .i64 (at_:Nat),.int .i64 e]∧cA w' 0 nv bS nodes
theorem af.Zs {Ψ:bq}{cs:List Frame}{w:World}{b:Frame}{a:Act}{ops:Array Oper}{i:Nat}{rest:List Nat}{kk:List Item}{s:List UInt8}{dp:Nat}(yc:dp≤30)(cQ:mm s dp){d:Tmp}(hd:(ops[i]?).bind (·.dst)=some d){a':Value→Act}(ha:∀v,a.put (some d) v=a' v)(h:∀v w',C3 s dp w v w'→af prog Sz Ψ (b.at (a' v) (.inRegion ops rest::kk)) cs w'):af prog Sz Ψ (Frame.enter prog 25 #[.string ⟨⟨s⟩⟩,.int .i64 dp] .normal) (b.at a (.inRegion ops (i::rest)::kk)::cs) w:=
 af.read yc cQ λv w' h1=>by rw[hd,ha];exact h v w' h1
theorem cA.nil (w:World):cA w 0 (.slice none 0 0) [] []:=⟨World.ownsRow_nil _ _ _ _,rfl,λj x sv h=>by simp at h⟩
theorem aI.heap {w w' w'':World}(h:aI w w')(e:w''.heap=w'.heap):aI w w'':=⟨by rw[e];exact h.1,λr hr=>by rw[e];exact h.2 r hr⟩
theorem cA.heap {w w':World}{lo:Nat}{nv:Value}{bS:List Value}{nodes:List pj}(h:cA w lo nv bS nodes)(e:w'.heap=w.heap):cA w' lo nv bS nodes:=Ren.cA.keep h (zaa _) λb c _=>by rw[e]
def pR (P:Program)(S:Sd)(Ψ:bq)(cs:List Frame)(v:Value)(w:World):Prop:=∀(b0:Frame) (a0:Act) (fn:Func) (todo:List Item),b0.kind=.normal→a0.defers=[]→P.funcs[b0.fn]?=some fn→(results fn a0.tmps).run P w=.ok v w→af P S Ψ (eC b0 a0 todo) cs w
theorem pR.of {P:Program}{F:FuncId→Bool}{S:Sd}{Ψ:bq}{cs:List Frame}{v:Value}{w:World}{b:Frame}{a:Act}{ops:Array Oper}{i:Nat}{rest:List Nat}{kk:List Item}(hC:jB P F S)(h:af P S Ψ (b.at (a.put ((ops[i]?).bind (·.dst)) v) (.inRegion ops rest::kk)) cs w):pR P S Ψ (b.at a (.inRegion ops (i::rest)::kk)::cs) v w:=λ_ _ _ _ hn hd hf hr=>af.wk hC hn hd hf hr h
theorem af.A5 {P:Program}{S:Sd}{Ψ:bq}{cs:List Frame}{v:Value}{w:World}{b:Frame}{a:Act}{fn:Func}{todo:List Item}(hn:b.kind=.normal)(hd:a.defers=[])(hf:P.funcs[b.fn]?=some fn)(hr:(results fn a.tmps).run P w=.ok v w)(h:pR P S Ψ cs v w):af P S Ψ (eC b a todo) cs w:=h b a fn todo hn hd hf hr
section
variable {Ψ:bq}{cs:List Frame}{w:World}{b:Frame}{a:Act}{ops:Array Oper}{i:Nat}{rest:List Nat}{kk:List Item}
theorem af.Zt {s:List UInt8}{dep:Int}(cQ:∀dp:Nat,dep=dp→dp≤30→mm s dp)(h:∀v w',vd s dep w v w'→pR prog Sz Ψ cs v w'):af prog Sz Ψ (Frame.enter prog 18 #[.string ⟨⟨s⟩⟩,.int .i64 dep] .normal) cs w:=by
 have mixed:prog.follows Departure.mixedOrders=true:=by kernel_rfl
 have HH:Hid _:=h;have SS:Hid _:=cQ;clear h cQ;rw[UR];refine af.seq ?_;refine af.code dV abC rfl ⟨_,N7⟩ rfl λτ d=>?_;have k8:Hid (aI w (w.re τ d)):=⟨zaa _,λ_ _=>rfl⟩;generalize w.re τ d=w1 at *;generalize gU:([.code (.seq (Xf f18) (.seq (.region 3 (o5 f18) false) (N6 f18)))]:List Item)=kq;dsimp only[c5a,c5,Ren.cJ,f18,Option.getD];go_wp2_with fail;subst gU;show af _ _ _ _ _ _;refine af.seq ?_;by_cases yw:dep<0∨30<dep
 ·refine af.code dV Zd rfl ⟨_,N7⟩ rfl λτ d=>?_;have ij:Hid (aI w (w1.re τ d)):=aI.heap k8.out rfl;generalize w1.re τ d=w2 at *;generalize gU:([.code (.seq (.region 3 (o5 f18) false) (N6 f18))]:List Item)=kq;dsimp only[Xf,c5,Ren.cJ,Ren.cd,f18,Option.getD];have N5:Hid (bJ s dep=some ([],0,1)):=by show _=_;unfold bJ;rw[if_pos yw]
  have fin:∀(tm:Array Value) (todo:List Item),tm.getD 4 undef=.slice none 0 0→tm.getD 5 undef=.int .i64 0→tm.getD 6 undef=.int .i64 1→af prog Sz Ψ (eC (base 18) ⟨tm,[]⟩ todo) cs w2:=λtm todo h4 h5 h6=>by
   refine af.A5 rfl rfl N7 ((results_tmp3 UT _ _ _).trans (by rw[h4,h5,h6])) ?_;exact HH.out _ _ ⟨ij.out,[],0,1,_,[],N5.out,rfl,Ren.cA.nil _⟩
  have PF:Hid _:=fin;clear fin;by_cases abE:dep<0
  ·go_wp2_with fail;show ∀todo,af _ _ _ _ _ _;exact λtodo=>PF.out _ todo rfl rfl rfl
  ·have h30:30<dep:=yw.resolve_left abE;go_wp2_with fail;show ∀todo,af _ _ _ _ _ _;exact λtodo=>PF.out _ todo rfl rfl rfl
 ·obtain⟨dp,rfl⟩:∃dp:Nat,dep=dp:=⟨dep.toNat,by omega⟩;have yc:dp≤30:=by omega
  refine af.code dV Zd rfl ⟨_,N7⟩ rfl λτ d=>?_;have ij:Hid (aI w (w1.re τ d)):=aI.heap k8.out rfl;generalize w1.re τ d=w2 at *;generalize gU:([.code (.seq (.region 3 (o5 f18) false) (N6 f18))]:List Item)=kq;dsimp only[Xf,c5,Ren.cJ,Ren.cd,f18,Option.getD];have hn:¬((dp:Int)<0):=by omega
  have Pe:¬((30:Int)<(dp:Int)):=by omega
  go_wp2_with fail;subst gU;show af _ _ _ _ _ _;clear k8 hn Pe yw;refine af.seq ?_;refine af.region ?_;rw[Zf,show List.range 9=[0,1,2,3,4,5,6,7,8] from rfl];refine af.move' dV Zg Zm (by decide) Zj Zp (a':=⟨#[.string ⟨⟨s⟩⟩,.int .i64 dp,undef,undef,.slice none 0 0,.int .i64 0,.int .i64 0,undef,undef,.int .i64 dp,.bool false,.bool false,.int .i64 dp,.bool false,.bool false,undef,.string ⟨⟨s⟩⟩,undef,undef,undef,undef,undef,undef,undef,undef,undef,undef,undef,undef,undef,undef,undef,undef,undef,undef],[]⟩) (by simp[Act.eval,Act.put]) ?_;refine af.move' dV Zh Zn (by decide) Zk Zq (a':=⟨#[.string ⟨⟨s⟩⟩,.int .i64 dp,undef,undef,.slice none 0 0,.int .i64 0,.int .i64 0,undef,undef,.int .i64 dp,.bool false,.bool false,.int .i64 dp,.bool false,.bool false,undef,.string ⟨⟨s⟩⟩,.int .i64 dp,undef,undef,undef,undef,undef,undef,undef,undef,undef,undef,undef,undef,undef,undef,undef,undef,undef],[]⟩) (by simp[Act.eval,Act.put]) ?_;refine af.Fv (f:=25) (xs:=#[.tmp 16,.tmp 17]) (ats:=#[9,3]) (args:=#[.string ⟨⟨s⟩⟩,.int .i64 dp]) Zi Zo (by decide) Zl bd8 nm8 (by simp[gL]) (by simp[Act.eval]) ?_;refine af.Zs yc (SS.out dp rfl yc) Zr (a':=λv=>⟨#[.string ⟨⟨s⟩⟩,.int .i64 dp,undef,undef,.slice none 0 0,.int .i64 0,.int .i64 0,undef,undef,.int .i64 dp,.bool false,.bool false,.int .i64 dp,.bool false,.bool false,undef,.string ⟨⟨s⟩⟩,.int .i64 dp,v,undef,undef,undef,undef,undef,undef,undef,undef,undef,undef,undef,undef,undef,undef,undef,undef],[]⟩) (λv=>by simp[Act.put]) λv w4 kQ=>?_;clear SS;refine af.ops dV rfl ⟨_,N7⟩ rfl abD 3 ((o5 f18).toList.drop 3) (by rw[zah,zbh,Zf];rfl) (λj=>by rw[zaQ,zaR]) λnA d'=>?_;have hw:(w4.re nA d').heap=w4.heap:=rfl;generalize w4.re nA d'=w5 at *;have A6:Hid (aI w w5):=aI.heap (ij.out.trans kQ.1) hw;have tZ:Hid _:=hw;clear hw ij;obtain⟨-,⟨fb,e,at_,rfl,hf,TP⟩|⟨ty,y,nv,bS,nodes,dF,rfl,td,TP,-⟩⟩:=kQ
  ·have HF:Hid (dL w5 fb e at_):=by show w5.heap[fb]?=_;rw[tZ.out];exact hf
   have N5:Hid _:=TP;clear hf TP tZ;generalize gU:([.code (N6 f18)]:List Item)=kq;dsimp only[o5,Xg,c5,Ren.gB,Ren.cJ,Ren.cd,f18,Option.getD];simp only[zaX,zaJ];unfold aH;go_wp2_with fail;subst gU;show af _ _ _ _ _ _;have zy:Hid (aI w (w5.alloc Hd)):=A6.out.trans (aI.of ((Below.refl _ _).alloc (zaa _) _));have HF6:Hid (dL (w5.alloc Hd) fb e at_):=dL.alloc HF.out _;generalize w5.alloc Hd=w6 at *;refine af.code dV Ze rfl ⟨_,N7⟩ rfl λτ d=>?_;have Fx:Hid (aI w (w6.re τ d)):=aI.heap zy.out rfl;have HF7:Hid (dL (w6.re τ d) fb e at_):=HF6.out;generalize w6.re τ d=w7 at *;obtain⟨y0,y1⟩:w7.cell? ⟨fb,0,none⟩=some (.int .i64 e)∧w7.cell? ⟨fb,1,none⟩=some (.int .i64 at_):=by
    have hf:w7.heap[fb]?=_:=HF7.out;constructor<;>simp[World.cell?,hf]
   clear zy HF6 HF A6;dsimp only[N6,Xg,c5,Ren.cJ,Ren.cd,f18,Option.getD];go_wp2_with fail;go_region;go_wp2_with fail;show ∀todo,af _ _ _ _ _ _;intro todo;refine af.A5 rfl rfl N7 (results_tmp3 UT _ _ _) ?_;exact HH.out _ _ ⟨aI.heap Fx.out rfl,[],at_,e,_,[],N5.out,rfl,Ren.cA.nil _⟩
  ·have HN:Hid (cA w5 0 nv bS nodes):=Ren.cA.heap td tZ.out;have N5:Hid _:=TP;clear td TP tZ;generalize gU:([.code (N6 f18)]:List Item)=kq;dsimp only[o5,Xg,c5,Ren.gB,Ren.cJ,Ren.cd,f18,Option.getD];simp only[zaX,zaJ];obtain⟨na,nc,rfl⟩:=bQ HN.out.1;go_wp2_with fail;subst gU;show af _ _ _ _ _ _;have zy:Hid (aI w (w5.alloc (.cells #[.iface ty y,.slice na nodes.length nc,.int .i64 dF] 60))):=A6.out.trans (aI.of ((Below.refl _ _).alloc (zaa _) _));have HN6:Hid (cA (w5.alloc (.cells #[.iface ty y,.slice na nodes.length nc,.int .i64 dF] 60)) 0 (.slice na nodes.length nc) bS nodes):=Ren.cA.keep HN.out (zaa _) λb c hb=>Lib.alloc_old _ _ _ (hb.elim (λq=>(zae.1 q).1) λq=>(zae.1 q).1);have Xe:(w5.alloc (.cells #[.iface ty y,.slice na nodes.length nc,.int .i64 dF] 60)).heap[w5.heap.size]?=some (.cells #[.iface ty y,.slice na nodes.length nc,.int .i64 dF] 60):=heap_alloc_new w5 _;generalize w5.alloc (.cells #[.iface ty y,.slice na nodes.length nc,.int .i64 dF] 60)=w6 at *;refine af.code dV Ze rfl ⟨_,N7⟩ rfl λτ d=>?_;have Fx:Hid (aI w (w6.re τ d)):=aI.heap zy.out rfl;have HN7:Hid (cA (w6.re τ d) 0 (.slice na nodes.length nc) bS nodes):=Ren.cA.heap HN6.out rfl;have UQ:(w6.re τ d).heap[w5.heap.size]?=some (.cells #[.iface ty y,.slice na nodes.length nc,.int .i64 dF] 60):=Xe;generalize w6.re τ d=w7 at *;obtain⟨z0,z1,z2⟩:=fL UQ;clear zy HN6 HN A6 Xe UQ;dsimp only[N6,Xg,c5,Ren.cJ,Ren.cd,f18,Option.getD];go_wp2_with fail;go_region;go_wp2_with fail;show ∀todo,af _ _ _ _ _ _;intro todo;refine af.A5 rfl rfl N7 (results_tmp3 UT _ _ _) ?_;exact HH.out _ _ ⟨aI.heap Fx.out rfl,nodes,dF,0,_,bS,N5.out,rfl,Ren.cA.heap HN7.out rfl⟩
theorem af.top {s:List UInt8}{dep:Int}(cQ:∀dp:Nat,dep=dp→dp≤30→mm s dp)(h:∀v w',vd s dep w v w'→af prog Sz Ψ (b.at (a.put ((ops[i]?).bind (·.dst)) v) (.inRegion ops rest::kk)) cs w'):af prog Sz Ψ (Frame.enter prog 18 #[.string ⟨⟨s⟩⟩,.int .i64 dep] .normal) (b.at a (.inRegion ops (i::rest)::kk)::cs) w:=
 af.Zt cQ λv w' hp=>pR.of dV (h v w' hp)
end
end Go.Ren
