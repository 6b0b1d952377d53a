import Derived.OwnWalk
import Derived.Test.YtlhimdjkkiflhaaGreatReads20
set_option maxHeartbeats 8000000
set_option maxRecDepth 100000
open Go renaming World→Γ
namespace Go.Proofs.YtlhimdjkkiflhaaGreat
open Go.Proofs.Tryz
open Go.RowKit Go.Loop
def OkR (T:List Tok)(w:Γ)(r:RR Dt)(e:Ending)(w':Γ):Prop:=
 Below w.heap.size w w'∧match r with
 |.out=>True
 |.fail er a=>∃b,e=.returned (.tuple #[.nilIface,.int .i64 0,ai b])∧dK w' b er a
 |.ok d s'=>∃v E' t,T[s'.k-1]?=some t∧e=.returned (.tuple #[v,.int .i64 t.jZ,.pointer none])∧(∃t y,v=.iface t y)∧bX w.heap.size s'.fresh s'.ax w' E' d v∧
   (∀i j,i<s'.fresh→j<s'.fresh→E'.α i=E'.α j→i=j)∧(∀n∈s'.ax,∃v,w'.heap[E'.bT n]?=some (.cells #[v] 157))
theorem Kp.low {R M:Nat}{w w2 w':Γ}(h:Kp R M w2 w')(hb:Below w.heap.size w w2)(h1:w.heap.size≤R)(h2:w.heap.size≤M):Below w.heap.size w w':=
 ⟨h.os.trans hb.os,h.tape.trans hb.tape,h.output.trans hb.output,zaj hb.size h.size,λb hb'=>(h.block b (zaH hb' hb.size) (by omega) (by omega)).trans (hb.block b hb')⟩
theorem DO (T:List Tok)(dp g cap:Nat)(yM:(∃t∈T,t.kind=5)→∀R M,Dp R M g cap T dp)(yN:(∃t∈T,t.kind=4)→∀R M,Dq R M g cap T dp)(w:Γ)(qa:dp≤30)(hT:∀k t,T[k]?=some t→t.kind≠0→t.kind≠1→k+1<T.length)(T1:T≠[])(hsm:T.length≤900)
 (hrow:w.ownsRow 0 76 7 (.slice (some ⟨g,0,none⟩) T.length cap) T.length (T.flatMap iH)):
 Calls prog 12 #[.slice (some ⟨g,0,none⟩) T.length cap,.int .i64 dp] w λe w'=>OkR T w (aI T dp 2000 ⟨0,false,[]⟩ ⟨0,0,[]⟩) e w':=by
 have mixed:prog.follows Departure.mixedOrders=true:=by kernel_rfl
 have hg:g<w.heap.size:=(hrow.lt g rfl).2;have hb2:Below w.heap.size w ((w.alloc (.map #[] 0)).alloc (.cells #[.slice (some ⟨g,0,none⟩) T.length cap,.int .i64 0,.int .i64 dp,.map (some w.heap.size)] 68)):=((zad _ w).alloc (zab _) _).alloc (by simp) _;have pS:Hid _:=hb2;have Du:Hid (bH ((w.alloc (.map #[] 0)).alloc (.cells #[.slice (some ⟨g,0,none⟩) T.length cap,.int .i64 0,.int .i64 dp,.map (some w.heap.size)] 68)) (w.heap.size+1) w.heap.size g cap T dp ⟨λ_=>0,λ_=>0⟩ ⟨0,0,[]⟩):=
  ⟨by omega,by omega,by omega,dJ w _ _,aT hrow (zab _) λb _ hlt=>hb2.block b hlt,⟨#[],0,(zaK _ _ _ (by simp)).trans (zau w _),rfl⟩,λn hn=>(by cases hn),λn hn=>(by cases hn),by omega,qa⟩
 have dm:=(fuel T dp hT 2000).datum ⟨0,false,[]⟩ ⟨0,0,[]⟩ (zbS.2 T1) (by show 2*(T.length-0)+2≤2000;omega);have hne:aI T dp 2000 ⟨0,false,[]⟩ ⟨0,0,[]⟩≠.out:=λh=>by rw[h]at dm;exact dm
 have HD:Hid _:=(TZ (λh=>yM h _ _) (λh=>yN h _ _) 2000).datum ⟨0,false,[]⟩ (.slice none 0 0) _ _ _ Du.out ⟨⟨rfl,.inl ⟨rfl,rfl⟩⟩,⟨_,_,_,rfl⟩,λn hn=>(by cases hn)⟩ ⟨zap _,zap _⟩ hne;generalize et:aI T dp 2000 ⟨0,false,[]⟩ ⟨0,0,[]⟩=r at *;clear hrow hb2 et hT T1 yM yN;have Qk:(Instr.makeMap 66 none).run prog w=.ok (.map (some w.heap.size)) (w.alloc (.map #[] 0)):=rfl;unfold gf ai at HD;go_enter func12,ntmps12;go_wp2_with fail;refine zae HD.out ?_;clear HD;intro e w3 bM;cases r with
 |out=>exact absurd rfl hne
 |fail er a=>
  obtain⟨⟨b,rfl,hf⟩,hk⟩:=bM;have HG:Hid (OkR T w (RR.fail er a) (.returned (.tuple #[.nilIface,.int .i64 0,ai b])) w3):=⟨Kp.low hk.plain pS.out (by omega) (zab _),b,rfl,hf⟩;clear hf hk;unfold ai;go_wp2_with fail
  go_ret3
  exact HG.out
 |ok d0 s'=>
  obtain⟨v,E',rfl,⟨ty,y,rfl⟩,cy,hx,hr,hk⟩:=bM;obtain⟨k',CP⟩:∃k',s'.k=k'+1:=⟨s'.k-1,by have:=dm.1;simp at this;omega⟩;have hlt:k'<T.length:=by have:=dm.2;omega
  obtain⟨t,ht⟩:∃t,T[k']?=some t:=⟨_,zaP hlt⟩;obtain⟨⟨r0,r1,r2,r3⟩,rf⟩:=gP hr.blk;have t2:w3.cell? ⟨g,k'*7+2,none⟩=some (.int .i64 t.jZ):=by rw[hr.row.cellAt _ (by omega),MC T k' 2 t ht (by omega)];rfl
  rw[CP]at r1;have hs2:=pS.out.size;have HG:Hid (OkR T w (RR.ok d0 s') (.returned (.tuple #[.iface ty y,.int .i64 t.jZ,.pointer none])) w3.drew):=
   ⟨(Kp.low hk.plain pS.out (by omega) (zab _)).drew,.iface ty y,E',t,by rw[CP];exact ht,rfl,⟨ty,y,rfl⟩,bX.keep (w:=w3) (w':=w3.drew) hs2 (zab _) (λ_ h=>h) (λ_ _ _=>rfl) ⟨λ_ _=>rfl,λ_ _=>rfl⟩ d0 _ cy,
     λi j h1 h2 e=>hx.inj i j (zap _) h1 (zap _) h2 e,hr.low⟩
  have hgr:g<w3.heap.size:=(hr.row.lt g rfl).2;have hRr:w.heap.size+1<w3.heap.size:=hr.lt;clear cy hx hr hk dm hne Du pS ht;go_wp2_with fail;go_region;go_wp2_with fail
  go_ret3
  exact HG.out
end Go.Proofs.YtlhimdjkkiflhaaGreat
